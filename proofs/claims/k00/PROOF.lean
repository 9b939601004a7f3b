import PyProof.Rows.All
import Wide.All
import OpenK.AllK
import Wide.FinOn
import HandS.ForMost
import HandS.Wide
import HandS.IsInst
import HandS.Defaults
import HandS.MakeKwOnly
import HandS.SortInts
import HandS.RaiseMore
import HandS.Zip
import HandS.TupAny
import HandS.Lambda
import HandS.EndTab
import HandS.ForExc
import HandS.ExcInit
import HandS.ExcField
import HandS.ExcIs
import KE.KExcIs
import KE.KUnpackStar
import HandS.TupMul
import HandS.ExcValue
import KE.KDflt
import HandS.Codes
import PyProof.ReprLen
import KE.KDictDisplayH
import HandS.Style
import HandS.TupLe
import KE.KDictWalk
import HandS.Star
import KE.KNestM
import PyProof.Rows.RegStrFacts
import HandS.DeepEq
import HandS.ListEq
import PySem.Challenge.RW_meettrees_k00_errors_keep_their_fields
set_option Elab.async false
set_option linter.all false
set_option maxRecDepth 100000
/-! what all laws share: frames, what draws, calls by names alone -/
namespace MT
open PySem L2

/-! ### frames -/
/-- all but what M names stays -/
def Frm (M : Addr → Prop) (H H' : Hp) : Prop := ∀ c o, ¬ M c → H c = some o → H' c = some o
theorem Frm.refl {M : Addr → Prop} {H : Hp} : Frm M H H := fun _ _ _ h => h
theorem Frm.trans {M : Addr → Prop} {H H1 H2 : Hp} (a : Frm M H H1) (b : Frm M H1 H2) : Frm M H H2 := fun c o n h => b c o n (a c o n h)
theorem Frm.mono {M N : Addr → Prop} {H H' : Hp} (a : Frm M H H') (h : ∀ c, M c → N c) : Frm N H H' := fun c o n e => a c o (fun m => n (h c m)) e
theorem frm_same {M : Addr → Prop} {H H' : Hp} (s : Same H H') : Frm M H H' := fun c o _ h => s c o h
theorem same_new {H : Hp} {p : Addr} {o : HO} (h : H p = none) : Same H (upd H p o) := fun c u e => by
  rw [upd_ne (ne_of_none e h)]
  exact e
/-- a list in any heap behind -/
theorem Frm.seq {M : Addr → Prop} {K : PySem.W.Frag} {H H' : Hp} {a : Addr} {xs : List V} (e : Frm M H H') (n : ¬ M a) (h : SqL K H a xs) : SqL K H' a xs := by
  rcases h with (h | ⟨o, h⟩) | h
  · exact .inl (.inl (e _ _ n h))
  · exact .inl (.inr ⟨o, e _ _ n h⟩)
  · exact .inr h

/-! ### what draws -/
structure Sat (a b : Addr) (cs : List Int) (t r : Int) (H : Hp) : Prop where
  ha : H a = some (.lst [.ref b, .int t, .int r])
  hb : H b = some (.lst (cs.map V.int))
  ht : 0 ≤ t
  hr : 0 ≤ r
/-- at a stands what draws: at most n draws were made -/
def Sx (a b : Addr) (cs : List Int) (n : Nat) (H : Hp) : Prop := ∃ t r, Sat a b cs t r H ∧ t ≤ (n : Int)
theorem Sat.ne {a b : Addr} {cs : List Int} {t r : Int} {H : Hp} (s : Sat a b cs t r H) : b ≠ a := ne_of s.hb s.ha fun e => by
  injection e with e
  cases cs with
  | nil => cases e
  | cons x xs => injection e with e1 _; cases e1
theorem Sat.same {a b : Addr} {cs : List Int} {t r : Int} {H H' : Hp} (s : Sat a b cs t r H) (e : Same H H') : Sat a b cs t r H' := ⟨e _ _ s.ha, e _ _ s.hb, s.ht, s.hr⟩
theorem Sx.same {a b : Addr} {cs : List Int} {n : Nat} {H H' : Hp} (s : Sx a b cs n H) (e : Same H H') : Sx a b cs n H' := by
  obtain ⟨t, r, s, h⟩ := s
  exact ⟨t, r, s.same e, h⟩
theorem Sx.le {a b : Addr} {cs : List Int} {n m : Nat} {H : Hp} (s : Sx a b cs n H) (e : n ≤ m) : Sx a b cs m H := by
  obtain ⟨t, r, s, h⟩ := s
  exact ⟨t, r, s, by omega⟩
theorem Sat.upd {a b : Addr} {cs : List Int} {t r t' r' : Int} {H : Hp} (s : Sat a b cs t r H) (h1 : 0 ≤ t') (h2 : 0 ≤ r') : Sat a b cs t' r' (L2.upd H a (.lst [.ref b, .int t', .int r'])) := ⟨upd_same, by rw [upd_ne s.ne]; exact s.hb, h1, h2⟩
theorem frm_upd {H : Hp} {a : Addr} {o : HO} : Frm (· = a) H (L2.upd H a o) := fun c u n h => by rw [upd_ne n]; exact h
/-- the promise of a draw below m -/
def spDraw : Sp := fun vs H Q _ => ∃ (a b : Addr) (cs : List Int) (n : Nat) (m : Int), vs = [.ref a, .int m] ∧ Sx a b cs n H ∧ n ≤ 1000000 ∧ 0 < m ∧ m < 2 ^ 62 ∧
  ∀ H' d, Frm (· = a) H H' → Sx a b cs (n + 1) H' → 0 ≤ d → d < m → Q (.int d) H'
/-- the promise of a draw of one of some -/
def spPick (K : PySem.W.Frag) : Sp := fun vs H Q _ => ∃ (a b : Addr) (cs : List Int) (n : Nat) (p : Addr) (xs : List V), vs = [.ref a, .ref p] ∧ Sx a b cs n H ∧ n ≤ 1000000 ∧ p ≠ a ∧ SqL K H p xs ∧ xs ≠ [] ∧ xs.length < 2 ^ 62 ∧
  ∀ H' x, Frm (· = a) H H' → Sx a b cs (n + 1) H' → x ∈ xs → Q x H'

theorem draw_div {r m : Int} (h : 0 < m) (h2 : m < 2 ^ 62) : CDivW r m := wide_div (b := 62) h (by omega) (by decide) (by decide)
theorem canLay_ints : ∀ cs : List Int, PyData.canLayAll0 (cs.map PyData.int) = true
  | [] => by simp [PyData.canLayAll0]
  | c :: cs => by
    simp only [List.map_cons, PyData.canLayAll0, PyData.canLay0, canLay_ints cs, Bool.and_self]
theorem depth_ints : ∀ cs : List Int, PyData.depthAll (cs.map PyData.int) = 0
  | [] => by simp [PyData.depthAll]
  | c :: cs => by simp [PyData.depthAll, PyData.depth, depth_ints cs]
theorem shaped_ints (cs : List Int) : SeqAt.shaped (.list (cs.map PyData.int)) = true := by
  simp [SeqAt.shaped, PyData.canLay0, PyData.depth, canLay_ints, depth_ints]
theorem shaped_tints (cs : List Int) : SeqAt.shaped (.tuple (cs.map PyData.int)) = true := by
  simp [SeqAt.shaped, PyData.canLay0, PyData.depth, canLay_ints, depth_ints]
theorem dp_ints {K : PySem.W.Frag} {H : Hp} : ∀ cs : List Int, DpAll K H (cs.map V.int) (cs.map PyData.int)
  | [] => .nil
  | c :: cs => .cons (.int c) (dp_ints cs)
theorem ints_ne {K : PySem.W.Frag} {H : Hp} {p l : Addr} {cs : List Int} {Q : VK} (hp : SqL K H p (cs.map V.int)) (hl : SqL K H l []) (q : Q (.bl (!cs.isEmpty)) H) : rNeD K (.ref p) (.ref l) H Q :=
  ⟨.list (cs.map .int), .list [], .lst hp (dp_ints cs), .lst hl .nil, shaped_ints cs, shaped_ints [], by cases cs <;> exact q⟩
theorem mul_bd {x y A B : Int} (h0 : 0 ≤ x) (h1 : x ≤ A) (h2 : 0 ≤ y) (h3 : y ≤ B) : 0 ≤ x * y ∧ x * y ≤ A * B :=
  ⟨Int.mul_nonneg h0 h2, Int.le_trans (Int.mul_le_mul_of_nonneg_right h1 h2) (Int.mul_le_mul_of_nonneg_left h3 (Int.le_trans h0 h1))⟩
theorem cell_at {cs : List Int} (h : cs ≠ []) (t : Int) : ∃ c, atI (cs.map V.int) (t % ((cs.map V.int).length : Int)) = some (.int c) := by
  have l0 : 0 < cs.length := by cases cs with | nil => exact absurd rfl h | cons c cs => exact Nat.succ_pos _
  have e : ((cs.map V.int).length : Int) = cs.length := by rw [List.length_map]
  rw [e]
  have h1 : 0 ≤ t % (cs.length : Int) := Int.emod_nonneg _ (by omega)
  have h2 : t % (cs.length : Int) < cs.length := Int.emod_lt_of_pos _ (by omega)
  obtain ⟨j, hj⟩ : ∃ j : Nat, t % (cs.length : Int) = j := ⟨_, (Int.toNat_of_nonneg h1).symm⟩
  rw [hj]
  refine ⟨cs[j]'(by omega), atI_nat ?_⟩
  rw [List.getElem?_map, List.getElem?_eq_getElem (by omega)]
  rfl
theorem draw_rest {y v b : Int} {c : Bool} (e : y = 2 * (v - b)) (h : b ≤ v) : 0 ≤ y + (if c = true then 1 else 0) := by
  cases c
  · simp only [Bool.false_eq_true, if_false]; omega
  · simp only [if_true]; omega
/-! ### numbers as letters -/
section
variable {X : Cx}
theorem op_modL : OpR X (binaryOp .Mod) (fun x y H Q => ∃ i j, x = .int i ∧ y = .int j ∧ 0 < j ∧ ∀ z, z = i % j → 0 ≤ z → z < j → Q (.int z) H) := by
  intro pins s σ H x y v u Q I rx ry h
  obtain ⟨i, j, ex, ey, hj, q⟩ := h
  exact op_mod pins s σ H x y v u Q I rx ry ⟨i, j, ex, ey, hj, q _ rfl (Int.emod_nonneg _ (by omega)) (Int.emod_lt_of_pos _ hj)⟩
theorem op_mulL : OpR X (binaryOp .Mult) (fun x y H Q => ∃ i j, x = .int i ∧ y = .int j ∧ CMul i j ∧ ∀ z, z = i * j → Q (.int z) H) := by
  intro pins s σ H x y v u Q I rx ry h
  obtain ⟨i, j, ex, ey, hj, q⟩ := h
  exact op_mul pins s σ H x y v u Q I rx ry ⟨i, j, ex, ey, hj, q _ rfl⟩
theorem op_powL : OpR X (binaryOp .Pow) (fun x y H Q => ∃ i j, x = .int i ∧ y = .int j ∧ CPow i j ∧ ∀ z, z = i ^ j.toNat → Q (.int z) H) := by
  intro pins s σ H x y v u Q I rx ry h
  obtain ⟨i, j, ex, ey, hj, q⟩ := h
  exact op_pow pins s σ H x y v u Q I rx ry ⟨i, j, ex, ey, hj, q _ rfl⟩
theorem op_fdivL : OpR X (binaryOp .FloorDiv) (fun x y H Q => ∃ i j, x = .int i ∧ y = .int j ∧ CDivW i j ∧ ∀ z, z = i / j → Q (.int z) H) := by
  intro pins s σ H x y v u Q I rx ry h
  obtain ⟨i, j, ex, ey, hj, q⟩ := h
  exact op_fdivW pins s σ H x y v u Q I rx ry ⟨i, j, ex, ey, hj, q _ rfl⟩
end
/-! ### a call by names alone -/
section
variable {X : Cx} {CX : CXT} {k n : Nat} {f : Addr} {fd : FuncData} {ps ks : List Str} {sp : Sp} {E : XK} {x : Str} {p pos : Pos} {kws : List Keyword} {tk : TA} {g : List Value → List Value → List Value} {gV : List V → List V → List V}
theorem pe_callN0 (F : FnOk X.prog X.w X.K X.mg X.base CX k f fd ps sp) (hr : Room k X.A) (hg : Gl X x) (hm : X.mg x = some (.ref f)) (hk : PySem.W.keepIn X.K (.ref f) = true) (hb : KBn X.K fd ps 0 ks g gV) (hx : Passes CX X E)
    (hkw : PK X kws tk) (some_ : (backToKw pos (keywordEach kws X.env)).all (·.1.isSome) = true := by rfl) (names : (backToKw pos (keywordEach kws X.env)).filterMap (·.1) = ks := by rfl)
    (dbg : (x == ("__debug__" : Str)) = false := by decide)
    (plain : ((backTo pos (starEach [] X.env)).any (·.1) || (backToKw pos (keywordEach kws X.env)).any (·.1.isNone)) = false := by exact rfl) :
    PE X (.Call (.Name x p) [] kws pos) (tCallN 0 ks.length sp gV E tNil tk) :=
  ⟨fun pns st sl Hs Q I0 told => wpAny_Call_Name_kw (ld_glob I0 hg hm (PySem.W.callWith_KW0 (h₀ := X.base) I0.ok.mod.kin hk some_
    (thn (hkw.run pos pns st sl Hs _ I0 told) fun ws st2 ⟨zs, Ht, J, rel, _, len, go⟩ => ⟨J.kIn, by rw [names]; exact run_fnN (us := []) (vs := []) F hr hb hx J .nil rel rfl len go⟩) plain) dbg)⟩
end
theorem Fun.kbn {K : PySem.W.Frag} {x qual : Str} {st : Stmt} {f : Addr} {fd : FuncData} {ps : List Str} (F : Fun K x qual st f fd) (n : Nat) (ks : List Str) (g : {α : Type} → List α → List α → List α)
    (hrel : ∀ {vs zs : List V} {us ws : List Value}, Vals vs us → Vals zs ws → Vals (g vs zs) (g us ws))
    (h : ∀ (kV doc pm : Value) (an : Option Addr) (cdv ct : Value) (us ws : List Value), us.length = n → ws.length = ks.length → bindArgs (PySem.W.fnOf x qual (defArgs st) (defBody st) (defScope st) .none kV doc pm an cdv ct) ⟨us, ks.zip ws⟩ = pure (ps.zip (g us ws))) :
    KBn K fd ps n ks (fun us ws => g us ws) (fun vs zs => g vs zs) := by
  obtain ⟨oc, od, kV, doc, pm, an, cdv, ct, osl, rfl, lk, hcd⟩ := F.ex
  exact ⟨fun s us ws _ l1 l2 => BindsTo.of_eq (h kV doc pm an cdv ct us ws l1 l2), fun r1 r2 => hrel r1 r2⟩

/-! ### repr of a flag -/
def boolText (b : Bool) : Str := if b then "True" else "False"
theorem call_repr_bool {X : Cx} : CallR X (.builtin "repr") (fun xs H Q => ∃ b, xs = [.bl b] ∧ Q (.str (boolText b)) H) := by
  intro pins s σ H xs us Q I r h
  obtain ⟨b, rfl, q⟩ := h
  obtain ⟨u, rfl, r1⟩ := Vals.one r
  cases r1
  exact PySem.P.repr_of_bool ⟨.str (boolText b), H, I.tok _, ⟨_, rfl⟩, q⟩
theorem boolText_inj {a b : Bool} : decide (V.str (boolText a) = V.str (boolText b)) = (a == b) := by
  cases a <;> cases b <;> decide +kernel
end MT
/-! comprehensions over what may draw -/
namespace MT
open PySem L2

theorem Frm.updD {M : Addr → Prop} {H1 H : Hp} {D : Addr} {o : HO} (F : Frm M H1 H) (h : H1 D = none) : Frm M H1 (upd H D o) := fun c u n e => by
  rw [upd_ne (ne_of_none e h)]
  exact F c u n e
theorem Sx.updD {sa sb : Addr} {cs : List Int} {n m : Nat} {H1 H : Hp} {D : Addr} {o : HO} (S1 : Sx sa sb cs m H1) (h : H1 D = none) (S : Sx sa sb cs n H) : Sx sa sb cs n (upd H D o) := by
  obtain ⟨t, r, S, ht⟩ := S
  obtain ⟨t1, r1, S1, ht1⟩ := S1
  exact ⟨t, r, ⟨by rw [upd_ne (ne_of_none S1.ha h)]; exact S.ha, by rw [upd_ne (ne_of_none S1.hb h)]; exact S.hb, S.ht, S.hr⟩, ht⟩
/-- one turn: Ky of what is kept, Kn of what is passed by -/
def LcStep (g : TG) (tt : TT) (te : TE) (vs : List Nat) (σ : St) (x : V) (H : Hp) (Ky : VK) (Kn : Hp → Prop) : Prop :=
  g x (wipe σ vs) H fun σ2 H2 => wipe σ2 vs = wipe σ vs ∧ tt σ2 H2 fun b H3 => if b = true then te σ2 H3 Ky else Kn H3
/-- the walk J of a comprehension that fills the list at D, then Qd -/
def LcW (J : It) (g : TG) (tt : TT) (te : TE) (vs : List Nat) (σ : St) (H1 : Hp) (D : Addr) (Qd : Hp → Prop) : Prop :=
  ∃ Wd : Nat → Nat → Hp → Prop, (∃ left, Wd 0 left (upd H1 D (.lst []))) ∧ ∀ at_ left Hc, Wd at_ left Hc →
    (J.stop at_ Hc ∧ Qd Hc) ∨ (J.go at_ Hc ∧ ∃ Go : Hp → Prop, (∀ Hn, Go Hn → ∃ less, less < left ∧ Wd (at_ + 1) less Hn) ∧
      ∀ item Hn, J.yld at_ Hc item Hn → g item (wipe σ vs) Hn fun σt Ht => wipe σt vs = wipe σ vs ∧ tt σt Ht fun kept Hk =>
        if kept = true then te σt Hk fun new He => ∃ made, He D = some (.lst made) ∧ made.length < sizeLine ∧ Go (upd He D (.lst (made ++ [new]))) else Go Hk)
/-- over a list -/
theorem lcg_list {K : PySem.W.Frag} {a : Addr} {xs : List V} {g : TG} {tt : TT} {te : TE} {vs : List Nat} {σ : St} {H1 : Hp} {D : Addr} {Qd : Hp → Prop} (M : Addr → Prop) (St : Nat → Hp → Prop) (A : Nat → List V → Hp → Prop)
    (hD : H1 D = none) (src : ∀ H, Frm M H1 H → SqL K H a xs) (hlen : xs.length ≤ 10000000)
    (hup : ∀ i H l, Frm M H1 H → St i H → St i (upd H D (.lst l))) (hmono : ∀ i acc H l, Frm M H1 H → A i acc H → A i acc (upd H D (.lst l)))
    (h0 : St 0 H1) (hA0 : A 0 [] H1)
    (hs : ∀ i x acc H, xs[i]? = some x → Frm M H1 H → H D = some (.lst acc) → St i H → A i acc H → ∀ (Ky : VK) (Kn : Hp → Prop),
      (∀ y H', Frm M H1 H' → H' D = some (.lst acc) → St (i + 1) H' → A (i + 1) (acc ++ [y]) H' → Ky y H') → (∀ H', Frm M H1 H' → H' D = some (.lst acc) → St (i + 1) H' → A (i + 1) acc H' → Kn H') → LcStep g tt te vs σ x H Ky Kn)
    (hd : ∀ H acc, Frm M H1 H → H D = some (.lst acc) → St xs.length H → A xs.length acc H → acc.length ≤ xs.length → Qd H) :
    LcW (Itl K a) g tt te vs σ H1 D Qd := by
  refine lc_list (fun i H => i ≤ xs.length ∧ ∃ acc, Frm M H1 H ∧ H D = some (.lst acc) ∧ St i H ∧ A i acc H ∧ acc.length ≤ i)
    ⟨Nat.zero_le _, [], Frm.refl.updD hD, upd_same, hup _ _ _ Frm.refl h0, hmono _ _ _ _ Frm.refl hA0, Nat.le_refl _⟩ (fun i H _ ⟨_, _, F, _⟩ => src H F) ?_ ?_
  · rintro i x H hx ⟨hi, acc, F, hDa, hS, hA, hlen2⟩
    have hi2 : i < xs.length := (List.getElem?_eq_some_iff.mp hx).1
    refine hs i x acc H hx F hDa hS hA _ _ (fun y H' F' hD' hS' hA' => ?_) (fun H' F' hD' hS' hA' => ?_)
    · refine ⟨acc, hD', ?_, hi2, acc ++ [y], F'.updD hD, upd_same, hup _ _ _ F' hS', hmono _ _ _ _ F' hA', ?_⟩
      · rw [sizeLine_eq]
        omega
      · rw [List.length_append, List.length_singleton]
        omega
    · exact ⟨hi2, acc, F', hD', hS', hA', by omega⟩
  · rintro H ⟨_, acc, F, hDa, hS, hA, hlen2⟩
    exact hd H acc F hDa hS hA hlen2
/-- over a tuple -/
theorem lcg_tup {K : PySem.W.Frag} {a : Addr} {xs : List V} {g : TG} {tt : TT} {te : TE} {vs : List Nat} {σ : St} {H1 : Hp} {D : Addr} {Qd : Hp → Prop} (M : Addr → Prop) (St : Nat → Hp → Prop) (A : Nat → List V → Hp → Prop)
    (hD : H1 D = none) (src : ∀ H, Frm M H1 H → SqT K H a xs) (hlen : xs.length ≤ 10000000)
    (hup : ∀ i H l, Frm M H1 H → St i H → St i (upd H D (.lst l))) (hmono : ∀ i acc H l, Frm M H1 H → A i acc H → A i acc (upd H D (.lst l)))
    (h0 : St 0 H1) (hA0 : A 0 [] H1)
    (hs : ∀ i x acc H, xs[i]? = some x → Frm M H1 H → H D = some (.lst acc) → St i H → A i acc H → ∀ (Ky : VK) (Kn : Hp → Prop),
      (∀ y H', Frm M H1 H' → H' D = some (.lst acc) → St (i + 1) H' → A (i + 1) (acc ++ [y]) H' → Ky y H') → (∀ H', Frm M H1 H' → H' D = some (.lst acc) → St (i + 1) H' → A (i + 1) acc H' → Kn H') → LcStep g tt te vs σ x H Ky Kn)
    (hd : ∀ H acc, Frm M H1 H → H D = some (.lst acc) → St xs.length H → A xs.length acc H → acc.length ≤ xs.length → Qd H) :
    LcW (Itt K a) g tt te vs σ H1 D Qd := by
  refine lc_tup (fun i H => i ≤ xs.length ∧ ∃ acc, Frm M H1 H ∧ H D = some (.lst acc) ∧ St i H ∧ A i acc H ∧ acc.length ≤ i)
    ⟨Nat.zero_le _, [], Frm.refl.updD hD, upd_same, hup _ _ _ Frm.refl h0, hmono _ _ _ _ Frm.refl hA0, Nat.le_refl _⟩ (fun i H _ ⟨_, _, F, _⟩ => src H F) ?_ ?_
  · rintro i x H hx ⟨hi, acc, F, hDa, hS, hA, hlen2⟩
    have hi2 : i < xs.length := (List.getElem?_eq_some_iff.mp hx).1
    refine hs i x acc H hx F hDa hS hA _ _ (fun y H' F' hD' hS' hA' => ?_) (fun H' F' hD' hS' hA' => ?_)
    · refine ⟨acc, hD', ?_, hi2, acc ++ [y], F'.updD hD, upd_same, hup _ _ _ F' hS', hmono _ _ _ _ F' hA', ?_⟩
      · rw [sizeLine_eq]
        omega
      · rw [List.length_append, List.length_singleton]
        omega
    · exact ⟨hi2, acc, F', hD', hS', hA', by omega⟩
  · rintro H ⟨_, acc, F, hDa, hS, hA, hlen2⟩
    exact hd H acc F hDa hS hA hlen2
/-- over a range -/
theorem lcg_range {lo : Int} {n : Nat} {g : TG} {tt : TT} {te : TE} {vs : List Nat} {σ : St} {H1 : Hp} {D : Addr} {Qd : Hp → Prop} (M : Addr → Prop) (St : Nat → Hp → Prop) (A : Nat → List V → Hp → Prop)
    (hD : H1 D = none)  (hlen : n ≤ 10000000)
    (hup : ∀ i H l, Frm M H1 H → St i H → St i (upd H D (.lst l))) (hmono : ∀ i acc H l, Frm M H1 H → A i acc H → A i acc (upd H D (.lst l)))
    (h0 : St 0 H1) (hA0 : A 0 [] H1)
    (hs : ∀ i  acc H, i < n → Frm M H1 H → H D = some (.lst acc) → St i H → A i acc H → ∀ (Ky : VK) (Kn : Hp → Prop),
      (∀ y H', Frm M H1 H' → H' D = some (.lst acc) → St (i + 1) H' → A (i + 1) (acc ++ [y]) H' → Ky y H') → (∀ H', Frm M H1 H' → H' D = some (.lst acc) → St (i + 1) H' → A (i + 1) acc H' → Kn H') → LcStep g tt te vs σ (.int (lo + i)) H Ky Kn)
    (hd : ∀ H acc, Frm M H1 H → H D = some (.lst acc) → St n H → A n acc H → acc.length ≤ n → Qd H) :
    LcW (Itr lo n) g tt te vs σ H1 D Qd := by
  refine lc_range (fun i H => i ≤ n ∧ ∃ acc, Frm M H1 H ∧ H D = some (.lst acc) ∧ St i H ∧ A i acc H ∧ acc.length ≤ i)
    ⟨Nat.zero_le _, [], Frm.refl.updD hD, upd_same, hup _ _ _ Frm.refl h0, hmono _ _ _ _ Frm.refl hA0, Nat.le_refl _⟩  ?_ ?_
  · rintro i  H hx ⟨hi, acc, F, hDa, hS, hA, hlen2⟩
    have hi2 : i < n := hx
    refine hs i  acc H hx F hDa hS hA _ _ (fun y H' F' hD' hS' hA' => ?_) (fun H' F' hD' hS' hA' => ?_)
    · refine ⟨acc, hD', ?_, hi2, acc ++ [y], F'.updD hD, upd_same, hup _ _ _ F' hS', hmono _ _ _ _ F' hA', ?_⟩
      · rw [sizeLine_eq]
        omega
      · rw [List.length_append, List.length_singleton]
        omega
    · exact ⟨hi2, acc, F', hD', hS', hA', by omega⟩
  · rintro H ⟨_, acc, F, hDa, hS, hA, hlen2⟩
    exact hd H acc F hDa hS hA hlen2
end MT
/-! values as data, whatever else the heap holds -/
namespace MT
open PySem L2

mutual
/-- the value v is the data d, none of it at an address of M; a dict's parts are not told -/
inductive Dv (K : PySem.W.Frag) (M : Addr → Prop) (H : Hp) : V → PyData → Prop
  | non : Dv K M H .non .none
  | bl (b : Bool) : Dv K M H (.bl b) (.bool b)
  | int (i : Int) : Dv K M H (.int i) (.int i)
  | str (x : Str) : Dv K M H (.str x) (.str x)
  | lst {p : Addr} {xs : List V} {ds : List PyData} : ¬ M p → SqL K H p xs → DvAll K M H xs ds → Dv K M H (.ref p) (.list ds)
  | tup {p : Addr} {xs : List V} {ds : List PyData} : ¬ M p → SqT K H p xs → DvAll K M H xs ds → Dv K M H (.ref p) (.tuple ds)
  | dct {p : Addr} {kvs : List (Key × V)} {ks : List (PyData × PyData)} : ¬ M p → H p = some (.dK kvs) → Dv K M H (.ref p) (.dict ks)
  | dcT {p : Addr} {kvs : List (List Key × V)} {ks : List (PyData × PyData)} : ¬ M p → H p = some (.dT kvs) → Dv K M H (.ref p) (.dict ks)
inductive DvAll (K : PySem.W.Frag) (M : Addr → Prop) (H : Hp) : List V → List PyData → Prop
  | nil : DvAll K M H [] []
  | cons {v : V} {vs : List V} {d : PyData} {ds : List PyData} : Dv K M H v d → DvAll K M H vs ds → DvAll K M H (v :: vs) (d :: ds)
end
theorem Frm.seqT {M : Addr → Prop} {K : PySem.W.Frag} {H H' : Hp} {a : Addr} {xs : List V} (e : Frm M H H') (n : ¬ M a) (h : SqT K H a xs) : SqT K H' a xs := by
  rcases h with (h | ⟨o, h⟩) | h
  · exact .inl (.inl (e _ _ n h))
  · exact .inl (.inr ⟨o, e _ _ n h⟩)
  · exact .inr h
section
variable {K : PySem.W.Frag} {M : Addr → Prop} {H H' : Hp}
mutual
theorem Dv.frm (F : Frm M H H') : ∀ (d : PyData) (v : V), Dv K M H v d → Dv K M H' v d
  | .none, _, h => by cases h; exact .non
  | .bool b, _, h => by cases h; exact .bl b
  | .int i, _, h => by cases h; exact .int i
  | .str x, _, h => by cases h; exact .str x
  | .list ds, _, h => by
    cases h with
    | lst n s a => exact .lst n (F.seq n s) (DvAll.frm F ds _ a)
  | .tuple ds, _, h => by
    cases h with
    | tup n s a => exact .tup n (F.seqT n s) (DvAll.frm F ds _ a)
  | .dict _, _, h => by
    cases h with
    | dct n s => exact .dct n (F _ _ n s)
    | dcT n s => exact .dcT n (F _ _ n s)
theorem DvAll.frm (F : Frm M H H') : ∀ (ds : List PyData) (vs : List V), DvAll K M H vs ds → DvAll K M H' vs ds
  | [], _, h => by cases h; exact .nil
  | d :: ds, _, h => by
    cases h with
    | cons a b => exact .cons (Dv.frm F d _ a) (DvAll.frm F ds _ b)
end
theorem Dv.mono {d : PyData} {v : V} (h : Dv K M H v d) (F : Frm M H H') : Dv K M H' v d := Dv.frm F d v h
theorem DvAll.mono {ds : List PyData} {vs : List V} (h : DvAll K M H vs ds) (F : Frm M H H') : DvAll K M H' vs ds := DvAll.frm F ds vs h
theorem Dv.same {d : PyData} {v : V} (h : Dv K M H v d) (F : Same H H') : Dv K M H' v d := Dv.frm (frm_same F) d v h
theorem DvAll.same {ds : List PyData} {vs : List V} (h : DvAll K M H vs ds) (F : Same H H') : DvAll K M H' vs ds := DvAll.frm (frm_same F) ds vs h
theorem DvAll.length : ∀ {vs : List V} {ds : List PyData}, DvAll K M H vs ds → vs.length = ds.length
  | _, _, .nil => rfl
  | _, _, .cons _ t => congrArg Nat.succ (DvAll.length t)
theorem DvAll.get {vs : List V} {ds : List PyData} {i : Nat} {x : V} (h : DvAll K M H vs ds) (e : vs[i]? = some x) : ∃ d, ds[i]? = some d ∧ Dv K M H x d := by
  induction i generalizing vs ds with
  | zero => cases h with
    | nil => cases e
    | cons r _ => cases e; exact ⟨_, rfl, r⟩
  | succ i ih => cases h with
    | nil => cases e
    | cons _ t => exact ih t e
theorem DvAll.mem {vs : List V} {ds : List PyData} {x : V} (h : DvAll K M H vs ds) (m : x ∈ vs) : ∃ d, d ∈ ds ∧ Dv K M H x d := by
  obtain ⟨i, hi⟩ := List.mem_iff_getElem?.mp m
  obtain ⟨d, e, r⟩ := h.get hi
  exact ⟨d, List.mem_of_getElem? e, r⟩
theorem DvAll.append : ∀ {vs us : List V} {ds es : List PyData}, DvAll K M H vs ds → DvAll K M H us es → DvAll K M H (vs ++ us) (ds ++ es)
  | _, _, _, _, .nil, s => s
  | _, _, _, _, .cons r t, s => .cons r (DvAll.append t s)
theorem DvAll.set {x : V} {d : PyData} (r : Dv K M H x d) : ∀ {vs : List V} {ds : List PyData} (i : Nat), DvAll K M H vs ds → DvAll K M H (vs.set i x) (ds.set i d)
  | _, _, _, .nil => .nil
  | _, _, 0, .cons _ t => .cons r t
  | _, _, i + 1, .cons q t => .cons q (DvAll.set r i t)
theorem DvAll.ints : ∀ ns : List Int, DvAll K M H (ns.map V.int) (ns.map PyData.int)
  | [] => .nil
  | n :: ns => .cons (.int n) (DvAll.ints ns)
theorem DvAll.drop : ∀ {vs : List V} {ds : List PyData} (n : Nat), DvAll K M H vs ds → DvAll K M H (vs.drop n) (ds.drop n)
  | _, _, 0, h => h
  | _, _, _ + 1, .nil => .nil
  | _, _, n + 1, .cons _ t => DvAll.drop n t
theorem DvAll.take : ∀ {vs : List V} {ds : List PyData} (n : Nat), DvAll K M H vs ds → DvAll K M H (vs.take n) (ds.take n)
  | _, _, 0, _ => .nil
  | _, _, _ + 1, .nil => .nil
  | _, _, n + 1, .cons r t => .cons r (DvAll.take n t)

mutual
theorem Dv.dp : ∀ (d : PyData) (v : V), Dv K M H v d → d.canLay0 = true → Dp K H v d
  | .none, _, h, _ => by cases h; exact .non
  | .bool b, _, h, _ => by cases h; exact .bl b
  | .int i, _, h, _ => by cases h; exact .int i
  | .str x, _, h, _ => by cases h; exact .str x
  | .list ds, _, h, c => by
    cases h with
    | lst n s a => exact .lst s (DvAll.dp ds _ a (by simpa [PyData.canLay0] using c))
  | .tuple ds, _, h, c => by
    cases h with
    | tup n s a => exact .tup s (DvAll.dp ds _ a (by simpa [PyData.canLay0] using c))
  | .dict _, _, h, c => by simp [PyData.canLay0] at c
theorem DvAll.dp : ∀ (ds : List PyData) (vs : List V), DvAll K M H vs ds → PyData.canLayAll0 ds = true → DpAll K H vs ds
  | [], _, h, _ => by cases h; exact .nil
  | d :: ds, _, h, c => by
    have c' : d.canLay0 = true ∧ PyData.canLayAll0 ds = true := by simpa [PyData.canLayAll0] using c
    cases h with
    | cons a b => exact .cons (Dv.dp d _ a c'.1) (DvAll.dp ds _ b c'.2)
end

/-! ### types -/
def tyName : PyData → String
  | .dict _ => "dict" | .tuple _ => "tuple" | .list _ => "list" | .str _ => "str" | .int _ => "int" | .bool _ => "bool" | .none => "NoneType"
theorem tyx_lst {p : Addr} {xs : List V} (h : SqL K H p xs) : TyX K H (.ref p) (.type "list") := by
  rcases h with (h | ⟨o, h⟩) | ⟨o, _, _, h, c, _⟩
  · exact .base (.lst h)
  · exact .base (.frz h)
  · exact .kList h c
theorem tyx_tup {p : Addr} {xs : List V} (h : SqT K H p xs) : TyX K H (.ref p) (.type "tuple") := by
  rcases h with (h | ⟨o, h⟩) | ⟨o, _, _, h, c, _⟩
  · exact .base (.tup h)
  · exact .fTuple h
  · exact .kTuple h c
theorem Dv.ty {d : PyData} {v : V} (h : Dv K M H v d) : TyX K H v (.type (tyName d)) := by
  cases h with
  | non => exact .base .non
  | bl b => exact .base (.bl b)
  | int i => exact .base (.int i)
  | str x => exact .base (.str x)
  | lst _ s _ => exact tyx_lst s
  | tup _ s _ => exact tyx_tup s
  | dct _ s => exact .base (.dK s)
  | dcT _ s => exact .base (.dT s)
def isIntD : PyData → Bool
  | .int _ => true | _ => false
def isBoolD : PyData → Bool
  | .bool _ => true | _ => false
def isStrD : PyData → Bool
  | .str _ => true | _ => false
def seqD : PyData → Option (List PyData)
  | .list ds => some ds | .tuple ds => some ds | _ => none
theorem kit_tab : ∀ a ∈ ["NoneType", "bool", "int", "str", "list", "tuple", "dict"], ∀ b ∈ ["int", "bool", "str", "list", "tuple"], kitB a b = some (decide (a = b) || (decide (a = "bool") && decide (b = "int"))) := by decide +kernel
theorem tyName_mem (d : PyData) : tyName d ∈ ["NoneType", "bool", "int", "str", "list", "tuple", "dict"] := by cases d <;> simp [tyName]
theorem kit_tyN (d : PyData) {b : String} (h : b ∈ ["int", "bool", "str", "list", "tuple"]) : PySem.W.kitOne K (.type (tyName d)) (.type b) = some (decide (tyName d = b) || (decide (tyName d = "bool") && decide (b = "int"))) := kit_ty (kit_tab _ (tyName_mem d) _ h)
theorem kit_int (d : PyData) : PySem.W.kitOne K (.type (tyName d)) (.type "int") = some (isIntD d || isBoolD d) := by
  rw [kit_tyN d (by decide)]
  cases d <;> simp [tyName, isIntD, isBoolD]
theorem kit_bool (d : PyData) : PySem.W.kitOne K (.type (tyName d)) (.type "bool") = some (isBoolD d) := by
  rw [kit_tyN d (by decide)]
  cases d <;> simp [tyName, isIntD, isBoolD]
theorem kit_str (d : PyData) : PySem.W.kitOne K (.type (tyName d)) (.type "str") = some (isStrD d) := by
  rw [kit_tyN d (by decide)]
  cases d <;> simp [tyName, isStrD, isBoolD]
theorem kit_list (d : PyData) : ∃ b1 b2, PySem.W.kitOne K (.type (tyName d)) (.type "list") = some b1 ∧ PySem.W.kitOne K (.type (tyName d)) (.type "tuple") = some b2 ∧ (b1 || b2) = (seqD d).isSome := by
  refine ⟨_, _, kit_tyN d (by decide), kit_tyN d (by decide), ?_⟩
  cases d <;> simp [tyName, seqD]
theorem kit_seq (d : PyData) : PySem.W.kitAny K (.type (tyName d)) [.type "list", .type "tuple"] = some (seqD d).isSome := by
  obtain ⟨b1, b2, h1, h2, e⟩ := kit_list (K := K) d
  refine kitAny_cons h1 (fun q => kitAny_cons h2 (fun q2 => ?_) (fun q2 => ?_)) (fun q => ?_)
  · rw [← e, q, q2]; exact kitAny_nil
  · rw [← e, q2]; cases b1 <;> rfl
  · rw [← e, q]; rfl
theorem Dv.seq {d : PyData} {v : V} {ds : List PyData} (h : Dv K M H v d) (e : seqD d = some ds) : ∃ p xs, v = .ref p ∧ ¬ M p ∧ (SqL K H p xs ∨ SqT K H p xs) ∧ DvAll K M H xs ds := by
  cases h with
  | lst n s a => cases e; exact ⟨_, _, rfl, n, .inl s, a⟩
  | tup n s a => cases e; exact ⟨_, _, rfl, n, .inr s, a⟩
  | _ => cases e

/-! ### walks of lists and tuples -/
def SeqIt (K : PySem.W.Frag) (a : Addr) (xs : List V) (H1 : Hp) (J : It) : Prop := (J = Itl K a ∧ SqL K H1 a xs) ∨ (J = Itt K a ∧ SqT K H1 a xs)
def iSeq (K : PySem.W.Frag) (tl : TE) : TI := fun σ H R => tl σ H fun x H1 => ∃ a xs, x = .ref a ∧ (SqL K H1 a xs ∨ SqT K H1 a xs) ∧ ∀ J, SeqIt K a xs H1 J → R J H1
theorem pi_seq {X : Cx} {tg l : Expr} {tl : TE} (hl : PE X l tl) : PI X tg l (iSeq X.K tl) := by
  refine ⟨fun pns st sl Hs R I0 told => thn (hl.run pns st sl Hs _ I0 told) fun got st1 ⟨y, Ht, J, ry, a, xs, ey, sq, go⟩ => ?_⟩
  subst ey
  cases ry
  have free : ∀ b ∈ [st1.heap.objs.size], FpOk X pns Ht b := fun b hb => by
    rw [List.mem_singleton] at hb
    rw [hb]
    exact J.fpOk (Nat.le_refl _) (J.hok.fresh (Nat.le_refl _))
  rcases sq with isL | isT
  · obtain ⟨items, _, plain, _⟩ := J.list isL
    exact wpAny_pyIter_list plain.isList ⟨_, [st1.heap.objs.size], _, _, Ht, rfl, J.kept (t' := st1.toks) (fun _ _ e => Heap.get?_push_of_some _ e), turn_list a _, ⟨_, Heap.get?_push_size _ rfl, rfl, rfl⟩, free, go _ (.inl ⟨rfl, isL⟩)⟩
  · obtain ⟨items, _, plain, _⟩ := J.tuple isT
    exact wpAny_pyIter_tuple (show st1.heap.IsTuple a items.toArray from plain) ⟨_, [st1.heap.objs.size], _, _, Ht, rfl, J.kept (t' := st1.toks) (fun _ _ e => Heap.get?_push_of_some _ e), turn_tuple a _, ⟨_, Heap.get?_push_size _ rfl, rfl, rfl⟩, free, go _ (.inr ⟨rfl, isT⟩)⟩
theorem lcg_seq {a : Addr} {xs : List V} {J : It} {g : TG} {tt : TT} {te : TE} {vs : List Nat} {σ : St} {H1 : Hp} {D : Addr} {Qd : Hp → Prop} (M : Addr → Prop) (St : Nat → Hp → Prop) (A : Nat → List V → Hp → Prop)
    (hD : H1 D = none) (hJ : SeqIt K a xs H1 J) (nM : ¬ M a) (hlen : xs.length ≤ 10000000)
    (hup : ∀ i H l, Frm M H1 H → St i H → St i (upd H D (.lst l))) (hmono : ∀ i acc H l, Frm M H1 H → A i acc H → A i acc (upd H D (.lst l)))
    (h0 : St 0 H1) (hA0 : A 0 [] H1)
    (hs : ∀ i x acc H, xs[i]? = some x → Frm M H1 H → H D = some (.lst acc) → St i H → A i acc H → ∀ (Ky : VK) (Kn : Hp → Prop),
      (∀ y H', Frm M H1 H' → H' D = some (.lst acc) → St (i + 1) H' → A (i + 1) (acc ++ [y]) H' → Ky y H') → (∀ H', Frm M H1 H' → H' D = some (.lst acc) → St (i + 1) H' → A (i + 1) acc H' → Kn H') → LcStep g tt te vs σ x H Ky Kn)
    (hd : ∀ H acc, Frm M H1 H → H D = some (.lst acc) → St xs.length H → A xs.length acc H → acc.length ≤ xs.length → Qd H) : LcW J g tt te vs σ H1 D Qd := by
  rcases hJ with ⟨rfl, s⟩ | ⟨rfl, s⟩
  · exact lcg_list M St A hD (fun H F => F.seq nM s) hlen hup hmono h0 hA0 hs hd
  · exact lcg_tup M St A hD (fun H F => F.seqT nM s) hlen hup hmono h0 hA0 hs hd
theorem same_frm {H H' : Hp} (F : Frm (fun _ => False) H H') : Same H H' := fun c o h => F c o (fun z => z) h
/-- a list of flags: p of each item -/
theorem lc_bools {a : Addr} {xs : List V} {ds : List PyData} {J : It} {g : TG} {te : TE} {vs : List Nat} {σ : St} {H1 : Hp} {D : Addr} {Qd : Hp → Prop} (p : PyData → Bool)
    (hD : H1 D = none) (hJ : SeqIt K a xs H1 J) (hda : DvAll K M H1 xs ds) (hlen : xs.length ≤ 10000000)
    (hs : ∀ x d H, Dv K M H x d → Same H1 H → ∀ Ky : VK, (∀ H', Same H H' → Ky (.bl (p d)) H') → g x (wipe σ vs) H fun σ2 H2 => wipe σ2 vs = wipe σ vs ∧ te σ2 H2 Ky)
    (hd : ∀ H, Same H1 H → H D = some (.lst ((ds.map p).map V.bl)) → Qd H) : LcW J g tYes te vs σ H1 D Qd := by
  refine lcg_seq (fun _ => False) (fun _ _ => True) (fun i acc _ => acc = ((ds.take i).map p).map V.bl) hD hJ (fun z => z) hlen (fun _ _ _ _ z => z) (fun _ _ _ _ _ z => z) trivial rfl ?_ ?_
  · intro i x acc H hx F hDa _ hA Ky Kn ky kn
    obtain ⟨d, hd1, hd2⟩ := hda.get hx
    have F2 := same_frm F
    refine hs x d H (hd2.same F2) F2 _ fun H' F' => ?_
    refine ky _ H' (F.trans (frm_same F')) (F' _ _ hDa) trivial ?_
    rw [hA]
    have e : ds.take (i + 1) = ds.take i ++ [d] := by
      rw [List.take_add_one, hd1]
      rfl
    rw [e, List.map_append, List.map_append]
    rfl
  · intro H acc F hDa _ hA _
    refine hd H (same_frm F) ?_
    rw [hDa, hA, List.take_of_length_le (by rw [hda.length]; exact Nat.le_refl _)]
end
theorem qbl {Q : VK} {a b : Bool} {H : Hp} (q : Q (.bl b) H) (e : a = b) : Q (.bl a) H := e ▸ q
/-! ### what the checks answer, as data -/
def oI : Option Int → V
  | none => .non | some i => .int i
def withinD (d : PyData) (lo hi : Option Int) : Bool := match d with
  | .int i => (match lo with | none => true | some l => decide (l ≤ i)) && (match hi with | none => true | some u => decide (i ≤ u))
  | _ => false
def areIntsD (d : PyData) : Bool := match seqD d with
  | none => false | some ds => ds.all isIntD
def numbersD (d : PyData) (n m : Int) : Bool := match seqD d with
  | none => false | some ds => decide ((ds.length : Int) = n) && ds.all (fun x => withinD x (some 0) (some m))
def intOf : PyData → Int
  | .int i => i | _ => 0
def risesD : List PyData → Bool
  | x :: y :: r => decide (intOf x < intOf y) && risesD (y :: r)
  | _ => true
def lotD (d : PyData) (n : Int) : Bool := match seqD d with
  | none => false | some ds => ds.all (fun x => withinD x (some 0) (some (n - 1))) && risesD ds
def nameSign (c : Nat) : Bool := (decide (97 ≤ c) && decide (c ≤ 122)) || (decide (48 ≤ c) && decide (c ≤ 57))
def nameD : PyData → Bool
  | .str x => decide (1 ≤ x.length) && decide (x.length ≤ 12) && x.cps.toList.all nameSign
  | _ => false
theorem isInt_eq {d : PyData} (h : isIntD d = true) : ∃ i, d = .int i := by
  cases d <;> first | exact ⟨_, rfl⟩ | cases h
def spIsList (K : PySem.W.Frag) : Sp := fun vs H Q _ => ∃ (M : Addr → Prop) (v : V) (d : PyData), vs = [v] ∧ Dv K M H v d ∧ ∀ H', Same H H' → Q (.bl (seqD d).isSome) H'
def spIsInt (K : PySem.W.Frag) : Sp := fun vs H Q _ => ∃ (M : Addr → Prop) (v : V) (d : PyData), vs = [v] ∧ Dv K M H v d ∧ Q (.bl (isIntD d)) H
def spWithin (K : PySem.W.Frag) : Sp := fun vs H Q _ => ∃ (M : Addr → Prop) (v : V) (d : PyData) (lo hi : Option Int), vs = [v, oI lo, oI hi] ∧ Dv K M H v d ∧ Q (.bl (withinD d lo hi)) H
def spAreInts (K : PySem.W.Frag) : Sp := fun vs H Q _ => ∃ (M : Addr → Prop) (v : V) (d : PyData), vs = [v] ∧ Dv K M H v d ∧ (∀ ds, seqD d = some ds → ds.length ≤ 10000000) ∧ ∀ H', Same H H' → Q (.bl (areIntsD d)) H'
def spNumbers (K : PySem.W.Frag) : Sp := fun vs H Q _ => ∃ (M : Addr → Prop) (v : V) (d : PyData) (n m : Int), vs = [v, .int n, .int m] ∧ Dv K M H v d ∧ (∀ ds, seqD d = some ds → ds.length ≤ 10000000) ∧ ∀ H', Same H H' → Q (.bl (numbersD d n m)) H'
def spLot (K : PySem.W.Frag) : Sp := fun vs H Q _ => ∃ (M : Addr → Prop) (v : V) (d : PyData) (n : Int), vs = [v, .int n] ∧ Dv K M H v d ∧ (∀ ds, seqD d = some ds → ds.length ≤ 10000000) ∧ ∀ H', Same H H' → Q (.bl (lotD d n)) H'
def spName (K : PySem.W.Frag) : Sp := fun vs H Q _ => ∃ (M : Addr → Prop) (v : V) (d : PyData), vs = [v] ∧ Dv K M H v d ∧ (∀ x, d = .str x → x.length ≤ 1000000) ∧ ∀ H', Same H H' → Q (.bl (nameD d)) H'
end MT
/-! comprehensions over two at once, over signs -/
namespace MT
open PySem L2 RZ
section
variable {K : PySem.W.Frag} {M : Addr → Prop} {H H' : Hp}
def ZipIt (K : PySem.W.Frag) (a b : Addr) (xs ys : List V) (H1 : Hp) (J : It) : Prop := (J = Itz K a b ∧ SqL K H1 a xs ∧ SqL K H1 b ys) ∨ (J = ItzT K a b ∧ SqT K H1 a xs ∧ SqT K H1 b ys)
theorem Same.seqT {H H' : Hp} {a : Addr} {xs : List V} (e : Same H H') (h : SqT K H a xs) : SqT K H' a xs := Frm.seqT (M := fun _ => False) (frm_same e) (fun z => z) h
theorem lc_zipP {a b : Addr} {xs ys : List V} {J : It} {g : TG} {te : TE} {vs : List Nat} {σ : St} {H1 : Hp} {D : Addr} {Qd : Hp → Prop} (f : V × V → V)
    (hD : H1 D = none) (hJ : ZipIt K a b xs ys H1 J) (hlen : xs.length ≤ 10000000)
    (hs : ∀ (i : Nat) x y T H, xs[i]? = some x → ys[i]? = some y → Same H1 H → H T = some (.tup [x, y]) → ∀ Ky : VK, (∀ H', Same H H' → Ky (f (x, y)) H') → g (.ref T) (wipe σ vs) H fun σ2 H2 => wipe σ2 vs = wipe σ vs ∧ te σ2 H2 Ky)
    (hd : ∀ H, Same H1 H → H D = some (.lst ((xs.zip ys).map f)) → Qd H) : LcW J g tYes te vs σ H1 D Qd := by
  have key : ∀ (i m : Nat) (H : Hp), (m = (xs.zip ys).length - i ∧ i ≤ (xs.zip ys).length ∧ Same H1 H ∧ H D = some (.lst (((xs.zip ys).take i).map f))) →
      (xs.length ≤ i ∨ ys.length ≤ i) ∧ Qd H ∨ (∃ x y, xs[i]? = some x ∧ ys[i]? = some y ∧ ∀ T H', H' = upd H T (.tup [x, y]) → H T = none →
        g (.ref T) (wipe σ vs) H' fun σ2 H2 => wipe σ2 vs = wipe σ vs ∧ tYes σ2 H2 fun b H3 => if b = true then te σ2 H3 fun y H4 => ∃ acc, H4 D = some (.lst acc) ∧ acc.length < sizeLine ∧
          (i + 1 ≤ (xs.zip ys).length ∧ Same H1 (upd H4 D (.lst (acc ++ [y]))) ∧ (upd H4 D (.lst (acc ++ [y]))) D = some (.lst (((xs.zip ys).take (i + 1)).map f))) else (i + 1 ≤ (xs.zip ys).length ∧ Same H1 H3 ∧ H3 D = some (.lst (((xs.zip ys).take (i + 1)).map f)))) := by
    rintro i m H ⟨rfl, hi, s, hDa⟩
    have hl := List.length_zip (l₁ := xs) (l₂ := ys)
    by_cases hlt : i < (xs.zip ys).length
    · have h1 : i < xs.length := (by omega)
      have h2 : i < ys.length := (by omega)
      refine .inr ⟨xs[i], ys[i], List.getElem?_eq_getElem h1, List.getElem?_eq_getElem h2, fun T H' e hT => ?_⟩
      subst e
      have sT := same_new (o := .tup [xs[i], ys[i]]) hT
      refine hs i _ _ T _ (List.getElem?_eq_getElem h1) (List.getElem?_eq_getElem h2) (s.trans sT) upd_same _ fun H' s' => ?_
      refine ⟨_, s' _ _ (sT _ _ hDa), ?_, hlt, ?_, ?_⟩
      · rw [sizeLine_eq, List.length_map, List.length_take]
        omega
      · exact same_frm ((frm_same ((s.trans sT).trans s')).updD hD)
      · have e : (xs.zip ys).take (i + 1) = (xs.zip ys).take i ++ [(xs[i], ys[i])] := by
          rw [List.take_add_one, List.getElem?_eq_getElem hlt, List.getElem_zip]
          rfl
        rw [upd_same, e, List.map_append]
        rfl
    · have e : i = (xs.zip ys).length := by omega
      subst e
      refine .inl ⟨by omega, hd H s ?_⟩
      rw [hDa, List.take_of_length_le (Nat.le_refl _)]
  have st : (xs.zip ys).length = (xs.zip ys).length - 0 ∧ 0 ≤ (xs.zip ys).length ∧ Same H1 (upd H1 D (.lst [])) ∧ (upd H1 D (.lst [])) D = some (.lst (((xs.zip ys).take 0).map f)) :=
    ⟨by omega, Nat.zero_le _, same_new hD, by rw [upd_same]; rfl⟩
  rcases hJ with ⟨rfl, sa, sb⟩ | ⟨rfl, sa, sb⟩
  · refine ⟨fun i m H => m = (xs.zip ys).length - i ∧ i ≤ (xs.zip ys).length ∧ Same H1 H ∧ H D = some (.lst (((xs.zip ys).take i).map f)), ⟨_, st⟩, fun i m H w => ?_⟩
    obtain ⟨em, _, s, _⟩ := id w
    have q1 := s.seq sa
    have q2 := s.seq sb
    rcases key i m H w with ⟨z, q⟩ | ⟨x, y, hx, hy, q⟩
    · exact .inl ⟨⟨xs, ys, q1, q2, z⟩, q⟩
    · have hlt : i < (xs.zip ys).length := by
        rw [List.length_zip]
        exact Nat.lt_min.mpr ⟨(List.getElem?_eq_some_iff.mp hx).1, (List.getElem?_eq_some_iff.mp hy).1⟩
      refine .inr ⟨⟨xs, ys, x, y, q1, q2, hx, hy⟩, fun H' => i + 1 ≤ (xs.zip ys).length ∧ Same H1 H' ∧ H' D = some (.lst (((xs.zip ys).take (i + 1)).map f)), fun H' p => ⟨_, by omega, rfl, p⟩, ?_⟩
      rintro v H' ⟨T, x', y', rfl, hT, e, ax, ay⟩
      have ex := (ax xs q1).symm.trans hx
      have ey := (ay ys q2).symm.trans hy
      cases ex
      cases ey
      exact q T H' e hT
  · refine ⟨fun i m H => m = (xs.zip ys).length - i ∧ i ≤ (xs.zip ys).length ∧ Same H1 H ∧ H D = some (.lst (((xs.zip ys).take i).map f)), ⟨_, st⟩, fun i m H w => ?_⟩
    obtain ⟨em, _, s, _⟩ := id w
    have q1 := Same.seqT s sa
    have q2 := Same.seqT s sb
    rcases key i m H w with ⟨z, q⟩ | ⟨x, y, hx, hy, q⟩
    · exact .inl ⟨⟨xs, ys, q1, q2, z⟩, q⟩
    · have hlt : i < (xs.zip ys).length := by
        rw [List.length_zip]
        exact Nat.lt_min.mpr ⟨(List.getElem?_eq_some_iff.mp hx).1, (List.getElem?_eq_some_iff.mp hy).1⟩
      refine .inr ⟨⟨xs, ys, x, y, q1, q2, hx, hy⟩, fun H' => i + 1 ≤ (xs.zip ys).length ∧ Same H1 H' ∧ H' D = some (.lst (((xs.zip ys).take (i + 1)).map f)), fun H' p => ⟨_, by omega, rfl, p⟩, ?_⟩
      rintro v H' ⟨T, x', y', rfl, hT, e, ax, ay⟩
      have ex := (ax xs q1).symm.trans hx
      have ey := (ay ys q2).symm.trans hy
      cases ex
      cases ey
      exact q T H' e hT
/-- sign by sign -/
theorem lc_strP {z : Str} {g : TG} {te : TE} {vs : List Nat} {σ : St} {H1 : Hp} {D : Addr} {Qd : Hp → Prop} (f : Nat → V)
    (hD : H1 D = none) (hlen : z.length ≤ 10000000)
    (hs : ∀ c H, c ∈ z.cps.toList → Same H1 H → ∀ Ky : VK, (∀ H', Same H H' → Ky (f c) H') → g (.str ⟨#[c]⟩) (wipe σ vs) H fun σ2 H2 => wipe σ2 vs = wipe σ vs ∧ te σ2 H2 Ky)
    (hd : ∀ H, Same H1 H → H D = some (.lst (z.cps.toList.map f)) → Qd H) : LcW (Its z) g tYes te vs σ H1 D Qd := by
  have hz : z.length = z.cps.toList.length := by simp [Str.length]
  have hz2 : z.cps.size = z.cps.toList.length := by simp
  refine ⟨fun i m H => m = z.cps.toList.length - i ∧ i ≤ z.cps.toList.length ∧ Same H1 H ∧ H D = some (.lst ((z.cps.toList.take i).map f)), ⟨_, by omega, Nat.zero_le _, same_new hD, by rw [upd_same]; rfl⟩, ?_⟩
  rintro i m H ⟨rfl, hi, s, hDa⟩
  by_cases hlt : i < z.cps.toList.length
  · refine .inr ⟨by show i < z.cps.size; omega, fun H' => i + 1 ≤ z.cps.toList.length ∧ Same H1 H' ∧ H' D = some (.lst ((z.cps.toList.take (i + 1)).map f)), fun H' p => ⟨_, by omega, rfl, p⟩, ?_⟩
    rintro v H' ⟨rfl, c, hc, rfl⟩
    have hc2 : z.cps.toList[i]? = some c := by simpa using hc
    refine hs c _ (List.mem_of_getElem? hc2) s _ fun H' s' => ?_
    refine ⟨_, s' _ _ hDa, ?_, hlt, ?_, ?_⟩
    · rw [sizeLine_eq, List.length_map, List.length_take]
      omega
    · exact same_frm ((frm_same (s.trans s')).updD hD)
    · have e : z.cps.toList.take (i + 1) = z.cps.toList.take i ++ [c] := by
        rw [List.take_add_one, hc2]
        rfl
      rw [upd_same, e, List.map_append]
      rfl
  · have e : i = z.cps.toList.length := by omega
    subst e
    refine .inl ⟨by show z.cps.size ≤ _; omega, hd H s ?_⟩
    rw [hDa, List.take_of_length_le (Nat.le_refl _)]
theorem cutRest (xs : List V) : cutV xs (some (1 : Int)) none = List.drop 1 xs := by
  unfold cutV
  have e1 : HT.sIx xs.length 0 (some 1) = min 1 xs.length := HT.sIx_nat _ _ 1
  rw [e1, HT.sIx_none]
  have e2 : xs.drop (min 1 xs.length) = xs.drop 1 := by
    cases xs with
    | nil => rfl
    | cons x r =>
      have : min 1 (x :: r).length = 1 := by rw [List.length_cons]; omega
      rw [this]
  rw [e2]
  refine List.take_of_length_le ?_
  rw [List.length_drop]
  omega
theorem sl_seq {X : Cx} : SlR X (fun x lo hi H Q => rSlL X.K x lo hi H Q ∨ rSlA X.K x lo hi H Q) := sl_list.or sl_tupA
/-- the rest of a list or tuple behind its first one, as data -/
theorem rest_seq {a : Addr} {xs : List V} {H1 : Hp} {Q : VK} (sq : SqL K H1 a xs ∨ SqT K H1 a xs)
    (h : ∀ b H2, Same H1 H2 → ((SqL K H2 a xs ∧ SqL K H2 b (xs.drop 1)) ∨ (SqT K H2 a xs ∧ SqT K H2 b (xs.drop 1))) → Q (.ref b) H2) :
    rSlL K (.ref a) (some 1) none H1 Q ∨ rSlA K (.ref a) (some 1) none H1 Q := by
  rcases sq with s | s
  · refine .inl ⟨a, xs, rfl, s, fun p hp => ?_⟩
    have e := same_new (o := .lst (cutV xs (some 1) none)) hp
    refine h p _ e (.inl ⟨e.seq s, ?_⟩)
    rw [← cutRest]
    exact SqL.of upd_same
  · refine .inr ⟨a, xs, rfl, s, fun hw => ?_, fun _ p hp => ?_⟩
    · refine h a _ (Same.refl _) (.inr ⟨s, ?_⟩)
      have e1 : HT.sIx xs.length 0 (some 1) = min 1 xs.length := HT.sIx_nat _ _ 1
      have h0 := hw.1
      rw [e1] at h0
      cases xs with
      | nil => exact s
      | cons x r =>
        rw [List.length_cons] at h0
        omega
    · have e := same_new (o := .tup (cutV xs (some 1) none)) hp
      refine h p _ e (.inr ⟨Same.seqT e s, ?_⟩)
      rw [← cutRest]
      exact SqT.of upd_same
theorem all_rises : ∀ {xs : List V} {ds : List PyData}, DvAll K M H xs ds → ds.all isIntD = true → ∃ ns : List Int, xs = ns.map V.int ∧ ds = ns.map PyData.int
  | _, _, .nil, _ => ⟨[], rfl, rfl⟩
  | _, _, .cons (v := v) (d := d) h t, e => by
    rw [List.all_cons, Bool.and_eq_true] at e
    obtain ⟨i, rfl⟩ := isInt_eq e.1
    cases h
    obtain ⟨ns, e1, e2⟩ := all_rises t e.2
    exact ⟨i :: ns, by rw [e1]; rfl, by rw [e2]; rfl⟩
theorem rises_zip : ∀ ns : List Int, ((ns.zip (ns.drop 1)).all fun q => decide (q.1 < q.2)) = risesD (ns.map PyData.int)
  | [] => rfl
  | [_] => rfl
  | x :: y :: r => by
    have ih := rises_zip (y :: r)
    show (decide (x < y) && (((y :: r).zip r).all fun q => decide (q.1 < q.2))) = (decide (x < y) && risesD ((y :: r).map PyData.int))
    rw [← ih]
    rfl
def ltF : V × V → V
  | (.int i, .int j) => .bl (decide (i < j))
  | _ => .bl false
theorem int_at {ns : List Int} {i : Nat} {x : V} (h : (ns.map V.int)[i]? = some x) : ∃ z, x = .int z := by
  rw [List.getElem?_map] at h
  cases e : ns[i]? with
  | none => rw [e] at h; cases h
  | some z => rw [e] at h; exact ⟨z, (Option.some.inj h).symm⟩
theorem zip_lt (ns : List Int) : ((ns.map V.int).zip ((ns.map V.int).drop 1)).map ltF = ((ns.zip (ns.drop 1)).map fun q => decide (q.1 < q.2)).map V.bl := by
  rw [← List.map_drop, List.zip_map, List.map_map, List.map_map]
  rfl
theorem within_ints {ds : List PyData} {m : Int} (h : ds.all (fun x => withinD x (some 0) (some m)) = true) : ds.all isIntD = true := by
  rw [List.all_eq_true] at h ⊢
  intro d hd
  have q := h d hd
  cases d <;> first | rfl | cases q
theorem numbers_len {d : PyData} {ds : List PyData} {xs : List V} {m : Int} (h : seqD d = some ds) (hda : DvAll K M H xs ds) : numbersD d (xs.length : Int) m = ds.all (fun x => withinD x (some 0) (some m)) := by
  unfold numbersD
  rw [h, hda.length]
  show (decide ((ds.length : Int) = ds.length) && _) = _
  rw [decide_eq_true rfl]
  rfl
theorem within_len {n : Nat} : withinD (.int n) (some 1) (some 12) = (decide (1 ≤ n) && decide (n ≤ 12)) := by
  show (decide ((1 : Int) ≤ n) && decide ((n : Int) ≤ 12)) = _
  rw [Bool.eq_iff_iff]
  simp only [Bool.and_eq_true, decide_eq_true_eq]
  omega
theorem sign_mem (c : Nat) : (c ∈ [97, 98, 99, 100, 101, 102, 103, 104, 105, 106, 107, 108, 109, 110, 111, 112, 113, 114, 115, 116, 117, 118, 119, 120, 121, 122, 48, 49, 50, 51, 52, 53, 54, 55, 56, 57]) ↔ nameSign c = true := by
  unfold nameSign
  simp only [List.mem_cons, List.not_mem_nil, or_false, Bool.or_eq_true, Bool.and_eq_true, decide_eq_true_eq]
  omega
theorem sign_in (c : Nat) : decide (c ∈ (("abcdefghijklmnopqrstuvwxyz0123456789" : Str).cps.toList)) = nameSign c := by
  have e : (("abcdefghijklmnopqrstuvwxyz0123456789" : Str).cps.toList) = [97, 98, 99, 100, 101, 102, 103, 104, 105, 106, 107, 108, 109, 110, 111, 112, 113, 114, 115, 116, 117, 118, 119, 120, 121, 122, 48, 49, 50, 51, 52, 53, 54, 55, 56, 57] := by decide +kernel
  rw [e, Bool.eq_iff_iff, decide_eq_true_iff, sign_mem]
end
end MT
/-! what is made, told by what it is and not by how the heap is written -/
namespace MT
open PySem L2
section
variable {X : Cx} {e a : Expr} {es : List Expr} {t : TE} {ta : TA} {pos : Pos}
theorem PE.imp {t' : TE} (h : PE X e t) (i : ∀ σ H Q, t' σ H Q → t σ H Q) : PE X e t' := ⟨fun pins s σ H Q I q => h.run pins s σ H Q I (i σ H Q q)⟩
def clA (t : TA) : TA := fun σ H R => ∃ R', (∀ xs H1, R' xs H1 → R xs H1) ∧ t σ H R'
theorem PA.cl (h : PA X es ta) : PA X es (clA ta) := ⟨fun pos pins s σ H Q I ⟨R', i, q⟩ => thn (h.run pos pins s σ H R' I q) fun us s1 ⟨xs, H1, I1, r1, q1⟩ => ⟨xs, H1, I1, r1, i _ _ q1⟩⟩
/-- a new object o at p -/
def New (H H' : Hp) (p : Addr) (o : HO) : Prop := Same H H' ∧ H' p = some o ∧ H p = none
theorem New.mk' {H : Hp} {p : Addr} {o : HO} (h : H p = none) : New H (upd H p o) p o := ⟨same_new h, upd_same, h⟩
def tLstN (t : TA) : TE := fun σ H Q => t σ H fun xs H1 => xs.length ≤ sizeLine ∧ ∀ p H2, New H1 H2 p (.lst xs) → Q (.ref p) H2
theorem pe_lstN (h : PA X es ta) : PE X (.List es pos) (tLstN ta) := PE.imp (pe_lst (PA.cl h)) fun σ H Q q => ⟨_, fun xs H1 z => ⟨z.1, fun p hp => z.2 p _ (New.mk' hp)⟩, q⟩
def tTupN (t : TA) : TE := fun σ H Q => t σ H fun xs H1 => xs.length ≤ sizeLine ∧ ∀ p H2, New H1 H2 p (.tup xs) → Q (.ref p) H2
theorem pe_tupN {x1} (h : PA X es ta) : PE X (.Tuple es x1 pos) (tTupN ta) := PE.imp (pe_tup (PA.cl h)) fun σ H Q q => ⟨_, fun xs H1 z => ⟨z.1, fun p hp => z.2 p _ (New.mk' hp)⟩, q⟩
theorem sl_listN : SlR X (fun x lo hi H Q => ∃ a xs, x = .ref a ∧ SqL X.K H a xs ∧ ∀ p H2, New H H2 p (.lst (cutV xs lo hi)) → Q (.ref p) H2) := by
  intro pins s σ H x v vl vu lo hi sl Q I rx hs pl pu h
  obtain ⟨a, xs, ex, hx, q⟩ := h
  exact sl_list pins s σ H x v vl vu lo hi sl Q I rx hs pl pu ⟨a, xs, ex, hx, fun p hp => q p _ (New.mk' hp)⟩
theorem call_list_ofN : CallR X (.type "list") (fun xs H Q => ∃ p ys, xs = [.ref p] ∧ (SqL X.K H p ys ∨ SqT X.K H p ys) ∧ ∀ l H2, New H H2 l (.lst ys) → Q (.ref l) H2) := by
  intro pins s σ H xs us Q I r h
  obtain ⟨p, ys, e1, e2, q⟩ := h
  exact call_list_of pins s σ H xs us Q I r ⟨p, ys, e1, e2, fun l hl => q l _ (New.mk' hl)⟩
theorem call_tuple_ofN : CallR X (.type "tuple") (fun xs H Q => ∃ p ys, xs = [.ref p] ∧ ((SqL X.K H p ys ∧ ∀ l H2, New H H2 l (.tup ys) → Q (.ref l) H2) ∨ (SqT X.K H p ys ∧ Q (.ref p) H))) := by
  intro pins s σ H xs us Q I r h
  obtain ⟨p, ys, e1, q⟩ := h
  refine call_tuple_of pins s σ H xs us Q I r ⟨p, ys, e1, ?_⟩
  rcases q with ⟨h1, q⟩ | q
  · exact .inl ⟨h1, fun l hl => q l _ (New.mk' hl)⟩
  · exact .inr q
def clE (t : TE) : TE := fun σ H R => ∃ R', (∀ x H1, R' x H1 → R x H1) ∧ t σ H R'
theorem PE.cl (h : PE X e t) : PE X e (clE t) := ⟨fun pins s σ H Q I ⟨R', i, q⟩ => thn (h.run pins s σ H R' I q) fun u s1 ⟨x, H1, I1, r1, q1⟩ => ⟨x, H1, I1, r1, i _ _ q1⟩⟩
/-- {k: v}, one pair -/
theorem pe_disp1N {k v : Expr} {tk tv : TE} (hk : PE X k tk) (hv : PE X v tv) : PE X (.Dict [some k] [v] pos) (fun σ H Q => ∀ p H0, New H H0 p (.dK []) → tk σ H0 fun x H1 => tv σ H1 fun y H2 =>
    H2 p = some (.dK []) ∧ ∃ key : Key, x = kV key ∧ ∀ H3, (∀ c, c ≠ p → H3 c = H2 c) → H3 p = some (.dK [(key, y)]) → Q (.ref p) H3) := by
  refine PE.imp (pe_disp (pps_cons (PE.cl hk) (PE.cl hv) pps_nil) rfl rfl (fun z => by cases z) (show 1 ≤ 15 by decide)) fun σ H Q q p hp => ?_
  refine ⟨_, fun x H1 z => ⟨_, fun y H2 z2 => ?_, z⟩, q p _ (New.mk' hp)⟩
  obtain ⟨e, key, ex, q2⟩ := z2
  subst ex
  exact ⟨e, [(key, y)], rfl, (show 1 ≤ 15 by decide), q2 _ (fun c hc => upd_ne hc) upd_same⟩
end
section
variable {K : PySem.W.Frag} {M : Addr → Prop} {H H' : Hp}
theorem New.same {H H' : Hp} {p : Addr} {o : HO} (n : New H H' p o) : Same H H' := n.1
theorem New.ne {H H' : Hp} {p a : Addr} {o u : HO} (n : New H H' p o) (h : H a = some u) : p ≠ a := fun e => by
  have := n.2.2
  rw [e, h] at this
  cases this
theorem New.lst {H H' : Hp} {p a : Addr} {xs : List V} {ds : List PyData} {u : HO} (n : New H H' p (.lst xs)) (h : H a = some u) (hx : DvAll K (· = a) H xs ds) : Dv K (· = a) H' (.ref p) (.list ds) :=
  .lst (n.ne h) (SqL.of n.2.1) (hx.same n.1)
theorem New.tup {H H' : Hp} {p a : Addr} {xs : List V} {ds : List PyData} {u : HO} (n : New H H' p (.tup xs)) (h : H a = some u) (hx : DvAll K (· = a) H xs ds) : Dv K (· = a) H' (.ref p) (.tuple ds) :=
  .tup (n.ne h) (SqT.of n.2.1) (hx.same n.1)
theorem Sx.at {a b : Addr} {cs : List Int} {n : Nat} (S : Sx a b cs n H) : ∃ o, H a = some o := by
  obtain ⟨t, r, S, _⟩ := S
  exact ⟨_, S.ha⟩
theorem Sx.new {a b p : Addr} {cs : List Int} {n : Nat} {o : HO} (S : Sx a b cs n H) (e : New H H' p o) : Sx a b cs n H' := S.same e.1
theorem Sx.ne {a b p : Addr} {cs : List Int} {n : Nat} {o : HO} (S : Sx a b cs n H) (e : New H H' p o) : p ≠ a := by
  obtain ⟨u, h⟩ := S.at
  exact e.ne h
theorem Sx.lst {a b p : Addr} {cs : List Int} {n : Nat} {xs : List V} {ds : List PyData} (S : Sx a b cs n H) (e : New H H' p (.lst xs)) (hx : DvAll K (· = a) H xs ds) : Dv K (· = a) H' (.ref p) (.list ds) := by
  obtain ⟨u, h⟩ := S.at
  exact e.lst h hx
theorem Sx.tup {a b p : Addr} {cs : List Int} {n : Nat} {xs : List V} {ds : List PyData} (S : Sx a b cs n H) (e : New H H' p (.tup xs)) (hx : DvAll K (· = a) H xs ds) : Dv K (· = a) H' (.ref p) (.tuple ds) := by
  obtain ⟨u, h⟩ := S.at
  exact e.tup h hx
theorem New.filled {H H0 H2 H3 : Hp} {p : Addr} {o : HO} (n : New H H0 p o) (s : Same H0 H2) (h : ∀ c, c ≠ p → H3 c = H2 c) : Same H H3 := fun c u e => by
  rw [h c (fun z => n.ne e z.symm)]
  exact s _ _ (n.1 _ _ e)
theorem sIx_nat' (n d k : Nat) : HT.sIx n d (some (k : Int)) = min k n := HT.sIx_nat n d k
theorem cutN (xs : List V) (k : Nat) : cutV xs none (some (k : Int)) = xs.take k := by
  unfold cutV
  rw [HT.sIx_none, HT.sIx_nat, List.drop_zero, Nat.sub_zero]
  by_cases h : k ≤ xs.length
  · rw [Nat.min_eq_left h]
  · rw [Nat.min_eq_right (by omega), List.take_of_length_le (Nat.le_refl _), List.take_of_length_le (by omega)]
theorem atI_some {xs : List V} {d : Int} (h0 : 0 ≤ d) (h1 : d < (xs.length : Int)) : ∃ x, x ∈ xs ∧ atI xs d = some x := by
  obtain ⟨j, rfl⟩ : ∃ j : Nat, d = j := ⟨_, (Int.toNat_of_nonneg h0).symm⟩
  have hj : j < xs.length := by omega
  exact ⟨xs[j], List.getElem_mem hj, atI_nat (List.getElem?_eq_getElem hj)⟩
theorem take_next {α : Type} {xs : List α} {i : Nat} {x : α} (h : xs[i]? = some x) : xs.take (i + 1) = xs.take i ++ [x] := by
  rw [List.take_add_one, h]
  rfl
/-- few items, whatever it is -/
def fewD (d : PyData) : Prop := ∀ ds, seqD d = some ds → ds.length ≤ 10000000
theorem fewD_of {d : PyData} (h : match seqD d with | none => true | some ds => decide (ds.length ≤ 10000000)) : fewD d := fun ds e => by
  rw [e] at h
  exact of_decide_eq_true h
/-- the promises of what a law draws: the script's first n, a value of any kind -/
def spStart (K : PySem.W.Frag) : Sp := fun vs H Q _ => ∃ (a : Addr) (ns : List Int), vs = [.ref a] ∧ SqL K H a (ns.map V.int) ∧ ns.length ≤ 63 ∧ ∀ p b cs H', Same H H' → Sx p b cs 0 H' → H p = none → Q (.ref p) H'
def spValue (K : PySem.W.Frag) (c : Nat) : Sp := fun vs H Q _ => ∃ (a b : Addr) (cs : List Int) (n : Nat), vs = [.ref a] ∧ Sx a b cs n H ∧ n ≤ 900000 ∧ ∀ H' v d, Frm (· = a) H H' → Sx a b cs (n + c) H' → Dv K (· = a) H' v d → fewD d → Q v H'
theorem Sx.neD {a b D : Addr} {cs : List Int} {n : Nat} (S : Sx a b cs n H) (hD : H D = none) : D ≠ a := fun e => by
  obtain ⟨o, h⟩ := S.at
  rw [← e, hD] at h
  cases h
/-- a written list: at an address of its own the state of what draws stays -/
theorem Sx.put {a b p : Addr} {cs : List Int} {n : Nat} {xs ys : List V} (S : Sx a b cs n H) (h : p ≠ a) (hb : p ≠ b) : Sx a b cs n (upd H p (.lst ys)) := by
  obtain ⟨t, r, S, ht⟩ := S
  exact ⟨t, r, ⟨by rw [upd_ne h.symm]; exact S.ha, by rw [upd_ne hb.symm]; exact S.hb, S.ht, S.hr⟩, ht⟩
theorem Sx.atb {a b : Addr} {cs : List Int} {n : Nat} (S : Sx a b cs n H) : ∃ o, H b = some o := by
  obtain ⟨t, r, S, _⟩ := S
  exact ⟨_, S.hb⟩
def tame (e : PyData) : Bool := e.canLay0 && decide (e.depth ≤ 5)
theorem tame_seq : ∀ {ds : List PyData}, ds.all tame = true → PyData.canLayAll0 ds = true ∧ PyData.depthAll ds ≤ 5
  | [], _ => ⟨by simp [PyData.canLayAll0], by simp [PyData.depthAll]⟩
  | d :: ds, h => by
    rw [List.all_cons, Bool.and_eq_true] at h
    obtain ⟨h1, h2⟩ := tame_seq h.2
    unfold tame at h
    simp only [Bool.and_eq_true, decide_eq_true_eq] at h
    exact ⟨by simp only [PyData.canLayAll0, h.1.1, h1, Bool.and_self], by simp only [PyData.depthAll]; omega⟩
theorem shaped_list {ds : List PyData} (h : ds.all tame = true) : SeqAt.shaped (.list ds) = true := by
  obtain ⟨h1, h2⟩ := tame_seq h
  unfold SeqAt.shaped
  rw [Bool.and_eq_true]
  exact ⟨by simp only [PyData.canLay0, h1], decide_eq_true (by simp only [PyData.depth]; omega)⟩
theorem shaped_tup {ds : List PyData} (h : ds.all tame = true) : SeqAt.shaped (.tuple ds) = true := by
  obtain ⟨h1, h2⟩ := tame_seq h
  unfold SeqAt.shaped
  rw [Bool.and_eq_true]
  exact ⟨by simp only [PyData.canLay0, h1], decide_eq_true (by simp only [PyData.depth]; omega)⟩
theorem all_set {α : Type} {p : α → Bool} {x : α} (hx : p x = true) : ∀ {l : List α} (i : Nat), l.all p = true → (l.set i x).all p = true
  | [], _, h => h
  | y :: r, 0, h => by
    rw [List.all_cons, Bool.and_eq_true] at h
    rw [List.set_cons_zero, List.all_cons, hx, h.2]
    rfl
  | y :: r, i + 1, h => by
    rw [List.all_cons, Bool.and_eq_true] at h
    rw [List.set_cons_succ, List.all_cons, h.1, all_set hx i h.2]
    rfl
theorem tame_ints (ns : List Int) : (ns.map PyData.int).all tame = true := by
  rw [List.all_map, List.all_eq_true]
  intro n _
  rfl
theorem ixN_ok {n : Nat} {i : Int} (h0 : 0 ≤ i) (h1 : i < n) : ixN n i = some i.toNat := by
  unfold ixN
  rw [if_pos h0, if_pos h1]
def spRow (K : PySem.W.Frag) : Sp := fun vs H Q _ => ∃ (a b : Addr) (cs : List Int) (n : Nat) (m : Int), vs = [.ref a, .int m] ∧ Sx a b cs n H ∧ n ≤ 900000 ∧ 0 ≤ m ∧ m < 2 ^ 60 ∧
  ∀ H' v d ds, Frm (· = a) H H' → Sx a b cs (n + 8) H' → Dv K (· = a) H' v d → seqD d = some ds → ds.length ≤ 4 → ds.all tame = true → Q v H'
def spLaw (K : PySem.W.Frag) : Sp := fun vs H Q _ => ∃ (a : Addr) (ns : List Int), vs = [.ref a] ∧ SqL K H a (ns.map V.int) ∧ ns.length ≤ 63 ∧ ∀ H', Q (.bl true) H'
end
end MT
/-! what is kept of a list; lists of numbers that are equal, that rise -/
namespace MT
open PySem L2
section
variable {K : PySem.W.Frag} {M : Addr → Prop} {H H' : Hp}
theorem take_filter_next {α : Type} {p : α → Bool} {xs : List α} {i : Nat} {x : α} (h : xs[i]? = some x) : (xs.take (i + 1)).filter p = (xs.take i).filter p ++ (if p x then [x] else []) := by
  rw [take_next h, List.filter_append]
  by_cases e : p x = true
  · rw [if_pos e, List.filter_cons_of_pos e]; rfl
  · rw [if_neg e, List.filter_cons_of_neg e]; rfl
theorem lc_keep {a : Addr} {xs : List V} {ds : List PyData} {J : It} {g : TG} {tt : TT} {te : TE} {vs : List Nat} {σ : St} {H1 : Hp} {D : Addr} {Qd : Hp → Prop} (p : PyData → Bool)
    (hD : H1 D = none) (hJ : SeqIt K a xs H1 J) (hda : DvAll K M H1 xs ds) (hlen : xs.length ≤ 10000000)
    (hs : ∀ x d H, d ∈ ds → Dv K M H x d → Same H1 H → ∀ (Ky : VK) (Kn : Hp → Prop), (p d = true → ∀ H', Same H H' → Ky x H') → (p d = false → ∀ H', Same H H' → Kn H') → LcStep g tt te vs σ x H Ky Kn)
    (hd : ∀ H ys, Same H1 H → H D = some (.lst ys) → DvAll K M H ys (ds.filter p) → Qd H) : LcW J g tt te vs σ H1 D Qd := by
  refine lcg_seq (fun _ => False) (fun _ _ => True) (fun i acc H => DvAll K M H1 acc ((ds.take i).filter p)) hD hJ (fun z => z) hlen (fun _ _ _ _ z => z) (fun _ _ _ _ _ z => z) trivial .nil ?_ ?_
  · intro i x acc H hx F hDa _ hA Ky Kn ky kn
    obtain ⟨d, hd1, hd2⟩ := hda.get hx
    have F2 := same_frm F
    have e := take_filter_next (p := p) hd1
    refine hs x d H (List.mem_of_getElem? hd1) (hd2.same F2) F2 _ _ (fun hp H' F' => ?_) (fun hp H' F' => ?_)
    · refine ky _ H' (F.trans (frm_same F')) (F' _ _ hDa) trivial ?_
      rw [e, if_pos hp]
      exact hA.append (.cons hd2 .nil)
    · refine kn H' (F.trans (frm_same F')) (F' _ _ hDa) trivial ?_
      rw [e, if_neg (by rw [hp]; exact Bool.false_ne_true), List.append_nil]
      exact hA
  · intro H acc F hDa _ hA _
    rw [List.take_of_length_le (by rw [hda.length]; exact Nat.le_refl _)] at hA
    exact hd H acc (same_frm F) hDa (hA.same (same_frm F))
theorem DvAll.dpAll {vs : List V} {ds : List PyData} (h : DvAll K M H vs ds) (t : ds.all tame = true) : DpAll K H vs ds := DvAll.dp ds vs h (tame_seq t).1
theorem all_filter {α : Type} {p q : α → Bool} {l : List α} (h : l.all p = true) : (l.filter q).all p = true := by
  rw [List.all_eq_true] at h ⊢
  exact fun x hx => h x (List.mem_filter.mp hx).1
theorem eq_nil {p l : Addr} {ys : List V} {ds : List PyData} {Q : VK} (hp : SqL K H p ys) (hd : DvAll K M H ys ds) (t : ds.all tame = true) (hl : SqL K H l []) (q : Q (.bl ds.isEmpty) H) : rEqD K (.ref p) (.ref l) H Q :=
  ⟨.list ds, .list [], .lst hp (hd.dpAll t), .lst hl .nil, shaped_list t, shaped_ints [], by cases ds <;> exact q⟩
theorem eq_nil' {p l : Addr} {ys : List V} {ds : List PyData} {Q : VK} {b : Bool} (hp : SqL K H p ys) (hd : DvAll K M H ys ds) (t : ds.all tame = true) (hl : SqL K H l []) (e : ds.isEmpty = b) (q : Q (.bl b) H) : rEqD K (.ref p) (.ref l) H Q :=
  eq_nil hp hd t hl (e ▸ q)
theorem cr_sortedIN {X : Cx} : CallR X (.builtin "sorted") (fun vs H Q => ∃ (a : Addr) (ns : List Int), vs = [V.ref a] ∧ SqL X.K H a (ns.map V.int) ∧ ∀ (ns' : List Int) (p : Addr) (H2 : Hp), ns'.Perm ns → New H H2 p (.lst (ns'.map V.int)) → Q (.ref p) H2) := by
  intro pins s σ H xs us Q I r h
  obtain ⟨a, ns, e, hs, q⟩ := h
  exact cr_sortedI pins s σ H xs us Q I r ⟨a, ns, e, hs, fun ns' p hp _ hn => q ns' p _ hp (New.mk' hn)⟩
theorem op_in_seqK {X : Cx} (e : X.K = K) : OpR X (compareOp .In) (rIn K false) := e ▸ op_in_seq
theorem iteNE {a b : Bool} {A B : Prop} (e : a = b) (h : B) : if (!decide (V.str (boolText a) = V.str (boolText b))) = true then A else B := iteNS (by rw [e]) h
theorem eqv_ints : ∀ ns ms : List Int, PyData.eqvAll (ns.map PyData.int) (ms.map PyData.int) = decide (ns = ms)
  | [], [] => by simp [PyData.eqvAll]
  | [], _ :: _ => by simp [PyData.eqvAll]
  | _ :: _, [] => by simp [PyData.eqvAll]
  | n :: ns, m :: ms => by
    have ih := eqv_ints ns ms
    simp only [List.map_cons, PyData.eqvAll, PyData.eqv, ih, List.cons.injEq]
    by_cases e : n = m
    · simp [e]
    · simp [e]
theorem eq_ints {p l : Addr} {ns ms : List Int} {Q : VK} (hp : SqL K H p (ns.map V.int)) (hl : SqL K H l (ms.map V.int)) (q : Q (.bl (decide (ns = ms))) H) : rEqD K (.ref p) (.ref l) H Q :=
  ⟨.list (ns.map .int), .list (ms.map .int), .lst hp (dp_ints ns), .lst hl (dp_ints ms), shaped_ints ns, shaped_ints ms, by
    have e : PyData.eqv (.list (ns.map .int)) (.list (ms.map .int)) = decide (ns = ms) := by simp only [PyData.eqv, eqv_ints]
    exact e ▸ q⟩
theorem inV_ints (z : Int) (ns : List Int) : inV (.int z) (ns.map V.int) = decide (z ∈ ns) := by
  unfold inV
  rw [List.any_map, Bool.eq_iff_iff, List.any_eq_true, decide_eq_true_iff]
  constructor
  · rintro ⟨x, hx, e⟩
    have e2 : (x == z) = true := by simpa [eqV] using e
    rw [← beq_iff_eq.mp e2]
    exact hx
  · intro h
    exact ⟨z, h, by simp [eqV]⟩
theorem flat_ints (ns : List Int) : (ns.map V.int).all flatV = true := by
  rw [List.all_map, List.all_eq_true]
  intro n _
  rfl
/-! ### the facts of lots -/
def upto (k : Nat) : List Int := (List.range k).map fun i => ((i : Nat) : Int)
theorem rises_iff : ∀ ns : List Int, risesD (ns.map PyData.int) = true ↔ ns.Pairwise (· < ·)
  | [] => by simp [risesD]
  | [x] => by simp [risesD]
  | x :: y :: r => by
    have ih := rises_iff (y :: r)
    show (decide (x < y) && risesD ((y :: r).map PyData.int)) = true ↔ _
    rw [Bool.and_eq_true, ih, decide_eq_true_iff, List.pairwise_cons (a := x)]
    constructor
    · rintro ⟨h1, h2⟩
      refine ⟨fun z hz => ?_, h2⟩
      rcases List.mem_cons.mp hz with e | hz
      · rw [e]; exact h1
      · exact Int.lt_trans h1 ((List.pairwise_cons.mp h2).1 z hz)
    · rintro ⟨h1, h2⟩
      exact ⟨h1 y (List.mem_cons_self ..), h2⟩
theorem asc_ext : ∀ {l m : List Int}, l.Pairwise (· < ·) → m.Pairwise (· < ·) → (∀ x, x ∈ l ↔ x ∈ m) → l = m
  | [], [], _, _, _ => rfl
  | [], y :: m, _, _, h => absurd ((h y).mpr (List.mem_cons_self ..)) (by simp)
  | x :: l, [], _, _, h => absurd ((h x).mp (List.mem_cons_self ..)) (by simp)
  | x :: l, y :: m, p, q, h => by
    have hp := List.pairwise_cons.mp p
    have hq := List.pairwise_cons.mp q
    have e : x = y := by
      rcases List.mem_cons.mp ((h x).mp (List.mem_cons_self ..)) with e | hx
      · exact e
      · rcases List.mem_cons.mp ((h y).mpr (List.mem_cons_self ..)) with e | hy
        · exact e.symm
        · have h1 := hq.1 x hx
          have h2 := hp.1 y hy
          omega
    subst e
    have t : l = m := asc_ext hp.2 hq.2 fun z => by
      constructor
      · intro hz
        rcases List.mem_cons.mp ((h z).mp (List.mem_cons_of_mem _ hz)) with e | h1
        · have := hp.1 z hz
          omega
        · exact h1
      · intro hz
        rcases List.mem_cons.mp ((h z).mpr (List.mem_cons_of_mem _ hz)) with e | h1
        · have := hq.1 z hz
          omega
        · exact h1
    rw [t]
theorem upto_asc (k : Nat) : (upto k).Pairwise (· < ·) := by
  unfold upto
  rw [List.pairwise_map]
  exact List.pairwise_lt_range.imp fun h => Int.ofNat_lt.mpr h
theorem mem_upto {k : Nat} {x : Int} : x ∈ upto k ↔ 0 ≤ x ∧ x < k := by
  unfold upto
  rw [List.mem_map]
  constructor
  · rintro ⟨i, hi, rfl⟩
    have := List.mem_range.mp hi
    omega
  · rintro ⟨h0, h1⟩
    exact ⟨x.toNat, List.mem_range.mpr (by omega), by omega⟩
/-- a lot is what is picked of all numbers below k, in order -/
theorem lot_iff (ns : List Int) (k : Nat) : decide (ns = (upto k).filter fun x => decide (x ∈ ns)) = ((ns.map PyData.int).all (fun x => withinD x (some 0) (some ((k : Int) - 1))) && risesD (ns.map PyData.int)) := by
  rw [Bool.eq_iff_iff, decide_eq_true_iff, Bool.and_eq_true, rises_iff, List.all_map, List.all_eq_true]
  have hw : (∀ x ∈ ns, ((fun x => withinD x (some 0) (some ((k : Int) - 1))) ∘ PyData.int) x = true) ↔ ∀ x ∈ ns, 0 ≤ x ∧ x < k := by
    constructor
    · intro h x hx
      have q : (decide (0 ≤ x) && decide (x ≤ (k : Int) - 1)) = true := h x hx
      simp only [Bool.and_eq_true, decide_eq_true_eq] at q
      omega
    · intro h x hx
      have q := h x hx
      show (decide (0 ≤ x) && decide (x ≤ (k : Int) - 1)) = true
      simp only [Bool.and_eq_true, decide_eq_true_eq]
      omega
  rw [hw]
  constructor
  · intro e
    refine ⟨fun x hx => ?_, ?_⟩
    · rw [e] at hx
      exact mem_upto.mp (List.mem_filter.mp hx).1
    · rw [e]
      exact (upto_asc k).filter _
  · rintro ⟨h1, h2⟩
    refine asc_ext h2 ((upto_asc k).filter _) fun x => ?_
    rw [List.mem_filter, decide_eq_true_iff]
    exact ⟨fun hx => ⟨mem_upto.mpr (h1 x hx), hx⟩, fun h => h.2⟩
theorem filter_none {α : Type} (p : α → Bool) (l : List α) : (l.filter fun x => !p x).isEmpty = l.all p := by
  induction l with
  | nil => rfl
  | cons x r ih =>
    rw [List.all_cons, ← ih]
    cases e : p x with
    | true => rw [List.filter_cons_of_neg (by rw [e]; exact Bool.false_ne_true)]; rfl
    | false => rw [List.filter_cons_of_pos (by rw [e]; rfl)]; rfl
theorem len_eq {n : Nat} {m : Int} : decide (V.int (n : Int) = V.int m) = decide ((n : Int) = m) := by
  rw [Bool.eq_iff_iff, decide_eq_true_iff, decide_eq_true_iff]
  exact ⟨fun e => V.int.inj e, fun e => by rw [e]⟩
def spTrue (c : Nat) : Sp := fun vs H Q _ => ∃ (a b : Addr) (cs : List Int) (n : Nat), vs = [.ref a] ∧ Sx a b cs n H ∧ n ≤ 800000 ∧ ∀ H', Frm (· = a) H H' → Sx a b cs (n + c) H' → Q (.bl true) H'
end
end MT
/-! texts -/
namespace MT
open PySem L2 TL
section
variable {K : PySem.W.Frag} {M : Addr → Prop} {H H' : Hp}
theorem tl_sign (c : Nat) : tl (⟨#[c]⟩ : Str) = [c] := rfl
theorem joinL_ones : ∀ l : List Nat, joinL [] (l.map fun c => [c]) = l
  | [] => rfl
  | [c] => rfl
  | c :: d :: r => by
    have ih := joinL_ones (d :: r)
    show [c] ++ ([] ++ joinL [] ((d :: r).map fun c => [c])) = c :: d :: r
    rw [ih]
    rfl
theorem tl_join_signs (l : List Nat) : tl (Txt.join "" (l.map fun c => (⟨#[c]⟩ : Str))) = l := by
  rw [join_eq, tl_join, List.map_map]
  have e : tl ("" : Str) = [] := by decide +kernel
  rw [e]
  exact joinL_ones l
theorem sum_ones (l : List Nat) : ((l.map fun c => (⟨#[c]⟩ : Str)).map (·.length)).sum = l.length := by
  induction l with
  | nil => rfl
  | cons c r ih =>
    rw [List.map_cons, List.map_cons, List.sum_cons, ih, List.length_cons]
    show 1 + r.length = _
    omega
theorem tl_cut_lo {z : Str} {i : Int} (h0 : 0 ≤ i) : tl (cutS z none (some i)) = (tl z).take i.toNat := by
  obtain ⟨j, rfl⟩ : ∃ j : Nat, i = j := ⟨_, (Int.toNat_of_nonneg h0).symm⟩
  show (((tl z).drop (HT.sIx z.length 0 none)).take (HT.sIx z.length z.length (some (j : Int)) - HT.sIx z.length 0 none)) = _
  rw [HT.sIx_none, HT.sIx_nat, List.drop_zero, Nat.sub_zero, len_tl, Int.toNat_natCast]
  by_cases h : j ≤ (tl z).length
  · rw [Nat.min_eq_left h]
  · rw [Nat.min_eq_right (by omega), List.take_of_length_le (Nat.le_refl _), List.take_of_length_le (by omega)]
theorem tl_cut_hi {z : Str} {i : Int} (h0 : 0 ≤ i) : tl (cutS z (some i) none) = (tl z).drop i.toNat := by
  obtain ⟨j, rfl⟩ : ∃ j : Nat, i = j := ⟨_, (Int.toNat_of_nonneg h0).symm⟩
  show (((tl z).drop (HT.sIx z.length 0 (some (j : Int)))).take (HT.sIx z.length z.length none - HT.sIx z.length 0 (some (j : Int)))) = _
  rw [HT.sIx_none, HT.sIx_nat, len_tl, Int.toNat_natCast]
  by_cases h : j ≤ (tl z).length
  · rw [Nat.min_eq_left h, List.take_of_length_le]
    rw [List.length_drop]
    exact Nat.le_refl _
  · rw [Nat.min_eq_right (by omega), List.drop_of_length_le (Nat.le_refl _), List.drop_of_length_le (by omega)]
    exact List.take_nil
theorem signs_lt {z : Str} (h : (tl z).all nameSign = true) : ∀ c ∈ tl z, c < 1114112 := fun c hc => by
  have q := List.all_eq_true.mp h c hc
  unfold nameSign at q
  simp only [Bool.or_eq_true, Bool.and_eq_true, decide_eq_true_eq] at q
  omega
theorem strOk_of {z : Str} (h : ∀ c ∈ tl z, c < 1114112) : PyData.strOk z = true := by
  unfold PyData.strOk
  rw [← Array.all_toList, List.all_eq_true]
  exact fun c hc => decide_eq_true (h c hc)
theorem strOk_signs {z : Str} (h : (tl z).all nameSign = true) : PyData.strOk z = true := by
  unfold PyData.strOk
  rw [← Array.all_toList, List.all_eq_true]
  intro c hc
  have q := List.all_eq_true.mp h c hc
  unfold nameSign at q
  simp only [Bool.or_eq_true, Bool.and_eq_true, decide_eq_true_eq] at q
  exact decide_eq_true (by omega)
theorem eq_data {v u : V} {d e : PyData} {b : Bool} {Q : VK} (hv : Dv K M H v d) (hu : Dv K M H u e) (td : tame d = true) (te : tame e = true) (eb : PyData.eqv d e = b) (q : Q (.bl b) H) : rEqD K v u H Q := by
  have h : ∀ d : PyData, tame d = true → SeqAt.shaped d = true ∧ d.canLay0 = true := fun d h => by
    unfold tame at h
    simp only [Bool.and_eq_true, decide_eq_true_eq] at h
    exact ⟨by unfold SeqAt.shaped; rw [Bool.and_eq_true]; exact ⟨h.1, decide_eq_true (by omega)⟩, h.1⟩
  exact ⟨d, e, Dv.dp d v hv (h d td).2, Dv.dp e u hu (h e te).2, (h d td).1, (h e te).1, eb ▸ q⟩
theorem nameD_bad {z : Str} {c : Nat} (h : c ∈ tl z) (hc : nameSign c = false) : nameD (.str z) = false := by
  show (_ && _ && _) = false
  have e : z.cps.toList.all nameSign = false := by
    cases q : z.cps.toList.all nameSign with
    | false => rfl
    | true => rw [List.all_eq_true.mp q c h] at hc; cases hc
  rw [e, Bool.and_false]
theorem nameD_good {z : Str} (h : (tl z).all nameSign = true) : nameD (.str z) = (decide (1 ≤ z.length) && decide (z.length ≤ 12)) := by
  show (_ && _ && z.cps.toList.all nameSign) = _
  have e : z.cps.toList.all nameSign = true := h
  rw [e, Bool.and_true]
theorem letter_at {d : Int} (h0 : 0 ≤ d) (h1 : d < 36) : ∃ c, nameSign c = true ∧ atI (("abcdefghijklmnopqrstuvwxyz0123456789" : Str).cps.toList) d = some c := by
  have e : (("abcdefghijklmnopqrstuvwxyz0123456789" : Str).cps.toList) = [97, 98, 99, 100, 101, 102, 103, 104, 105, 106, 107, 108, 109, 110, 111, 112, 113, 114, 115, 116, 117, 118, 119, 120, 121, 122, 48, 49, 50, 51, 52, 53, 54, 55, 56, 57] := by decide +kernel
  obtain ⟨j, rfl⟩ : ∃ j : Nat, d = j := ⟨_, (Int.toNat_of_nonneg h0).symm⟩
  rw [e]
  have hj : j < ([97, 98, 99, 100, 101, 102, 103, 104, 105, 106, 107, 108, 109, 110, 111, 112, 113, 114, 115, 116, 117, 118, 119, 120, 121, 122, 48, 49, 50, 51, 52, 53, 54, 55, 56, 57] : List Nat).length := by
    show j < 36
    omega
  exact ⟨_, (sign_mem _).mp (List.getElem_mem hj), atI_nat (List.getElem?_eq_getElem hj)⟩
end
end MT
/-! promises of defs that are called while no repr is under way; repr of data -/
namespace MT
open PySem L2
/-- as FnOk, where no repr is under way -/
structure FnG (P : Program) (w : World) (K : PySem.W.Frag) (mg : Str → Option Value) (base : Heap) (CX : CXT) (k : Nat) (f : Addr) (fd : FuncData) (ps : List Str) (sp : Sp) : Prop where
  len : ∀ vs H Q E, sp vs H Q E → vs.length = ps.length
  run : ∀ (A : Around) (outer : List Env) (s : Shared) (H : Hp) (args : Args) (us : List Value) (vs : List V) (Q : VK) (E : XK), A.guards = some [] → Room k A → Env0 P w K mg base A outer s H → BindsTo s fd args (ps.zip us) → Vals vs us → sp vs H Q E →
    codeAny (model P w) A (.call (.ref f) args) (CR CX outer P w H s Q E) s
section
variable {P : Program} {w : World} {K : PySem.W.Frag} {mg : Str → Option Value} {base : Heap}
theorem okG {CX : CXT} {x qual : Str} {st : Stmt} {f : Addr} {fd : FuncData} {N ps : List Str} {k : Nat} {sp : Sp} (F : Fun K x qual st f fd) (S : FnScope N ps (defScope st)) (len : ∀ vs H Q E, sp vs H Q E → vs.length = ps.length)
    (hbody : ∀ (cdv : Value) (A : Around) (outer : List Env) (s : Shared) (H : Hp) (vs : List V) (Q : VK) (E : XK), (A.deeper (PyProof.Rows.envOfC qual (defScope st) s.heap.objs.size f cdv)).guards = some [] → Room k (A.deeper (PyProof.Rows.envOfC qual (defScope st) s.heap.objs.size f cdv)) → sp vs H Q E →
      ∃ t, PSs (cxOf CX P w K mg base N qual (defScope st) f cdv A outer s H E) (defBody st) t ∧ t { nx := fun _ H' => Q .non H', rt := Q } (L2.start N vs) H) : FnG P w K mg base CX (k + 1) f fd ps sp := by
  obtain ⟨_, _, _, _, _, _, cdv, _, _, rfl, lk, hcd⟩ := F.ex
  exact ⟨len, fun A outer s H args us vs Q E hg hr e0 hb r h => LamX.run_ofS lk hcd S hr e0 hb r (len _ _ _ _ h) fun hr' => hbody cdv A outer s H vs Q E hg hr' h⟩
end
section
variable {X : Cx} {CX : CXT} {k n : Nat} {f : Addr} {fd : FuncData} {ps ks : List Str} {sp : Sp} {E : XK} {x : Str} {p pos : Pos} {e : Expr} {es : List Expr} {kws : List Keyword} {t tk : TA} {g : List Value → List Value → List Value} {gV : List V → List V → List V} {ds : List Value} {dvs : List V}
theorem back {pins : List (Addr × Obj)} {σ : L2.St} {H : Hp} {s : Shared} {Q : VK} {v : Value} {args : Args} (I : Inv X pins σ H s) (hx : Passes CX X E)
    (c : codeAny (model X.prog X.w) X.A (.call v args) (CR CX X.stack X.prog X.w H s Q E) s) : codeAny (model X.prog X.w) X.A (.call v args) (fun r s' => match r with | .ok (.ret u) => EP X pins σ Q u s' | .ok _ => False | .error e => X.xe e s') s :=
  codeAny_mono c fun r s' q => by
    cases r with
    | error e => exact hx pins σ H s e s' I q
    | ok fl =>
      cases fl with
      | ret u => exact I.after q
      | _ => exact q.elim
theorem pe_callG (F : FnG X.prog X.w X.K X.mg X.base CX k f fd ps sp) (hq : X.A.guards = some []) (hr : Room k X.A) (hg : Gl X x) (hm : X.mg x = some (.ref f)) (hk : PySem.W.keepIn X.K (.ref f) = true) (hb : Binds X.K fd ps ds) (hd : Vals dvs ds) (hx : Passes CX X E)
    (ha : PA X (e :: es) t) (dbg : (x == ("__debug__" : Str)) = false := by decide) (he : starEach (e :: es) X.env = (false, eval e X.env) :: starEach es X.env := by rfl) (plain : (backTo pos (starEach es X.env)).any (·.1) = false := by rfl) :
    PE X (.Call (.Name x p) (e :: es) [] pos) (tCall sp dvs E t) :=
  ⟨fun pns st sl Hs Q I0 told => wpAny_Call_Name_kw (ld_glob I0 hg hm (PySem.W.callWith_K (h₀ := X.base) I0.ok.mod.kin hk (thn (ha.run pos pns st sl Hs _ I0 told) fun us s1 ⟨vs, H1, J, r, q⟩ => ⟨J.kIn, by
      have r2 : Vals (vs ++ dvs) (us ++ ds) := r.append hd
      have hl : (us ++ ds).length = ps.length := by rw [← r2.length]; exact F.len _ _ _ _ q
      refine wpAny_call (codeAny_mono (back J hx (F.run X.A X.stack s1 H1 ⟨us, []⟩ (us ++ ds) (vs ++ dvs) Q E hq hr J.env0 (hb s1 us J.kIn hl) r2 q)) fun r' s' z => ?_)
      cases r' with
      | error e => exact z
      | ok fl => cases fl with
        | ret u => exact z
        | _ => exact z.elim⟩) he plain) dbg)⟩
/-! ### repr of data -/
theorem call_reprD (hq : X.A.guards = some []) (hr : Room k X.A) : CallR X (.builtin "repr") (fun xs H Q => ∃ v d, xs = [v] ∧ Dp X.K H v d ∧ d.showable = true ∧ d.hasDict = false ∧ d.depth ≤ 64 ∧ d.shown.length ≤ sizeLine ∧ Q (.str d.shown) H) := by
  intro pns st sl Hs xs us Q I0 r h
  obtain ⟨v, d, rfl, hd, sh, nd, dp, sz, q⟩ := h
  obtain ⟨u, rfl, rv⟩ := Vals.one r
  obtain ⟨as, rd⟩ := Dp.reads I0 d v u hd rv
  have hu := hr.un
  have fin : ∀ (h' : Heap) (tk : Nat), (∀ b o, st.heap.get? b = some o → h'.get? b = some o) → Inv X pns sl Hs { st with heap := h', toks := tk } := fun h' tk kp => I0.kept kp
  have go : ∀ a, u = .ref a → wpAny (model X.prog X.w) X.A (call (.builtin "repr") [u]) (EP X pns sl Q) X.xe st := fun a e => by
    subst e
    refine repr_of_reads' rd sh (fun z => absurd z (by rw [nd]; exact Bool.false_ne_true)) hq (by omega) (fun _ _ z => z) (fun h' tk1 tk2 kp => ⟨.str d.shown, Hs, fin h' tk2 kp, ⟨_, rfl⟩, q⟩) sz
  cases hd with
  | non => cases rv; exact PySem.P.repr_of_none ⟨.str _, _, I0.tok _, ⟨_, rfl⟩, q⟩
  | bl b => cases rv; exact PySem.P.repr_of_bool ⟨.str _, _, I0.tok _, ⟨_, rfl⟩, q⟩
  | int i => obtain ⟨t, rfl⟩ := rv; exact PySem.P.repr_of_int (by simpa [PyData.showable] using sh) ⟨.str _, _, I0.tok _, ⟨_, rfl⟩, q⟩
  | str z => obtain ⟨t, rfl⟩ := rv; exact PySem.P.repr_of_str ⟨.str _, _, I0.tok _, ⟨_, rfl⟩, q⟩ sz
  | lst _ _ => exact go _ rv
  | tup _ _ => exact go _ rv
end
end MT
/-! errors of the program: made, raised, caught, asked -/
namespace MT
open PySem L2
/-- an error's own __init__: it keeps its one part -/
def spInit (K : PySem.W.Frag) (f : Str) : Sp := fun vs H Q _ => ∃ (a C : Addr) (p : V), vs = [.ref a, p] ∧ OexC K C ∧ PySem.W.findIn K (.ref C) f = some none ∧ H a = some (exo a C none) ∧
  ∀ dx, H dx = none → dx ≠ a → Q .non (upd (upd H dx (exd dx [(f, p)])) a (exo a C (some dx)))
/-- what the text says of an error's class -/
structure ErrC (K : PySem.W.Frag) (mg : Str → Option Value) (x : Str) (C fI : Addr) (f : Str) : Prop where
  gC : mg x = some (.ref C)
  oex : OexC K C
  noF : PySem.W.findIn K (.ref C) f = some none
  iC : PySem.W.findIn K (.ref C) "__init__" = some (some (.ref fI))
  tI : PySem.W.typeIn K (.ref fI) = some (.type "function")
  xf : XfC K C
  cl : PySem.W.findIn K (.ref C) "__class__" = some (some (.builtin "object.__class__"))
  ob : PySem.W.mroIn K C (.type "object") = some true
/-- C(e): its class, its dict, which is new -/
def tMkE (C : Addr) (f : Str) (ta : TA) : L2.St → Hp → XK → Prop := fun σ H Q => ta σ H fun vs H1 => ∃ p, vs = [p] ∧ ∀ d H2, New H1 H2 d (.xd [(f, p)]) → Q (.ref C) (some d) H2
theorem mk_new {H : Hp} {a dx C : Addr} {f : Str} {p : V} (n : H a = none) (nx : H dx = none) (ne : dx ≠ a) :
    New H (upd (del (upd (upd (upd H a (exo a C none)) dx (exd dx [(f, p)])) a (exo a C (some dx))) a) dx (.xd [(f, p)])) dx (.xd [(f, p)]) := by
  refine ⟨fun c o e => ?_, upd_same, nx⟩
  have h1 : c ≠ a := ne_of_none e n
  have h2 : c ≠ dx := ne_of_none e nx
  rw [upd_ne h2, del_ne h1, upd_ne h1, upd_ne h2, upd_ne h1]
  exact e
section
variable {X : Cx} {x f : Str} {C fI : Addr} {k : Nat} {fd : FuncData} {e : Expr} {es : List Expr} {ta : TA} {p pos : Pos}
theorem pmk_err {CX : CXT} (T : ErrC X.K X.mg x C fI f) (F : FnOk X.prog X.w X.K X.mg X.base CX k fI fd ["self", f] (spInit X.K f)) (hr : Room (k + 1) X.A) (hb : Binds X.K fd ["self", f] []) (hx : Passes CX X (fun _ _ _ => False)) (hg : Gl X x) (ha : PA X (e :: es) ta)
    (hdb : (x == ("__debug__" : Str)) = false := by decide) (he : starEach (e :: es) X.env = (false, eval e X.env) :: starEach es X.env := by rfl) (hpl : (backTo pos (starEach es X.env)).any (·.1) = false := by rfl) :
    PMk X (.Call (.Name x p) (e :: es) [] pos) (tMkE C f ta) := by
  intro pins s σ H Q I h
  refine pmk_oex T.oex T.iC T.tI F hr hb .nil hx hg T.gC (PA.cl ha) hdb he hpl pins s σ H Q I ⟨_, fun vs H1 z => ?_, h⟩
  obtain ⟨y, rfl, q⟩ := z
  refine ⟨by show 1 ≤ 1000; decide, fun a na => ⟨a, C, y, rfl, T.oex, T.noF, upd_same, fun dx nx ne => ?_⟩⟩
  rw [upd_ne ne] at nx
  exact ⟨rfl, dx, [(f, y)], upd_same, by rw [upd_ne ne, upd_same], nx, q dx _ (mk_new na nx ne)⟩
end
end MT
namespace MT
open PySem
def clsBody (x : Stmt) : List Stmt := match x with
  | .ClassDef (body := inner) .. => inner
  | _ => []
end MT
/-! a star among the targets; any of integers; tuples times and joined -/
namespace MT
open PySem L2 PyProof.Rows
section
variable {P : Program} {w : World} {A : Around} {E : Value → Shared → Prop} {st : Shared} {l : Addr} {its : Array Value} {n i : Nat} {Q : List Value → Shared → Prop}
/-- what is left over stands in a new list -/
def Rests (st : Shared) (its : Array Value) (n i : Nat) (Q : List Value → Shared → Prop) : Prop :=
  ∀ D h' tk, (∀ b o, st.heap.get? b = some o → h'.get? b = some o) → st.heap.get? D = none →
    h'.get? D = some { cls := .type "list", data := .seq ((its.toList.drop i).take (its.size + 1 - n)).toArray } →
    Q (its.toList.take i ++ [.ref D] ++ (its.toList.drop i).drop (its.size + 1 - n)) { st with heap := h', toks := tk }
theorem rests_end {h1 : Heap} {tk : Nat} (old : ∀ b o, st.heap.get? b = some o → h1.get? b = some o) (hi : i < n) (hn : n ≤ its.size + 1) (hz : its.size ≤ 16384) (k : Rests st its n i Q) :
    wpAny (model P w) A (newList ((its.toList.drop i).take (its.size + 1 - n)) >>= fun d => pure (its.toList.take i ++ [d] ++ (its.toList.drop i).drop (its.size + 1 - n))) Q E { st with heap := h1, toks := tk } := by
  have e1 : (its.toList.drop i).length = its.size - i := by simp
  refine wpAny_bind (wpAny_newList (s := { st with heap := h1, toks := tk }) ?_ (by rw [List.length_take, sizeLine_eq]; omega))
  refine wpAny_pure (k h1.objs.size _ tk (fun b o e => Heap.get?_push_of_some _ (old b o e)) ?_ (Heap.get?_push_size _ rfl))
  cases e : st.heap.get? h1.objs.size with
  | none => rfl
  | some o => exact absurd (Heap.lt_size (old _ _ e)) (Nat.lt_irrefl _)
theorem rests_mid (hi : i < n) (hn : n ≤ its.size + 1) : ¬ (its.toList.drop i).length < n - 1 - i ∧ (its.toList.drop i).length - (n - 1 - i) = its.size + 1 - n := by
  have e1 : (its.toList.drop i).length = its.size - i := by simp
  omega
theorem rests_list (hl : st.heap.IsList l its) (hh : A.handled = none) (hi : i < n) (hn : n ≤ its.size + 1) (hz : its.size ≤ 16384) (k : Rests st its n i Q) :
    wpAny (model P w) A (unpackItems (.ref l) n (some i)) Q E st := by
  have lt : l < st.heap.objs.size := by
    obtain ⟨o, e, _⟩ := hl
    exact Heap.lt_size e
  have ne : l ≠ st.heap.objs.size := Nat.ne_of_lt lt
  unfold unpackItems notIterableAtAll
  refine wpAny_bind (wpAny_bind (wpAny_specialOf hl.typeIs slot_list_iter.lookup (wpAny_pure ?_)))
  rw [if_neg (by decide)]
  refine wpAny_bind (wpAny_holding (wpAny_pyIter_list hl (wpAny_bind ?_)))
  refine (wpAny_holding (PySem.W.kun_draw ne i 0 _ _ ⟨_, Heap.get?_push_size _ rfl, rfl, rfl⟩ (hl.push _) (by omega) fun ha ia sa => ?_))
  have la : ha.IsList l its := (hl.push _).extBut sa.extBut ne
  rw [Nat.zero_add] at ia
  have lta : st.heap.objs.size < ha.objs.size := by
    obtain ⟨o, e, _⟩ := ia
    exact Heap.lt_size e
  have ltl : l < ha.objs.size := by
    obtain ⟨o, e, _⟩ := la
    exact Heap.lt_size e
  rw [List.drop_zero]
  rw [if_neg (by rw [List.length_take, Array.length_toList]; omega)]
  refine wpAny_bind (wpAny_holding (PySem.W.kun_collect (s := { st with heap := ha }) (.inr (.inr (.inl rfl))) (Walks.list (A := A.in1) hh _ l ne its) (fun j u z => z.1.typeIs) (by omega) ⟨ia, la⟩ lta ltl (fun hb tk kb => ?_) (by rw [sizeLine_eq]; omega)))
  simp only [if_neg (rests_mid hi hn).1, (rests_mid hi hn).2]
  exact rests_end (st := st) (h1 := hb) (tk := tk) (fun b o e => kb b o (Nat.ne_of_lt (Heap.lt_size e)) (sa.extBut b o (Nat.ne_of_lt (Heap.lt_size e)) (Heap.get?_push_of_some _ e))) hi hn hz k
theorem rests_tuple (hl : IsTup st.heap l its) (hh : A.handled = none) (hi : i < n) (hn : n ≤ its.size + 1) (hz : its.size ≤ 16384) (k : Rests st its n i Q) :
    wpAny (model P w) A (unpackItems (.ref l) n (some i)) Q E st := by
  have lt : l < st.heap.objs.size := by
    obtain ⟨o, e, _⟩ := hl
    exact Heap.lt_size e
  have ne : l ≠ st.heap.objs.size := Nat.ne_of_lt lt
  unfold unpackItems notIterableAtAll
  refine wpAny_bind (wpAny_bind (wpAny_specialOf hl.typeIs slot_tuple_iter.lookup (wpAny_pure ?_)))
  rw [if_neg (by decide)]
  refine wpAny_bind (wpAny_holding (iter_tuple hl (wpAny_bind ?_)))
  refine (wpAny_holding (draw_tuple ne i 0 _ _ ⟨_, Heap.get?_push_size _ rfl, rfl, rfl⟩ (hl.push _) (by omega) fun ha ia sa => ?_))
  have la : IsTup ha l its := (hl.push _).extBut sa.extBut ne
  rw [Nat.zero_add] at ia
  have lta : st.heap.objs.size < ha.objs.size := by
    obtain ⟨o, e, _⟩ := ia
    exact Heap.lt_size e
  have ltl : l < ha.objs.size := by
    obtain ⟨o, e, _⟩ := la
    exact Heap.lt_size e
  rw [List.drop_zero]
  rw [if_neg (by rw [List.length_take, Array.length_toList]; omega)]
  refine wpAny_bind (wpAny_holding (PySem.W.kun_collect (s := { st with heap := ha }) (.inr (.inr (.inr rfl))) (Walks.tuple (A := A.in1) hh _ l ne its) (fun j u z => z.1.typeIs) (by omega) ⟨ia, la⟩ lta ltl (fun hb tk kb => ?_) (by rw [sizeLine_eq]; omega)))
  simp only [if_neg (rests_mid hi hn).1, (rests_mid hi hn).2]
  exact rests_end (st := st) (h1 := hb) (tk := tk) (fun b o e => kb b o (Nat.ne_of_lt (Heap.lt_size e)) (sa.extBut b o (Nat.ne_of_lt (Heap.lt_size e)) (Heap.get?_push_of_some _ e))) hi hn hz k
end
theorem vals_take : ∀ (k : Nat) {xs : List V} {us : List Value}, Vals xs us → Vals (xs.take k) (us.take k)
  | 0, _, _, _ => .nil
  | _ + 1, _, _, .nil => .nil
  | k + 1, _, _, .cons a r => .cons a (vals_take k r)
theorem vals_drop : ∀ (k : Nat) {xs : List V} {us : List Value}, Vals xs us → Vals (xs.drop k) (us.drop k)
  | 0, _, _, r => r
  | _ + 1, _, _, .nil => .nil
  | k + 1, _, _, .cons _ r => vals_drop k r
section
variable {X : Cx} {e : Expr} {es : List Expr} {t : TG} {u : TGs} {p pos : Pos}
/-- (.., *e, ..): e's turn -/
theorem pgs_star (h1 : PG X e t) (h2 : PGs X es u) : PGs X (.Starred e p :: es) (gCons t u) := by
  refine ⟨fun pins st sl H vs us Q I r h => ?_⟩
  obtain ⟨v, vr, rfl, h⟩ := h
  cases r with
  | cons r rr =>
    show wpAny _ _ (assignInOrder (assign e X.env :: (assignEach es X.env).map (·.2)) _) _ _ _
    exact assignInOrder_cons (thn (h1.run pins st sl H _ _ _ I r h) fun _ s1 ⟨s2, H1, I1, q1⟩ => h2.run pins s1 s2 H1 _ _ Q I1 rr q1)
/-- (a, .., *b, ..) = a list or a tuple: n targets, the star at i -/
def gStar (K : PySem.W.Frag) (n i : Nat) (t : TGs) : TG := fun v σ H Q => ∃ a xs, v = .ref a ∧ (SqL K H a xs ∨ SqT K H a xs) ∧ n ≤ xs.length + 1 ∧ xs.length ≤ 16384 ∧
  ∀ D H', New H H' D (.lst ((xs.drop i).take (xs.length + 1 - n))) → t (xs.take i ++ [.ref D] ++ (xs.drop i).drop (xs.length + 1 - n)) σ H' Q
theorem pg_star {k : Nat} {n i : Nat} (hc : X.calm = true) (h : PGs X es u) (hi : i < n) (hn : (assignEach es X.env).length = n := by rfl) (hst : (assignEach es X.env).findIdx? (·.1) = some i := by rfl) :
    PG X (.Tuple es k pos) (gStar X.K n i u) := by
  refine ⟨fun pins st sl H v uv Q I r hw => ?_⟩
  obtain ⟨a, xs, rfl, sq, h1, h2, q⟩ := hw
  cases r
  have go : ∀ (its : List Value), Vals xs its → Rests st its.toArray n i (fun us s1 => wpAny (model X.prog X.w) X.A (assignInOrder ((assignEach es X.env).map (·.2)) us) (fun _ s' => ∃ σ' H', Inv X pins σ' H' s' ∧ Q σ' H') X.xe s1) := by
    intro its rv D h' tk old dn dnew
    have el : its.toArray.size = xs.length := by rw [List.size_toArray, rv.length]
    have hD : H D = none := I.hok.gone dn
    rw [el] at dnew ⊢
    have new : ObjOk X.prog X.w (upd H D (.lst ((xs.drop i).take (xs.length + 1 - n)))) h' D (.lst ((xs.drop i).take (xs.length + 1 - n))) :=
      ⟨by rw [List.length_take, sizeLine_eq]; omega, _, 0, vals_take _ (vals_drop i rv), dnew⟩
    have J : Inv X pins sl (upd H D (.lst ((xs.drop i).take (xs.length + 1 - n)))) { st with heap := h', toks := tk } := I.laidN old dn hD new
    exact h.run pins _ sl _ _ _ Q J (by
      have r1 : Vals [V.ref D] [Value.ref D] := .cons rfl .nil
      have r2 := ((vals_take i rv).append r1).append (vals_drop (xs.length + 1 - n) (vals_drop i rv))
      simpa using r2) (q D _ (New.mk' hD))
  rw [assign_Tuple]
  refine wpAny_bind (wpAny_standAt ?_)
  unfold unpack
  rw [hn, hst]
  rcases sq with sq | sq
  · obtain ⟨its, rv, pl, _⟩ := I.list sq
    exact wpAny_bind (wpAny_holding (rests_list pl.isList (I.ok.hd hc) hi (by rw [List.size_toArray, ← rv.length]; exact h1) (by rw [List.size_toArray, ← rv.length]; exact h2) (go its rv)))
  · obtain ⟨its, rv, pl, _⟩ := I.tuple sq
    exact wpAny_bind (wpAny_holding (rests_tuple pl (I.ok.hd hc) hi (by rw [List.size_toArray, ← rv.length]; exact h1) (by rw [List.size_toArray, ← rv.length]; exact h2) (go its rv)))
theorem anyI_range (ns : List Int) : (List.range ns.length).any (fun i => ns.getD i 0 != 0) = ns.any (· != 0) := by
  induction ns with
  | nil => rfl
  | cons n r ih =>
    rw [List.length_cons, List.range_succ_eq_map, List.any_cons, List.any_map, List.any_cons, ← ih]
    rfl
/-- any(integers) -/
theorem cr_anyI (hc : X.calm = true) : CallR X (.builtin "any") (fun vs H Q => ∃ (a : Addr) (ns : List Int), vs = [.ref a] ∧ SqL X.K H a (ns.map V.int) ∧ Q (.bl (ns.any (· != 0))) H) := by
  intro pins st sl H vs us Q I r h
  obtain ⟨a, ns, rfl, hs, q⟩ := h
  obtain ⟨its, rv, hl, _⟩ := I.list hs
  rw [Vals.ref1 r]
  have el : its.length = ns.length := by rw [← rv.length, List.length_map]
  have tr : TruthOf X.prog X.w X.A.in1 (fun i v => its.toArray[i]? = some v) (fun i => ns.getD i 0 != 0) := fun i v s1 Q1 E1 hv hq => by
    have hv : its[i]? = some v := by simpa using hv
    obtain ⟨x, hx, rx⟩ : ∃ x, (ns.map V.int)[i]? = some x ∧ RelV x v := by
      cases e : (ns.map V.int)[i]? with
      | none => rw [Vals.none_of rv e] at hv; cases hv
      | some x =>
        obtain ⟨u, eu, ru⟩ := Vals.get rv e
        rw [hv] at eu
        cases eu
        exact ⟨x, rfl, ru⟩
    rw [List.getElem?_map] at hx
    obtain ⟨z, hz, rfl⟩ := Option.map_eq_some_iff.mp hx
    obtain ⟨tk, rfl⟩ := rx
    have e : ns.getD i 0 = z := by rw [List.getD_eq_getElem?_getD, hz]; rfl
    have hq : Q1 (ns.getD i 0 != 0) s1 := hq
    rw [e] at hq
    exact PySem.P.truthy_int hq
  refine call_any_walk (iter_any hl.isList fun s₂ e2 sx hne => ?_)
  subst e2
  refine ⟨_, _, _, _, _, _, _, rfl, Walks.list (A := X.A.in1) (I.ok.hd hc) _ a hne its.toArray, sx, tr, fun h' tk hk => ?_⟩
  refine ⟨.bl _, H, I.kept fun b o eo => hk b o (fun m => ?_) (Heap.get?_push_of_some _ eo), ?_, q⟩
  · exact Nat.ne_of_lt (Heap.lt_size eo) (by simpa using m)
  · show Value.bool _ = Value.bool _
    rw [List.size_toArray, el, anyI_range]
end
end MT
namespace MT
open PySem L2
section
variable {X : Cx}
/-- [..] * k, a new list -/
theorem op_repN : OpR X (binaryOp .Mult) (fun x y H Q => ∃ l k xs, x = .ref l ∧ y = .int k ∧ H l = some (.lst xs) ∧ -(2 ^ 63) ≤ k ∧ k < 2 ^ 63 ∧ xs.length * k.toNat ≤ sizeLine ∧ ∀ p H2, New H H2 p (.lst (List.replicate k.toNat xs).flatten) → Q (.ref p) H2) := by
  intro pins st sl H x y v u Q I rx ry h
  obtain ⟨l, k, xs, e1, e2, h1, h2, h3, h4, q⟩ := h
  exact op_rep pins st sl H x y v u Q I rx ry ⟨l, k, xs, e1, e2, h1, h2, h3, h4, fun p hp => q p _ (New.mk' hp)⟩
/-- list + list, a new list -/
theorem op_catN : OpR X (binaryOp .Add) (fun x y H Q => ∃ l b xs zs, x = .ref l ∧ y = .ref b ∧ H l = some (.lst xs) ∧ H b = some (.lst zs) ∧ xs.length + zs.length ≤ sizeLine ∧ ∀ p H2, New H H2 p (.lst (xs ++ zs)) → Q (.ref p) H2) := by
  intro pins st sl H x y v u Q I rx ry h
  obtain ⟨l, b, xs, zs, e1, e2, h1, h2, h3, q⟩ := h
  exact op_cat pins st sl H x y v u Q I rx ry ⟨l, b, xs, zs, e1, e2, h1, h2, h3, fun p hp => q p _ (New.mk' hp)⟩
/-- (..) * k, a new tuple -/
theorem op_repTN : OpR X (binaryOp .Mult) (fun x y H Q => ∃ l k xs, x = .ref l ∧ y = .int k ∧ SqT X.K H l xs ∧ xs ≠ [] ∧ 2 ≤ k ∧ k ≤ 1000 ∧ xs.length ≤ 1000 ∧ ∀ p H2, New H H2 p (.tup (List.replicate k.toNat xs).flatten) → Q (.ref p) H2) := by
  intro pins st sl H x y v u Q I rx ry h
  obtain ⟨l, k, xs, e1, e2, h1, h2, h3, h4, h5, q⟩ := h
  exact op_repT pins st sl H x y v u Q I rx ry ⟨l, k, xs, e1, e2, h1, h2, h3, h4, h5, fun p hp => q p _ (New.mk' hp)⟩
/-- tuple + tuple, neither empty: a new one -/
theorem op_catTN : OpR X (binaryOp .Add) (fun x y H Q => ∃ a b xs ys, x = .ref a ∧ y = .ref b ∧ SqT X.K H a xs ∧ SqT X.K H b ys ∧ xs.length + ys.length ≤ sizeLine ∧ xs ≠ [] ∧ ys ≠ [] ∧ ∀ p H2, New H H2 p (.tup (xs ++ ys)) → Q (.ref p) H2) := by
  intro pins st sl H x y v u Q I rx ry h
  obtain ⟨a, b, xs, ys, e1, e2, h1, h2, h3, n1, n2, q⟩ := h
  exact op_catA pins st sl H x y v u Q I rx ry ⟨a, b, xs, ys, e1, e2, h1, h2, h3, fun z => absurd z n1, fun _ z => absurd z n2, fun _ _ p hp => q p _ (New.mk' hp)⟩
end
end MT
namespace MT
open PySem L2
def repStr (x : Str) (n : Int) : Str := ⟨(List.replicate n.toNat x.cps).foldl (· ++ ·) #[]⟩
/-- text * number -/
theorem op_repS {X : Cx} : OpR X (binaryOp .Mult) (fun x y H Q => ∃ (z : Str) (n : Int), x = .str z ∧ y = .int n ∧ 2 ≤ n ∧ n ≤ 1000 ∧ 1 ≤ z.length ∧ z.length ≤ 1000 ∧ (repStr z n).length ≤ sizeLine ∧ Q (.str (repStr z n)) H) := by
  intro pins st sl H x y v u Q I rx ry h
  obtain ⟨z, n, rfl, rfl, n2, n3, l1, l2, ls, q⟩ := h
  obtain ⟨t, rfl⟩ := rx
  obtain ⟨t2, rfl⟩ := ry
  have c1 : ¬ n < 1 := by omega
  have c2 : (n == 1 || z.length == 0) = false := by
    rw [Bool.or_eq_false_iff]
    exact ⟨beq_eq_false_iff_ne.mpr (by omega), beq_eq_false_iff_ne.mpr (by omega)⟩
  refine PySem.P.mul_str (by rw [decide_eq_false (by omega), decide_eq_false (by omega)]; rfl) (fun _ _ w => ?_) (fun _ _ => ?_) ?_
  · have h0 := (mul_bd (x := (z.length : Int)) (y := n) (A := 1000) (B := 1000) (by omega) (by omega) (by omega) (by omega)).2
    have h1 : (z.length : Int) ≤ (2 ^ 63 - 1) / n := Int.le_ediv_of_mul_le (by omega) (by omega)
    omega
  · unfold Builtin.Str.tooLong
    rw [decide_eq_false]
    have : z.length * n.toNat ≤ 1000 * 1000 := Nat.mul_le_mul l2 (by omega)
    rw [sizeLine_eq]
    omega
  · rw [if_neg c1, if_neg (by rw [c2]; exact Bool.false_ne_true)]
    exact ⟨ls, .str _, H, I.tok _, ⟨_, rfl⟩, q⟩
end MT
/-! lambda name=number: .., handed to a def -/
namespace MT
open PySem PySem.Spec PyProof.Rows L2 LamX
abbrev dfObj (q : Str) (params : Arguments) (body : Expr) (scope : Scope) (clo : List (Str × Addr)) (T0 : Addr) (doc pm : Value) (c' : Addr) (ctv : Value) : Obj :=
  PySem.W.kdv_obj "<lambda>" q params (.expr body) scope clo (.ref T0) doc pm c' ctv
section
variable {X : Cx} {pins : List (Addr × Obj)} {σ : L2.St} {H : Hp} {s : Shared}
/-- the lambda is made, its default in a tuple of its own -/
theorem df_make {TS : List (Addr × Str)} {c P : Addr} {params : Arguments} {body de : Expr} {scope : Scope} {pos : Pos} {n : Int} {E : Value → Shared → Prop} {Q : Value → Shared → Prop} (I : Inv X pins σ H s) (TB : LamX.TabB X.base X.mg c P) (cod : X.env.code = .ref c)
    (mem : (P, X.env.qual ++ "<lambda>") ∈ TS) (uni : ∀ p ∈ TS, p.1 = P → p.2 = X.env.qual ++ "<lambda>") (tabs : Tabs TS H) (hde : params.defaults = [de]) (kwd : params.kw_defaults = [])
    (hev : ∀ Q1 : Value → Shared → Prop, (∀ tk t, Q1 (.int n t) { s with toks := tk }) → wpAny (model X.prog X.w) X.A (eval de X.env) Q1 E s)
    (fre : ∀ y ∈ scope.names, y.2 = .free → ∃ c, X.env.cells.lookup y.1 = some c)
    (k : ∀ (f c' T0 : Addr) (doc pm ctv : Value) (H1 : Hp) (s' : Shared), Inv X pins σ H1 s' → ExtN H H1 → Tabs TS H1 →
      s'.heap.get? f = some (dfObj (X.env.qual ++ "<lambda>") params body scope (cloFrom X.env.cells scope.names []) T0 doc pm c' ctv) → H1 f = none → f ∉ frs X.stack → H1 c' = some (CodeO c' (X.env.qual ++ "<lambda>")) → H1 T0 = some (.tup [.int n]) → Q (.ref f) s') :
    wpAny (model X.prog X.w) X.A (eval (.Lambda params body scope pos) X.env) Q E s := by
  refine PySem.W.kdv_lam (by rw [hde]; rfl) kwd ?_
  rw [hde]
  refine PySem.W.kdv_all1 (hev _ fun tk t => PySem.W.kdv_all0 ?_)
  rw [makeFunction_eq]
  simp only [List.zip_nil_right, List.filterMap_nil, List.isEmpty_nil, List.isEmpty_cons, if_true, pure_bind, Bool.false_eq_true, if_false]
  refine wpAny_bind (wpAny_newTextTuple ?_)
  obtain ⟨hp, g, dr, tk0, os⟩ := s
  have nT : H hp.objs.size = none := I.hok.fresh (Nat.le_refl _)
  have I0 : Inv X pins σ (upd H hp.objs.size (.tup [.int n])) ⟨hp.push (PySem.W.kdv_tup [.int n t]), g, dr, tk, os⟩ :=
    I.laid (t' := tk) (a := hp.objs.size) (o := .tup [.int n]) (h' := hp.push (PySem.W.kdv_tup [.int n t])) (fun b o e => Heap.get?_push_of_some _ e) (Nat.le_refl _)
      ⟨(by show 1 ≤ sizeLine; rw [sizeLine_eq]; decide), [.int n t], .cons ⟨t, rfl⟩ .nil, ⟨_, Heap.get?_push_size _ rfl, rfl, _, rfl⟩⟩
  have x0 : ExtN H (upd H hp.objs.size (.tup [.int n])) := ExtN.of (same_new nT)
  have tb0 : Tabs TS (upd H hp.objs.size (.tup [.int n])) := tabs.ext (same_new nT)
  have t0 : (upd H hp.objs.size (.tup [.int n])) hp.objs.size = some (.tup [.int n]) := upd_same
  revert I0 x0 tb0 t0
  generalize upd H hp.objs.size (.tup [.int n]) = H0
  intro I0 x0 tb0 t0
  obtain ⟨ps, tP, ok, am⟩ := tb0 _ mem
  have bP := TB.bm.keeps I0.bk
  have gP := I0.hok P _ tP
  have away : ∀ f, (hp.push (PySem.W.kdv_tup [.int n t])).objs.size ≤ f → f ∉ frs X.stack := fun f hf z => by
    rcases List.mem_cons.mp (I0.stkSub _ z) with w | w
    · have lt := I0.lt
      rw [← w] at lt
      exact absurd (Nat.lt_of_lt_of_le lt hf) (Nat.lt_irrefl _)
    · exact I0.nofs hf w
  cases am1 : codeAmong pos ps.toList with
  | none =>
    refine PySem.W.kdv_makeTail (mg := X.mg) (closure_ok fre) I0.ok.glob (I0.mod.glob.keeps I0.bk) cod (TB.code.keeps I0.bk) gP ok am1 TB.gP bP fun c' ctv doc ha ta xa ga la ra da => ?_
    obtain ⟨c2, oc, vs, tq, ee, goc, dd, vv⟩ := ra
    cases ee
    have big := Nat.le_trans ga (Nat.le_of_lt la)
    have nC : H0 c' = none := I0.hok.fresh ga
    have I1 := inv_table (t' := ta) (more := #[rawInt pos.line, rawInt pos.col, .ref c']) (h' := ha.push (dfObj (X.env.qual ++ "<lambda>") params body scope (cloFrom X.env.cells scope.names []) hp.objs.size doc ((X.mg "__name__").getD .none) c' ctv)) I0 tP
      (fun b o ne e => Heap.get?_push_of_some _ (xa b o ne e)) (Heap.get?_push_of_some _ da) ga ⟨oc, vs, tq, Heap.get?_push_of_some _ goc, dd, vv⟩
    have xx : ExtN H0 (upd (upd H0 P (.tbl (ps ++ #[rawInt pos.line, rawInt pos.col, .ref c']))) c' (CodeO c' (X.env.qual ++ "<lambda>"))) := fun b o e nt => by
      rw [upd_ne (ne_of_none e nC), upd_ne (fun z => nt ps (Option.some.inj (e.symm.trans (by rw [z]; exact tP))))]
      exact e
    have lst : (ps ++ #[rawInt pos.line, rawInt pos.col, .ref c']).toList = ps.toList ++ [rawInt pos.line, rawInt pos.col, .ref c'] := by simp
    refine k ha.objs.size c' hp.objs.size doc _ ctv _ _ I1 (x0.trans xx) (fun p hp' => ?_) (Heap.get?_push_size _ rfl) ?_ (away _ big) upd_same (xx _ _ t0 fun ps' z => by cases z)
    · by_cases pb : p.1 = P
      · rw [uni p hp' pb, pb]
        refine ⟨_, by rw [upd_ne (ne_of_none tP nC), upd_same], by rw [lst]; exact PySem.TriplesOk_snoc _ _ _ _ ok, fun pz cv hcv => ?_⟩
        rw [lst] at hcv
        rcases among_app _ ok hcv with z | z
        · obtain ⟨cz, w1, w2⟩ := am pz cv z
          exact ⟨cz, w1, xx _ _ w2 codeO_ne⟩
        · exact ⟨c', z, upd_same⟩
      · obtain ⟨pq, w1, w2, w3⟩ := tb0 p hp'
        refine ⟨pq, by rw [upd_ne (ne_of_none w1 nC), upd_ne pb]; exact w1, w2, fun pz cv hcv => ?_⟩
        obtain ⟨cz, v1, v2⟩ := w3 pz cv hcv
        exact ⟨cz, v1, xx _ _ v2 codeO_ne⟩
    · have d1 : ha.objs.size ≠ c' := Nat.ne_of_gt la
      have d2 : ha.objs.size ≠ P := Nat.ne_of_gt (Nat.lt_of_lt_of_le (Heap.lt_size gP) big)
      rw [upd_ne d1, upd_ne d2]
      exact I0.hok.fresh big
  | some cv =>
    obtain ⟨c', ee, coo⟩ := am pos cv am1
    subst ee
    refine PySem.W.kdv_makeTailHit (mg := X.mg) (closure_ok fre) I0.ok.glob (I0.mod.glob.keeps I0.bk) cod (TB.code.keeps I0.bk) gP ok am1 bP fun ctv doc ha ta xa big => ?_
    have I1 : Inv X pins σ H0 ⟨ha.push (dfObj (X.env.qual ++ "<lambda>") params body scope (cloFrom X.env.cells scope.names []) hp.objs.size doc ((X.mg "__name__").getD .none) c' ctv), g, dr, ta, os⟩ := I0.kept fun b o e => Heap.get?_push_of_some _ (xa b o e)
    exact k ha.objs.size c' hp.objs.size doc _ ctv H0 _ I1 x0 tb0 (Heap.get?_push_size _ rfl) (I0.hok.fresh big) (away _ big) coo t0
end

/-- the lambda's one parameter x is its only own name -/
structure DfS (sc scope : Scope) (x : Str) : Prop where
  kind : scope.kind = .function
  co : scope.isCoroutine = false
  gen : scope.isGenerator = false
  own : ∀ y ∈ scope.names, y.2 ≠ .cell ∧ (y.2 = .local → y.1 = x)
  par : scope.names.lookup x = some .local
  free : ∀ y ∈ scope.names, y.2 = .free → sc.names.lookup y.1 = some .cell ∨ sc.names.lookup y.1 = some .free
def dfSB (sc scope : Scope) (x : Str) : Bool :=
  decide (scope.kind = .function) && !scope.isCoroutine && !scope.isGenerator && decide (scope.names.lookup x = some .local) &&
    scope.names.all fun y => !decide (y.2 = .cell) && (!decide (y.2 = .local) || decide (y.1 = x)) && (!decide (y.2 = .free) || decide (sc.names.lookup y.1 = some .cell) || decide (sc.names.lookup y.1 = some .free))
theorem dfS_by {sc scope : Scope} {x : Str} (h : dfSB sc scope x = true) : DfS sc scope x := by
  unfold dfSB at h
  simp only [Bool.and_eq_true, Bool.or_eq_true, Bool.not_eq_true', decide_eq_true_eq, decide_eq_false_iff_not, List.all_eq_true] at h
  obtain ⟨⟨⟨⟨w1, w2⟩, w3⟩, w5⟩, w4⟩ := h
  refine ⟨w1, w2, w3, fun y hy => ⟨(w4 y hy).1.1, fun e => ?_⟩, w5, fun y hy e => ?_⟩
  · rcases (w4 y hy).1.2 with z | z
    · exact absurd e z
    · exact z
  · rcases (w4 y hy).2 with (z | z) | z
    · exact absurd e z
    · exact .inl z
    · exact .inr z
section
variable {s s1 : Shared} {X : Cx} {pins : List (Addr × Obj)} {σ : L2.St} {H HZ : Hp}
theorem DfS.cells {scope : Scope} {x : Str} (L : DfS X.env.scope scope x) (ok : X.Ok) : ∀ y ∈ scope.names, y.2 = .free → ∃ c, X.env.cells.lookup y.1 = some c := fun y hy e => (L.free y hy e).elim (fun w => ok.has _ (.inl w)) fun w => ok.has _ (.inr w)
theorem df_start {A : Around} {outer : List Env} {E : XK} {scope : Scope} {x : Str} {u : Value} {f c' : Addr} {hn : Heap} {tk : Nat} (I : Inv X pins σ H s) (L : DfS X.env.scope scope x) (nx : x ∉ X.N) (en : Env0 X.prog X.w X.K X.mg X.base A outer s1 HZ)
    (calm : A.handled = none) (un : Un (frs X.stack) [] H HZ s.heap s1.heap) (ns : hn.Ns s1.heap.objs.size fun y => [(x, u)].reverse.lookup y) (old : ∀ b o, s1.heap.get? b = some o → hn.get? b = some o) :
    Inv (lamCx X A outer s1 HZ E scope f c') [] σ HZ { s1 with heap := hn, toks := tk } := by
  have fre := L.cells I.ok
  have up : ∀ {y c}, (cloFrom X.env.cells scope.names []).lookup y = some c → X.env.cells.lookup y = some c := fun {y c} e => by
    rcases cloFrom_mem (PySem.mem_of_lookup e) with w | ⟨w1, w2⟩
    · cases w
    · obtain ⟨ca, wc⟩ := fre _ w1 rfl
      have wc : X.env.cells.lookup y = some ca := wc
      have ec : c = ca := by
        rw [w2, wc] <;> rfl
      rw [ec]
      exact wc
  have has : ∀ {y}, scope.names.lookup y = some .free → ∃ c, (cloFrom X.env.cells scope.names []).lookup y = some c := fun {y} hl =>
    mem_lookup (cloFrom_has (cells := X.env.cells) (acc := []) (show (y, NameKind.free) ∈ scope.names from PySem.mem_of_lookup hl))
  have keepC : ∀ {c : Addr} {v : Option Value}, H c = none → s.heap.IsCell c v → hn.IsCell c v := fun {c v} no ⟨o, go, gd⟩ => by
    obtain ⟨sl, w⟩ := un.any go no (by simp)
    exact ⟨_, old _ _ w, gd⟩
  have none' : ∀ b : Addr, b ∉ (lamCx X A outer s1 HZ E scope f c').ex := fun b w => absurd (show b ∈ ([] : List Addr) from w) (by simp)
  refine ⟨⟨en.mod, L.kind, rfl, rfl, Nat.le_refl _, fun y z c w1 w2 => I.ok.inj y z c (up w1) (up w2), fun y hy => ?_, fun y c w _ => absurd (show false = true from w) Bool.false_ne_true, fun _ => calm, Around.frames_deeper en.frames, .inr ⟨rfl, rfl⟩, fun b w => absurd w (none' b), en.bs, en.bsz, fun b _ _ => none' b,
      fun b w => absurd w (none' b), en.funs, en.frf⟩,
    rfl, en.bare, Un.kept old, ⟨_, ns, fun i y v w1 w2 w3 => ?_⟩, fun y c w => ?_, en.hok.fresh (Nat.le_refl _), fun y c w => ?_, fun q hq => absurd (show q ∈ ([] : List (Addr × Obj)) ++ [] from hq) (by simp), en.hok.kept old, I.len⟩
  · rcases (show scope.names.lookup y = some .cell ∨ scope.names.lookup y = some .free from hy) with w | w
    · exact absurd rfl (L.own _ (PySem.mem_of_lookup w)).1
    · exact has w
  · rcases (show Vis scope y from w3) with w | w | w
    · have ey : y = x := (L.own _ (PySem.mem_of_lookup w)).2 rfl
      exact absurd (ey ▸ List.mem_of_getElem? (show X.N[i]? = some y from w1)) nx
    · exact absurd rfl (L.own _ (PySem.mem_of_lookup w)).1
    · obtain ⟨m, _, gl⟩ := I.loc
      have vis : Vis X.env.scope y := (L.free _ (PySem.mem_of_lookup w) rfl).elim (fun z => .inr (.inl z)) (fun z => .inr (.inr z))
      obtain ⟨u', r, q⟩ := gl i y v w1 w2 vis
      obtain ⟨ca, wa⟩ := has w
      refine ⟨u', r, .inr ⟨.inr w, ca, wa, ?_⟩⟩
      have w5 := up wa
      rcases q with ⟨z, _⟩ | ⟨_, cb, wb, z⟩
      · rcases L.free _ (PySem.mem_of_lookup w) rfl with z2 | z2 <;> cases (show X.env.scope.names.lookup y = some NameKind.local from z).symm.trans z2
      · rw [w5] at wb
        cases wb
        exact keepC (I.freeC y _ w5) z
  · obtain ⟨u', z⟩ := I.cell y c (up w)
    exact ⟨u', keepC (I.freeC y c (up w)) z⟩
  · obtain ⟨v, o, go, _⟩ := I.cell y c (up w)
    exact un.free c o go (I.freeC y c (up w)) (by simp)
/-- a(), in the def that got the lambda -/
theorem df_act {CXg : CXT} {Eg : XK} {Ng : List Str} {qg : Str} {sg : Scope} {g f c' T0 : Addr} {cdg doc pm ctv : Value} {params : Arguments} {body : Expr} {scope : Scope} {x : Str} {n : Int} {m i : Nat} {a : Str} {pn : List (Addr × Obj)} {xe : Value → Shared → Prop} {W : WX} {tb : XK → TE} {p1 p2 : Pos}
    (I : Inv X pins σ H s) (L : DfS X.env.scope scope x) (nx : x ∉ X.N) (gf : s.heap.get? f = some (dfObj (X.env.qual ++ "<lambda>") params body scope (cloFrom X.env.cells scope.names []) T0 doc pm c' ctv)) (nf : H f = none) (ff : f ∉ frs X.stack) (gT : H T0 = some (.tup [.int n]))
    (bnd : ∀ (doc pm ctv : Value) (cl : List (Str × Addr)), ∃ k, bindArgs (PySem.W.kdv_fn "<lambda>" (X.env.qual ++ "<lambda>") params (.expr body) scope cl (.ref T0) doc pm (.ref c') ctv) ⟨[], []⟩ = seqItems? (.ref T0) >>= k ∧ ∀ u, k (some [u].toArray) = pure [(x, u)])
    (tk : Takes ((cxOf CXg X.prog X.w X.K X.mg X.base Ng qg sg g cdg X.A X.stack s H Eg).tr pn xe) W) (hr : Room (m + 1) (X.A.deeper (envOfC qg sg s.heap.objs.size g cdg)))
    (hb : ∀ (A : Around) (outer : List Env) (s : Shared) (H : Hp) (E : XK), Room m (A.deeper (lamEnv X scope s.heap.objs.size f c')) → PE (lamCx X A outer s H E scope f c') body (tb E))
    (aN : Ng[i]? = some a) (va : Vis sg a) (dbg2 : (a == ("__debug__" : Str)) = false := by decide) (dbg3 : (a == ("__classdict__" : Str)) = false := by decide) :
    PE ((cxOf CXg X.prog X.w X.K X.mg X.base Ng qg sg g cdg X.A X.stack s H Eg).tr pn xe) (.Call (.Name a p1) [] [] p2) (fun σZ HZ Q => ∃ E : XK, (∀ cls d H', E cls d H' → W cls d σZ H') ∧ σZ[i]? = some (some (.ref f)) ∧ HZ c' = some (CodeO c' (X.env.qual ++ "<lambda>")) ∧ tb E σ HZ Q) := by
  refine ⟨fun pz sz lz HZ Q IZ told => ?_⟩
  obtain ⟨E, hW, w1, w2, w3⟩ := told
  refine wpAny_Call_Name_kw (thn ((pe_var (pos := p1) (i := i) aN va dbg2 dbg3).run pz sz lz HZ (fun v H1 => v = .ref f ∧ H1 = HZ) IZ ⟨.ref f, w1, rfl, rfl⟩) fun u sy ⟨v, HY, J, r, ev, eH⟩ => ?_)
  subst ev eH
  obtain rfl : u = Value.ref f := r
  have un : Un (frs X.stack) [] H HY s.heap sy.heap := J.base
  have gf1 := un.keep f _ gf nf ff (fun z => nomatch (show f ∈ ([] : List Addr) from z))
  have gT1 := un.tups T0 _ gT
  refine PySem.W.callWith_F0 ⟨_, _, _, _, gf1⟩ ?_
  obtain ⟨⟨oc, vs, t, goc, gd, gv⟩, _, _⟩ := J.hok c' _ w2
  obtain ⟨_, its, rv, o, ho, ht, n0, hd0⟩ := (show ObjOk X.prog X.w HY sy.heap T0 (.tup [.int n]) from J.hok T0 _ gT1)
  obtain ⟨u0, rfl, _⟩ := Vals.one rv
  obtain ⟨kk, b1, b2⟩ := bnd doc pm ctv (cloFrom X.env.cells scope.names [])
  obtain ⟨o1, o2, o3, o4⟩ := o
  simp only at ht hd0
  subst ht hd0
  have bt := BindsTo.of_defaults (fd := PySem.W.kdv_fn "<lambda>" (X.env.qual ++ "<lambda>") params (.expr body) scope (cloFrom X.env.cells scope.names []) (.ref T0) doc pm (.ref c') ctv) (args := ⟨[], []⟩) (binds := [(x, u0)]) rfl ho rfl b1 (b2 u0)
  have rc : codeAny (model X.prog X.w) (X.A.deeper (envOfC qg sg s.heap.objs.size g cdg)) (.call (.ref f) ⟨[], []⟩) (CR (L2.CX X.prog X.w) (envOfC qg sg s.heap.objs.size g cdg :: X.stack) X.prog X.w HY sy Q E) sy := by
    refine PySem.W.kla_callFunE hr.depth gf1 rfl L.co L.gen rfl ⟨c', oc, vs, t, rfl, goc, gd, gv⟩ ?_
    refine bt _ _ _ _ ?_
    refine wpAny_newFunctionEnv (fun y hy => (L.own y hy).1) (fun y hy => ?_) (fun hn ns sb => ⟨J.nolimit.fresh _ sb, ?_⟩) L.kind
    · rw [List.mem_singleton.mp hy]
      exact L.par
    show codeAny _ _ (.expr body (lamEnv X scope sy.heap.objs.size f c')) _ _
    have old : ∀ b o, sy.heap.get? b = some o → hn.get? b = some o := fun b o e => sb.extBut b o (Nat.ne_of_lt (Heap.lt_size e)) (Heap.get?_push_of_some _ e)
    have J2 := df_start (f := f) (c' := c') (E := E) (tk := sy.toks + ([(x, u0)] : List (Str × Value)).length) I L nx J.env0 hr.hd un ns old
    refine PySem.W.kla_codeExpr (wpAny_mono ((hb _ _ sy HY E (hr.deeper _)).run [] _ _ HY Q J2 w3) (fun v sq q => ?_) fun e sq q => q)
    obtain ⟨v', Hq, Jq, rq, qq⟩ := q
    exact ⟨v', Hq, Jq.os, Jq.bare, Jq.base, Jq.hok, rq, qq⟩
  refine wpAny_call (codeAny_mono rc fun r sq q => ?_)
  cases r with
  | error e => exact tk e sq (XE.of_call J (fun cls d H' w => hW cls d H' w) q)
  | ok fl =>
    cases fl with
    | ret u => exact J.after q
    | _ => exact q.elim
end

section
variable {s s1 : Shared} {X : Cx} {pins : List (Addr × Obj)} {σ : L2.St} {H HZ : Hp}
/-- the same without a parameter -/
theorem nf_act {CXg : CXT} {Eg : XK} {Ng : List Str} {qg : Str} {sg : Scope} {g f c' : Addr} {cdg pm ctv : Value} {params : Arguments} {body : Expr} {scope : Scope} {m i : Nat} {a : Str} {pn : List (Addr × Obj)} {xe : Value → Shared → Prop} {W : WX} {tb : XK → TE} {p1 p2 : Pos}
    (I : Inv X pins σ H s) (L : LamS X.env.scope scope) (gf : s.heap.get? f = some (PySem.W.kla_obj "<lambda>" (X.env.qual ++ "<lambda>") params body scope (cloFrom X.env.cells scope.names []) pm c' ctv)) (nf : H f = none) (ff : f ∉ frs X.stack)
    (bnd : bindArgs (PySem.W.kla_fn "<lambda>" (X.env.qual ++ "<lambda>") params body scope (cloFrom X.env.cells scope.names []) pm (.ref c') ctv) ⟨[], []⟩ = pure [])
    (tk : Takes ((cxOf CXg X.prog X.w X.K X.mg X.base Ng qg sg g cdg X.A X.stack s H Eg).tr pn xe) W) (hr : Room (m + 1) (X.A.deeper (envOfC qg sg s.heap.objs.size g cdg)))
    (hb : ∀ (A : Around) (outer : List Env) (s : Shared) (H : Hp) (E : XK), Room m (A.deeper (lamEnv X scope s.heap.objs.size f c')) → PE (lamCx X A outer s H E scope f c') body (tb E))
    (aN : Ng[i]? = some a) (va : Vis sg a) (dbg2 : (a == ("__debug__" : Str)) = false := by decide) (dbg3 : (a == ("__classdict__" : Str)) = false := by decide) :
    PE ((cxOf CXg X.prog X.w X.K X.mg X.base Ng qg sg g cdg X.A X.stack s H Eg).tr pn xe) (.Call (.Name a p1) [] [] p2) (fun σZ HZ Q => ∃ E : XK, (∀ cls d H', E cls d H' → W cls d σZ H') ∧ σZ[i]? = some (some (.ref f)) ∧ HZ c' = some (CodeO c' (X.env.qual ++ "<lambda>")) ∧ tb E σ HZ Q) := by
  refine ⟨fun pz sz lz HZ Q IZ told => ?_⟩
  obtain ⟨E, hW, w1, w2, w3⟩ := told
  refine wpAny_Call_Name_kw (thn ((pe_var (pos := p1) (i := i) aN va dbg2 dbg3).run pz sz lz HZ (fun v H1 => v = .ref f ∧ H1 = HZ) IZ ⟨.ref f, w1, rfl, rfl⟩) fun u sy ⟨v, HY, J, r, ev, eH⟩ => ?_)
  subst ev eH
  obtain rfl : u = Value.ref f := r
  have un : Un (frs X.stack) [] H HY s.heap sy.heap := J.base
  have gf1 := un.keep f _ gf nf ff (fun z => nomatch (show f ∈ ([] : List Addr) from z))
  refine PySem.W.callWith_F0 ⟨_, _, _, _, gf1⟩ ?_
  obtain ⟨⟨oc, vs, t, goc, gd, gv⟩, _, _⟩ := J.hok c' _ w2
  have rc : codeAny (model X.prog X.w) (X.A.deeper (envOfC qg sg s.heap.objs.size g cdg)) (.call (.ref f) ⟨[], []⟩) (CR (L2.CX X.prog X.w) (envOfC qg sg s.heap.objs.size g cdg :: X.stack) X.prog X.w HY sy Q E) sy := by
    refine PySem.W.kla_callFunE hr.depth gf1 rfl L.co L.gen rfl ⟨c', oc, vs, t, rfl, goc, gd, gv⟩ ?_
    rw [bnd]
    refine wpAny_pure (wpAny_newFunctionEnv (fun y hy => (L.own y hy).2) (fun y hy => absurd hy (by simp)) (fun hn ns sb => ⟨J.nolimit.fresh _ sb, ?_⟩) L.kind)
    show codeAny _ _ (.expr body (lamEnv X scope sy.heap.objs.size f c')) _ _
    have old : ∀ b o, sy.heap.get? b = some o → hn.get? b = some o := fun b o e => sb.extBut b o (Nat.ne_of_lt (Heap.lt_size e)) (Heap.get?_push_of_some _ e)
    have J2 := lam_start2 (f := f) (c' := c') (E := E) (tk := sy.toks + ([] : List (Str × Value)).length) I L J.env0 hr.hd un ns old
    refine PySem.W.kla_codeExpr (wpAny_mono ((hb _ _ sy HY E (hr.deeper _)).run [] _ _ HY Q J2 w3) (fun v sq q => ?_) fun e sq q => q)
    obtain ⟨v', Hq, Jq, rq, qq⟩ := q
    exact ⟨v', Hq, Jq.os, Jq.bare, Jq.base, Jq.hok, rq, qq⟩
  refine wpAny_call (codeAny_mono rc fun r sq q => ?_)
  cases r with
  | error e => exact tk e sq (XE.of_call J (fun cls d H' w => hW cls d H' w) q)
  | ok fl =>
    cases fl with
    | ret u => exact J.after q
    | _ => exact q.elim
end
/-- the def that calls what it got, the wish told of the very slots -/
def GivesN (X : Cx) (Ng : List Str) (gn : Str) (sg : Scope) (g : Addr) (cdg : Value) (bg : List Stmt) (a : Str) (q : Str) (TT : (XK → Hp → VK → Prop) → Hp → VK → Prop) : Prop :=
  ∀ (f c' : Addr) (s : Shared) (H : Hp) (Q : VK) (tl : XK → Hp → VK → Prop),
    (∀ (W : WX) (pn : List (Addr × Obj)) (xe : Value → Shared → Prop) (p1 p2 : Pos), Takes ((cxOf C8.CX0 X.prog X.w X.K X.mg X.base Ng gn sg g cdg X.A X.stack s H C8.E0).tr pn xe) W →
      PE ((cxOf C8.CX0 X.prog X.w X.K X.mg X.base Ng gn sg g cdg X.A X.stack s H C8.E0).tr pn xe) (.Call (.Name a p1) [] [] p2)
        (fun σZ HZ Q => ∃ E : XK, (∀ cls d H', E cls d H' → W cls d σZ H') ∧ σZ[0]? = some (some (.ref f)) ∧ HZ c' = some (CodeO c' q) ∧ tl E HZ Q)) →
    H c' = some (CodeO c' q) → TT tl H Q →
    ∃ t, PSs (cxOf C8.CX0 X.prog X.w X.K X.mg X.base Ng gn sg g cdg X.A X.stack s H C8.E0).nox bg t ∧ t { nx := fun _ H' => Q .non H', rt := Q } (L2.start Ng [.ref f]) H
section
variable {X : Cx}
/-- g(lambda x=number: body) -/
theorem df_call {TS : List (Addr × Str)} {TT : (XK → Hp → VK → Prop) → Hp → VK → Prop} {gn a x : Str} {g c P : Addr} {m : Nat} {n : Int} {pg : Arguments} {bg : List Stmt} {sg : Scope} {dV kV dcg pmg cdv ctg ocg : Value} {ang odg : Option Addr} {slg : Array (Option Value)} {Ng : List Str}
    {params : Arguments} {body de : Expr} {scope : Scope} {t : XK → TE} {p lpos pos : Pos} (hg : Gl X gn) (hm : X.mg gn = some (.ref g)) (hk : PySem.W.keepIn X.K (.ref g) = true)
    (lk : X.K.lookup g = some ⟨ocg, odg, .func (PySem.W.fnOf gn gn pg bg sg dV kV dcg pmg ang cdv ctg), slg⟩) (cg : PySem.W.codeIn X.K cdv gn = true) (bg' : L2.Binds X.K (PySem.W.fnOf gn gn pg bg sg dV kV dcg pmg ang cdv ctg) [a] []) (Sg : FnScope Ng [a] sg) (aN : Ng[0]? = some a) (va : Vis sg a)
    (hG : GivesN X Ng gn sg g cdv bg a (X.env.qual ++ "<lambda>") TT)
    (TB : LamX.TabB X.base X.mg c P) (cod : X.env.code = .ref c) (mem : (P, X.env.qual ++ "<lambda>") ∈ TS) (uni : ∀ p ∈ TS, p.1 = P → p.2 = X.env.qual ++ "<lambda>") (hr : Room (m + 2) X.A) (L : DfS X.env.scope scope x) (nx : x ∉ X.N)
    (hde : params.defaults = [de]) (kwd : params.kw_defaults = []) (hev : ∀ (s : Shared) (E Q1 : Value → Shared → Prop), (∀ tk t, Q1 (.int n t) { s with toks := tk }) → wpAny (model X.prog X.w) X.A (eval de X.env) Q1 E s)
    (bnd : ∀ (T0 : Addr) (doc pm cv ctv : Value) (cl : List (Str × Addr)), ∃ k, bindArgs (PySem.W.kdv_fn "<lambda>" (X.env.qual ++ "<lambda>") params (.expr body) scope cl (.ref T0) doc pm cv ctv) ⟨[], []⟩ = seqItems? (.ref T0) >>= k ∧ ∀ u, k (some [u].toArray) = pure [(x, u)])
    (hbody : ∀ (A : Around) (outer : List Env) (s : Shared) (H : Hp) (E : XK) (f c' : Addr), Room m (A.deeper (lamEnv X scope s.heap.objs.size f c')) → PE (lamCx X A outer s H E scope f c') body (t E))
    (dbg1 : (gn == ("__debug__" : Str)) = false := by decide) (dbg2 : (a == ("__debug__" : Str)) = false := by decide) (dbg3 : (a == ("__classdict__" : Str)) = false := by decide) :
    PE X (.Call (.Name gn p) [.Lambda params body scope lpos] [] pos) (tLam TS TT t) := by
  refine ⟨fun pins st sl H Q I told => ?_⟩
  obtain ⟨tabs, told⟩ := told
  refine wpAny_Call_Name_kw (ld_glob I hg hm ?_ dbg1)
  refine PySem.W.callWith_K (h₀ := X.base) I.ok.mod.kin hk ?_ rfl rfl
  show wpAny _ _ (spliced ((false, eval (.Lambda params body scope lpos) X.env) :: backTo pos (starEach [] X.env))) _ _ st
  refine Calls.spliced_cons (df_make I TB cod mem uni tabs hde kwd (fun Q1 => hev st _ Q1) (L.cells I.ok) fun f c' T0 doc pm' ctv H1 sz J xx t1 gf nf ff coo gT => ?_)
  refine Calls.spliced_nil ⟨J.kIn, ?_⟩
  have rc : codeAny (model X.prog X.w) X.A (.call (.ref g) ⟨[.ref f], []⟩) (CR C8.CX0 X.stack X.prog X.w H1 sz Q C8.E0) sz := by
    refine run_ofS (N := Ng) (ps := [a]) (us := [.ref f]) (vs := [.ref f]) lk cg Sg hr J.env0 (bg' sz [.ref f] J.kIn rfl) (.cons rfl .nil) rfl fun hr' => ?_
    obtain ⟨tz, pz, qz⟩ := hG f c' sz H1 Q (fun E H' Q' => t E sl H' Q') (fun W pn xe p1 p2 tk => df_act (tb := t) (i := 0) (T0 := T0) (n := n) J L nx gf nf ff gT (fun doc pm ctv cl => bnd T0 doc pm (.ref c') ctv cl) tk hr' (fun A outer s H E hr2 => hbody A outer s H E f c' hr2) aN va dbg2 dbg3) coo (told H1 xx t1)
    exact ⟨tz, pz.nox, qz⟩
  refine wpAny_call (codeAny_mono rc fun r s2 q => ?_)
  cases r with
  | error e => exact (show False from q).elim
  | ok fl =>
    cases fl with
    | ret u => exact J.after q
    | _ => exact q.elim
/-- g(lambda: body) -/
theorem nf_call {TS : List (Addr × Str)} {TT : (XK → Hp → VK → Prop) → Hp → VK → Prop} {gn a : Str} {g c P : Addr} {m : Nat} {pg : Arguments} {bg : List Stmt} {sg : Scope} {dV kV dcg pmg cdv ctg ocg : Value} {ang odg : Option Addr} {slg : Array (Option Value)} {Ng : List Str}
    {params : Arguments} {body : Expr} {scope : Scope} {t : XK → TE} {p lpos pos : Pos} (hg : Gl X gn) (hm : X.mg gn = some (.ref g)) (hk : PySem.W.keepIn X.K (.ref g) = true)
    (lk : X.K.lookup g = some ⟨ocg, odg, .func (PySem.W.fnOf gn gn pg bg sg dV kV dcg pmg ang cdv ctg), slg⟩) (cg : PySem.W.codeIn X.K cdv gn = true) (bg' : L2.Binds X.K (PySem.W.fnOf gn gn pg bg sg dV kV dcg pmg ang cdv ctg) [a] []) (Sg : FnScope Ng [a] sg) (aN : Ng[0]? = some a) (va : Vis sg a)
    (hG : GivesN X Ng gn sg g cdv bg a (X.env.qual ++ "<lambda>") TT)
    (TB : LamX.TabB X.base X.mg c P) (cod : X.env.code = .ref c) (mem : (P, X.env.qual ++ "<lambda>") ∈ TS) (uni : ∀ p ∈ TS, p.1 = P → p.2 = X.env.qual ++ "<lambda>") (hr : Room (m + 2) X.A) (L : LamS X.env.scope scope) (dfl : defaultsOf params X.env = ([], []))
    (bnd : ∀ (qq : Str) (cl : List (Str × Addr)) (pm cv ctv : Value), bindArgs (PySem.W.kla_fn "<lambda>" qq params body scope cl pm cv ctv) ⟨[], []⟩ = pure [])
    (hbody : ∀ (A : Around) (outer : List Env) (s : Shared) (H : Hp) (E : XK) (f c' : Addr), Room m (A.deeper (lamEnv X scope s.heap.objs.size f c')) → PE (lamCx X A outer s H E scope f c') body (t E))
    (dbg1 : (gn == ("__debug__" : Str)) = false := by decide) (dbg2 : (a == ("__debug__" : Str)) = false := by decide) (dbg3 : (a == ("__classdict__" : Str)) = false := by decide) :
    PE X (.Call (.Name gn p) [.Lambda params body scope lpos] [] pos) (tLam TS TT t) := by
  refine ⟨fun pins st sl H Q I told => ?_⟩
  obtain ⟨tabs, told⟩ := told
  refine wpAny_Call_Name_kw (ld_glob I hg hm ?_ dbg1)
  refine PySem.W.callWith_K (h₀ := X.base) I.ok.mod.kin hk ?_ rfl rfl
  show wpAny _ _ (spliced ((false, eval (.Lambda params body scope lpos) X.env) :: backTo pos (starEach [] X.env))) _ _ st
  refine Calls.spliced_cons (lam_make2 I TB cod mem uni tabs dfl (L.has I.ok) fun f c' pm' ctv H1 sz J xx t1 gf nf ff coo => ?_)
  refine Calls.spliced_nil ⟨J.kIn, ?_⟩
  have rc : codeAny (model X.prog X.w) X.A (.call (.ref g) ⟨[.ref f], []⟩) (CR C8.CX0 X.stack X.prog X.w H1 sz Q C8.E0) sz := by
    refine run_ofS (N := Ng) (ps := [a]) (us := [.ref f]) (vs := [.ref f]) lk cg Sg hr J.env0 (bg' sz [.ref f] J.kIn rfl) (.cons rfl .nil) rfl fun hr' => ?_
    obtain ⟨tz, pz, qz⟩ := hG f c' sz H1 Q (fun E H' Q' => t E sl H' Q') (fun W pn xe p1 p2 tk => nf_act (tb := t) (i := 0) J L gf nf ff (bnd _ _ _ _ _) tk hr' (fun A outer s H E hr2 => hbody A outer s H E f c' hr2) aN va dbg2 dbg3) coo (told H1 xx t1)
    exact ⟨tz, pz.nox, qz⟩
  refine wpAny_call (codeAny_mono rc fun r s2 q => ?_)
  cases r with
  | error e => exact (show False from q).elim
  | ok fl =>
    cases fl with
    | ret u => exact J.after q
    | _ => exact q.elim
end
end MT
/-! a caught error that has its dict: asked for its class, its part read -/
namespace MT
open PySem PySem.Spec PyProof.Rows L2
section
variable {X : Cx} {a : Addr} {oe : Obj} {cls : Value} {d : Option Addr} {pn : List (Addr × Obj)} {e : Expr} {te : TE} {pos : Pos} {n : Str}
theorem pe_xfG (hz : Zc cls d oe) (hf : ∃ vs, oe.data = .fields vs) (he : PE (X.suite a ((a, oe) :: pn)) e te) (hb : attributeBase e n X.env (eval e X.env) = eval e X.env := by rfl) :
    PE (X.suite a ((a, oe) :: pn)) (.Attribute e n pos) (fun σ H Q => ∃ C : Addr, XfC X.K C ∧ PySem.W.findIn X.K (.ref C) n = some none ∧ tXf a cls d C n te σ H Q) :=
  ⟨fun pins st sl H Q I ⟨C, w1, w2, w3⟩ => (pe_xf w1 w2 hz hf he hb).run pins st sl H Q I w3⟩
/-- what is told of the caught error: its class D, its dict -/
def Held (K : PySem.W.Frag) (cls : Value) (d : Option Addr) (H : Hp) (D : Addr) : Prop := cls = .ref D ∧ ExcC K D ∧ ∃ (dd : Addr) (fs : List (Str × V)), d = some dd ∧ H dd = some (.xd fs)
theorem held_kit {pins : List (Addr × Obj)} {st : Shared} {sl : L2.St} {H : Hp} {D : Addr} (hz : Zc cls d oe) (hf : ∃ vs, oe.data = .fields vs) (I : Inv (X.suite a ((a, oe) :: pn)) pins sl H st) (h : Held X.K cls d H D) :
    ∃ P : Heap → Prop, PySem.W.KitX X.K (.ref a) (.ref D) P ∧ P st.heap := by
  obtain ⟨rfl, C, dd, fs, rfl, hd⟩ := h
  obtain ⟨ga, _⟩ := I.pin (a, oe) (List.mem_append_left _ List.mem_cons_self)
  obtain ⟨vs, fv⟩ := hf
  obtain ⟨mA, ns, _⟩ := (show ObjOk X.prog X.w H st.heap dd (.xd fs) from I.hok dd _ hd)
  obtain ⟨od, ho, _⟩ := lookIn_ns ns
  have J : PySem.W.InstAt st.heap a oe D (some od) := ⟨ga, hz.1, by unfold PySem.W.notCls; rw [fv] <;> rfl, by rw [hz.2]; exact ho⟩
  refine ⟨_, PySem.W.kitx_exc ?_ C.hg C.hk C.hs C.ha C.hn C.ht C.hm, J⟩
  obtain ⟨cd, w, _⟩ := PySem.W.any_some C.hd
  rw [w]
  rfl
/-- isinstance(error, class) -/
theorem call_isX1 (hz : Zc cls d oe) (hf : ∃ vs, oe.data = .fields vs) : CallR (X.suite a ((a, oe) :: pn)) (.builtin "isinstance") (fun xs H Q => ∃ (D C : Addr) (b : Bool), xs = [.ref a, .ref C] ∧ Held X.K cls d H D ∧ PySem.W.kitOne X.K (.ref D) (.ref C) = some b ∧ Q (.bl b) H) := by
  intro pins st sl H xs us Q I r h
  obtain ⟨D, C, b, rfl, hh, e, q⟩ := h
  obtain ⟨u1, u2, rfl, r1, r2⟩ := Vals.two r
  cases (show u1 = Value.ref a from r1)
  cases (show u2 = Value.ref C from r2)
  obtain ⟨P, Z, p⟩ := held_kit hz hf I hh
  exact PySem.W.kia_one Z I.kIn p e (fun z => nomatch z) fun tk => ⟨.bl b, H, I.tok tk, rfl, q⟩
/-- isinstance(error, (classes)) -/
theorem call_isX2 (hz : Zc cls d oe) (hf : ∃ vs, oe.data = .fields vs) : CallR (X.suite a ((a, oe) :: pn)) (.builtin "isinstance") (fun xs H Q => ∃ (D tp : Addr) (cs : List Addr) (b : Bool), xs = [.ref a, .ref tp] ∧ H tp = some (.tup (cs.map V.ref)) ∧ Held X.K cls d H D ∧
    PySem.W.kitAny X.K (.ref D) (cs.map Value.ref) = some b ∧ Q (.bl b) H) := by
  intro pins st sl H xs us Q I r h
  obtain ⟨D, tp, cs, b, rfl, ht, hh, e, q⟩ := h
  obtain ⟨u1, u2, rfl, r1, r2⟩ := Vals.two r
  cases (show u1 = Value.ref a from r1)
  cases (show u2 = Value.ref tp from r2)
  obtain ⟨P, Z, p⟩ := held_kit hz hf I hh
  obtain ⟨_, its, rv, o, ho, w1, m, w2⟩ := (show ObjOk X.prog X.w H st.heap tp (.tup (cs.map V.ref)) from I.hok tp _ ht)
  have key : ∀ (cs : List Addr) (its : List Value), Vals (cs.map V.ref) its → its = cs.map Value.ref := by
    intro cs
    induction cs with
    | nil => intro its r; cases r; rfl
    | cons c cs ih =>
      intro its r
      cases r with
      | cons h t => rw [ih _ t, show _ = Value.ref c from h]; rfl
  have ek := key cs its rv
  subst ek
  obtain ⟨o1, o2, o3, o4⟩ := o
  simp only at w1 w2
  subst w1 w2
  exact PySem.W.kia_tup Z I.kIn p ho e (fun z => nomatch z) fun tk => ⟨.bl b, H, I.tok tk, rfl, q⟩
end
/-- one class of the program asked for another -/
theorem kit_ref {K : PySem.W.Frag} {D C : Addr} {b : Bool} (h : D ≠ C) (hc : (PySem.W.clsIn K C).isSome = true) (ht : PySem.W.typeIn K (.ref C) = some (.type "type")) (e : PySem.W.subIn K (.ref D) (.ref C) = some b) : PySem.W.kitOne K (.ref D) (.ref C) = some b := by
  unfold PySem.W.kitOne PySem.W.kitCls
  have ne : (Value.ref D == Value.ref C) = false := beq_eq_false_iff_ne.mpr fun z => h (Value.ref.inj z)
  rw [ne]
  simp [hc, ht, e]
theorem kit_self {K : PySem.W.Frag} {D : Addr} : PySem.W.kitOne K (.ref D) (.ref D) = some true := by
  unfold PySem.W.kitOne
  simp
end MT
/-! data along what makes lambdas -/
namespace MT
open PySem L2 LamX
theorem ext_seq {K : PySem.W.Frag} {H H' : Hp} {a : Addr} {xs : List V} (e : ExtN H H') (h : SqL K H a xs) : SqL K H' a xs := by
  rcases h with (h | ⟨o, h⟩) | h
  · exact .inl (.inl (e _ _ h fun _ z => by cases z))
  · exact .inl (.inr ⟨o, e _ _ h fun _ z => by cases z⟩)
  · exact .inr h
theorem ext_seqT {K : PySem.W.Frag} {H H' : Hp} {a : Addr} {xs : List V} (e : ExtN H H') (h : SqT K H a xs) : SqT K H' a xs := by
  rcases h with (h | ⟨o, h⟩) | h
  · exact .inl (.inl (e _ _ h fun _ z => by cases z))
  · exact .inl (.inr ⟨o, e _ _ h fun _ z => by cases z⟩)
  · exact .inr h
abbrev nowhere : Addr → Prop := fun _ => False
section
variable {K : PySem.W.Frag} {M : Addr → Prop} {H H' : Hp}
mutual
theorem Dv.extR (e : ExtN H H') : ∀ (d : PyData) (v : V), Dv K M H v d → Dv K nowhere H' v d
  | .none, _, h => by cases h; exact .non
  | .bool b, _, h => by cases h; exact .bl b
  | .int i, _, h => by cases h; exact .int i
  | .str x, _, h => by cases h; exact .str x
  | .list ds, _, h => by
    cases h with
    | lst _ s a => exact .lst (fun z => z) (ext_seq e s) (DvAll.extR e ds _ a)
  | .tuple ds, _, h => by
    cases h with
    | tup _ s a => exact .tup (fun z => z) (ext_seqT e s) (DvAll.extR e ds _ a)
  | .dict _, _, h => by
    cases h with
    | dct _ s => exact .dct (fun z => z) (e _ _ s fun _ z => by cases z)
    | dcT _ s => exact .dcT (fun z => z) (e _ _ s fun _ z => by cases z)
theorem DvAll.extR (e : ExtN H H') : ∀ (ds : List PyData) (vs : List V), DvAll K M H vs ds → DvAll K nowhere H' vs ds
  | [], _, h => by cases h; exact .nil
  | d :: ds, _, h => by
    cases h with
    | cons a b => exact .cons (Dv.extR e d _ a) (DvAll.extR e ds _ b)
end
theorem Dv.ext {d : PyData} {v : V} (h : Dv K M H v d) (e : ExtN H H') : Dv K nowhere H' v d := Dv.extR e d v h
theorem DvAll.ext {ds : List PyData} {vs : List V} (h : DvAll K M H vs ds) (e : ExtN H H') : DvAll K nowhere H' vs ds := DvAll.extR e ds vs h
theorem Same.ext (e : Same H H') : ExtN H H' := ExtN.of e
theorem tabs_frm {a : Addr} {P : Addr} {q : Str} (h : H P = some (.tbl #[])) (ne : P ≠ a) (F : Frm (· = a) H H') : H' P = some (.tbl #[]) := F _ _ ne h
theorem tabs_nil {P : Addr} {q : Str} (h : H P = some (.tbl #[])) : Tabs [(P, q)] H := fun p hp => by
  rw [List.mem_singleton.mp hp]
  exact TabS.nil h
end

theorem okGn {P : Program} {w : World} {K : PySem.W.Frag} {mg : Str → Option Value} {base : Heap} {x qual : Str} {st : Stmt} {f : Addr} {fd : FuncData} {N ps : List Str} {k : Nat} {sp : Sp} (F : Fun K x qual st f fd) (S : FnScope N ps (defScope st)) (len : ∀ vs H Q E, sp vs H Q E → vs.length = ps.length)
    (hbody : ∀ (cdv : Value) (A : Around) (outer : List Env) (s : Shared) (H : Hp) (vs : List V) (Q : VK) (E : XK), (A.deeper (PyProof.Rows.envOfC qual (defScope st) s.heap.objs.size f cdv)).guards = some [] → Room k (A.deeper (PyProof.Rows.envOfC qual (defScope st) s.heap.objs.size f cdv)) → sp vs H Q E →
      ∃ t, PSs (cxOf CX0 P w K mg base N qual (defScope st) f cdv A outer s H E).nox (defBody st) t ∧ t { nx := fun _ H' => Q .non H', rt := Q } (L2.start N vs) H) : FnG P w K mg base CX0 (k + 1) f fd ps sp :=
  okG F S len fun cdv A outer s H vs Q E hq hr h => by
    obtain ⟨t, w1, w2⟩ := hbody cdv A outer s H vs Q E hq hr h
    exact ⟨t, w1.nox, w2⟩
end MT
/-! a law's end: its promise told where no repr is under way; one table of code objects -/
namespace MT
open PySem PySem.Spec PyProof.Rows L2
abbrev scriptO (vs : List Value) : Obj := { cls := .type "list", data := .seq vs.toArray }
/-- what is tracked at first: the empty table, and the script's list (if the text's own part doesn't have it) -/
def startH (K : PySem.W.Frag) (PT a : Addr) (vs : List Value) (ns : List Int) : Hp := fun b =>
  if b = PT then some (.tbl #[]) else if b = a ∧ (K.lookup a).isNone = true then some (.frz (scriptO vs) (.lst (ns.map V.int))) else none
section
variable {K : PySem.W.Frag} {PT a b : Addr} {vs : List Value} {ns : List Int}
theorem startH_tab : startH K PT a vs ns PT = some (.tbl #[]) := if_pos rfl
theorem startH_cases {u : HO} (h : startH K PT a vs ns b = some u) : (b = PT ∧ u = .tbl #[]) ∨ (b = a ∧ K.lookup a = none ∧ u = .frz (scriptO vs) (.lst (ns.map V.int))) := by
  unfold startH at h
  split at h
  · rename_i e
    exact .inl ⟨e, (Option.some.inj h).symm⟩
  · split at h
    · rename_i e
      exact .inr ⟨e.1, by simpa using e.2, (Option.some.inj h).symm⟩
    · cases h
theorem startH_none (h1 : b ≠ PT) (h2 : b = a → K.lookup a ≠ none) : startH K PT a vs ns b = none := by
  cases e : startH K PT a vs ns b with
  | none => rfl
  | some u =>
    rcases startH_cases e with ⟨w, _⟩ | ⟨w, n, _⟩
    · exact absurd w h1
    · exact absurd n (h2 w)
end
theorem runG {P : Program} {w : World} {K : PySem.W.Frag} {mg mb : Str → Option Value} {k : Nat} {fa a c PT : Addr} {fd : FuncData} {x : Str} {sp : Sp} {st : Shared} {vs : List Value} {ns : List Int} (inK : K.In st.heap) (glob : st.heap.Ns mainGlobals mg)
    (blt : st.heap.Ns builtinsNs mb) (boot : ∀ x : Str, x ≠ "__name__" → mb x = bootBuiltins x) (lim : st.heap.NoLimit) (gens : st.gens = #[]) (tab : st.heap.get? PT = some { cls := .none, data := .fields #[] }) (noK : K.lookup PT = none) (code : PySem.W.CodeHd st.heap c PT)
    (bmain : ∃ (bm : Addr) (ob : Obj), mg "__builtins__" = some (.ref bm) ∧ bm ≠ builtinsNs ∧ st.heap.get? bm = some ob ∧ ob.cls = .type "module" ∧ ob.dict = some builtinsNs ∧ ob.data = .plain) (obj : st.heap.get? a = some (scriptO vs)) (areI : IntsAre vs ns)
    (len : ns.length ≤ sizeLine) (room : Room k callerA) (prom : ∀ base : Heap, K.In base → base.Ns mainGlobals mg → LamX.TabB base mg c PT → FnG P w K mg base CX0 k fa fd [x] sp) (bind : ∀ (s : Shared) (u : Value), BindsTo s fd ⟨[u], []⟩ [(x, u)])
    (told : ∀ H : Hp, H PT = some (.tbl #[]) → SqL K H a (ns.map V.int) → sp [.ref a] H (fun v _ => v = .bl true) fun _ _ _ => False) :
    codeAny (model P w) callerA (.call (.ref fa) ⟨[.ref a], []⟩) (fun r s' => r = .ok (.ret (.bool true)) ∧ OldK st.heap s'.heap ∧ s'.os = st.os ∧ AllBare s'.gens) st := by
  have rv := vals_ints areI
  have lv := areI.length
  have ne : PT ≠ a := fun z => by rw [z, obj] at tab; cases tab
  obtain ⟨H, eH⟩ : ∃ H, H = startH K PT a vs ns := ⟨_, rfl⟩
  have HP : H PT = some (.tbl #[]) := by rw [eH]; exact startH_tab
  -- what has other data is not tracked
  have free : ∀ {b : Addr} {o : Obj}, st.heap.get? b = some o → o ≠ { cls := .none, data := .fields #[] } → o ≠ scriptO vs → H b = none := fun {b o} e n1 n2 => by
    rw [eH]
    refine startH_none (fun z => n1 ?_) fun z => absurd ?_ n2
    · rw [z, tab] at e; exact (Option.some.inj e).symm
    · rw [z, obj] at e; exact (Option.some.inj e).symm
  have dicts : ∀ {b : Addr} {o : Obj} {es : Array DictEntry} {ep : Nat}, st.heap.get? b = some o → o.data = .dict es ep → H b = none := fun {b o es ep} e d =>
    free e (fun z => by rw [z] at d; cases d) (fun z => by rw [z] at d; cases d)
  have plain : ∀ {b : Addr} {o : Obj}, st.heap.get? b = some o → o.data = .plain → H b = none := fun {b o} e d =>
    free e (fun z => by rw [z] at d; cases d) (fun z => by rw [z] at d; cases d)
  have stay : ∀ {b : Addr} {m : Str → Option Value}, st.heap.Ns b m → (hidT st.heap H).Ns b m := fun {b m} ⟨o, es, ep, e, d, r⟩ => ⟨o, es, ep, hidT_get e (dicts e d), d, r⟩
  have inB : K.In (hidT st.heap H) := fun b o e => hidT_get (inK b o e) (by
    rw [eH]
    refine startH_none (fun z => ?_) fun z q => ?_
    · rw [z, noK] at e; cases e
    · rw [z, q] at e; cases e)
  have sq : SqL K H a (ns.map V.int) := by
    cases q : K.lookup a with
    | none => exact .inl (.inr ⟨scriptO vs, by rw [eH]; unfold startH; rw [if_neg (Ne.symm ne), if_pos ⟨rfl, by rw [q]; rfl⟩]⟩)
    | some o =>
      have e := inK a o q
      rw [obj] at e
      cases e
      exact .inr ⟨_, vs.toArray, _, q, rfl, rfl, rfl, by rw [List.size_toArray, lv]; exact len, by simpa using rv⟩
  have ok : HOk P w H st.heap := fun b u e => by
    rw [eH] at e
    rcases startH_cases e with ⟨rfl, rfl⟩ | ⟨rfl, _, rfl⟩
    · exact tab
    · exact ⟨obj, by rw [List.length_map]; exact len, vs, _, rv, obj⟩
  have tb : LamX.TabB (hidT st.heap H) mg c PT := by
    refine ⟨?_, ?_, fun z => ?_⟩
    · obtain ⟨o, us, file, tf, flags, tg, inF, text, tt, g0, rest⟩ := code
      refine ⟨o, us, file, tf, flags, tg, inF, text, tt, hidT_get g0 (free g0 (fun z => ?_) fun z => ?_), rest⟩
      · have := rest.1
        rw [z] at this
        cases this
      · have := rest.2.1
        rw [z] at this
        cases this
    · obtain ⟨bm, ob, w1, w2, w3, w4, w5, w6⟩ := bmain
      refine ⟨bm, ob, w1, w2, fun z => ?_, fun z => ?_, hidT_get w3 (plain w3 w6), w4, w5, w6⟩
      · obtain ⟨o, es, ep, e, d, _⟩ := glob
        rw [z, e] at w3
        cases w3
        rw [w6] at d
        cases d
      · rw [z, tab] at w3
        cases w3
        cases w6
    · obtain ⟨o, es, ep, e, d, _⟩ := glob
      rw [z, tab] at e
      cases e
      cases d
  have en : Env0 P w K mg (hidT st.heap H) callerA [] st H := ⟨rfl, ⟨inB, stay glob, ⟨mb, stay blt, boot⟩, let ⟨mc, z1, z2⟩ := lim; ⟨mc, stay z1, z2⟩⟩, fun b o e => of_hidT e, Nat.le_of_eq (hidT_size _ _), trivial, fun b z => absurd (show b ∈ ([] : List Addr) from z) (by simp), ok, .of_eq gens⟩
  refine codeAny_mono ((prom _ inB (stay glob) tb).run callerA [] st H ⟨[.ref a], []⟩ [.ref a] [.ref a] _ _ rfl room en (bind st _) (.cons rfl .nil) (told H HP sq)) fun r s' z => ?_
  cases r with
  | error e => exact (show False from z).elim
  | ok fl =>
    cases fl with
    | next => exact z.elim
    | brk => exact z.elim
    | cont => exact z.elim
    | ret u =>
      obtain ⟨v, H', so, bare, un, ok', ru, qv⟩ := z
      obtain rfl : v = .bl true := qv
      obtain rfl : u = Value.bool true := ru
      obtain ⟨more, tm⟩ := un.tbls PT #[] HP
      have g' : s'.heap.get? PT = some { cls := .none, data := .fields (#[] ++ more) } := ok' PT _ tm
      have kept : ∀ b o, b ≠ PT → st.heap.get? b = some o → s'.heap.get? b = some o := fun b o nb e => by
        cases q : H b with
        | none => exact un.keep b o e q (fun z => nomatch (show b ∈ ([] : List Addr) from z)) (by simp)
        | some u =>
          have q0 := q
          rw [eH] at q0
          rcases startH_cases q0 with ⟨w1, _⟩ | ⟨_, _, rfl⟩
          · exact absurd w1 nb
          · have e1 := (ok b _ q).1
            have e2 := (ok' b _ (un.frzs b _ _ q)).1
            rw [e] at e1
            rw [e1]
            exact e2
      refine ⟨rfl, ⟨fun b o e => ?_, fun b o e => ?_⟩, so, bare⟩
      · by_cases nb : b = PT
        · rw [nb, tab] at e
          cases e
          exact .inr (.inl ⟨by rw [nb]; exact (code.tab tab).isCodeTable, rfl, #[], more, rfl, by rw [nb]; exact g'⟩)
        · exact .inl (kept b o nb e)
      · by_cases nb : b = PT
        · exact ⟨_, by rw [nb]; exact g'⟩
        · exact ⟨o, kept b o nb e⟩
end MT
namespace MT
open PySem PySem.Spec PyProof.Rows L2
/-- what the law's end wants at the head's heap -/
def LawG (l : PySem.W.OpenLaw) (w : World) (K : PySem.W.Frag) (k n : Nat) (x : Str) (mg : Str → Option Value) (fa : Addr) (h : Heap) : Prop :=
  ∃ (fd : FuncData) (sp : Sp) (c PT : Addr), h.get? PT = some { cls := .none, data := .fields #[] } ∧ K.lookup PT = none ∧ PySem.W.CodeHd h c PT ∧ (∀ (s : Shared) (u : Value), BindsTo s fd ⟨[u], []⟩ [(x, u)]) ∧
    (∀ (H : Hp) (a : Addr) (ns : List Int), ns.length ≤ n → H PT = some (.tbl #[]) → SqL K H a (ns.map V.int) → sp [.ref a] H (fun v _ => v = .bl true) fun _ _ _ => False) ∧
    ∀ base : Heap, K.In base → base.Ns mainGlobals mg → LamX.TabB base mg c PT → FnG l.prog w K mg base CX0 k fa fd [x] sp
theorem walkG {l : PySem.W.OpenLaw} {n k : Nat} {q : Program} {loose : List Str} {XP : (Str → Option Value) → Heap → Prop} {YP : World → Heap → Prop} {d : DefRec} {K : Params → PySem.W.Frag} {x : Str} (hn : l.most = some n) (big : n ≤ sizeLine) (hdf : d.params.defaults = []) (room : Room k callerA)
    (inK : ∀ (w : World) (h : Heap), YP w h → (K w.params).In h) (F : ∀ (w : World) (mg : Str → Option Value) (fa : Addr) (h : Heap), YP w h → (K w.params).In h → h.Ns mainGlobals mg → mg d.name = some (.ref fa) → LawG l w (K w.params) k n x mg fa h) :
    PySem.W.WalkO q loose XP YP l.row.toRowW d [] (fun f vs => PySem.call f vs) :=
  Att.attach_callB hn hdf fun w s0 s1 mg mb fa o pm cd doc a vs ns G Y _ _ _ gmg gobj gints glen _ gg => by
    have X := inK w _ Y
    obtain ⟨fd, sp, c, PT, w1, w2, w3, w4, w5, w6⟩ := F w mg fa _ Y X G.T.g gmg
    exact runG X G.T.g G.T.b G.T.builtins G.T.nolimit gg w1 w2 w3 G.T.bmain gobj gints (Nat.le_trans glen big) room w6 w4 fun H h1 h2 => w5 H a ns glen h1 h2
/-- what the text says of an error's class, from its single facts -/
theorem errC_mk {K : PySem.W.Frag} {mg : Str → Option Value} {h : Heap} {x : Str} {C CM fI N : Addr} {f : Str} {nm q : Str} {bs : List Value} {sn : List Str} {sub : List Value} {ab : Bool} {col : Option Bool} {dd : Option Addr} {m0 m1 m2 m3 m5 : Option Value} (X : K.In h) (G : h.Ns mainGlobals mg) (gC : PySem.W.nsIn K mainGlobals x = some (some (.ref C)))
    (cl : K.lookup C = some (excClassObj nm q C N bs [.ref CM, .type "ValueError", .type "Exception", .type "BaseException", .type "object"] true sn sub ab col dd m0 m1 m2 m3 m5 "ValueError.__new__"))
    (sa : PySem.W.findIn K (.ref C) "__setattr__" = some (some (.builtin "object.__setattr__"))) (ga : PySem.W.findIn K (.ref C) "__getattribute__" = some (some (.builtin "BaseException.__getattribute__"))) (gg : PySem.W.findIn K (.ref C) "__getattr__" = some none)
    (nf : PySem.W.findIn K (.ref C) f = some none) (ii : PySem.W.findIn K (.ref C) "__init__" = some (some (.ref fI))) (ti : PySem.W.typeIn K (.ref fI) = some (.type "function")) (kC : PySem.W.keepIn K (.ref C) = true) (eC : PySem.W.subIn K (.ref C) (.type "BaseException") = some true)
    (tC : PySem.W.typeIn K (.ref C) = some (.type "type")) (hC : PySem.W.hasDictIn K C = true) (cc : PySem.W.findIn K (.ref C) "__class__" = some (some (.builtin "object.__class__"))) (oo : PySem.W.mroIn K C (.type "object") = some true) : ErrC K mg x C fI f where
  gC := PySem.W.mg_of X G gC
  oex := ⟨⟨nm, q, N, bs, _, sn, sub, ab, col, dd, m0, m1, m2, m3, m5, cl, rfl⟩, sa, eC, tC, kC⟩
  noF := nf
  iC := ii
  tI := ti
  xf := ⟨ga, gg, eC, hC⟩
  cl := cc
  ob := oo
end MT
/-! a caught error that a variable keeps beyond its clause -/
namespace MT
open PySem PySem.Spec PyProof.Rows L2
/-- at a: an error, its class, its dict -/
def keptO (a : Addr) (cls : Value) (d : Option Addr) : HO := .ext fun h => ∃ (o : Obj) (vs : Array Value), h.get? a = some o ∧ Zc cls d o ∧ o.data = .fields vs
theorem keptO_at {P : Program} {w : World} {H : Hp} {h : Heap} {a : Addr} {cls : Value} {d : Option Addr} (hok : HOk P w H h) (e : H a = some (keptO a cls d)) : ∃ (o : Obj) (vs : Array Value), h.get? a = some o ∧ Zc cls d o ∧ o.data = .fields vs := by
  have x : ObjOk P w H h a (.ext fun h => ∃ (o : Obj) (vs : Array Value), h.get? a = some o ∧ Zc cls d o ∧ o.data = .fields vs) := hok a _ e
  exact x.1
theorem keptO_ok {P : Program} {w : World} {H : Hp} {h : Heap} {a : Addr} {cls : Value} {d : Option Addr} {o : Obj} {vs : Array Value} (e : h.get? a = some o) (z : Zc cls d o) (f : o.data = .fields vs) : ObjOk P w H h a (keptO a cls d) :=
  ⟨⟨o, vs, e, z, f⟩, ⟨o, e⟩, fun _ _ ⟨p, us, q, r⟩ k => ⟨p, us, k p q, r⟩⟩
section
variable {X : Cx} {pins : List (Addr × Obj)} {σ : L2.St} {H : Hp} {s : Shared} {a : Addr} {cls : Value} {d : Option Addr}
/-- what is pinned, and was not there when the def began, may be tracked -/
theorem keep_pin {o : Obj} {vs : Array Value} (I : Inv X ((a, o) :: pins) σ H s) (z : Zc cls d o) (f : o.data = .fields vs) (new : X.s_0.heap.get? a = none) (away : ∀ p ∈ X.pn ++ pins, p.1 ≠ a) : Inv X pins σ (upd H a (keptO a cls d)) s := by
  obtain ⟨at_, na, nl, nf, _⟩ := I.pin (a, o) (List.mem_append_right _ List.mem_cons_self)
  have old : ∀ b u, X.s_0.heap.get? b = some u → b ≠ a := fun b u e q => by rw [q, new] at e; cases e
  have had : ∀ b u, H b = some u → b ≠ a := fun b u e q => by rw [q, na] at e; cases e
  refine ⟨I.ok, I.os, I.bare, ⟨I.base.keep, I.base.slot, fun b u e n x => ?_, I.base.there, fun b xs e => ?_, fun b u v e => ?_, fun b ps e => ?_⟩, I.loc, I.cell, ?_, fun x c e => ?_, fun p hp => ?_, fun b u e => ?_, I.len⟩
  · rw [upd_ne (old b u e)]
    exact I.base.free b u e n x
  · have q := I.base.tups b xs e
    rw [upd_ne (had _ _ q)]
    exact q
  · have q := I.base.frzs b u v e
    rw [upd_ne (had _ _ q)]
    exact q
  · obtain ⟨m, q⟩ := I.base.tbls b ps e
    exact ⟨m, by rw [upd_ne (had _ _ q)]; exact q⟩
  · rw [upd_ne (Ne.symm nl)]
    exact I.free
  · obtain ⟨v, u, gu, du⟩ := I.cell x c e
    have ca : c ≠ a := fun q => by
      rw [q, at_] at gu
      cases gu
      rw [f] at du
      cases du
    rw [upd_ne ca]
    exact I.freeC x c e
  · have hm : p ∈ X.pn ++ (a, o) :: pins := by
      rcases List.mem_append.mp hp with q | q
      · exact List.mem_append_left _ q
      · exact List.mem_append_right _ (List.mem_cons_of_mem _ q)
    obtain ⟨w1, w2, w3⟩ := I.pin p hm
    exact ⟨w1, by rw [upd_ne (away p hp)]; exact w2, w3⟩
  · by_cases hb : b = a
    · subst hb
      rw [upd_same] at e
      cases e
      exact keptO_ok at_ z f
    · rw [upd_ne hb] at e
      exact (I.hok b u e).stay (fun _ _ _ q => q) (fun c q => by rw [upd_ne (had _ _ q)]; exact q) (fun c xs q => by rw [upd_ne (had _ _ q)]; exact q)
/-- what is wanted where try lets an error in, whose clause is n2 = n -/
def wKeep (K : PySem.W.Frag) (c : Value) (i j : Nat) (Wout : WX) (D : Ends) : WX := fun cls d σ H =>
  ∃ b, PySem.W.exmOne K cls c = some b ∧ (b = true → ∀ a, H a = none → D.nx (((σ.set i (some (.ref a))).set j (some (.ref a))).set i none) (upd H a (keptO a cls d))) ∧ (b = false → Wout cls d σ H)
end
section
variable {X : Cx} {x n n2 : Str} {c : Value} {i j : Nat} {body : List Stmt} {np p1 p2 p3 pos pos' : Pos} {tb : WX → TS} {Wout : WX}
theorem ps_try_keep (hs : X.stack = X.env :: X.outer) (fr : X.env.frame = some X.env.locals) (nd : X.N.Nodup) (ni : X.N[i]? = some n) (nk : X.env.kindOf n = some .local) (nj : X.N[j]? = some n2) (jk : Loc X.env.scope n2) (jl : X.fn n2 = true ∨ X.env.scope.names.lookup n2 = some .local) (hx : X.ex = []) (vi : Vis X.env.scope n) (hc : Names X x c) (out : Takes X Wout)
    (run : ∀ (W : WX) (pn : List (Addr × Obj)) (xe : Value → Shared → Prop), Takes (X.tr pn xe) W → PassesOwn (model X.prog X.w) X.A X.env xe → PSs (X.tr pn xe) body (tb W)) (dbg : (n == ("__debug__" : Str)) = false := by decide) (dbg2 : (n == ("__classdict__" : Str)) = false := by decide) (sw : swapsWith (.Name n p2) (some (.Name n2 p1)) p3.line X.env = pure false := by rfl) :
    PS X (.Try body [.ExceptHandler (some (.Name x np)) (some n) [.Assign [.Name n2 p1] (.Name n p2) p3] pos'] [] [] pos) (fun D σ H => tb (wKeep X.K c i j Wout D) D σ H) := by
  refine ⟨fun pins st sl H D I told => wpAny_Try_except ?_⟩
  have good := I.ok
  have frames : X.A.frames = some (X.env :: X.outer) := good.frames.trans (by rw [hs])
  refine wpAny_mono ((run (wKeep X.K c i j Wout D) (X.pn ++ pins) (fun e z1 => wpAny (model X.prog X.w) X.A (noteFrame e X.env) (fun _ z2 => wpAny (model X.prog X.w) X.A (setFlight e none) (fun _ z3 =>
    wpAny (model X.prog X.w) X.A (handleBy e X.env [.ExceptHandler (some (.Name x np)) (some n) [.Assign [.Name n2 p1] (.Name n p2) p3] pos']) (SP X pins D) X.xe z3) X.xe z2) X.xe z1) (fun u z air => ?_) PassesOwn.looking).run [] st sl H D (I.toTry _) told) (fun f z1 q => ?_) (fun e z1 q => q)
  · obtain ⟨a, B, sI, ps', sl', H', cls, d, rfl, J', ground, up, sky, na, eos, eg, b, exm, yes, no⟩ := air
    have J : Inv X pins sl' H' sI := J'.ofTry good
    have sky2 : Sky B (X.env :: X.outer) a (Zc cls d) X.env.locals z.heap := hs ▸ sky
    show wpAny (model X.prog X.w) X.A (noteFrame (.ref a) X.env) _ _ _
    refine Sky.land Zc.steady frames fr sky2 fun g3 fly3 up3 => ?_
    have J3 : Inv X pins sl' H' { z with heap := g3 } := J.landed ground fly3.1 (up.trans up3) eos eg
    obtain ⟨o3, v3, at3, zc3, da3⟩ := fly3.there
    have off : a ∉ frs (X.env :: X.outer) := fun m => by
      obtain ⟨_, q, e, nofields⟩ := fly3.2.2.1.mem m
      rw [at3] at e
      cases e
      exact nofields _ da3
    have offL : a ≠ X.env.locals := fun e => off (List.mem_filterMap.mpr ⟨X.env, List.mem_cons_self, by rw [fr, e]⟩)
    have offF : a ∉ X.fs := fun m => by
      obtain ⟨e, h1, h2⟩ := List.mem_filterMap.mp m
      exact off (List.mem_filterMap.mpr ⟨e, List.mem_cons_of_mem _ h1, h2⟩)
    have newI : sI.heap.get? a = none := by
      cases e : sI.heap.get? a with
      | none => rfl
      | some o =>
        have q := ground a o e (by rw [hs]; exact off)
        rw [fly3.2.1] at q
        cases q
    have new0 : X.s_0.heap.get? a = none := by
      cases e : X.s_0.heap.get? a with
      | none => rfl
      | some o =>
        obtain ⟨o', q⟩ := J.base.there a o e (by rw [hx]; exact fun w => nomatch w)
        rw [newI] at q
        cases q
    have away : ∀ p ∈ X.pn ++ pins, p.1 ≠ a := fun p hp e => by
      have q := (J.pin p hp).1
      rw [e, newI] at q
      cases q
    have S3 := J3.suite at3 da3 na offL offF
    refine wpAny_handleBy_cons (codeAny_handlers_test ?_) (fun q => nomatch q)
    have looks : PySem.W.Looks (model X.prog X.w) g3 (typeOf (.ref a)) cls := fun A Q E s k q => wpAny_typeOf_ref (k _ _ at3) (by rw [zc3.1]; exact q)
    have matches_ := PySem.W.exm_one (M := model X.prog X.w) J3.kIn looks exm
    have named : ∀ {Q E : Value → Shared → Prop}, Q c { z with heap := g3 } → wpAny (model X.prog X.w) (X.A.mark (some (.ref a))) (eval (.Name x np) X.env) Q E { z with heap := g3 } := fun {Q E} q => by
      obtain ⟨g, dg, m | ⟨m, v, nn⟩⟩ := hc
      · exact ld_glob (X := X.suite a ((a, o3) :: (X.pn ++ pins))) S3 g m q dg
      · exact ld_blt (X := X.suite a ((a, o3) :: (X.pn ++ pins))) S3 g m v q nn dg
    refine named (matches_.here ?_)
    cases b with
    | false =>
      show wpAny _ X.A (handleBy (.ref a) X.env []) _ _ _
      refine wpAny_handleBy_nil ?_
      obtain ⟨_, _, _, o4, v4, T, oT, ts', at4, zc4, da4, one, rest⟩ := id fly3
      unfold PySem.passOn
      refine wpAny_bind (wpAny_field at4 da4 one ?_)
      rw [if_neg (show ¬ ((Value.ref T == Value.none) = true) from by simp)]
      have last : wpAny (model X.prog X.w) X.A (setFlight (.ref a) X.env.frame) (fun _ z4 => wpAny (model X.prog X.w) X.A (throw (.ref a) : Sem Flow) (SP X pins D) X.xe z4) X.xe { z with heap := g3 } := by
        rw [fr]
        refine HandSPX.setFlight_upZ fly3 fun g4 held4 up4 => wpAny_throw (out _ _ ?_)
        exact ⟨a, B, sI, pins, sl', H', cls, d, rfl, J, ground, (up.trans up3).trans up4, .inr (.inr (hs.symm ▸ held4)), na, eos, eg, no rfl⟩
      first
        | exact wpAny_bind (wpAny_pure (wpAny_bind last))
        | exact wpAny_bind last
    | true =>
      refine codeAny_handlers_suite_as (HandSPX.lands_againZ fly3 fun g4 fly4 up4 => ?_)
      have J4 : Inv X pins sl' H' { z with heap := g4 } := J.landed ground fly4.1 ((up.trans up3).trans up4) eos eg
      obtain ⟨o4, v4, at4, zc4, da4⟩ := fly4.there
      have S4 := J4.suite at4 da4 na offL offF
      refine store_ok (X := X.suite a ((a, o4) :: (X.pn ++ pins))) (v := .ref a) S4 nd ni (.inl nk) rfl (fun z5 S5 => ?_) (.inr nk)
      have w := (pss_one (ps_set (X := X.suite a ((a, o4) :: (X.pn ++ pins))) (pos := p3) nd nj jk (pe_var (pos := p2) ni vi dbg dbg2) sw jl)).run [] z5 _ H' { nx := fun sl2 H2 => sl2 = (sl'.set i (some (.ref a))).set j (some (.ref a)) ∧ H2 = H', rt := fun _ _ => False } S5 ⟨.ref a, by
        have li : i < sl'.length := by rw [J.len]; exact (List.getElem?_eq_some_iff.mp ni).1
        rw [List.getElem?_set_self li], rfl, rfl⟩
      refine wpAny_mono w (fun f z6 q => ?_) (fun _ _ q => False.elim q)
      cases f with
      | next =>
        obtain ⟨sl6, H6, S6, rfl, rfl⟩ := q
        have P6 : Inv X ((a, o4) :: pins) ((sl'.set i (some (.ref a))).set j (some (.ref a))) H6 z6 := ⟨good, S6.os, S6.bare, S6.base, S6.loc, S6.cell, S6.free, S6.freeC, fun p hp => S6.pin p (by
          rw [List.append_nil]
          rcases List.mem_append.mp hp with m | m
          · exact List.mem_cons_of_mem _ (List.mem_append_left _ m)
          · rcases List.mem_cons.mp m with m | m
            · rw [m]; exact List.mem_cons_self
            · exact List.mem_cons_of_mem _ (List.mem_append_right _ m)), S6.hok, S6.len⟩
        exact gone_ok P6 nd ni nk fun z7 P7 => ⟨_, _, keep_pin P7 zc4 da4 new0 away, yes rfl a na⟩
      | brk => exact q.elim fun _ q => q.elim fun _ q => q.2.elim
      | cont => exact q.elim fun _ q => q.elim fun _ q => q.2.elim
      | ret u => exact q.elim fun _ q => q.elim fun _ q => q.elim fun _ q => q.2.2.elim
  · cases f with
    | next =>
      obtain ⟨sl', H', J', w⟩ := q
      exact wpAny_execs_nil ⟨sl', H', J'.ofTry good, w⟩
    | brk =>
      obtain ⟨sl', H', J', w⟩ := q
      exact ⟨sl', H', J'.ofTry good, w⟩
    | cont =>
      obtain ⟨sl', H', J', w⟩ := q
      exact ⟨sl', H', J'.ofTry good, w⟩
    | ret u =>
      obtain ⟨v, sl', H', J', r, w⟩ := q
      exact ⟨v, sl', H', J'.ofTry good, r, w⟩
end

/-! ### .. asked for its class, its part read -/
section
variable {X : Cx} {pins : List (Addr × Obj)} {sl : L2.St} {H : Hp} {st : Shared} {a : Addr} {e : Expr} {te : TE} {pos : Pos} {n : Str}
theorem kept_kit {D dd : Addr} {fs : List (Str × V)} (I : Inv X pins sl H st) (k : H a = some (keptO a (.ref D) (some dd))) (C : ExcC X.K D) (hd : H dd = some (.xd fs)) : ∃ P : Heap → Prop, PySem.W.KitX X.K (.ref a) (.ref D) P ∧ P st.heap := by
  obtain ⟨o, vs, ga, z, f⟩ := keptO_at I.hok k
  obtain ⟨mA, ns, _⟩ := (show ObjOk X.prog X.w H st.heap dd (.xd fs) from I.hok dd _ hd)
  obtain ⟨od, ho, _⟩ := lookIn_ns ns
  have J : PySem.W.InstAt st.heap a o D (some od) := ⟨ga, z.1, by unfold PySem.W.notCls; rw [f] <;> rfl, by rw [z.2]; exact ho⟩
  refine ⟨_, PySem.W.kitx_exc ?_ C.hg C.hk C.hs C.ha C.hn C.ht C.hm, J⟩
  obtain ⟨cd, w, _⟩ := PySem.W.any_some C.hd
  rw [w]
  rfl
/-- what isinstance of None, or of a kept error, tells -/
def Tell (K : PySem.W.Frag) (H : Hp) (v : V) (C : Addr) (b : Bool) : Prop := (v = .non ∧ PySem.W.kitOne K (.type "NoneType") (.ref C) = some b) ∨
  ∃ (a D dd : Addr) (fs : List (Str × V)), v = .ref a ∧ H a = some (keptO a (.ref D) (some dd)) ∧ H dd = some (.xd fs) ∧ ExcC K D ∧ PySem.W.kitOne K (.ref D) (.ref C) = some b
theorem call_isK : CallR X (.builtin "isinstance") (fun xs H Q => ∃ (v : V) (C : Addr) (b : Bool), xs = [v, .ref C] ∧ Tell X.K H v C b ∧ Q (.bl b) H) := by
  intro pins st sl H xs us Q I r h
  obtain ⟨v, C, b, rfl, t, q⟩ := h
  obtain ⟨u1, u2, rfl, r1, r2⟩ := Vals.two r
  cases (show u2 = Value.ref C from r2)
  rcases t with ⟨rfl, e⟩ | ⟨a, D, dd, fs, rfl, k, hd, hc, e⟩
  · cases (show u1 = Value.none from r1)
    exact PySem.W.kia_one PySem.W.kitx_none I.kIn True.intro e (fun z => nomatch z) fun tk => ⟨.bl b, H, I.tok tk, rfl, q⟩
  · cases (show u1 = Value.ref a from r1)
    obtain ⟨P, Z, p⟩ := kept_kit I k hc hd
    exact PySem.W.kia_one Z I.kIn p e (fun z => nomatch z) fun tk => ⟨.bl b, H, I.tok tk, rfl, q⟩
theorem pe_xfK (he : PE X e te) (hb : attributeBase e n X.env (eval e X.env) = eval e X.env := by rfl) :
    PE X (.Attribute e n pos) (fun σ H Q => te σ H fun x H1 => ∃ (a C dd : Addr) (fs : List (Str × V)) (v : V), x = .ref a ∧ H1 a = some (keptO a (.ref C) (some dd)) ∧ XfC X.K C ∧ PySem.W.findIn X.K (.ref C) n = some none ∧ H1 dd = some (.xd fs) ∧ fs.lookup n = some v ∧ Q v H1) := by
  refine ⟨fun pins st sl H Q I h => attr_of hb (thn (he.run pins st sl H _ I h) fun u s1 told => ?_)⟩
  obtain ⟨x, H1, I1, rx, a, C, dd, fs, v, rfl, k, T, no, hd, l, q⟩ := told
  obtain rfl : u = Value.ref a := rx
  obtain ⟨o, vs, ga, z, f⟩ := keptO_at I1.hok k
  obtain ⟨mA, ns, own⟩ := (show ObjOk X.prog X.w H1 s1.heap dd (.xd fs) from I1.hok dd _ hd)
  obtain ⟨od, ho, lk⟩ := lookIn_ns ns
  obtain ⟨w, hw, rw_⟩ := RelO.some_of (v := v) (o := mA n) (by rw [← l]; exact own n)
  have J : PySem.W.InstAt s1.heap a o C (some od) := ⟨ga, z.1, by unfold PySem.W.notCls; rw [f] <;> rfl, by rw [z.2]; exact ho⟩
  exact HandSPX.exc_get I1.kIn J T.ga T.gg T.exC (PySem.W.findObj_own T.hdC no rfl (by rw [lk, hw])) (handed_of rw_) ⟨v, H1, I1.tok _, rw_, q⟩
end
end MT
/-! errors of two parts; what stays but for tables; a draw of a text's sign -/
namespace MT
open PySem L2 LamX
/-- an error's own __init__ that keeps two parts -/
def spInit2 (K : PySem.W.Frag) (f g : Str) : Sp := fun vs H Q _ => ∃ (a C : Addr) (p q : V), vs = [.ref a, p, q] ∧ OexC K C ∧ PySem.W.findIn K (.ref C) f = some none ∧ PySem.W.findIn K (.ref C) g = some none ∧ H a = some (exo a C none) ∧
  ∀ dx, H dx = none → dx ≠ a → Q .non (upd (upd (upd H dx (exd dx [(f, p)])) a (exo a C (some dx))) dx (exd dx [(g, q), (f, p)]))
structure ErrC2 (K : PySem.W.Frag) (mg : Str → Option Value) (x : Str) (C fI : Addr) (f g : Str) : Prop where
  one : ErrC K mg x C fI f
  noG : PySem.W.findIn K (.ref C) g = some none
def tMkE2 (C : Addr) (f g : Str) (ta : TA) : L2.St → Hp → XK → Prop := fun σ H Q => ta σ H fun vs H1 => ∃ p q, vs = [p, q] ∧ ∀ d H2, New H1 H2 d (.xd [(g, q), (f, p)]) → Q (.ref C) (some d) H2
theorem mk_new2 {H : Hp} {a dx C : Addr} {f g : Str} {p q : V} (n : H a = none) (nx : H dx = none) (ne : dx ≠ a) :
    New H (upd (del (upd (upd (upd (upd H a (exo a C none)) dx (exd dx [(f, p)])) a (exo a C (some dx))) dx (exd dx [(g, q), (f, p)])) a) dx (.xd [(g, q), (f, p)])) dx (.xd [(g, q), (f, p)]) := by
  refine ⟨fun c o e => ?_, upd_same, nx⟩
  have h1 : c ≠ a := ne_of_none e n
  have h2 : c ≠ dx := ne_of_none e nx
  rw [upd_ne h2, del_ne h1, upd_ne h2, upd_ne h1, upd_ne h2, upd_ne h1]
  exact e
section
variable {X : Cx} {x f g : Str} {C fI : Addr} {k : Nat} {fd : FuncData} {e : Expr} {es : List Expr} {ta : TA} {p pos : Pos}
theorem pmk_err2 {CX : CXT} (T : ErrC2 X.K X.mg x C fI f g) (F : FnOk X.prog X.w X.K X.mg X.base CX k fI fd ["self", f, g] (spInit2 X.K f g)) (hr : Room (k + 1) X.A) (hb : Binds X.K fd ["self", f, g] []) (hx : Passes CX X (fun _ _ _ => False)) (hg : Gl X x) (ha : PA X (e :: es) ta)
    (hdb : (x == ("__debug__" : Str)) = false := by decide) (he : starEach (e :: es) X.env = (false, eval e X.env) :: starEach es X.env := by rfl) (hpl : (backTo pos (starEach es X.env)).any (·.1) = false := by rfl) :
    PMk X (.Call (.Name x p) (e :: es) [] pos) (tMkE2 C f g ta) := by
  intro pins s σ H Q I h
  refine pmk_oex T.one.oex T.one.iC T.one.tI F hr hb .nil hx hg T.one.gC (PA.cl ha) hdb he hpl pins s σ H Q I ⟨_, fun vs H1 z => ?_, h⟩
  obtain ⟨y, v, rfl, q⟩ := z
  refine ⟨by show 2 ≤ 1000; decide, fun a na => ⟨a, C, y, v, rfl, T.one.oex, T.one.noF, T.noG, upd_same, fun dx nx ne => ?_⟩⟩
  rw [upd_ne ne] at nx
  exact ⟨rfl, dx, [(g, v), (f, y)], by rw [upd_ne (Ne.symm ne), upd_same], upd_same, nx, q dx _ (mk_new2 na nx ne)⟩
end
/-! ### all but the tables stays -/
/-- all but what M names, and the tables, stays -/
def Fx (M : Addr → Prop) (H H' : Hp) : Prop := ∀ c o, ¬ M c → H c = some o → (∀ ps, o ≠ .tbl ps) → H' c = some o
theorem Fx.refl {M : Addr → Prop} {H : Hp} : Fx M H H := fun _ _ _ h _ => h
theorem Fx.trans {M : Addr → Prop} {H H1 H2 : Hp} (a : Fx M H H1) (b : Fx M H1 H2) : Fx M H H2 := fun c o n h t => b c o n (a c o n h t) t
theorem fx_frm {M : Addr → Prop} {H H' : Hp} (a : Frm M H H') : Fx M H H' := fun c o n h _ => a c o n h
theorem fx_same {M : Addr → Prop} {H H' : Hp} (a : Same H H') : Fx M H H' := fun c o _ h _ => a c o h
theorem fx_ext {M : Addr → Prop} {H H' : Hp} (a : ExtN H H') : Fx M H H' := fun c o _ h t => a c o h t
theorem Fx.seq {M : Addr → Prop} {K : PySem.W.Frag} {H H' : Hp} {a : Addr} {xs : List V} (e : Fx M H H') (n : ¬ M a) (h : SqL K H a xs) : SqL K H' a xs := by
  rcases h with (h | ⟨o, h⟩) | h
  · exact .inl (.inl (e _ _ n h fun _ z => by cases z))
  · exact .inl (.inr ⟨o, e _ _ n h fun _ z => by cases z⟩)
  · exact .inr h
theorem Fx.seqT {M : Addr → Prop} {K : PySem.W.Frag} {H H' : Hp} {a : Addr} {xs : List V} (e : Fx M H H') (n : ¬ M a) (h : SqT K H a xs) : SqT K H' a xs := by
  rcases h with (h | ⟨o, h⟩) | h
  · exact .inl (.inl (e _ _ n h fun _ z => by cases z))
  · exact .inl (.inr ⟨o, e _ _ n h fun _ z => by cases z⟩)
  · exact .inr h
section
variable {K : PySem.W.Frag} {M : Addr → Prop} {H H' : Hp}
mutual
theorem Dv.fx (F : Fx M H H') : ∀ (d : PyData) (v : V), Dv K M H v d → Dv K M H' v d
  | .none, _, h => by cases h; exact .non
  | .bool b, _, h => by cases h; exact .bl b
  | .int i, _, h => by cases h; exact .int i
  | .str x, _, h => by cases h; exact .str x
  | .list ds, _, h => by
    cases h with
    | lst n s a => exact .lst n (F.seq n s) (DvAll.fx F ds _ a)
  | .tuple ds, _, h => by
    cases h with
    | tup n s a => exact .tup n (F.seqT n s) (DvAll.fx F ds _ a)
  | .dict _, _, h => by
    cases h with
    | dct n s => exact .dct n (F _ _ n s fun _ z => by cases z)
    | dcT n s => exact .dcT n (F _ _ n s fun _ z => by cases z)
theorem DvAll.fx (F : Fx M H H') : ∀ (ds : List PyData) (vs : List V), DvAll K M H vs ds → DvAll K M H' vs ds
  | [], _, h => by cases h; exact .nil
  | d :: ds, _, h => by
    cases h with
    | cons a b => exact .cons (Dv.fx F d _ a) (DvAll.fx F ds _ b)
end
theorem Dv.fm {d : PyData} {v : V} (h : Dv K M H v d) (F : Fx M H H') : Dv K M H' v d := Dv.fx F d v h
theorem DvAll.fm {ds : List PyData} {vs : List V} (h : DvAll K M H vs ds) (F : Fx M H H') : DvAll K M H' vs ds := DvAll.fx F ds vs h
end
theorem Sx.ext {a b : Addr} {cs : List Int} {n : Nat} {H H' : Hp} (S : Sx a b cs n H) (e : ExtN H H') : Sx a b cs n H' := by
  obtain ⟨t, r, S, h⟩ := S
  exact ⟨t, r, ⟨e _ _ S.ha (fun _ z => by cases z), e _ _ S.hb (fun _ z => by cases z), S.ht, S.hr⟩, h⟩
theorem lst_tbl {xs : List V} {ps : Array Value} : HO.lst xs ≠ .tbl ps := fun z => by cases z
/-- the tables stay where a list is written -/
theorem tabs_frm' {TS : List (Addr × Str)} {a : Addr} {xs : List V} {H H' : Hp} (t : Tabs TS H) (F : Frm (· = a) H H') (ha : H a = some (.lst xs)) : Tabs TS H' := fun p hp => by
  obtain ⟨ps, h1, h2, h3⟩ := t p hp
  refine ⟨ps, F _ _ (fun z => ?_) h1, h2, fun pos cv hc => ?_⟩
  · rw [z, ha] at h1
    cases h1
  · obtain ⟨c, e1, e2⟩ := h3 pos cv hc
    refine ⟨c, e1, F _ _ (fun z => ?_) e2⟩
    rw [z, ha] at e2
    cases Option.some.inj e2
theorem tabs_draw {TS : List (Addr × Str)} {a b : Addr} {cs : List Int} {n : Nat} {H H' : Hp} (t : Tabs TS H) (F : Frm (· = a) H H') (S : Sx a b cs n H) : Tabs TS H' := by
  obtain ⟨_, _, S, _⟩ := S
  exact tabs_frm' t F S.ha
/-! ### one of a list, or of a text's signs -/
def spPickA (K : PySem.W.Frag) : Sp := fun vs H Q E => spPick K vs H Q E ∨ ∃ (a b : Addr) (cs : List Int) (n : Nat) (z : Str), vs = [.ref a, .str z] ∧ Sx a b cs n H ∧ n ≤ 1000000 ∧ 0 < z.length ∧ z.length ≤ 1000 ∧
  ∀ H' c, Frm (· = a) H H' → Sx a b cs (n + 1) H' → c ∈ z.cps.toList → Q (.str ⟨#[c]⟩) H'
theorem ix_or {X : Cx} {r1 r2 : V → V → Hp → VK → Prop} (h1 : IxR X r1) (h2 : IxR X r2) : IxR X (fun x y H Q => r1 x y H Q ∨ r2 x y H Q) := by
  intro va sc pins s σ H x y v u Q I rx ry h e
  rcases h with h | h
  · exact h1 va sc pins s σ H x y v u Q I rx ry h e
  · exact h2 va sc pins s σ H x y v u Q I rx ry h e
theorem call_or {X : Cx} {f : Value} {r1 r2 : List V → Hp → VK → Prop} (h1 : CallR X f r1) (h2 : CallR X f r2) : CallR X f (fun xs H Q => r1 xs H Q ∨ r2 xs H Q) := by
  intro pins s σ H xs us Q I r h
  rcases h with h | h
  · exact h1 pins s σ H xs us Q I r h
  · exact h2 pins s σ H xs us Q I r h
theorem sign_some {z : Str} {d : Int} (h0 : 0 ≤ d) (h1 : d < (z.length : Int)) : ∃ c, c ∈ z.cps.toList ∧ atI z.cps.toList d = some c := by
  obtain ⟨j, rfl⟩ : ∃ j : Nat, d = j := ⟨_, (Int.toNat_of_nonneg h0).symm⟩
  have hj : j < z.cps.toList.length := by
    have : z.length = z.cps.toList.length := TL.len_tl z
    omega
  exact ⟨_, List.getElem_mem hj, atI_nat (List.getElem?_eq_getElem hj)⟩
end MT
/-! a law's end, with any number of tables of code objects -/
namespace MT
open PySem PySem.Spec PyProof.Rows L2
def startHs (K : PySem.W.Frag) (Ps : List Addr) (a : Addr) (vs : List Value) (ns : List Int) : Hp := fun b =>
  if b ∈ Ps then some (.tbl #[]) else if b = a ∧ (K.lookup a).isNone = true then some (.frz (scriptO vs) (.lst (ns.map V.int))) else none
section
variable {K : PySem.W.Frag} {Ps : List Addr} {a b : Addr} {vs : List Value} {ns : List Int}
theorem startHs_tab (h : b ∈ Ps) : startHs K Ps a vs ns b = some (.tbl #[]) := if_pos h
theorem startHs_cases {u : HO} (h : startHs K Ps a vs ns b = some u) : (b ∈ Ps ∧ u = .tbl #[]) ∨ (b = a ∧ K.lookup a = none ∧ u = .frz (scriptO vs) (.lst (ns.map V.int))) := by
  unfold startHs at h
  split at h
  · rename_i e
    exact .inl ⟨e, (Option.some.inj h).symm⟩
  · split at h
    · rename_i e
      exact .inr ⟨e.1, by simpa using e.2, (Option.some.inj h).symm⟩
    · cases h
theorem startHs_none (h1 : b ∉ Ps) (h2 : b = a → K.lookup a ≠ none) : startHs K Ps a vs ns b = none := by
  cases e : startHs K Ps a vs ns b with
  | none => rfl
  | some u =>
    rcases startHs_cases e with ⟨w, _⟩ | ⟨w, n, _⟩
    · exact absurd w h1
    · exact absurd n (h2 w)
end
theorem runGs {P : Program} {w : World} {K : PySem.W.Frag} {mg mb : Str → Option Value} {k : Nat} {fa a : Addr} {cp : List (Addr × Addr)} {fd : FuncData} {x : Str} {sp : Sp} {st : Shared} {vs : List Value} {ns : List Int} (inK : K.In st.heap) (glob : st.heap.Ns mainGlobals mg)
    (blt : st.heap.Ns builtinsNs mb) (boot : ∀ x : Str, x ≠ "__name__" → mb x = bootBuiltins x) (lim : st.heap.NoLimit) (gens : st.gens = #[]) (tab : ∀ q ∈ cp, st.heap.get? q.2 = some { cls := .none, data := .fields #[] }) (noK : ∀ q ∈ cp, K.lookup q.2 = none) (code : ∀ q ∈ cp, PySem.W.CodeHd st.heap q.1 q.2)
    (bmain : ∃ (bm : Addr) (ob : Obj), mg "__builtins__" = some (.ref bm) ∧ bm ≠ builtinsNs ∧ st.heap.get? bm = some ob ∧ ob.cls = .type "module" ∧ ob.dict = some builtinsNs ∧ ob.data = .plain) (obj : st.heap.get? a = some (scriptO vs)) (areI : IntsAre vs ns)
    (len : ns.length ≤ sizeLine) (room : Room k callerA) (prom : ∀ base : Heap, K.In base → base.Ns mainGlobals mg → (∀ q ∈ cp, LamX.TabB base mg q.1 q.2) → FnG P w K mg base CX0 k fa fd [x] sp) (bind : ∀ (s : Shared) (u : Value), BindsTo s fd ⟨[u], []⟩ [(x, u)])
    (told : ∀ H : Hp, (∀ q ∈ cp, H q.2 = some (.tbl #[])) → SqL K H a (ns.map V.int) → sp [.ref a] H (fun v _ => v = .bl true) fun _ _ _ => False) :
    codeAny (model P w) callerA (.call (.ref fa) ⟨[.ref a], []⟩) (fun r s' => r = .ok (.ret (.bool true)) ∧ OldK st.heap s'.heap ∧ s'.os = st.os ∧ AllBare s'.gens) st := by
  have rv := vals_ints areI
  have lv := areI.length
  obtain ⟨Ps, ePs⟩ : ∃ Ps, Ps = cp.map (·.2) := ⟨_, rfl⟩
  have inP : ∀ {b : Addr}, b ∈ Ps → ∃ q ∈ cp, q.2 = b := fun {b} h => by
    rw [ePs] at h
    exact List.mem_map.mp h
  have tabP : ∀ {b : Addr}, b ∈ Ps → st.heap.get? b = some { cls := .none, data := .fields #[] } := fun {b} h => by
    obtain ⟨q, hq, e⟩ := inP h
    rw [← e]
    exact tab q hq
  have ne : ∀ {b : Addr}, b ∈ Ps → b ≠ a := fun {b} h z => by
    have t := tabP h
    rw [z, obj] at t
    cases t
  obtain ⟨H, eH⟩ : ∃ H, H = startHs K Ps a vs ns := ⟨_, rfl⟩
  have HP : ∀ {b : Addr}, b ∈ Ps → H b = some (.tbl #[]) := fun {b} h => by rw [eH]; exact startHs_tab h
  -- what has other data is not tracked
  have free : ∀ {b : Addr} {o : Obj}, st.heap.get? b = some o → o ≠ { cls := .none, data := .fields #[] } → o ≠ scriptO vs → H b = none := fun {b o} e n1 n2 => by
    rw [eH]
    refine startHs_none (fun z => n1 ?_) fun z => absurd ?_ n2
    · have t := tabP z
      rw [t] at e
      exact (Option.some.inj e).symm
    · rw [z, obj] at e; exact (Option.some.inj e).symm
  have dicts : ∀ {b : Addr} {o : Obj} {es : Array DictEntry} {ep : Nat}, st.heap.get? b = some o → o.data = .dict es ep → H b = none := fun {b o es ep} e d =>
    free e (fun z => by rw [z] at d; cases d) (fun z => by rw [z] at d; cases d)
  have plain : ∀ {b : Addr} {o : Obj}, st.heap.get? b = some o → o.data = .plain → H b = none := fun {b o} e d =>
    free e (fun z => by rw [z] at d; cases d) (fun z => by rw [z] at d; cases d)
  have stay : ∀ {b : Addr} {m : Str → Option Value}, st.heap.Ns b m → (hidT st.heap H).Ns b m := fun {b m} ⟨o, es, ep, e, d, r⟩ => ⟨o, es, ep, hidT_get e (dicts e d), d, r⟩
  have inB : K.In (hidT st.heap H) := fun b o e => hidT_get (inK b o e) (by
    rw [eH]
    refine startHs_none (fun z => ?_) fun z q => ?_
    · obtain ⟨q, hq, eq⟩ := inP z
      have t := noK q hq
      rw [eq, e] at t
      cases t
    · rw [z, q] at e; cases e)
  have sq : SqL K H a (ns.map V.int) := by
    cases q : K.lookup a with
    | none => exact .inl (.inr ⟨scriptO vs, by rw [eH]; unfold startHs; rw [if_neg (fun z => ne z rfl), if_pos ⟨rfl, by rw [q]; rfl⟩]⟩)
    | some o =>
      have e := inK a o q
      rw [obj] at e
      cases e
      exact .inr ⟨_, vs.toArray, _, q, rfl, rfl, rfl, by rw [List.size_toArray, lv]; exact len, by simpa using rv⟩
  have ok : HOk P w H st.heap := fun b u e => by
    rw [eH] at e
    rcases startHs_cases e with ⟨hb, rfl⟩ | ⟨rfl, _, rfl⟩
    · exact tabP hb
    · exact ⟨obj, by rw [List.length_map]; exact len, vs, _, rv, obj⟩
  have tb : ∀ q ∈ cp, LamX.TabB (hidT st.heap H) mg q.1 q.2 := fun q hq => by
    have tq := tab q hq
    refine ⟨?_, ?_, fun z => ?_⟩
    · obtain ⟨o, us, file, tf, flags, tg, inF, text, tt, g0, rest⟩ := code q hq
      refine ⟨o, us, file, tf, flags, tg, inF, text, tt, hidT_get g0 (free g0 (fun z => ?_) fun z => ?_), rest⟩
      · have := rest.1
        rw [z] at this
        cases this
      · have := rest.2.1
        rw [z] at this
        cases this
    · obtain ⟨bm, ob, w1, w2, w3, w4, w5, w6⟩ := bmain
      refine ⟨bm, ob, w1, w2, fun z => ?_, fun z => ?_, hidT_get w3 (plain w3 w6), w4, w5, w6⟩
      · obtain ⟨o, es, ep, e, d, _⟩ := glob
        rw [z, e] at w3
        cases w3
        rw [w6] at d
        cases d
      · rw [z, tq] at w3
        cases w3
        cases w6
    · obtain ⟨o, es, ep, e, d, _⟩ := glob
      rw [z, tq] at e
      cases e
      cases d
  have en : Env0 P w K mg (hidT st.heap H) callerA [] st H := ⟨rfl, ⟨inB, stay glob, ⟨mb, stay blt, boot⟩, let ⟨mc, z1, z2⟩ := lim; ⟨mc, stay z1, z2⟩⟩, fun b o e => of_hidT e, Nat.le_of_eq (hidT_size _ _), trivial, fun b z => absurd (show b ∈ ([] : List Addr) from z) (by simp), ok, .of_eq gens⟩
  refine codeAny_mono ((prom _ inB (stay glob) tb).run callerA [] st H ⟨[.ref a], []⟩ [.ref a] [.ref a] _ _ rfl room en (bind st _) (.cons rfl .nil) (told H (fun q hq => HP (by rw [ePs]; exact List.mem_map.mpr ⟨q, hq, rfl⟩)) sq)) fun r s' z => ?_
  cases r with
  | error e => exact (show False from z).elim
  | ok fl =>
    cases fl with
    | next => exact z.elim
    | brk => exact z.elim
    | cont => exact z.elim
    | ret u =>
      obtain ⟨v, H', so, bare, un, ok', ru, qv⟩ := z
      obtain rfl : v = .bl true := qv
      obtain rfl : u = Value.bool true := ru
      have grown : ∀ {b : Addr}, b ∈ Ps → ∃ more : Array Value, s'.heap.get? b = some { cls := .none, data := .fields (#[] ++ more) } := fun {b} h => by
        obtain ⟨more, tm⟩ := un.tbls b #[] (HP h)
        exact ⟨more, ok' b _ tm⟩
      have kept : ∀ b o, b ∉ Ps → st.heap.get? b = some o → s'.heap.get? b = some o := fun b o nb e => by
        cases q : H b with
        | none => exact un.keep b o e q (fun z => nomatch (show b ∈ ([] : List Addr) from z)) (by simp)
        | some u =>
          have q0 := q
          rw [eH] at q0
          rcases startHs_cases q0 with ⟨w1, _⟩ | ⟨_, _, rfl⟩
          · exact absurd w1 nb
          · have e1 := (ok b _ q).1
            have e2 := (ok' b _ (un.frzs b _ _ q)).1
            rw [e] at e1
            rw [e1]
            exact e2
      refine ⟨rfl, ⟨fun b o e => ?_, fun b o e => ?_⟩, so, bare⟩
      · by_cases nb : b ∈ Ps
        · have t := tabP nb
          rw [t] at e
          cases e
          obtain ⟨q, hq, eq⟩ := inP nb
          obtain ⟨more, g'⟩ := grown nb
          exact .inr (.inl ⟨by rw [← eq]; exact ((code q hq).tab (tab q hq)).isCodeTable, rfl, #[], more, rfl, g'⟩)
        · exact .inl (kept b o nb e)
      · by_cases nb : b ∈ Ps
        · obtain ⟨more, g'⟩ := grown nb
          exact ⟨_, g'⟩
        · exact ⟨o, kept b o nb e⟩
/-- what the law's end wants at the head's heap -/
def LawGs (l : PySem.W.OpenLaw) (w : World) (K : PySem.W.Frag) (k n : Nat) (x : Str) (mg : Str → Option Value) (fa : Addr) (h : Heap) : Prop :=
  ∃ (fd : FuncData) (sp : Sp) (cp : List (Addr × Addr)), (∀ q ∈ cp, h.get? q.2 = some { cls := .none, data := .fields #[] }) ∧ (∀ q ∈ cp, K.lookup q.2 = none) ∧ (∀ q ∈ cp, PySem.W.CodeHd h q.1 q.2) ∧ (∀ (s : Shared) (u : Value), BindsTo s fd ⟨[u], []⟩ [(x, u)]) ∧
    (∀ (H : Hp) (a : Addr) (ns : List Int), ns.length ≤ n → (∀ q ∈ cp, H q.2 = some (.tbl #[])) → SqL K H a (ns.map V.int) → sp [.ref a] H (fun v _ => v = .bl true) fun _ _ _ => False) ∧
    ∀ base : Heap, K.In base → base.Ns mainGlobals mg → (∀ q ∈ cp, LamX.TabB base mg q.1 q.2) → FnG l.prog w K mg base CX0 k fa fd [x] sp
theorem walkGs {l : PySem.W.OpenLaw} {n k : Nat} {q : Program} {loose : List Str} {XP : (Str → Option Value) → Heap → Prop} {YP : World → Heap → Prop} {d : DefRec} {K : Params → PySem.W.Frag} {x : Str} (hn : l.most = some n) (big : n ≤ sizeLine) (hdf : d.params.defaults = []) (room : Room k callerA)
    (inK : ∀ (w : World) (h : Heap), YP w h → (K w.params).In h) (F : ∀ (w : World) (mg : Str → Option Value) (fa : Addr) (h : Heap), YP w h → (K w.params).In h → h.Ns mainGlobals mg → mg d.name = some (.ref fa) → LawGs l w (K w.params) k n x mg fa h) :
    PySem.W.WalkO q loose XP YP l.row.toRowW d [] (fun f vs => PySem.call f vs) :=
  Att.attach_callB hn hdf fun w s0 s1 mg mb fa o pm cd doc a vs ns G Y _ _ _ gmg gobj gints glen _ gg => by
    have X := inK w _ Y
    obtain ⟨fd, sp, cp, w1, w2, w3, w4, w5, w6⟩ := F w mg fa _ Y X G.T.g gmg
    exact runGs X G.T.g G.T.b G.T.builtins G.T.nolimit gg w1 w2 w3 G.T.bmain gobj gints (Nat.le_trans glen big) room w6 w4 fun H h1 h2 => w5 H a ns glen h1 h2
end MT
/-! paths and their texts -/
namespace MT
open PySem L2 TL
def spotD (d : PyData) : Bool := match seqD d with
  | none => false
  | some ds => decide (ds.length ≤ 6) && ds.all nameD
theorem tl_slash : tl ("/" : Str) = [47] := by decide +kernel
theorem len_nil {z : Str} (h : z.length = 0) : z = "" := by
  refine ext_tl ?_
  rw [len_tl] at h
  rw [List.eq_nil_of_length_eq_zero h]
  decide +kernel
theorem name_len {z : Str} (h : nameD (.str z) = true) : 1 ≤ z.length ∧ z.length ≤ 12 := by
  have h : (decide (1 ≤ z.length) && decide (z.length ≤ 12) && z.cps.toList.all nameSign) = true := h
  simp only [Bool.and_eq_true, decide_eq_true_eq] at h
  exact h.1
theorem name_signs {z : Str} (h : nameD (.str z) = true) : (tl z).all nameSign = true := by
  have h : (decide (1 ≤ z.length) && decide (z.length ≤ 12) && z.cps.toList.all nameSign) = true := h
  rw [Bool.and_eq_true] at h
  exact h.2
theorem name_slash {z : Str} (h : nameD (.str z) = true) : 47 ∉ tl z := fun m => by
  have q := List.all_eq_true.mp (name_signs h) 47 m
  revert q
  decide
theorem name_mk {z : Str} (h1 : 1 ≤ z.length) (h2 : z.length ≤ 12) (h3 : (tl z).all nameSign = true) : nameD (.str z) = true := by
  rw [nameD_good h3, decide_eq_true h1, decide_eq_true h2]
  rfl
/-- the text of a path -/
def pathT (ns : List Str) : Str := ("/" : Str) ++ Txt.join "/" ns
theorem tl_pathT (ns : List Str) : tl (pathT ns) = 47 :: joinL [47] (ns.map tl) := by
  unfold pathT
  rw [tl_append, tl_slash, join_eq, tl_join, tl_slash]
  rfl
theorem split_back {ns : List Str} (h0 : ns ≠ []) (h : ∀ z ∈ ns, nameD (.str z) = true) : Txt.split (Txt.join "/" ns) "/" = ns :=
  split_join tl_slash (by decide +kernel) h0 fun z hz => name_slash (h z hz)
theorem cut_one (z : Str) : tl (cutS z (some 1) none) = (tl z).drop 1 := tl_cut_hi (i := 1) (by decide)
theorem cut_pathT (ns : List Str) : cutS (pathT ns) (some 1) none = Txt.join "/" ns := by
  refine ext_tl ?_
  rw [cut_one, tl_pathT, join_eq, tl_join, tl_slash]
  rfl
theorem cut_head (z : Str) : tl (cutS z none (some 1)) = (tl z).take 1 := tl_cut_lo (i := 1) (by decide)
theorem starts_iff (z : Str) : Txt.startswith z "/" = true ↔ cutS z none (some 1) = "/" := by
  have e : Txt.startswith z "/" = ((tl z).take 1 == [47]) := by
    have one : ("/" : Str).length = 1 := by decide +kernel
    have q : Txt.startswith z "/" = (decide (0 + ("/" : Str).length ≤ z.length) && ((tl z).drop 0).take ("/" : Str).length == tl ("/" : Str)) := by
      unfold Txt.startswith
      rw [StrLaws.subAt_eq]
    rw [q, one, tl_slash, List.drop_zero]
    cases h : tl z with
    | nil =>
      have w : (List.take 1 ([] : List Nat) == [47]) = false := rfl
      rw [w, Bool.and_false]
    | cons c r =>
      have hz : 0 + 1 ≤ z.length := by rw [len_tl, h, List.length_cons]; omega
      rw [decide_eq_true hz]
      rfl
  rw [e]
  constructor
  · intro h
    refine ext_tl ?_
    rw [cut_head, tl_slash]
    exact eq_of_beq h
  · intro h
    have q : tl (cutS z none (some 1)) = tl ("/" : Str) := by rw [h]
    rw [cut_head, tl_slash] at q
    rw [q]
    rfl
theorem pathT_starts (ns : List Str) : Txt.startswith (pathT ns) "/" = true := by
  refine (starts_iff _).mpr (ext_tl ?_)
  rw [cut_head, tl_pathT, tl_slash]
  rfl
theorem starts_mk {z : Str} (h : Txt.startswith z "/" = true) : z = ("/" : Str) ++ cutS z (some 1) none := by
  have q : tl (cutS z none (some 1)) = tl ("/" : Str) := by rw [(starts_iff z).mp h]
  rw [cut_head, tl_slash] at q
  refine ext_tl ?_
  rw [tl_append, cut_one, tl_slash, ← q]
  exact (List.take_append_drop 1 (tl z)).symm
theorem joinL_ne {S : List Nat} : ∀ {l : List (List Nat)}, l ≠ [] → (∀ p ∈ l, p ≠ []) → joinL S l ≠ []
  | [], h, _ => absurd rfl h
  | [p], _, h => h p (List.mem_singleton.mpr rfl)
  | p :: q :: r, _, h => by
    intro e
    have e : p ++ (S ++ joinL S (q :: r)) = [] := e
    exact h p List.mem_cons_self (List.append_eq_nil_iff.mp e).1
theorem name_ne {z : Str} (h : nameD (.str z) = true) : tl z ≠ [] := fun e => by
  have q := (name_len h).1
  rw [len_tl, e] at q
  exact absurd q (by decide)
theorem pathT_root {ns : List Str} (h : ∀ z ∈ ns, nameD (.str z) = true) : pathT ns = "/" ↔ ns = [] := by
  constructor
  · intro e
    cases ns with
    | nil => rfl
    | cons z r =>
      have q : tl (pathT (z :: r)) = tl ("/" : Str) := by rw [e]
      rw [tl_pathT, tl_slash] at q
      injection q with _ q
      refine absurd q (joinL_ne (by simp) fun p hp => ?_)
      obtain ⟨y, hy, rfl⟩ := List.mem_map.mp hp
      exact name_ne (h y hy)
  · rintro rfl
    refine ext_tl ?_
    rw [tl_pathT, tl_slash]
    rfl
/-- the path whose text this is, as the program reads it -/
def readP (x : Str) : Option (List Str) := if Txt.startswith x "/" = true then (if x = "/" then some [] else
  if spotD (.tuple ((Txt.split (cutS x (some 1) none) "/").map PyData.str)) = true then some (Txt.split (cutS x (some 1) none) "/") else none) else none
theorem spot_strs (ns : List Str) : spotD (.tuple (ns.map PyData.str)) = (decide (ns.length ≤ 6) && ns.all fun z => nameD (.str z)) := by
  show (decide ((ns.map PyData.str).length ≤ 6) && (ns.map PyData.str).all nameD) = _
  rw [List.length_map, List.all_map]
  rfl
theorem spot_good {ns : List Str} (h : spotD (.tuple (ns.map PyData.str)) = true) : ns.length ≤ 6 ∧ ∀ z ∈ ns, nameD (.str z) = true := by
  rw [spot_strs, Bool.and_eq_true, decide_eq_true_iff, List.all_eq_true] at h
  exact h
theorem spot_mk {ns : List Str} (h1 : ns.length ≤ 6) (h2 : ∀ z ∈ ns, nameD (.str z) = true) : spotD (.tuple (ns.map PyData.str)) = true := by
  rw [spot_strs, Bool.and_eq_true, decide_eq_true_iff, List.all_eq_true]
  exact ⟨h1, h2⟩
/-- a path's text is read back -/
theorem read_back {ns : List Str} (h1 : ns.length ≤ 6) (h2 : ∀ z ∈ ns, nameD (.str z) = true) : readP (pathT ns) = some ns := by
  unfold readP
  rw [if_pos (pathT_starts ns)]
  by_cases e : ns = []
  · rw [if_pos ((pathT_root h2).mpr e), e]
  · rw [if_neg (fun z => e ((pathT_root h2).mp z)), cut_pathT, split_back e h2, if_pos (spot_mk h1 h2)]
theorem read_text {x : Str} {ns : List Str} (h : readP x = some ns) : pathT ns = x ∧ ns.length ≤ 6 ∧ ∀ z ∈ ns, nameD (.str z) = true := by
  unfold readP at h
  split at h
  · rename_i hs
    split at h
    · rename_i e
      cases h
      exact ⟨by rw [e]; exact (pathT_root (by simp)).mpr rfl, Nat.zero_le _, by simp⟩
    · split at h
      · rename_i g
        cases h
        refine ⟨?_, spot_good g⟩
        unfold pathT
        rw [join_eq, StrLaws.join_split]
        exact (starts_mk hs).symm
      · cases h
  · cases h
theorem pathT_inj {ns ms : List Str} (h1 : ns.length ≤ 6) (h2 : ∀ z ∈ ns, nameD (.str z) = true) (g1 : ms.length ≤ 6) (g2 : ∀ z ∈ ms, nameD (.str z) = true) (e : pathT ns = pathT ms) : ns = ms := by
  have q := read_back h1 h2
  rw [e, read_back g1 g2] at q
  exact (Option.some.inj q).symm
/-! ### the law's own reading -/
def okSign (c : Nat) : Bool := decide (c = 47) || nameSign c
def badName (z : Str) : Bool := decide (z = "") || decide (12 < z.length)
def readL (x : Str) : Option (List Str) := if cutS x none (some 1) ≠ "/" then none else if x = "/" then some [] else
  if 6 < (Txt.split (cutS x (some 1) none) "/").length ∨ (Txt.split (cutS x (some 1) none) "/").any badName = true then none else
  if (tl x).all okSign = true then some (Txt.split (cutS x (some 1) none) "/") else none
theorem spl_free1 {s : Nat} : ∀ (l acc : List Nat), s ∉ acc → ∀ p ∈ spl [s] 0 acc l, s ∉ p
  | [], acc, h, p, hp => by
    rw [spl_nil] at hp
    rw [List.mem_singleton.mp hp]
    exact h
  | c :: r, acc, h, p, hp => by
    by_cases e : c = s
    · subst e
      have hit : pre [c] (c :: r) = true := by simp [pre]
      rw [spl_hit hit] at hp
      rcases List.mem_cons.mp hp with q | q
      · rw [q]; exact h
      · exact spl_free1 r [] (fun m => nomatch m) p q
    · rw [spl_miss (pre_of_head [] r e)] at hp
      refine spl_free1 r (acc ++ [c]) (fun m => ?_) p hp
      rcases List.mem_append.mp m with q | q
      · exact h q
      · exact e (List.mem_singleton.mp q).symm
theorem spl_all1 {s : Nat} {q : Nat → Bool} : ∀ (l acc : List Nat), (∀ c ∈ l, c = s ∨ q c = true) → (∀ c ∈ acc, q c = true) → ∀ p ∈ spl [s] 0 acc l, ∀ c ∈ p, q c = true
  | [], acc, _, h, p, hp => by
    rw [spl_nil] at hp
    rw [List.mem_singleton.mp hp]
    exact h
  | c :: r, acc, hl, h, p, hp => by
    have hr : ∀ c ∈ r, c = s ∨ q c = true := fun x hx => hl x (List.mem_cons_of_mem _ hx)
    by_cases e : c = s
    · subst e
      have hit : pre [c] (c :: r) = true := by simp [pre]
      rw [spl_hit hit] at hp
      rcases List.mem_cons.mp hp with w | w
      · rw [w]; exact h
      · exact spl_all1 r [] hr (fun _ m => nomatch m) p w
    · rw [spl_miss (pre_of_head [] r e)] at hp
      refine spl_all1 r (acc ++ [c]) hr (fun x m => ?_) p hp
      rcases List.mem_append.mp m with w | w
      · exact h x w
      · rw [List.mem_singleton.mp w]
        exact (hl c List.mem_cons_self).resolve_left e
theorem joinL_all {q : Nat → Bool} {s : Nat} (hs : q s = true) : ∀ {l : List (List Nat)}, (∀ p ∈ l, ∀ c ∈ p, q c = true) → ∀ c ∈ joinL [s] l, q c = true
  | [], _, c, m => absurd m (by show c ∉ ([] : List Nat); simp)
  | [p], h, c, m => h p (List.mem_singleton.mpr rfl) c m
  | (p :: r :: t), h, c, m => by
    have m : c ∈ p ++ ([s] ++ joinL [s] (r :: t)) := m
    rcases List.mem_append.mp m with w | w
    · exact h p List.mem_cons_self c w
    · rcases List.mem_append.mp w with w | w
      · rw [List.mem_singleton.mp w]; exact hs
      · exact joinL_all hs (fun z hz => h z (List.mem_cons_of_mem _ hz)) c w
theorem bad_name {z : Str} (h : badName z = false) : 1 ≤ z.length ∧ z.length ≤ 12 := by
  unfold badName at h
  rw [Bool.or_eq_false_iff, decide_eq_false_iff_not, decide_eq_false_iff_not] at h
  refine ⟨?_, by omega⟩
  rcases Nat.eq_zero_or_pos z.length with e | e
  · exact absurd (len_nil e) h.1
  · exact e
theorem name_bad {z : Str} (h : nameD (.str z) = true) : badName z = false := by
  have q := name_len h
  unfold badName
  rw [Bool.or_eq_false_iff, decide_eq_false_iff_not, decide_eq_false_iff_not]
  refine ⟨fun e => ?_, by omega⟩
  rw [e] at q
  exact absurd q.1 (by decide +kernel)
theorem split_tl (r : Str) : (Txt.split r "/").map tl = spl [47] 0 [] (tl r) := by
  have e := split_spl r "/" (by rw [tl_slash]; simp) (kind_ok (by decide +kernel))
  rw [tl_slash] at e
  exact e
theorem readL_eq (x : Str) : readL x = readP x := by
  unfold readL readP
  by_cases hs : Txt.startswith x "/" = true
  · rw [if_neg (not_not_intro ((starts_iff x).mp hs)), if_pos hs]
    by_cases hr : x = "/"
    · rw [if_pos hr, if_pos hr]
    · rw [if_neg hr, if_neg hr]
      have hx := starts_mk hs
      revert hx
      generalize cutS x (some 1) none = r
      intro hx
      have st := split_tl r
      by_cases g : spotD (.tuple ((Txt.split r "/").map PyData.str)) = true
      · obtain ⟨g1, g2⟩ := spot_good g
        rw [if_pos g, if_neg, if_pos]
        · rw [List.all_eq_true]
          intro c hc
          rw [hx, tl_append, tl_slash] at hc
          rcases List.mem_append.mp hc with m | m
          · rw [List.mem_singleton.mp m]; rfl
          · have e : tl r = joinL [47] ((Txt.split r "/").map tl) := by
              have q := StrLaws.join_split r "/"
              rw [← tl_slash, ← tl_join, q]
            rw [e] at m
            refine joinL_all (q := okSign) (by rfl) (fun p hp c hc => ?_) c m
            obtain ⟨z, hz, rfl⟩ := List.mem_map.mp hp
            unfold okSign
            rw [List.all_eq_true.mp (name_signs (g2 z hz)) c hc, Bool.or_true]
        · rintro (w | w)
          · omega
          · obtain ⟨z, hz, q⟩ := List.any_eq_true.mp w
            rw [name_bad (g2 z hz)] at q
            cases q
      · rw [if_neg g]
        split
        · rfl
        · rename_i nb
          split
          · rename_i al
            refine absurd (spot_mk (by omega) fun z hz => ?_) g
            have hb : badName z = false := by
              cases q : badName z with
              | false => rfl
              | true => exact absurd (.inr (List.any_eq_true.mpr ⟨z, hz, q⟩)) nb
            obtain ⟨b1, b2⟩ := bad_name hb
            refine name_mk b1 b2 (List.all_eq_true.mpr fun c hc => ?_)
            have mp : tl z ∈ spl [47] 0 [] (tl r) := by rw [← st]; exact List.mem_map.mpr ⟨z, hz, rfl⟩
            refine spl_all1 (q := nameSign) (tl r) [] (fun c hc => ?_) (fun _ m => nomatch m) _ mp c hc
            have q : okSign c = true := List.all_eq_true.mp al c (by rw [hx, tl_append]; exact List.mem_append_right _ hc)
            unfold okSign at q
            rw [Bool.or_eq_true, decide_eq_true_iff] at q
            exact q
          · rfl
  · have e : cutS x none (some 1) ≠ "/" := fun z => hs ((starts_iff x).mpr z)
    rw [if_pos e, if_neg hs]
end MT
/-! signs of a text that are kept; lists unlike the empty one -/
namespace MT
open PySem L2
section
variable {K : PySem.W.Frag} {M : Addr → Prop} {H : Hp}
theorem lc_strK {z : Str} {g : TG} {tt : TT} {te : TE} {vs : List Nat} {σ : L2.St} {H1 : Hp} {D : Addr} {Qd : Hp → Prop} (p : Nat → Bool)
    (hD : H1 D = none) (hlen : z.length ≤ 10000000)
    (hs : ∀ c H, c ∈ z.cps.toList → Same H1 H → ∀ (Ky : VK) (Kn : Hp → Prop), (p c = true → ∀ H', Same H H' → Ky (.str ⟨#[c]⟩) H') → (p c = false → ∀ H', Same H H' → Kn H') → LcStep g tt te vs σ (.str ⟨#[c]⟩) H Ky Kn)
    (hd : ∀ H, Same H1 H → H D = some (.lst ((z.cps.toList.filter p).map fun c => V.str ⟨#[c]⟩)) → Qd H) : LcW (Its z) g tt te vs σ H1 D Qd := by
  have hz : z.length = z.cps.toList.length := by simp [Str.length]
  have hz2 : z.cps.size = z.cps.toList.length := by simp
  have few : ∀ i, ((z.cps.toList.take i).filter p).length ≤ z.cps.toList.length := fun i => Nat.le_trans (List.length_filter_le _ _) (by rw [List.length_take]; exact Nat.min_le_right _ _)
  refine ⟨fun i m H => m = z.cps.toList.length - i ∧ i ≤ z.cps.toList.length ∧ Same H1 H ∧ H D = some (.lst (((z.cps.toList.take i).filter p).map fun c => V.str ⟨#[c]⟩)), ⟨_, by omega, Nat.zero_le _, same_new hD, by rw [upd_same]; rfl⟩, ?_⟩
  rintro i m H ⟨rfl, hi, s, hDa⟩
  by_cases hlt : i < z.cps.toList.length
  · refine .inr ⟨by show i < z.cps.size; omega, fun H' => i + 1 ≤ z.cps.toList.length ∧ Same H1 H' ∧ H' D = some (.lst (((z.cps.toList.take (i + 1)).filter p).map fun c => V.str ⟨#[c]⟩)), fun H' q => ⟨_, by omega, rfl, q⟩, ?_⟩
    rintro v H' ⟨rfl, c, hc, rfl⟩
    have hc2 : z.cps.toList[i]? = some c := by simpa using hc
    have e := take_filter_next (p := p) hc2
    refine hs c _ (List.mem_of_getElem? hc2) s _ _ (fun hp H' s' => ?_) (fun hp H' s' => ?_)
    · refine ⟨_, s' _ _ hDa, ?_, hlt, ?_, ?_⟩
      · have := few i
        rw [sizeLine_eq, List.length_map]
        omega
      · exact same_frm ((frm_same (s.trans s')).updD hD)
      · rw [upd_same, e, if_pos hp, List.map_append]
        rfl
    · refine ⟨hlt, s.trans s', ?_⟩
      rw [e, if_neg (by rw [hp]; exact Bool.false_ne_true), List.append_nil]
      exact s' _ _ hDa
  · have e : i = z.cps.toList.length := by omega
    subst e
    refine .inl ⟨by show z.cps.size ≤ _; omega, hd H s ?_⟩
    rw [hDa, List.take_of_length_le (Nat.le_refl _)]
theorem ne_nil' {p l : Addr} {ys : List V} {ds : List PyData} {Q : VK} {b : Bool} (hp : SqL K H p ys) (hd : DvAll K M H ys ds) (t : ds.all tame = true) (hl : SqL K H l []) (e : (!ds.isEmpty) = b) (q : Q (.bl b) H) : rNeD K (.ref p) (.ref l) H Q :=
  ⟨.list ds, .list [], .lst hp (hd.dpAll t), .lst hl .nil, shaped_list t, shaped_ints [], by subst e; cases ds <;> exact q⟩
theorem tame_strs {ns : List Str} (h : ∀ z ∈ ns, PyData.strOk z = true) : (ns.map PyData.str).all tame = true := by
  rw [List.all_map, List.all_eq_true]
  intro n hn
  show tame (.str n) = true
  simp [tame, PyData.canLay0, PyData.depth, h n hn]
theorem dva_strs : ∀ ns : List Str, DvAll K M H (ns.map V.str) (ns.map PyData.str)
  | [] => .nil
  | z :: ns => .cons (.str z) (dva_strs ns)
theorem dva_signs (l : List Nat) : DvAll K M H (l.map fun c => V.str ⟨#[c]⟩) ((l.map fun c => (⟨#[c]⟩ : Str)).map PyData.str) := by
  have := dva_strs (K := K) (M := M) (H := H) (l.map fun c => (⟨#[c]⟩ : Str))
  rw [List.map_map] at this
  exact this
theorem filter_any {α : Type} (p : α → Bool) (l : List α) : (!(l.filter p).isEmpty) = l.any p := by
  induction l with
  | nil => rfl
  | cons x r ih =>
    rw [List.any_cons, ← ih]
    cases e : p x with
    | true => rw [List.filter_cons_of_pos e]; rfl
    | false => rw [List.filter_cons_of_neg (by rw [e]; exact Bool.false_ne_true)]; rfl
end
end MT
/-! a def that makes lambdas, called while no repr is under way; repr of names -/
namespace MT
open PySem L2
theorem fnG_of {P : Program} {w : World} {K : PySem.W.Frag} {mg : Str → Option Value} {base : Heap} {k : Nat} {f : Addr} {name qual : Str} {params : Arguments} {body : List Stmt} {scope : Scope} {dV kV doc pm cdv ct oc : Value} {an od : Option Addr}
    {osl : Array (Option Value)} {N ps : List Str} {sp : Sp} (lk : K.lookup f = some ⟨oc, od, .func (PySem.W.fnOf name qual params body scope dV kV doc pm an cdv ct), osl⟩) (hcd : PySem.W.codeIn K cdv qual = true) (S : FnScope N ps scope) (len : ∀ vs H Q E, sp vs H Q E → vs.length = ps.length)
    (inner : ∀ (A : Around) (outer : List Env) (s : Shared) (H : Hp) (vs : List V) (Q : VK) (E : XK), (A.deeper (PyProof.Rows.envOfC qual scope s.heap.objs.size f cdv)).guards = some [] → Room k (A.deeper (PyProof.Rows.envOfC qual scope s.heap.objs.size f cdv)) → sp vs H Q E →
      ∃ t, PSs (cxOf CX0 P w K mg base N qual scope f cdv A outer s H E).nox body t ∧ t { nx := fun _ H' => Q .non H', rt := Q } (L2.start N vs) H) :
    FnG P w K mg base CX0 (k + 1) f (PySem.W.fnOf name qual params body scope dV kV doc pm an cdv ct) ps sp :=
  ⟨len, fun A outer s H args us vs Q E hg hr e0 hb r h => LamX.run_ofS lk hcd S hr e0 hb r (len _ _ _ _ h) fun hr' => by
    obtain ⟨t, w1, w2⟩ := inner A outer s H vs Q E hg hr' h
    exact ⟨t, w1.nox, w2⟩⟩
theorem iteD {p A B : Prop} [Decidable p] (h : p) (a : A) : if decide p = true then A else B := by
  rw [if_pos (decide_eq_true h)]
  exact a
theorem weight_strs : ∀ {ns : List Str} {n : Nat}, (∀ z ∈ ns, z.length ≤ n) → PyData.weightAll (ns.map PyData.str) ≤ ns.length * (n + 1)
  | [], _, _ => by simp [PyData.weightAll]
  | z :: r, n, h => by
    have ih := weight_strs (ns := r) (n := n) fun y hy => h y (List.mem_cons_of_mem _ hy)
    have q := h z List.mem_cons_self
    rw [List.map_cons, PyData.weightAll, PyData.weight, List.length_cons, Nat.add_mul]
    have : z.cps.size = z.length := rfl
    omega
theorem leaves_strs : ∀ {ns : List Str}, (∀ z ∈ ns, ∀ c ∈ TL.tl z, c < 1114112) → PyData.leavesShortAll 8 (ns.map PyData.str) = true
  | [], _ => by simp [PyData.leavesShortAll]
  | z :: r, h => by
    have ih := leaves_strs (ns := r) fun y hy => h y (List.mem_cons_of_mem _ hy)
    have q := h z List.mem_cons_self
    rw [List.map_cons, PyData.leavesShortAll, ih, Bool.and_true, PyData.leavesShort, List.all_eq_true]
    exact fun c hc => decide_eq_true (Nat.lt_of_lt_of_le (q c hc) (by decide))
theorem showable_strs : ∀ ns : List Str, PyData.showableAll (ns.map PyData.str) = true
  | [] => by simp [PyData.showableAll]
  | z :: r => by rw [List.map_cons, PyData.showableAll, showable_strs r]; simp [PyData.showable]
theorem name_chars {z : Str} (h : nameD (.str z) = true) : ∀ c ∈ TL.tl z, c < 1114112 := signs_lt (name_signs h)
theorem name_ok {z : Str} (h : nameD (.str z) = true) : PyData.strOk z = true := strOk_of (name_chars h)
theorem dp_strs {K : PySem.W.Frag} {H : Hp} : ∀ ns : List Str, DpAll K H (ns.map V.str) (ns.map PyData.str)
  | [] => .nil
  | z :: ns => .cons (.str z) (dp_strs ns)
/-- a tuple of names can be shown -/
theorem rp_names {K : PySem.W.Frag} {H : Hp} {p : Addr} {ns : List Str} (hp : SqT K H p (ns.map V.str)) (hb : ∀ z ∈ ns, nameD (.str z) = true) (hl : ns.length ≤ 6) :
    Dp K H (.ref p) (.tuple (ns.map PyData.str)) ∧ (PyData.tuple (ns.map PyData.str)).showable = true ∧ (PyData.tuple (ns.map PyData.str)).hasDict = false ∧ (PyData.tuple (ns.map PyData.str)).depth ≤ 64 ∧ (PyData.tuple (ns.map PyData.str)).shown.length ≤ sizeLine := by
  obtain ⟨c1, c2⟩ := tame_seq (tame_strs fun z hz => name_ok (hb z hz))
  refine ⟨.tup hp (dp_strs ns), ?_, PyData.hasDict_of_canLay _ (by simp only [PyData.canLay0, c1]), by simp only [PyData.depth]; omega, PyData.shown_fits (B := 8) (by decide) (by decide) ?_ ?_⟩
  · simp only [PyData.showable]
    exact showable_strs ns
  · rw [PyData.leavesShort]
    exact leaves_strs fun z hz => name_chars (hb z hz)
  · rw [PyData.weight]
    have q := weight_strs (ns := ns) (n := 12) fun z hz => (name_len (hb z hz)).2
    have : ns.length * (12 + 1) ≤ 6 * 13 := Nat.mul_le_mul hl (Nat.le_refl _)
    omega
/-- .. by a text that is not looked into -/
theorem rp_namesA : ∃ S : List Str → Str, ∀ {K : PySem.W.Frag} {H : Hp} {p : Addr} {ns : List Str}, SqT K H p (ns.map V.str) → (∀ z ∈ ns, nameD (.str z) = true) → ns.length ≤ 6 →
    ∃ d : PyData, Dp K H (.ref p) d ∧ d.showable = true ∧ d.hasDict = false ∧ d.depth ≤ 64 ∧ d.shown.length ≤ sizeLine ∧ d.shown = S ns :=
  ⟨fun ns => (PyData.tuple (ns.map PyData.str)).shown, fun hp hb hl => by
    obtain ⟨y1, y2, y3, y4, y5⟩ := rp_names hp hb hl
    exact ⟨_, y1, y2, y3, y4, y5, rfl⟩⟩
/-- a text's repr, by a text that is not looked into -/
theorem rp_textA : ∃ S : Str → Str, ∀ {K : PySem.W.Frag} {H : Hp} {z : Str}, (∀ c ∈ TL.tl z, c < 1114112) → z.length ≤ 100000 →
    ∃ d : PyData, Dp K H (.str z) d ∧ d.showable = true ∧ d.hasDict = false ∧ d.depth ≤ 64 ∧ d.shown.length ≤ sizeLine ∧ d.shown = S z :=
  ⟨fun z => (PyData.str z).shown, fun {K H z} hc hl => by
    refine ⟨.str z, .str z, by simp [PyData.showable], by simp [PyData.hasDict], by simp [PyData.depth], PyData.shown_fits (B := 8) (by decide) (by decide) ?_ ?_, rfl⟩
    · rw [PyData.leavesShort, List.all_eq_true]
      exact fun c h => decide_eq_true (Nat.lt_of_lt_of_le (hc c h) (by decide))
    · rw [PyData.weight]
      have : z.cps.size = z.length := rfl
      omega⟩
end MT
/-! {tuple: value} -/
namespace MT
open PySem L2
section
variable {X : Cx} {pos : Pos}
theorem one_pair {K : Type} [DecidableEq K] (k : K) (a : Addr) (v : Value) : storedAllH ([] : List (K × Addr × Value)) [(k, a, v)] = [(k, a, v)] := rfl
/-- {k: v}, k a tuple of numbers and texts -/
theorem pe_disp1T {k v : Expr} {tk tv : TE} (hu : X.A.units + 1 < cLine) (hk : PE X k tk) (hv : PE X v tv) : PE X (.Dict [some k] [v] pos) (fun σ H Q => ∀ p H0, New H H0 p (.dT []) → tk σ H0 fun x H1 => tv σ H1 fun y H2 =>
    H2 p = some (.dT []) ∧ ∃ (ks : List Key) (b : Addr), x = .ref b ∧ H2 b = some (.tup (ks.map kV)) ∧ ∀ H3, (∀ c, c ≠ p → H3 c = H2 c) → H3 p = some (.dT [(ks, y)]) → Q (.ref p) H3) := by
  refine ⟨fun pins s σ H Q I told => ?_⟩
  obtain ⟨d, ed⟩ : ∃ d, d = s.heap.objs.size := ⟨_, rfl⟩
  have hn : H s.heap.objs.size = none := I.hok.fresh (Nat.le_refl _)
  have I1 := I.laid (a := s.heap.objs.size) (o := .dT []) (h' := s.heap.push { cls := .type "dict", data := .dict #[] }) (t' := s.toks) (fun _ _ q => Heap.get?_push_of_some _ q) (Nat.le_refl _) (dt_empty s.heap I.big)
  have run := (pps_cons (PE.cl hk) (PE.cl hv) (pps_nil (pos := pos))).run pins _ σ _ (fun ps H2 => ∃ x y, ps = [(x, y)] ∧ H2 s.heap.objs.size = some (.dT []) ∧ ∃ (ks : List Key) (b : Addr), x = .ref b ∧ H2 b = some (.tup (ks.map kV)) ∧ ∀ H3, (∀ c, c ≠ s.heap.objs.size → H3 c = H2 c) → H3 s.heap.objs.size = some (.dT [(ks, y)]) → Q (.ref s.heap.objs.size) H3) I1
    ⟨_, fun x H1 q1 => ⟨_, fun y H2 q2 => ⟨x, y, rfl, q2⟩, q1⟩, told _ _ (New.mk' hn)⟩
  have shape := zip_pairTrees [some k] [v] X.env pos rfl rfl
  rw [arm_eval_Dict, shape, dictDisplay_pairs (pairTrees [some k] [v] X.env pos) (by intro e; have := congrArg List.length e; rw [pairTrees_length _ _ _ _ rfl rfl] at this; cases this) (by rw [pairTrees_length _ _ _ _ rfl rfl]; show 1 < 17; decide)]
  refine wpAny_bind (wpAny_standAt (wpAny_bind (wpAny_subDictH (knd := tupleKind (mixKind X.prog X.w)) (Q := fun d s' => wpAny (model X.prog X.w) X.A (pure (Value.ref d)) (EP X pins σ Q) X.xe s') (by show X.A.units < cLine; omega) (by rw [pairTrees_length _ _ _ _ rfl rfl]; show 1 ≤ 15; decide)
    (wpAny_mono run (fun ws s2 got => ?_) fun _ _ e => e))))
  obtain ⟨ps, H2, I2, rel, x, y, rfl, e, ks, b, rfl, hb, q⟩ := got
  cases rel with
  | @cons _ w _ ws r t =>
    cases t
    obtain ⟨w1, w2⟩ := w
    obtain ⟨r1, r2⟩ := r
    cases (show w1 = Value.ref b from r1)
    obtain ⟨z, sm, xs, kt, dd⟩ := dt_of I2.hok e
    cases kt
    refine ⟨[(ks, b, w2)], ⟨rfl, rfl, key_of I2.hok hb, True.intro⟩, dd, fun h' tk dd' hs => wpAny_pure ?_⟩
    rw [one_pair] at dd'
    have nb : b ≠ s.heap.objs.size := fun z => by rw [z, e] at hb; cases hb
    obtain ⟨o, es, ep, w3, w4, w5, w6, _, w7⟩ := dd'
    refine ⟨.ref s.heap.objs.size, upd H2 s.heap.objs.size (.dT [(ks, y)]), d_write I2 (by rw [e]; exact True.intro) hs ⟨o, w3⟩ ⟨by rw [sizeLine_eq]; show 1 ≤ _; decide, sm, [(ks, b, w2)], .cons ⟨rfl, by rw [upd_ne nb]; exact hb, r2⟩ .nil, o, es, ep, w3, w4, w5, w6, w7⟩, rfl, q _ (fun c hc => upd_ne hc) upd_same⟩
end
end MT
/-! values of paths, told as data; an item of a list or tuple; tuples made new -/
namespace MT
open PySem L2
theorem ix_sq {X : Cx} : IxR X (fun x y H Q => ∃ a xs i v, x = .ref a ∧ y = .int i ∧ (SqL X.K H a xs ∨ SqT X.K H a xs) ∧ atI xs i = some v ∧ Q v H) := by
  intro va sc pins s σ H x y v u Q I rx ry h e
  obtain ⟨a, xs, i, w, ex, ey, sq, at_, q⟩ := h
  rcases sq with sq | sq
  · exact ix_list va sc pins s σ H x y v u Q I rx ry ⟨a, xs, i, w, ex, ey, sq, at_, q⟩ e
  · exact ix_tup va sc pins s σ H x y v u Q I rx ry ⟨a, xs, i, w, ex, ey, sq, at_, q⟩ e
/-- a tuple's slice: it, or a new one -/
theorem sl_tupN {X : Cx} : SlR X (fun x lo hi H Q => ∃ a xs, x = .ref a ∧ SqT X.K H a xs ∧ (cutV xs lo hi = xs → Q (.ref a) H) ∧ ∀ p H2, New H H2 p (.tup (cutV xs lo hi)) → Q (.ref p) H2) := by
  intro pins s σ H x v vl vu lo hi sl Q I rx hs pl pu h
  obtain ⟨a, xs, ex, hx, q1, q2⟩ := h
  refine sl_tupA pins s σ H x v vl vu lo hi sl Q I rx hs pl pu ⟨a, xs, ex, hx, fun w => q1 ?_, fun _ p hp => q2 p _ (New.mk' hp)⟩
  unfold cutV
  rw [w.1, w.2, List.drop_zero, Nat.sub_zero, List.take_length]
theorem op_catAN {X : Cx} : OpR X (binaryOp .Add) (fun x y H Q => ∃ a b xs ys, x = .ref a ∧ y = .ref b ∧ SqT X.K H a xs ∧ SqT X.K H b ys ∧ xs.length + ys.length ≤ sizeLine ∧ (xs = [] → Q (.ref b) H) ∧ (xs ≠ [] → ys = [] → Q (.ref a) H) ∧ ∀ p H2, New H H2 p (.tup (xs ++ ys)) → Q (.ref p) H2) := by
  intro pins s σ H x y v u Q I rx ry h
  obtain ⟨a, b, xs, ys, ex, ey, ha, hb, hz, q1, q2, q3⟩ := h
  exact op_catA pins s σ H x y v u Q I rx ry ⟨a, b, xs, ys, ex, ey, ha, hb, hz, q1, q2, fun _ _ p hp => q3 p _ (New.mk' hp)⟩
/-! ### texts and values -/
def textSign (c : Nat) : Bool := decide (32 ≤ c) && decide (c ≤ 126) && !decide (c = 37)
def textSigns : Str := " !\"#$&'()*+,-./0123456789:;<=>?@ABCDEFGHIJKLMNOPQRSTUVWXYZ[\\]^_`abcdefghijklmnopqrstuvwxyz{|}~"
theorem text_in (c : Nat) : decide (c ∈ textSigns.cps.toList) = textSign c := by
  by_cases h : c < 127
  · have key : ∀ c < 127, decide (c ∈ textSigns.cps.toList) = textSign c := by decide +kernel
    exact key c h
  · have all : textSigns.cps.toList.all (fun c => decide (c < 127)) = true := by decide +kernel
    have no : ¬ c ∈ textSigns.cps.toList := fun m => h (of_decide_eq_true (List.all_eq_true.mp all c m))
    have e2 : textSign c = false := by
      unfold textSign
      rw [decide_eq_false (show ¬ c ≤ 126 by omega), Bool.and_false, Bool.false_and]
    rw [decide_eq_false no, e2]
def textD : PyData → Bool
  | .str x => decide (x.length ≤ 60) && (TL.tl x).all textSign
  | _ => false
def valueL : List PyData → Bool
  | [.str x] => decide (x = "none") || decide (x = "folder")
  | [.str x, e] => decide (x = "file") && textD e
  | _ => false
def valueD (d : PyData) : Bool := match seqD d with
  | some ds => valueL ds
  | none => false
theorem value_none {d : PyData} (h : seqD d = none) : valueD d = false := by unfold valueD; rw [h]
theorem value_some {d : PyData} {ds : List PyData} (h : seqD d = some ds) : valueD d = valueL ds := by unfold valueD; rw [h]
theorem valueL_len {ds : List PyData} (h : ¬ (1 ≤ ds.length ∧ ds.length ≤ 2)) : valueL ds = false := by
  match ds, h with
  | [], _ => rfl
  | [x], h => exact absurd ⟨by simp, by simp⟩ h
  | [x, y], h => exact absurd ⟨by simp, by simp⟩ h
  | x :: y :: z :: r, _ => cases x <;> rfl
theorem valueL_head {d : PyData} {r : List PyData} (h : isStrD d = false) : valueL (d :: r) = false := by
  cases d with
  | str x => cases h
  | _ => rfl
def pathD (d : PyData) : Bool := spotD d && match seqD d with
  | some ds => decide (0 < ds.length)
  | none => false
theorem path_some {d : PyData} {ds : List PyData} (h : seqD d = some ds) : pathD d = (spotD d && decide (0 < ds.length)) := by unfold pathD; rw [h]
/-- what a value is, told by its texts -/
def okV (vs : List Str) : Prop := vs = [("none" : Str)] ∨ vs = [("folder" : Str)] ∨ ∃ t : Str, vs = [("file" : Str), t] ∧ textD (.str t) = true
theorem value_of {d : PyData} (h : valueD d = true) : ∃ vs : List Str, seqD d = some (vs.map PyData.str) ∧ okV vs := by
  cases e : seqD d with
  | none => rw [value_none e] at h; cases h
  | some ds =>
    rw [value_some e] at h
    match ds, h with
    | [.str x], h =>
      have h : (decide (x = "none") || decide (x = "folder")) = true := h
      rw [Bool.or_eq_true, decide_eq_true_iff, decide_eq_true_iff] at h
      rcases h with rfl | rfl
      · exact ⟨[("none" : Str)], rfl, .inl rfl⟩
      · exact ⟨[("folder" : Str)], rfl, .inr (.inl rfl)⟩
    | [.str x, d], h =>
      have h : (decide (x = "file") && textD d) = true := h
      rw [Bool.and_eq_true, decide_eq_true_iff] at h
      obtain ⟨rfl, h2⟩ := h
      cases d with
      | str t => exact ⟨[("file" : Str), t], rfl, .inr (.inr ⟨t, rfl, h2⟩)⟩
      | _ => cases h2
theorem text_len {t : Str} (h : textD (.str t) = true) : t.length ≤ 60 ∧ ∀ c ∈ TL.tl t, c < 127 := by
  have h : (decide (t.length ≤ 60) && (TL.tl t).all textSign) = true := h
  rw [Bool.and_eq_true, decide_eq_true_iff, List.all_eq_true] at h
  refine ⟨h.1, fun c hc => ?_⟩
  have q := h.2 c hc
  unfold textSign at q
  simp only [Bool.and_eq_true, decide_eq_true_eq] at q
  omega
theorem okV_ok {vs : List Str} (h : okV vs) : ∀ z ∈ vs, PyData.strOk z = true ∧ z.length ≤ 60 := by
  rcases h with rfl | rfl | ⟨t, rfl, ht⟩
  · intro z hz; rw [List.mem_singleton.mp hz]; exact ⟨by decide +kernel, by decide +kernel⟩
  · intro z hz; rw [List.mem_singleton.mp hz]; exact ⟨by decide +kernel, by decide +kernel⟩
  · intro z hz
    rcases List.mem_cons.mp hz with e | e
    · rw [e]; exact ⟨by decide +kernel, by decide +kernel⟩
    · rw [List.mem_singleton.mp e]
      exact ⟨strOk_of fun c hc => Nat.lt_trans ((text_len ht).2 c hc) (by decide), (text_len ht).1⟩
end MT
/-! questions told over data: no heap in them -/
namespace MT
open PySem L2
theorem Fx.mono {M N : Addr → Prop} {H H' : Hp} (a : Fx M H H') (h : ∀ c, M c → N c) : Fx N H H' := fun c o n e t => a c o (fun m => n (h c m)) e t
/-- a list that stands outside M, or in no heap at all -/
def LsW (M : Addr → Prop) (H : Hp) (p : Addr) (xs : List V) : Prop := ¬ M p ∧ H p = some (.lst xs)
/-- what a module may hold -/
def CoT (xs : List V) : Prop := xs = [] ∨ xs = [.str "none"] ∨ xs = [.str "folder"]
def TpW (K : PySem.W.Frag) (M : Addr → Prop) (H : Hp) (p : Addr) (xs : List V) : Prop := (¬ M p ∧ H p = some (.tup xs)) ∨ (CoT xs ∧ ∀ G, SqT K G p xs)
theorem LsW.at {K : PySem.W.Frag} {M : Addr → Prop} {H : Hp} {p : Addr} {xs : List V} (h : LsW M H p xs) : SqL K H p xs := SqL.of h.2
theorem TpW.at {K : PySem.W.Frag} {M : Addr → Prop} {H : Hp} {p : Addr} {xs : List V} (h : TpW K M H p xs) : SqT K H p xs := h.elim (fun q => SqT.of q.2) (fun q => q.2 H)
theorem LsW.frm {M : Addr → Prop} {H H' : Hp} {p : Addr} {xs : List V} (h : LsW M H p xs) (F : Fx M H H') : LsW M H' p xs := ⟨h.1, F _ _ h.1 h.2 fun _ z => by cases z⟩
theorem TpW.frm {K : PySem.W.Frag} {M : Addr → Prop} {H H' : Hp} {p : Addr} {xs : List V} (h : TpW K M H p xs) (F : Fx M H H') : TpW K M H' p xs := h.imp (fun q => ⟨q.1, F _ _ q.1 q.2 fun _ z => by cases z⟩) id
theorem LsW.more {M N : Addr → Prop} {H : Hp} {p : Addr} {xs : List V} (h : LsW M H p xs) (i : ∀ c o, N c → H c = some o → M c) : LsW N H p xs := ⟨fun m => h.1 (i _ _ m h.2), h.2⟩
theorem TpW.more {K : PySem.W.Frag} {M N : Addr → Prop} {H : Hp} {p : Addr} {xs : List V} (h : TpW K M H p xs) (i : ∀ c o, N c → H c = some o → M c) : TpW K N H p xs := h.imp (fun q => ⟨fun m => q.1 (i _ _ m q.2), q.2⟩) id
/-- a dict's parts: none, truths, integers, texts -/
def AtW : V → PyData → Prop
  | .non, .none => True
  | .bl b, .bool c => b = c
  | .int i, .int j => i = j
  | .str x, .str y => x = y
  | _, _ => False
def KyW : Key → PyData → Prop
  | .inl i, .int j => i = j
  | .inr x, .str y => x = y
  | _, _ => False
def CtW : List (Key × V) → List (PyData × PyData) → Prop
  | [], [] => True
  | (k, v) :: r, (d, e) :: s => KyW k d ∧ AtW v e ∧ CtW r s
  | _, _ => False
/-- a dict of which nothing is told -/
def dimD : PyData := .dict [(.list [], .none)]
/-- a dict's key that is a tuple -/
def KtW : List Key → PyData → Prop
  | ks, .tuple ds => KtL ks ds
  | _, _ => False
where KtL : List Key → List PyData → Prop
  | [], [] => True
  | k :: ks, d :: ds => KyW k d ∧ KtL ks ds
  | _, _ => False
/-- an own class whose instances stand as data -/
structure OCls (K : PySem.W.Frag) (C : Addr) : Prop where
  cls : Cls K C
  cc : PySem.W.findIn K (.ref C) "__class__" = some (some (.builtin "object.__class__"))
  gt : PySem.W.specialIn K (.builtin "object.__class__") "__get__" = some (some (.builtin "getset_descriptor.__get__"))
  tk : PySem.W.takesIn K (.builtin "object.__class__") = some true
  ob : PySem.W.mroIn K C (.type "object") = some true
  no : ∀ T ∈ ["int", "bool", "str", "list", "tuple"], PySem.W.kitOne K (.ref C) (.type T) = some false
/-- an instance of the class at C -/
def objD (C : Addr) (ks : List (PyData × PyData)) : PyData := .dict ((.list [.int (C : Nat)], .none) :: ks)
/-- an error's class whose instances stand as data -/
structure ECls (K : PySem.W.Frag) (C : Addr) : Prop where
  ex : ExcC K C
  xf : XfC K C
  no : ∀ T ∈ ["int", "bool", "str", "list", "tuple"], PySem.W.kitOne K (.ref C) (.type T) = some false
/-- an error of the class at C -/
def excD (C : Addr) (ks : List (PyData × PyData)) : PyData := .dict ((.list [.int (C : Nat), .none], .none) :: ks)
/-- what isinstance asks: errors that are kept too -/
inductive TyY (K : PySem.W.Frag) (H : Hp) : V → Value → Prop
  | x {v : V} {t : Value} : TyX K H v t → TyY K H v t
  | e {a D : Addr} {d : Option Addr} : H a = some (keptO a (.ref D) d) → (∀ dd, d = some dd → ∃ fs, H dd = some (.xd fs)) → ExcC K D → TyY K H (.ref a) (.ref D)
theorem kept_ne {a C : Addr} {d : Option Addr} : ∀ ps, keptO a (.ref C) d ≠ HO.tbl ps := fun ps z => by
  have z' : HO.ext _ = HO.tbl ps := z
  cases z'
section
variable {X : Cx} {pins : List (Addr × Obj)} {sl : L2.St} {H : Hp} {st : Shared}
theorem kitY_of {x : V} {u t : Value} (I : Inv X pins sl H st) (rx : RelV x u) (ty : TyY X.K H x t) : ∃ P : Heap → Prop, PySem.W.KitX X.K u t P ∧ P st.heap ∧ u ≠ .builtin "__main__.__loader__#opaque" := by
  cases ty with
  | x h => exact kit_of I rx h
  | @e a D d k hd C =>
    cases (show u = Value.ref a from rx)
    cases d with
    | some dd =>
      obtain ⟨fs, h⟩ := hd dd rfl
      obtain ⟨P, Z, p⟩ := kept_kit I k C h
      exact ⟨P, Z, p, fun z => nomatch z⟩
    | none =>
      obtain ⟨o, vs, ga, z, f⟩ := keptO_at I.hok k
      have J : PySem.W.InstAt st.heap a o D none := ⟨ga, z.1, by unfold PySem.W.notCls; rw [f] <;> rfl, by rw [z.2]; trivial⟩
      refine ⟨_, PySem.W.kitx_exc ?_ C.hg C.hk C.hs C.ha C.hn C.ht C.hm, J, fun z => nomatch z⟩
      obtain ⟨cd, w, _⟩ := PySem.W.any_some C.hd
      rw [w]
      rfl
end
/-- isinstance(x, c), one class -/
def rIsiY (K : PySem.W.Frag) : List V → Hp → VK → Prop := fun xs H Q => ∃ (x c : V) (t u : Value) (b : Bool), xs = [x, c] ∧ ClsV c u ∧ TyY K H x t ∧ PySem.W.kitOne K t u = some b ∧ Q (.bl b) H
/-- isinstance(x, (c1, c2, ..)) -/
def rIsiTY (K : PySem.W.Frag) : List V → Hp → VK → Prop := fun xs H Q => ∃ (x : V) (tp : Addr) (cs : List V) (t : Value) (us : List Value) (b : Bool), xs = [x, .ref tp] ∧ H tp = some (.tup cs) ∧ Paired ClsV cs us ∧ TyY K H x t ∧ PySem.W.kitAny K t us = some b ∧ Q (.bl b) H
section
variable {X : Cx}
theorem call_isiY : CallR X (.builtin "isinstance") (rIsiY X.K) := by
  intro pins s σ H xs us Q I r h
  obtain ⟨x, c, t, u, b, rfl, k, ty, e, q⟩ := h
  obtain ⟨u1, u2, rfl, r1, r2⟩ := Vals.two r
  have e2 := k.eq r2
  subst e2
  obtain ⟨P, Z, p, hx⟩ := kitY_of I r1 ty
  exact PySem.W.kia_one Z I.kIn p e hx fun tk => ⟨.bl b, H, I.tok tk, rfl, q⟩
theorem call_isiTY : CallR X (.builtin "isinstance") (rIsiTY X.K) := by
  intro pins s σ H xs us Q I r h
  obtain ⟨x, tp, cs, t, ws, b, rfl, hT, k, ty, e, q⟩ := h
  obtain ⟨u1, u2, rfl, r1, r2⟩ := Vals.two r
  cases (show u2 = Value.ref tp from r2)
  obtain ⟨P, Z, p, hx⟩ := kitY_of I r1 ty
  obtain ⟨_, its, rv, o, h1, h2, n, h3⟩ := (show ObjOk X.prog X.w H s.heap tp (.tup cs) from I.hok tp _ hT)
  have e3 := ClsV.all k rv
  subst e3
  obtain ⟨oc, od, dt, sl⟩ := o
  simp only at h2 h3
  subst h2 h3
  exact PySem.W.kia_tup Z I.kIn p h1 e hx fun tk => ⟨.bl b, H, I.tok tk, rfl, q⟩
end
mutual
/-- the value v is the data d -/
inductive Dw (K : PySem.W.Frag) (M : Addr → Prop) (H : Hp) : V → PyData → Prop
  | non : Dw K M H .non .none
  | bl (b : Bool) : Dw K M H (.bl b) (.bool b)
  | int (i : Int) : Dw K M H (.int i) (.int i)
  | str (x : Str) : Dw K M H (.str x) (.str x)
  | lst {p : Addr} {xs : List V} {ds : List PyData} : LsW M H p xs → DwAll K M H xs ds → Dw K M H (.ref p) (.list ds)
  | tup {p : Addr} {xs : List V} {ds : List PyData} : TpW K M H p xs → DwAll K M H xs ds → Dw K M H (.ref p) (.tuple ds)
  | dct {p : Addr} {kvs : List (Key × V)} {ks : List (PyData × PyData)} : ¬ M p → H p = some (.dK kvs) → CtW kvs ks → Dw K M H (.ref p) (.dict ks)
  | dkT {p : Addr} {kvs : List (Key × V)} : ¬ M p → H p = some (.dK kvs) → Dw K M H (.ref p) (.dict [(.list [], .none)])
  | dcT {p : Addr} {kvs : List (List Key × V)} : ¬ M p → H p = some (.dT kvs) → Dw K M H (.ref p) (.dict [(.list [], .none)])
  | dk {p : Addr} {kvs : List (Key × V)} {ks : List (PyData × PyData)} : ¬ M p → H p = some (.dK kvs) → DwKs K M H kvs ks → Dw K M H (.ref p) (.dict ks)
  | dt {p : Addr} {kvs : List (List Key × V)} {ks : List (PyData × PyData)} : ¬ M p → H p = some (.dT kvs) → DwKt K M H kvs ks → Dw K M H (.ref p) (.dict ks)
  | exn {p C dd : Addr} {fv : List (Str × V)} {ks : List (PyData × PyData)} : ¬ M p → H p = some (keptO p (.ref C) (some dd)) → ¬ M dd → H dd = some (.xd fv) → ECls K C → DwFs K M H fv ks → Dw K M H (.ref p) (.dict ((.list [.int (C : Nat), .none], .none) :: ks))
  | exn0 {p C : Addr} : ¬ M p → H p = some (keptO p (.ref C) none) → ECls K C → Dw K M H (.ref p) (.dict [(.list [.int (C : Nat), .none], .none)])
  | obj {p C dx : Addr} {fv : List (Str × V)} {ks : List (PyData × PyData)} : ¬ M p → H p = some (.ins C dx fv) → OCls K C → DwFs K M H fv ks → Dw K M H (.ref p) (.dict ((.list [.int (C : Nat)], .none) :: ks))
inductive DwAll (K : PySem.W.Frag) (M : Addr → Prop) (H : Hp) : List V → List PyData → Prop
  | nil : DwAll K M H [] []
  | cons {v : V} {vs : List V} {d : PyData} {ds : List PyData} : Dw K M H v d → DwAll K M H vs ds → DwAll K M H (v :: vs) (d :: ds)
inductive DwKs (K : PySem.W.Frag) (M : Addr → Prop) (H : Hp) : List (Key × V) → List (PyData × PyData) → Prop
  | nil : DwKs K M H [] []
  | cons {k : Key} {v : V} {r : List (Key × V)} {d e : PyData} {s : List (PyData × PyData)} : KyW k d → Dw K M H v e → DwKs K M H r s → DwKs K M H ((k, v) :: r) ((d, e) :: s)
inductive DwKt (K : PySem.W.Frag) (M : Addr → Prop) (H : Hp) : List (List Key × V) → List (PyData × PyData) → Prop
  | nil : DwKt K M H [] []
  | cons {k : List Key} {v : V} {r : List (List Key × V)} {d e : PyData} {s : List (PyData × PyData)} : KtW k d → Dw K M H v e → DwKt K M H r s → DwKt K M H ((k, v) :: r) ((d, e) :: s)
inductive DwFs (K : PySem.W.Frag) (M : Addr → Prop) (H : Hp) : List (Str × V) → List (PyData × PyData) → Prop
  | nil : DwFs K M H [] []
  | cons {k : Str} {v : V} {r : List (Str × V)} {e : PyData} {s : List (PyData × PyData)} : Dw K M H v e → DwFs K M H r s → DwFs K M H ((k, v) :: r) ((.str k, e) :: s)
end
section
variable {K : PySem.W.Frag} {M N : Addr → Prop} {H H' : Hp}
/-- what stands in the one heap stands in the other -/
structure Bth (K : PySem.W.Frag) (M N : Addr → Prop) (H H' : Hp) : Prop where
  l : ∀ {p xs}, LsW M H p xs → LsW N H' p xs
  t : ∀ {p xs}, TpW K M H p xs → TpW K N H' p xs
  o : ∀ {p : Addr} {u : HO}, ¬ M p → H p = some u → (∀ ps, u ≠ .tbl ps) → ¬ N p ∧ H' p = some u
mutual
theorem Dw.bthR (B : Bth K M N H H') : ∀ (d : PyData) (v : V), Dw K M H v d → Dw K N H' v d
  | .none, _, h => by cases h; exact .non
  | .bool b, _, h => by cases h; exact .bl b
  | .int i, _, h => by cases h; exact .int i
  | .str x, _, h => by cases h; exact .str x
  | .list ds, _, h => by
    cases h with
    | lst n a => exact .lst (B.l n) (DwAll.bthR B ds _ a)
  | .tuple ds, _, h => by
    cases h with
    | tup n a => exact .tup (B.t n) (DwAll.bthR B ds _ a)
  | .dict ks, _, h => by
    cases h with
    | dct n s c => exact .dct (B.o n s fun _ z => by cases z).1 (B.o n s fun _ z => by cases z).2 c
    | dkT n s => exact .dkT (B.o n s fun _ z => by cases z).1 (B.o n s fun _ z => by cases z).2
    | dcT n s => exact .dcT (B.o n s fun _ z => by cases z).1 (B.o n s fun _ z => by cases z).2
    | dk n s a => exact .dk (B.o n s fun _ z => by cases z).1 (B.o n s fun _ z => by cases z).2 (DwKs.bthR B ks _ a)
    | dt n s a => exact .dt (B.o n s fun _ z => by cases z).1 (B.o n s fun _ z => by cases z).2 (DwKt.bthR B ks _ a)
    | @exn _ _ _ _ ks n s n2 s2 c a => exact .exn (B.o n s kept_ne).1 (B.o n s kept_ne).2 (B.o n2 s2 fun _ z => by cases z).1 (B.o n2 s2 fun _ z => by cases z).2 c (DwFs.bthR B ks _ a)
    | exn0 n s c => exact .exn0 (B.o n s kept_ne).1 (B.o n s kept_ne).2 c
    | @obj _ _ _ _ ks n s c a => exact .obj (B.o n s fun _ z => by cases z).1 (B.o n s fun _ z => by cases z).2 c (DwFs.bthR B ks _ a)
theorem DwAll.bthR (B : Bth K M N H H') : ∀ (ds : List PyData) (vs : List V), DwAll K M H vs ds → DwAll K N H' vs ds
  | [], _, h => by cases h; exact .nil
  | d :: ds, _, h => by
    cases h with
    | cons a b => exact .cons (Dw.bthR B d _ a) (DwAll.bthR B ds _ b)
theorem DwKs.bthR (B : Bth K M N H H') : ∀ (ds : List (PyData × PyData)) (vs : List (Key × V)), DwKs K M H vs ds → DwKs K N H' vs ds
  | [], _, h => by cases h; exact .nil
  | (_, e) :: ds, _, h => by
    cases h with
    | cons k a b => exact .cons k (Dw.bthR B e _ a) (DwKs.bthR B ds _ b)
theorem DwKt.bthR (B : Bth K M N H H') : ∀ (ds : List (PyData × PyData)) (vs : List (List Key × V)), DwKt K M H vs ds → DwKt K N H' vs ds
  | [], _, h => by cases h; exact .nil
  | (_, e) :: ds, _, h => by
    cases h with
    | cons k a b => exact .cons k (Dw.bthR B e _ a) (DwKt.bthR B ds _ b)
theorem DwFs.bthR (B : Bth K M N H H') : ∀ (ds : List (PyData × PyData)) (vs : List (Str × V)), DwFs K M H vs ds → DwFs K N H' vs ds
  | [], _, h => by cases h; exact .nil
  | (_, e) :: ds, _, h => by
    cases h with
    | cons a b => exact .cons (Dw.bthR B e _ a) (DwFs.bthR B ds _ b)
end
theorem Bth.frm (F : Fx M H H') : Bth K M M H H' := ⟨fun h => h.frm F, fun h => h.frm F, fun n e t => ⟨n, F _ _ n e t⟩⟩
theorem Bth.more (i : ∀ c o, N c → H c = some o → M c) : Bth K M N H H := ⟨fun h => h.more i, fun h => h.more i, fun n e _ => ⟨fun m => n (i _ _ m e), e⟩⟩
theorem Dw.frm {v : V} {d : PyData} (h : Dw K M H v d) (F : Fx M H H') : Dw K M H' v d := Dw.bthR (Bth.frm F) d v h
theorem DwAll.frm {vs : List V} {ds : List PyData} (h : DwAll K M H vs ds) (F : Fx M H H') : DwAll K M H' vs ds := DwAll.bthR (Bth.frm F) ds vs h
theorem Dw.same {v : V} {d : PyData} (h : Dw K M H v d) (F : Same H H') : Dw K M H' v d := h.frm (fx_same F)
theorem DwAll.same {vs : List V} {ds : List PyData} (h : DwAll K M H vs ds) (F : Same H H') : DwAll K M H' vs ds := h.frm (fx_same F)
theorem Dw.more {v : V} {d : PyData} (h : Dw K M H v d) (i : ∀ c o, N c → H c = some o → M c) : Dw K N H v d := Dw.bthR (Bth.more i) d v h
theorem DwAll.more {vs : List V} {ds : List PyData} (h : DwAll K M H vs ds) (i : ∀ c o, N c → H c = some o → M c) : DwAll K N H vs ds := DwAll.bthR (Bth.more i) ds vs h
mutual
theorem Dw.dpR : ∀ (d : PyData) (v : V), Dw K M H v d → d.canLay0 = true → Dp K H v d
  | .none, _, h, _ => by cases h; exact .non
  | .bool b, _, h, _ => by cases h; exact .bl b
  | .int i, _, h, _ => by cases h; exact .int i
  | .str x, _, h, _ => by cases h; exact .str x
  | .list ds, _, h, c => by
    cases h with
    | lst n a => exact .lst n.at (DwAll.dpR ds _ a (by simpa [PyData.canLay0] using c))
  | .tuple ds, _, h, c => by
    cases h with
    | tup n a => exact .tup n.at (DwAll.dpR ds _ a (by simpa [PyData.canLay0] using c))
  | .dict _, _, h, c => by simp [PyData.canLay0] at c
theorem DwAll.dpR : ∀ (ds : List PyData) (vs : List V), DwAll K M H vs ds → PyData.canLayAll0 ds = true → DpAll K H vs ds
  | [], _, h, _ => by cases h; exact .nil
  | d :: ds, _, h, c => by
    have c' : d.canLay0 = true ∧ PyData.canLayAll0 ds = true := by simpa [PyData.canLayAll0] using c
    cases h with
    | cons a b => exact .cons (Dw.dpR d _ a c'.1) (DwAll.dpR ds _ b c'.2)
end
theorem Dw.dp {v : V} {d : PyData} (h : Dw K M H v d) (c : d.canLay0 = true) : Dp K H v d := Dw.dpR d v h c
/-- what isinstance asks -/
theorem Dw.isi {v : V} {d : PyData} {T : String} {p : PyData → Bool} (w : Dw K M H v d) (hT : T ∈ ["int", "bool", "str", "list", "tuple"]) (hp : ∀ d : PyData, PySem.W.kitOne K (.type (tyName d)) (.type T) = some (p d)) (hd : ∀ ks, p (.dict ks) = false) :
    ∃ t, TyY K H v t ∧ PySem.W.kitOne K t (.type T) = some (p d) := by
  cases w with
  | non => exact ⟨_, .x <| .base .non, hp .none⟩
  | bl b => exact ⟨_, .x <| .base (.bl b), hp (.bool b)⟩
  | int i => exact ⟨_, .x <| .base (.int i), hp (.int i)⟩
  | str x => exact ⟨_, .x <| .base (.str x), hp (.str x)⟩
  | lst s _ => exact ⟨_, .x <| tyx_lst s.at, hp (.list _)⟩
  | tup s _ => exact ⟨_, .x <| tyx_tup s.at, hp (.tuple _)⟩
  | dct _ s _ => exact ⟨_, .x <| .base (.dK s), hp (.dict _)⟩
  | dkT _ s => exact ⟨_, .x <| .base (.dK s), hp (.dict _)⟩
  | dcT _ s => exact ⟨_, .x <| .base (.dT s), hp (.dict _)⟩
  | dk _ s _ => exact ⟨_, .x <| .base (.dK s), hp (.dict _)⟩
  | dt _ s _ => exact ⟨_, .x <| .base (.dT s), hp (.dict _)⟩
  | obj _ s c _ => exact ⟨_, .x <| .base (.ins s c.cls c.cc c.gt c.tk c.ob), by rw [hd]; exact c.no T hT⟩
  | exn _ s _ s2 c _ => exact ⟨_, .e s (fun dd e => by cases e; exact ⟨_, s2⟩) c.ex, by rw [hd]; exact c.no T hT⟩
  | exn0 _ s c => exact ⟨_, .e s (fun dd e => by cases e) c.ex, by rw [hd]; exact c.no T hT⟩
theorem Dw.isSeq {v : V} {d : PyData} (w : Dw K M H v d) : ∃ t, TyY K H v t ∧ PySem.W.kitAny K t [.type "list", .type "tuple"] = some (seqD d).isSome := by
  have k := kit_seq (K := K) d
  cases w with
  | non => exact ⟨_, .x <| .base .non, k⟩
  | bl b => exact ⟨_, .x <| .base (.bl b), k⟩
  | int i => exact ⟨_, .x <| .base (.int i), k⟩
  | str x => exact ⟨_, .x <| .base (.str x), k⟩
  | lst s _ => exact ⟨_, .x <| tyx_lst s.at, k⟩
  | tup s _ => exact ⟨_, .x <| tyx_tup s.at, k⟩
  | dct _ s _ => exact ⟨_, .x <| .base (.dK s), k⟩
  | dkT _ s => exact ⟨_, .x <| .base (.dK s), k⟩
  | dcT _ s => exact ⟨_, .x <| .base (.dT s), k⟩
  | dk _ s _ => exact ⟨_, .x <| .base (.dK s), k⟩
  | dt _ s _ => exact ⟨_, .x <| .base (.dT s), k⟩
  | obj _ s c _ => exact ⟨_, .x <| .base (.ins s c.cls c.cc c.gt c.tk c.ob), kitAny_cons (c.no "list" (by simp)) (fun q => kitAny_cons (c.no "tuple" (by simp)) (fun q2 => kitAny_nil) (fun q2 => absurd q2 (by simp))) (fun q => absurd q (by simp))⟩
  | exn _ s _ s2 c _ => exact ⟨_, .e s (fun dd e => by cases e; exact ⟨_, s2⟩) c.ex, kitAny_cons (c.no "list" (by simp)) (fun q => kitAny_cons (c.no "tuple" (by simp)) (fun q2 => kitAny_nil) (fun q2 => absurd q2 (by simp))) (fun q => absurd q (by simp))⟩
  | exn0 _ s c => exact ⟨_, .e s (fun dd e => by cases e) c.ex, kitAny_cons (c.no "list" (by simp)) (fun q => kitAny_cons (c.no "tuple" (by simp)) (fun q2 => kitAny_nil) (fun q2 => absurd q2 (by simp))) (fun q => absurd q (by simp))⟩
theorem DwAll.length : ∀ {vs : List V} {ds : List PyData}, DwAll K M H vs ds → vs.length = ds.length
  | _, _, .nil => rfl
  | _, _, .cons _ t => congrArg Nat.succ (DwAll.length t)
theorem DwAll.get {vs : List V} {ds : List PyData} {i : Nat} {x : V} (h : DwAll K M H vs ds) (e : vs[i]? = some x) : ∃ d, ds[i]? = some d ∧ Dw K M H x d := by
  induction i generalizing vs ds with
  | zero => cases h with
    | nil => cases e
    | cons r _ => cases e; exact ⟨_, rfl, r⟩
  | succ i ih => cases h with
    | nil => cases e
    | cons _ t => exact ih t e
theorem DwAll.getD {vs : List V} {ds : List PyData} {i : Nat} {d : PyData} (h : DwAll K M H vs ds) (e : ds[i]? = some d) : ∃ x, vs[i]? = some x ∧ Dw K M H x d := by
  induction i generalizing vs ds with
  | zero => cases h with
    | nil => cases e
    | cons r _ => cases e; exact ⟨_, rfl, r⟩
  | succ i ih => cases h with
    | nil => cases e
    | cons _ t => exact ih t e
theorem DwAll.mem {vs : List V} {ds : List PyData} {x : V} (h : DwAll K M H vs ds) (m : x ∈ vs) : ∃ d, d ∈ ds ∧ Dw K M H x d := by
  obtain ⟨i, hi⟩ := List.mem_iff_getElem?.mp m
  obtain ⟨d, e, r⟩ := h.get hi
  exact ⟨d, List.mem_of_getElem? e, r⟩
theorem DwAll.append : ∀ {vs us : List V} {ds es : List PyData}, DwAll K M H vs ds → DwAll K M H us es → DwAll K M H (vs ++ us) (ds ++ es)
  | _, _, _, _, .nil, s => s
  | _, _, _, _, .cons r t, s => .cons r (DwAll.append t s)
theorem DwAll.drop : ∀ {vs : List V} {ds : List PyData} (n : Nat), DwAll K M H vs ds → DwAll K M H (vs.drop n) (ds.drop n)
  | _, _, 0, h => h
  | _, _, _ + 1, .nil => .nil
  | _, _, n + 1, .cons _ t => DwAll.drop n t
theorem DwAll.take : ∀ {vs : List V} {ds : List PyData} (n : Nat), DwAll K M H vs ds → DwAll K M H (vs.take n) (ds.take n)
  | _, _, 0, _ => .nil
  | _, _, _ + 1, .nil => .nil
  | _, _, n + 1, .cons r t => .cons r (DwAll.take n t)
theorem Dw.seq {v : V} {d : PyData} {ds : List PyData} (h : Dw K M H v d) (e : seqD d = some ds) : ∃ p xs, v = .ref p ∧ (SqL K H p xs ∨ SqT K H p xs) ∧ (LsW M H p xs ∨ TpW K M H p xs) ∧ DwAll K M H xs ds := by
  cases h with
  | lst n a => cases e; exact ⟨_, _, rfl, .inl n.at, .inl n, a⟩
  | tup n a => cases e; exact ⟨_, _, rfl, .inr n.at, .inr n, a⟩
  | _ => cases e
end
/-! ### fields, names -/
abbrev TSet := List (Addr × Str)
/-- a list or a dict under way -/
def PlainO : HO → Prop
  | .lst _ => True
  | .dK _ => True
  | .dT _ => True
  | _ => False
def noV : Nat → V := fun _ => .non
/-- where data stand, what else may change and how; n counts; at a, if so told, stands what draws -/
structure Fld where
  M : Addr → Prop
  G : Nat → Hp → Prop
  Rel : Hp → Hp → Prop
  a : Option Addr
  ts : Option TSet
  trans : ∀ {H H1 H2}, Rel H H1 → Rel H1 H2 → Rel H H2
  of : ∀ {H H'}, Same H H' → Rel H H'
  frm : ∀ {H H'}, Rel H H' → Fx M H H'
  same : ∀ {n H H'}, G n H → Same H H' → G n H'
  al : ∀ {n H c}, G n H → M c → ∃ o, H c = some o ∧ ∀ ps, o ≠ HO.tbl ps
  updR : ∀ {H1 H D o}, Rel H1 H → H1 D = none → Rel H1 (upd H D o)
  updG : ∀ {m n H1 H D o}, G m H1 → H1 D = none → G n H → (∀ u, H D = some u → PlainO u) → G n (upd H D o)
  dr : ∀ x, a = some x → M x ∧ ∃ b cs, (∀ n H, G n H → Sx x b cs n H) ∧ ∀ n n' H H', G n H → Frm (· = x) H H' → Sx x b cs n' H' → G n' H' ∧ Rel H H'
  ov : Nat → V
  born : ∀ {n H0 H D}, Rel H0 H → G n H → H D = none → ∀ H' o, Rel H0 H' → Rel H0 (upd H' D o)
  lm : ∀ TS, ts = some TS → (∀ n H, G n H → LamX.Tabs TS H) ∧ ∀ n H H', G n H → LamX.ExtN H H' → LamX.Tabs TS H' → G n H' ∧ Rel H H'
theorem Fld.refl (W : Fld) {H : Hp} : W.Rel H H := W.of (Same.refl H)
theorem Fld.new (W : Fld) {n : Nat} {H H' : Hp} {p : Addr} {o : HO} (g : W.G n H) (h : New H H' p o) : ¬ W.M p := fun m => by
  obtain ⟨u, e, _⟩ := W.al g m
  rw [h.2.2] at e
  cases e
def Al (M : Addr → Prop) (H : Hp) : Prop := ∀ c, M c → ∃ o, H c = some o ∧ ∀ ps, o ≠ HO.tbl ps
theorem Al.same {M : Addr → Prop} {H H' : Hp} (a : Al M H) (s : Same H H') : Al M H' := fun c m => (a c m).imp fun o h => ⟨s _ _ h.1, h.2⟩
theorem Al.upd {M : Addr → Prop} {H1 H : Hp} {D : Addr} {o : HO} (a : Al M H1) (h : H1 D = none) (g : Al M H) : Al M (upd H D o) := fun c m => by
  obtain ⟨o, e, t⟩ := g c m
  obtain ⟨o1, e1, _⟩ := a c m
  exact ⟨o, by rw [upd_ne (ne_of_none e1 h)]; exact e, t⟩
theorem Al.frm {M : Addr → Prop} {x : Addr} {H H' : Hp} (a : Al M H) (F : Frm (· = x) H H') (h : ∃ o, H' x = some o ∧ ∀ ps, o ≠ HO.tbl ps) : Al M H' := fun c m => by
  by_cases e : c = x
  · rw [e]; exact h
  · obtain ⟨o, q, t⟩ := a c m
    exact ⟨o, F _ _ e q, t⟩
theorem same_upd {H1 H : Hp} {D : Addr} {o : HO} (s : Same H1 H) (h : H1 D = none) : Same H1 (upd H D o) := fun c u e => by
  rw [upd_ne (ne_of_none e h)]
  exact s _ _ e
theorem Sx.atl {a b : Addr} {cs : List Int} {n : Nat} {H : Hp} (S : Sx a b cs n H) : ∃ o, H a = some o ∧ ∀ ps, o ≠ HO.tbl ps := by
  obtain ⟨t, r, S, _⟩ := S
  exact ⟨_, S.ha, fun _ z => by cases z⟩
theorem Al.ext {M : Addr → Prop} {H H' : Hp} (a : Al M H) (x : LamX.ExtN H H') : Al M H' := fun c m => (a c m).imp fun o h => ⟨x c o h.1 h.2, h.2⟩
/-- nothing changes -/
def pureF (M : Addr → Prop) : Fld where
  M := M
  G := fun _ H => Al M H
  Rel := Same
  a := none
  ts := none
  ov := noV
  born := fun s g e H' o s' => same_upd s' (by
    rename_i H0 H D
    cases q : H0 D with
    | none => rfl
    | some u => rw [s _ _ q] at e; cases e)
  lm := fun x e => by cases e
  trans := Same.trans
  of := id
  frm := fx_same
  same := Al.same
  al := fun a m => a _ m
  updR := same_upd
  updG := fun g h q _ => Al.upd g h q
  dr := fun x e => by cases e
/-- what draws stands at a -/
def drawF (M : Addr → Prop) (a b : Addr) (cs : List Int) (hM : M a) : Fld where
  M := M
  G := fun n H => Sx a b cs n H ∧ Al M H
  Rel := Frm (· = a)
  a := some a
  ts := none
  ov := noV
  born := fun F g e H' o F' => Frm.updD F' (by
    rename_i H0 H D
    cases q : H0 D with
    | none => rfl
    | some u =>
      obtain ⟨z, hz, _⟩ := g.1.atl
      rw [F _ _ (fun c => by rw [c, hz] at e; cases e) q] at e; cases e)
  lm := fun x e => by cases e
  trans := Frm.trans
  of := frm_same
  frm := fun F => fx_frm (F.mono fun c e => e ▸ hM)
  same := fun g s => ⟨g.1.same s, g.2.same s⟩
  al := fun g m => g.2 _ m
  updR := Frm.updD
  updG := fun g h q _ => ⟨Sx.updD g.1 h q.1, g.2.upd h q.2⟩
  dr := fun x e => by
    cases e
    exact ⟨hM, b, cs, fun n H g => g.1, fun n n' H H' g F S => ⟨⟨S, g.2.frm F S.atl⟩, F⟩⟩
/-- beside it a list at D under way -/
def Fld.plus (W : Fld) (D : Addr) (o : HO) (hO : ∀ ps, o ≠ .tbl ps) (hD : ¬ W.M D) : Fld where
  M := fun c => W.M c ∨ c = D
  G := fun n H => W.G n H ∧ H D = some o
  Rel := W.Rel
  a := W.a
  ts := W.ts
  ov := W.ov
  born := fun r g e => W.born r g.1 e
  lm := fun TS e => by
    obtain ⟨h1, h2⟩ := W.lm TS e
    refine ⟨fun n H g => h1 n H g.1, fun n H H' g x t => ?_⟩
    have q := h2 n H H' g.1 x t
    exact ⟨⟨q.1, x _ _ g.2 hO⟩, q.2⟩
  trans := W.trans
  of := W.of
  frm := fun F => (W.frm F).mono fun c e => .inl e
  same := fun g s => ⟨W.same g.1 s, s _ _ g.2⟩
  al := fun g m => m.elim (fun m => W.al g.1 m) fun e => e ▸ ⟨_, g.2, hO⟩
  updR := W.updR
  updG := fun g h q hp => ⟨W.updG g.1 h q.1 hp, by rw [upd_ne (ne_of_none g.2 h)]; exact q.2⟩
  dr := fun x e => by
    obtain ⟨m, b, cs, h1, h2⟩ := W.dr x e
    refine ⟨.inl m, b, cs, fun n H g => h1 n H g.1, fun n n' H H' g F S => ?_⟩
    have q := h2 n n' H H' g.1 F S
    exact ⟨⟨q.1, F _ _ (fun z => hD (z ▸ m)) g.2⟩, q.2⟩
/-- what a name holds -/
inductive DS where
  | d (x : PyData) | v (x : V) | dr | no | ow (k : Nat)
structure EnvD (K : PySem.W.Frag) (o : Option TSet) (M : Addr → Prop) (a : Option Addr × Option TSet × (Nat → V)) (ρ : List DS) (σ : L2.St) (H : Hp) : Prop where
  len : ρ.length = σ.length
  dat : ∀ (i : Nat) x, ρ[i]? = some (DS.d x) → ∃ v, σ[i]? = some (some v) ∧ Dw K M H v x
  val : ∀ (i : Nat) x, ρ[i]? = some (DS.v x) → σ[i]? = some (some x)
  drw : ∀ (i : Nat), ρ[i]? = some DS.dr → ∃ x, a.1 = some x ∧ σ[i]? = some (some (.ref x))
  own : ∀ (i : Nat) k, ρ[i]? = some (DS.ow k) → σ[i]? = some (some (a.2.2 k))
  tse : a.2.1 = o
section
variable {K : PySem.W.Frag} {M N : Addr → Prop} {H H' : Hp} {ρ : List DS} {σ : L2.St} {a : Option Addr × Option TSet × (Nat → V)} {o : Option TSet}
theorem EnvD.frm (E : EnvD K o M a ρ σ H) (F : Fx M H H') : EnvD K o M a ρ σ H' := ⟨E.len, fun i x e => (E.dat i x e).imp fun v h => ⟨h.1, h.2.frm F⟩, E.val, E.drw, E.own, E.tse⟩
theorem EnvD.more (E : EnvD K o M a ρ σ H) (i : ∀ c o, N c → H c = some o → M c) : EnvD K o N a ρ σ H := ⟨E.len, fun j x e => (E.dat j x e).imp fun v h => ⟨h.1, h.2.more i⟩, E.val, E.drw, E.own, E.tse⟩
theorem EnvD.nil (e : a.2.1 = o) : EnvD K o M a [] [] H := ⟨rfl, fun i x e => by simp at e, fun i x e => by simp at e, fun i e => by simp at e, fun i k e => by simp at e, e⟩
/-- what a name may hold -/
def Hold (K : PySem.W.Frag) (M : Addr → Prop) (a : Option Addr × Option TSet × (Nat → V)) (H : Hp) : DS → Option V → Prop
  | .d x, u => ∃ v, u = some v ∧ Dw K M H v x
  | .v x, u => u = some x
  | .dr, u => ∃ x, a.1 = some x ∧ u = some (.ref x)
  | .no, _ => True
  | .ow k, u => u = some (a.2.2 k)
theorem EnvD.cons {s : DS} {u : Option V} (h : Hold K M a H s u) (E : EnvD K o M a ρ σ H) : EnvD K o M a (s :: ρ) (u :: σ) H := by
  refine ⟨congrArg Nat.succ E.len, fun i y e => ?_, fun i y e => ?_, fun i e => ?_, fun i k e => ?_, E.tse⟩ <;> cases i with
  | zero =>
    cases e
    first | (obtain ⟨v, q, w⟩ := h; exact ⟨v, congrArg some q, w⟩) | exact congrArg some h | (obtain ⟨v, q, w⟩ := h; exact ⟨v, q, congrArg some w⟩)
  | succ i => first | exact E.dat i y e | exact E.val i y e | exact E.drw i e | exact E.own i k e
theorem EnvD.put {s : DS} {u : Option V} (E : EnvD K o M a ρ σ H) (j : Nat) (h : Hold K M a H s u) : EnvD K o M a (ρ.set j s) (σ.set j u) H := by
  have main : ∀ (i : Nat) t, (ρ.set j s)[i]? = some t → (j = i ∧ t = s ∧ i < σ.length) ∨ (j ≠ i ∧ ρ[i]? = some t) := fun i t e => by
    by_cases c : j = i
    · subst c
      have l := (List.getElem?_eq_some_iff.mp e).1
      rw [List.length_set] at l
      rw [List.getElem?_set_self l] at e
      cases e
      exact .inl ⟨rfl, rfl, by rw [← E.len]; exact l⟩
    · rw [List.getElem?_set_ne c] at e
      exact .inr ⟨c, e⟩
  refine ⟨by rw [List.length_set, List.length_set, E.len], fun i y e => ?_, fun i y e => ?_, fun i e => ?_, fun i k e => ?_, E.tse⟩ <;> rcases main i _ e with ⟨rfl, rfl, l⟩ | ⟨c, e⟩
  · obtain ⟨v, rfl, w⟩ := h
    exact ⟨v, List.getElem?_set_self l, w⟩
  · rw [List.getElem?_set_ne c]; exact E.dat i y e
  · cases (show u = some y from h)
    exact List.getElem?_set_self l
  · rw [List.getElem?_set_ne c]; exact E.val i y e
  · obtain ⟨v, q, rfl⟩ := h
    exact ⟨v, q, List.getElem?_set_self l⟩
  · rw [List.getElem?_set_ne c]; exact E.drw i e
  · cases (show u = some (a.2.2 k) from h)
    exact List.getElem?_set_self l
  · rw [List.getElem?_set_ne c]; exact E.own i k e
theorem EnvD.set {v : V} {x : PyData} (E : EnvD K o M a ρ σ H) (j : Nat) (h : Dw K M H v x) : EnvD K o M a (ρ.set j (.d x)) (σ.set j (some v)) H := E.put j ⟨v, rfl, h⟩
theorem EnvD.setn {u : Option V} (E : EnvD K o M a ρ σ H) (j : Nat) : EnvD K o M a (ρ.set j .no) (σ.set j u) H := E.put j True.intro
end
end MT
set_option maxHeartbeats 1000000
/-! expressions, tests, statements over data -/
namespace MT
open PySem L2
abbrev QD := PyData → Nat → Prop
abbrev TD := List DS → Nat → QD → Prop
abbrev TDB := List DS → Nat → (Bool → Nat → Prop) → Prop
abbrev TDA := List DS → Nat → (List PyData → Nat → Prop) → Prop
abbrev TDS := List DS → Nat → (List DS → Nat → Prop) → QD → Prop
section
variable (K : PySem.W.Frag) (o : Option TSet)
def tD (t : TD) : TE := fun σ H Q => ∃ (W : Fld) (ρ : List DS) (n : Nat) (R : QD), EnvD K o W.M (W.a, W.ts, W.ov) ρ σ H ∧ W.G n H ∧ t ρ n R ∧ ∀ d n', R d n' → ∀ v H', W.Rel H H' → W.G n' H' → Dw K W.M H' v d → Q v H'
def tDB (t : TDB) : TT := fun σ H Q => ∃ (W : Fld) (ρ : List DS) (n : Nat) (R : Bool → Nat → Prop), EnvD K o W.M (W.a, W.ts, W.ov) ρ σ H ∧ W.G n H ∧ t ρ n R ∧ ∀ b n', R b n' → ∀ H', W.Rel H H' → W.G n' H' → Q b H'
def tDA (t : TDA) : TA := fun σ H Q => ∃ (W : Fld) (ρ : List DS) (n : Nat) (R : List PyData → Nat → Prop), EnvD K o W.M (W.a, W.ts, W.ov) ρ σ H ∧ W.G n H ∧ t ρ n R ∧ ∀ ds n', R ds n' → ∀ vs H', W.Rel H H' → W.G n' H' → DwAll K W.M H' vs ds → Q vs H'
def tDs (t : TDS) : TS := fun D σ H => ∃ (W : Fld) (ρ : List DS) (n : Nat) (Rn : List DS → Nat → Prop) (Rr : QD), EnvD K o W.M (W.a, W.ts, W.ov) ρ σ H ∧ W.G n H ∧ t ρ n Rn Rr ∧
  (∀ ρ' n', Rn ρ' n' → ∀ σ' H', W.Rel H H' → W.G n' H' → EnvD K o W.M (W.a, W.ts, W.ov) ρ' σ' H' → D.nx σ' H') ∧ (∀ d n', Rr d n' → ∀ v H', W.Rel H H' → W.G n' H' → Dw K W.M H' v d → D.rt v H')
end
section
variable {X : Cx} {e : Expr} {es : List Expr} {pos : Pos}
theorem PA.imp {t t' : TA} (h : PA X es t) (i : ∀ σ H Q, t' σ H Q → t σ H Q) : PA X es t' := ⟨fun pos pins s σ H Q I q => h.run pos pins s σ H Q I (i σ H Q q)⟩
theorem PT.imp {t t' : TT} (h : PT X e t) (i : ∀ σ H Q, t' σ H Q → t σ H Q) : PT X e t' := ⟨fun pins s σ H Q I q => h.run pins s σ H Q I (i σ H Q q)⟩
theorem PW.imp {t t' : TT} (h : PW X e t) (i : ∀ σ H Q, t' σ H Q → t σ H Q) : PW X e t' := ⟨fun wh pins s σ H Q I q => h.run wh pins s σ H Q I (i σ H Q q)⟩
theorem PS.imp {st : Stmt} {t t' : TS} (h : PS X st t) (i : ∀ D σ H, t' D σ H → t D σ H) : PS X st t' := ⟨fun pins s σ H D I q => h.run pins s σ H D I (i D σ H q)⟩
theorem PSs.imp {st : List Stmt} {t t' : TS} (h : PSs X st t) (i : ∀ D σ H, t' D σ H → t D σ H) : PSs X st t' := ⟨fun pins s σ H D I q => h.run pins s σ H D I (i D σ H q)⟩
/-! ### names, constants, displays -/
def qVar (i : Nat) : TD := fun ρ n R => ∃ d, ρ[i]? = some (DS.d d) ∧ R d n
def qC (d : PyData) : TD := fun _ n R => R d n
theorem de_var {i : Nat} (h : PE X e (tVar i)) : PE X e (tD X.K o (qVar i)) := PE.imp h fun σ H Q ⟨W, ρ, n, R, E, g, ⟨d, hd, r⟩, k⟩ => by
  obtain ⟨v, hv, w⟩ := E.dat i d hd
  exact ⟨v, hv, k d n r v H W.refl g w⟩
theorem de_int {i : Int} (h : PE X e (tC (.int i))) : PE X e (tD X.K o (qC (.int i))) := PE.imp h fun σ H Q ⟨W, ρ, n, R, E, g, r, k⟩ => k _ n r _ H W.refl g (.int i)
theorem de_str {z : Str} (h : PE X e (tC (.str z))) : PE X e (tD X.K o (qC (.str z))) := PE.imp h fun σ H Q ⟨W, ρ, n, R, E, g, r, k⟩ => k _ n r _ H W.refl g (.str z)
theorem de_bl {b : Bool} (h : PE X e (tC (.bl b))) : PE X e (tD X.K o (qC (.bool b))) := PE.imp h fun σ H Q ⟨W, ρ, n, R, E, g, r, k⟩ => k _ n r _ H W.refl g (.bl b)
theorem de_non (h : PE X e (tC .non)) : PE X e (tD X.K o (qC .none)) := PE.imp h fun σ H Q ⟨W, ρ, n, R, E, g, r, k⟩ => k _ n r _ H W.refl g .non
/-- a tuple of the module -/
theorem de_glob {a : Addr} {xs : List V} {ds : List PyData} (hc : CoT xs) (ht : ∀ H, SqT X.K H a xs) (hd : ∀ M H, DwAll X.K M H xs ds) (h : PE X e (tC (.ref a))) : PE X e (tD X.K o (qC (.tuple ds))) := PE.imp h fun σ H Q ⟨W, ρ, n, R, E, g, r, k⟩ => k _ n r _ H W.refl g (.tup (.inr ⟨hc, ht⟩) (hd _ _))
def qNil : TDA := fun _ n R => R [] n
def qCons (t : TD) (u : TDA) : TDA := fun ρ n R => t ρ n fun d n1 => u ρ n1 fun ds n2 => R (d :: ds) n2
theorem da_nil (h : PA X es tNil) : PA X es (tDA X.K o qNil) := PA.imp h fun σ H Q ⟨W, ρ, n, R, E, g, r, k⟩ => k _ n r _ H W.refl g .nil
theorem da_cons {t : TD} {u : TDA} (h : PA X es (tCons (tD X.K o t) (tDA X.K o u))) : PA X es (tDA X.K o (qCons t u)) := PA.imp h fun σ H Q ⟨W, ρ, n, R, E, g, r, k⟩ =>
  ⟨W, ρ, n, _, E, g, r, fun d n1 r1 v H1 F1 g1 w1 => ⟨W, ρ, n1, _, E.frm (W.frm F1), g1, r1, fun ds n2 r2 vs H2 F2 g2 w2 => k _ n2 r2 _ H2 (W.trans F1 F2) g2 (.cons (w1.frm (W.frm F2)) w2)⟩⟩
def qTup (u : TDA) : TD := fun ρ n R => u ρ n fun ds n' => ds.length ≤ 10000000 ∧ R (.tuple ds) n'
def qLst (u : TDA) : TD := fun ρ n R => u ρ n fun ds n' => ds.length ≤ 10000000 ∧ R (.list ds) n'
theorem small_line {k : Nat} (h : k ≤ 10000000) : k ≤ sizeLine := by rw [sizeLine_eq]; omega
theorem de_tup {u : TDA} (h : PE X e (tTupN (tDA X.K o u))) : PE X e (tD X.K o (qTup u)) := PE.imp h fun σ H Q ⟨W, ρ, n, R, E, g, r, k⟩ =>
  ⟨W, ρ, n, _, E, g, r, fun ds n1 r1 vs H1 F1 g1 w1 => ⟨by rw [w1.length]; exact small_line r1.1, fun p H2 n2 => k _ n1 r1.2 _ H2 (W.trans F1 (W.of n2.1)) (W.same g1 n2.1) (.tup (.inl ⟨W.new g1 n2, n2.2.1⟩) (w1.same n2.1))⟩⟩
theorem de_lst {u : TDA} (h : PE X e (tLstN (tDA X.K o u))) : PE X e (tD X.K o (qLst u)) := PE.imp h fun σ H Q ⟨W, ρ, n, R, E, g, r, k⟩ =>
  ⟨W, ρ, n, _, E, g, r, fun ds n1 r1 vs H1 F1 g1 w1 => ⟨by rw [w1.length]; exact small_line r1.1, fun p H2 n2 => k _ n1 r1.2 _ H2 (W.trans F1 (W.of n2.1)) (W.same g1 n2.1) (.lst ⟨W.new g1 n2, n2.2.1⟩ (w1.same n2.1))⟩⟩
/-! ### two sides -/
def FitR (K : PySem.W.Frag) (r : R2) (f : PyData → PyData → (PyData → Prop) → Prop) : Prop := ∀ (dx dy : PyData) (R : PyData → Prop) (M : Addr → Prop) (H : Hp) (x y : V) (Q : VK), Al M H → Dw K M H x dx → Dw K M H y dy → f dx dy R →
  (∀ d, R d → ∀ v H', Same H H' → Dw K M H' v d → Q v H') → r x y H Q
def qOp (f : PyData → PyData → (PyData → Prop) → Prop) (ta tb : TD) : TD := fun ρ n R => ta ρ n fun dx n1 => tb ρ n1 fun dy n2 => f dx dy fun d => R d n2
theorem op_over {K : PySem.W.Frag} {r : R2} {f} {ta tb : TD} (hf : FitR K r f) {σ : L2.St} {H : Hp} {Q : VK} : tD K o (qOp f ta tb) σ H Q → tOp r (tD K o ta) (tD K o tb) σ H Q := fun ⟨W, ρ, n, R, E, g, t, k⟩ =>
  ⟨W, ρ, n, _, E, g, t, fun dx n1 t1 x H1 F1 g1 v1 => ⟨W, ρ, n1, _, E.frm (W.frm F1), g1, t1, fun dy n2 t2 y H2 F2 g2 v2 =>
    hf dx dy _ W.M H2 x y Q (fun c m => W.al g2 m) (v1.frm (W.frm F2)) v2 t2 fun d r v H' s w => k d n2 r v H' (W.trans (W.trans F1 F2) (W.of s)) (W.same g2 s) w⟩⟩
theorem de_op {r : R2} {f} {ta tb : TD} (hf : FitR X.K r f) (h : PE X e (tOp r (tD X.K o ta) (tD X.K o tb))) : PE X e (tD X.K o (qOp f ta tb)) := PE.imp h fun _ _ _ => op_over hf
def qB (t : TD) : TDB := fun ρ n R => t ρ n fun d n' => ∃ b, d = .bool b ∧ R b n'
theorem b_over {K : PySem.W.Frag} {t : TD} {σ : L2.St} {H : Hp} {Q : Bool → Hp → Prop} : tDB K o (qB t) σ H Q → tD K o t σ H fun x H1 => ∃ c, x = .bl c ∧ Q c H1 := fun ⟨W, ρ, n, R, E, g, t, k⟩ =>
  ⟨W, ρ, n, _, E, g, t, fun d n1 ⟨b, e, r⟩ v H1 F1 g1 w1 => by subst e; cases w1; exact ⟨b, rfl, k b n1 r H1 F1 g1⟩⟩
theorem dt_val {t : TD} (h : PT X e (tB (tD X.K o t))) : PT X e (tDB X.K o (qB t)) := PT.imp h fun _ _ _ => b_over
theorem dt_cmp {r : R2} {f} {ta tb : TD} (hf : FitR X.K r f) (h : PT X e (tTest (tOp r (tD X.K o ta) (tD X.K o tb)))) : PT X e (tDB X.K o (qB (qOp f ta tb))) := PT.imp h fun _ _ _ q => op_over hf (b_over q)
def qAnd (t u : TDB) : TDB := fun ρ n R => t ρ n fun b n1 => if b = true then u ρ n1 R else R false n1
def qOr (t u : TDB) : TDB := fun ρ n R => t ρ n fun b n1 => if b = true then R true n1 else u ρ n1 R
def qNot (t : TDB) : TDB := fun ρ n R => t ρ n fun b n1 => R (!b) n1
theorem and_over {K : PySem.W.Frag} {t u : TDB} {σ : L2.St} {H : Hp} {Q : Bool → Hp → Prop} : tDB K o (qAnd t u) σ H Q → tAnd (tDB K o t) (tDB K o u) σ H Q := fun ⟨W, ρ, n, R, E, g, t, k⟩ =>
  ⟨W, ρ, n, _, E, g, t, fun b n1 r1 H1 F1 g1 => by
    cases b with
    | true => exact ⟨W, ρ, n1, R, E.frm (W.frm F1), g1, r1, fun b n2 r2 H2 F2 g2 => k b n2 r2 H2 (W.trans F1 F2) g2⟩
    | false => exact k false n1 r1 H1 F1 g1⟩
theorem or_over {K : PySem.W.Frag} {t u : TDB} {σ : L2.St} {H : Hp} {Q : Bool → Hp → Prop} : tDB K o (qOr t u) σ H Q → tOr (tDB K o t) (tDB K o u) σ H Q := fun ⟨W, ρ, n, R, E, g, t, k⟩ =>
  ⟨W, ρ, n, _, E, g, t, fun b n1 r1 H1 F1 g1 => by
    cases b with
    | true => exact k true n1 r1 H1 F1 g1
    | false => exact ⟨W, ρ, n1, R, E.frm (W.frm F1), g1, r1, fun b n2 r2 H2 F2 g2 => k b n2 r2 H2 (W.trans F1 F2) g2⟩⟩
theorem dw_and {t u : TDB} (h : PW X e (tAnd (tDB X.K o t) (tDB X.K o u))) : PW X e (tDB X.K o (qAnd t u)) := PW.imp h fun _ _ _ => and_over
theorem dw_or {t u : TDB} (h : PW X e (tOr (tDB X.K o t) (tDB X.K o u))) : PW X e (tDB X.K o (qOr t u)) := PW.imp h fun _ _ _ => or_over
theorem dt_not {t : TDB} (h : PT X e (tNot (tDB X.K o t))) : PT X e (tDB X.K o (qNot t)) := PT.imp h fun σ H Q ⟨W, ρ, n, R, E, g, t, k⟩ => ⟨W, ρ, n, _, E, g, t, fun b n1 r H1 F1 g1 => k _ n1 r H1 F1 g1⟩
/-! as values -/
def qAndV (t u : TD) : TD := fun ρ n R => t ρ n fun d n1 => ∃ b, d = .bool b ∧ if b = true then u ρ n1 R else R (.bool false) n1
def qOrV (t u : TD) : TD := fun ρ n R => t ρ n fun d n1 => ∃ b, d = .bool b ∧ if b = true then R (.bool true) n1 else u ρ n1 R
def qNotV (t : TD) : TD := fun ρ n R => t ρ n fun d n1 => ∃ b, d = .bool b ∧ R (.bool (!b)) n1
theorem de_and {t u : TD} (h : PE X e (tAndV (tD X.K o t) (tD X.K o u))) : PE X e (tD X.K o (qAndV t u)) := PE.imp h fun σ H Q ⟨W, ρ, n, R, E, g, t, k⟩ =>
  ⟨W, ρ, n, _, E, g, t, fun d n1 ⟨b, e, r1⟩ v H1 F1 g1 w1 => by
    subst e
    cases w1
    refine ⟨b, rfl, ?_⟩
    cases b with
    | true => exact ⟨W, ρ, n1, R, E.frm (W.frm F1), g1, r1, fun b n2 r2 v H2 F2 g2 w2 => k b n2 r2 v H2 (W.trans F1 F2) g2 w2⟩
    | false => exact k _ n1 r1 _ H1 F1 g1 (.bl false)⟩
theorem de_or {t u : TD} (h : PE X e (tOrV (tD X.K o t) (tD X.K o u))) : PE X e (tD X.K o (qOrV t u)) := PE.imp h fun σ H Q ⟨W, ρ, n, R, E, g, t, k⟩ =>
  ⟨W, ρ, n, _, E, g, t, fun d n1 ⟨b, e, r1⟩ v H1 F1 g1 w1 => by
    subst e
    cases w1
    refine ⟨b, rfl, ?_⟩
    cases b with
    | false => exact ⟨W, ρ, n1, R, E.frm (W.frm F1), g1, r1, fun b n2 r2 v H2 F2 g2 w2 => k b n2 r2 v H2 (W.trans F1 F2) g2 w2⟩
    | true => exact k _ n1 r1 _ H1 F1 g1 (.bl true)⟩
theorem de_not {t : TD} (h : PE X e (tNotV (tD X.K o t))) : PE X e (tD X.K o (qNotV t)) := PE.imp h fun σ H Q ⟨W, ρ, n, R, E, g, t, k⟩ =>
  ⟨W, ρ, n, _, E, g, t, fun d n1 ⟨b, e, r1⟩ v H1 F1 g1 w1 => by subst e; cases w1; exact ⟨b, rfl, k _ n1 r1 _ H1 F1 g1 (.bl _)⟩⟩
def qIf (c : TDB) (t u : TD) : TD := fun ρ n R => c ρ n fun b n1 => if b = true then t ρ n1 R else u ρ n1 R
theorem de_if {c : TDB} {t u : TD} (h : PE X e (tIf (tDB X.K o c) (tD X.K o t) (tD X.K o u))) : PE X e (tD X.K o (qIf c t u)) := PE.imp h fun σ H Q ⟨W, ρ, n, R, E, g, t, k⟩ =>
  ⟨W, ρ, n, _, E, g, t, fun b n1 r1 H1 F1 g1 => by
    cases b with
    | true => exact ⟨W, ρ, n1, R, E.frm (W.frm F1), g1, r1, fun b n2 r2 v H2 F2 g2 w2 => k b n2 r2 v H2 (W.trans F1 F2) g2 w2⟩
    | false => exact ⟨W, ρ, n1, R, E.frm (W.frm F1), g1, r1, fun b n2 r2 v H2 F2 g2 w2 => k b n2 r2 v H2 (W.trans F1 F2) g2 w2⟩⟩
/-- a <= b <= c -/
def qChain (f f' : PyData → PyData → (PyData → Prop) → Prop) (ta tb tc : TD) : TD := fun ρ n R => ta ρ n fun dx n1 => tb ρ n1 fun dy n2 => f dx dy fun d => ∃ b, d = .bool b ∧ if b = true then tc ρ n2 fun dz n3 => f' dy dz fun d' => R d' n3 else R (.bool false) n2
theorem chain_over {K : PySem.W.Frag} {r r' : R2} {f f'} {ta tb tc : TD} (hf : FitR K r f) (hf' : FitR K r' f') {σ : L2.St} {H : Hp} {Q : VK} : tD K o (qChain f f' ta tb tc) σ H Q → tChain r r' (tD K o ta) (tD K o tb) (tD K o tc) σ H Q := fun ⟨W, ρ, n, R, E, g, t, k⟩ =>
  ⟨W, ρ, n, _, E, g, t, fun dx n1 t1 x H1 F1 g1 v1 => ⟨W, ρ, n1, _, E.frm (W.frm F1), g1, t1, fun dy n2 t2 y H2 F2 g2 v2 =>
    hf dx dy _ W.M H2 x y _ (fun c m => W.al g2 m) (v1.frm (W.frm F2)) v2 t2 fun d ⟨b, e, r⟩ v H' s w => by
      subst e
      cases w
      refine ⟨b, rfl, ?_⟩
      have F3 := W.trans (W.trans F1 F2) (W.of s)
      have g3 := W.same g2 s
      cases b with
      | false => exact k _ n2 r _ H' F3 g3 (.bl false)
      | true =>
        exact ⟨W, ρ, n2, _, E.frm (W.frm F3), g3, r, fun dz n4 t4 z H4 F4 g4 v4 => hf' dy dz _ W.M H4 y z Q (fun c m => W.al g4 m) ((v2.same s).frm (W.frm F4)) v4 t4 fun d r v H' s w => k d n4 r v H' (W.trans (W.trans F3 F4) (W.of s)) (W.same g4 s) w⟩⟩⟩
theorem de_chain {r r' : R2} {f f'} {ta tb tc : TD} (hf : FitR X.K r f) (hf' : FitR X.K r' f') (h : PE X e (tChain r r' (tD X.K o ta) (tD X.K o tb) (tD X.K o tc))) : PE X e (tD X.K o (qChain f f' ta tb tc)) := PE.imp h fun _ _ _ => chain_over hf hf'
theorem dt_chain {r r' : R2} {f f'} {ta tb tc : TD} (hf : FitR X.K r f) (hf' : FitR X.K r' f') (h : PT X e (tTest (tChain r r' (tD X.K o ta) (tD X.K o tb) (tD X.K o tc)))) : PT X e (tDB X.K o (qB (qChain f f' ta tb tc))) := PT.imp h fun _ _ _ q => chain_over hf hf' (b_over q)
/-! ### calls of what is built in -/
def FitC (K : PySem.W.Frag) (r : List V → Hp → VK → Prop) (f : List PyData → (PyData → Prop) → Prop) : Prop := ∀ (ds : List PyData) (R : PyData → Prop) (M : Addr → Prop) (H : Hp) (vs : List V) (Q : VK), Al M H → DwAll K M H vs ds → f ds R →
  (∀ d, R d → ∀ v H', Same H H' → Dw K M H' v d → Q v H') → r vs H Q
def qCB (f : List PyData → (PyData → Prop) → Prop) (u : TDA) : TD := fun ρ n R => u ρ n fun ds n1 => f ds fun d => R d n1
theorem de_cb {r : List V → Hp → VK → Prop} {f} {u : TDA} (hf : FitC X.K r f) (h : PE X e (tCB r (tDA X.K o u))) : PE X e (tD X.K o (qCB f u)) := PE.imp h fun σ H Q ⟨W, ρ, n, R, E, g, t, k⟩ =>
  ⟨W, ρ, n, _, E, g, t, fun ds n1 t1 vs H1 F1 g1 v1 => hf ds _ W.M H1 vs Q (fun c m => W.al g1 m) v1 t1 fun d r v H' s w => k d n1 r v H' (W.trans F1 (W.of s)) (W.same g1 s) w⟩
/-! ### slices -/
def FitS (K : PySem.W.Frag) (r : V → Option Int → Option Int → Hp → VK → Prop) (f : PyData → Option Int → Option Int → (PyData → Prop) → Prop) : Prop := ∀ (d : PyData) (lo hi : Option Int) (R : PyData → Prop) (M : Addr → Prop) (H : Hp) (x : V) (Q : VK), Al M H → Dw K M H x d → f d lo hi R →
  (∀ d, R d → ∀ v H', Same H H' → Dw K M H' v d → Q v H') → r x lo hi H Q
abbrev TDO := List DS → Nat → (Option Int → Nat → Prop) → Prop
def tDO (K : PySem.W.Frag) (o : Option TSet) (t : TDO) : TO := fun σ H Q => ∃ (W : Fld) (ρ : List DS) (n : Nat) (R : Option Int → Nat → Prop), EnvD K o W.M (W.a, W.ts, W.ov) ρ σ H ∧ W.G n H ∧ t ρ n R ∧ ∀ o n', R o n' → ∀ H', W.Rel H H' → W.G n' H' → Q o H'
theorem PO.imp {o : Option Expr} {t t' : TO} (h : PO X o t) (i : ∀ σ H Q, t' σ H Q → t σ H Q) : PO X o t' := ⟨fun pins s σ H Q I q => h.run pins s σ H Q I (i σ H Q q)⟩
def qNoO : TDO := fun _ n R => R none n
def qO (t : TD) : TDO := fun ρ n R => t ρ n fun d n' => ∃ i, d = .int i ∧ R (some i) n'
theorem do_none {oe : Option Expr} (h : PO X oe tNoPart) : PO X oe (tDO X.K o qNoO) := PO.imp h fun σ H Q ⟨W, ρ, n, R, E, g, r, k⟩ => k _ n r H W.refl g
theorem do_some {oe : Option Expr} {t : TD} (h : PO X oe (tPart (tD X.K o t))) : PO X oe (tDO X.K o (qO t)) := PO.imp h fun σ H Q ⟨W, ρ, n, R, E, g, r, k⟩ =>
  ⟨W, ρ, n, _, E, g, r, fun d n1 ⟨i, e, r1⟩ v H1 F1 g1 w => by subst e; cases w; exact ⟨i, rfl, k _ n1 r1 H1 F1 g1⟩⟩
def qSl (f : PyData → Option Int → Option Int → (PyData → Prop) → Prop) (t : TD) (l h : TDO) : TD := fun ρ n R => t ρ n fun d n1 => l ρ n1 fun lo n2 => h ρ n2 fun hi n3 => f d lo hi fun y => R y n3
theorem de_sl {r : V → Option Int → Option Int → Hp → VK → Prop} {f} {t : TD} {tl th : TDO} (hf : FitS X.K r f) (h : PE X e (tSl r (tD X.K o t) (tDO X.K o tl) (tDO X.K o th))) : PE X e (tD X.K o (qSl f t tl th)) := PE.imp h fun σ H Q ⟨W, ρ, n, R, E, g, t, k⟩ =>
  ⟨W, ρ, n, _, E, g, t, fun d n1 r1 v H1 F1 g1 w1 => ⟨W, ρ, n1, _, E.frm (W.frm F1), g1, r1, fun lo n2 r2 H2 F2 g2 => ⟨W, ρ, n2, _, E.frm (W.frm (W.trans F1 F2)), g2, r2, fun hi n3 r3 H3 F3 g3 =>
    hf d lo hi _ W.M H3 v Q (fun c m => W.al g3 m) (w1.frm (W.frm (W.trans F2 F3))) r3 fun y r v H' s w => k y n3 r v H' (W.trans (W.trans F1 (W.trans F2 F3)) (W.of s)) (W.same g3 s) w⟩⟩⟩
/-! ### statements -/
def qSet (i : Nat) (t : TD) : TDS := fun ρ n Rn _ => t ρ n fun d n' => Rn (ρ.set i (DS.d d)) n'
theorem ds_set {st : Stmt} {i : Nat} {t : TD} (h : PS X st (tAsg (tD X.K o t) (gName i))) : PS X st (tDs X.K o (qSet i t)) := PS.imp h fun D σ H ⟨W, ρ, n, Rn, Rr, E, g, t, k1, k2⟩ =>
  ⟨W, ρ, n, _, E, g, t, fun d n1 r v H1 F1 g1 w => k1 _ n1 r _ H1 F1 g1 ((E.frm (W.frm F1)).set i w)⟩
def qRet (t : TD) : TDS := fun ρ n _ Rr => t ρ n Rr
theorem ds_ret {st : Stmt} {t : TD} (h : PS X st (tRet (tD X.K o t))) : PS X st (tDs X.K o (qRet t)) := PS.imp h fun D σ H ⟨W, ρ, n, Rn, Rr, E, g, t, k1, k2⟩ => ⟨W, ρ, n, _, E, g, t, k2⟩
def qIfS (c : TDB) (t u : TDS) : TDS := fun ρ n Rn Rr => c ρ n fun b n1 => if b = true then t ρ n1 Rn Rr else u ρ n1 Rn Rr
theorem ds_if {st : Stmt} {c : TDB} {t u : TDS} (h : PS X st (tIfS (tDB X.K o c) (tDs X.K o t) (tDs X.K o u))) : PS X st (tDs X.K o (qIfS c t u)) := PS.imp h fun D σ H ⟨W, ρ, n, Rn, Rr, E, g, t, k1, k2⟩ =>
  ⟨W, ρ, n, _, E, g, t, fun b n1 r1 H1 F1 g1 => by
    cases b with
    | true => exact ⟨W, ρ, n1, Rn, Rr, E.frm (W.frm F1), g1, r1, fun ρ' n' r σ' H' F g E => k1 ρ' n' r σ' H' (W.trans F1 F) g E, fun d n' r v H' F g w => k2 d n' r v H' (W.trans F1 F) g w⟩
    | false => exact ⟨W, ρ, n1, Rn, Rr, E.frm (W.frm F1), g1, r1, fun ρ' n' r σ' H' F g E => k1 ρ' n' r σ' H' (W.trans F1 F) g E, fun d n' r v H' F g w => k2 d n' r v H' (W.trans F1 F) g w⟩⟩
def qSeq (t u : TDS) : TDS := fun ρ n Rn Rr => t ρ n (fun ρ1 n1 => u ρ1 n1 Rn Rr) Rr
theorem dss_cons {st : List Stmt} {t u : TDS} (h : PSs X st (tSeq (tDs X.K o t) (tDs X.K o u))) : PSs X st (tDs X.K o (qSeq t u)) := PSs.imp h fun D σ H ⟨W, ρ, n, Rn, Rr, E, g, t, k1, k2⟩ =>
  ⟨W, ρ, n, _, Rr, E, g, t, fun ρ1 n1 r1 σ1 H1 F1 g1 E1 => ⟨W, ρ1, n1, Rn, Rr, E1, g1, r1, fun ρ' n' r σ' H' F g E => k1 ρ' n' r σ' H' (W.trans F1 F) g E, fun d n' r v H' F g w => k2 d n' r v H' (W.trans F1 F) g w⟩, k2⟩
def qNilS : TDS := fun ρ n Rn _ => Rn ρ n
end
end MT
set_option maxHeartbeats 1000000
/-! one rule for each sign, whatever data stand beside it -/
namespace MT
open PySem L2
theorem OpR.or {X : Cx} {f : Value → Value → Sem Value} {r r' : R2} (h : OpR X f r) (h' : OpR X f r') : OpR X f (fun x y H Q => r x y H Q ∨ r' x y H Q) := by
  intro pins s σ H x y v u Q I rx ry q
  rcases q with q | q
  · exact h pins s σ H x y v u Q I rx ry q
  · exact h' pins s σ H x y v u Q I rx ry q
/-! ### + -/
def rAddU (K : PySem.W.Frag) : R2 := fun x y H Q => rI0 (fun i j => .int (i + j)) x y H Q ∨ (∃ i j, x = .str i ∧ y = .str j ∧ i.length + j.length ≤ sizeLine ∧ Q (.str (i ++ j)) H) ∨ (∃ l b xs zs, x = .ref l ∧ y = .ref b ∧ H l = some (.lst xs) ∧ H b = some (.lst zs) ∧ xs.length + zs.length ≤ sizeLine ∧ ∀ p H2, New H H2 p (.lst (xs ++ zs)) → Q (.ref p) H2) ∨
  ∃ a b xs ys, x = .ref a ∧ y = .ref b ∧ SqT K H a xs ∧ SqT K H b ys ∧ xs.length + ys.length ≤ sizeLine ∧ (xs = [] → Q (.ref b) H) ∧ (xs ≠ [] → ys = [] → Q (.ref a) H) ∧ ∀ p H2, New H H2 p (.tup (xs ++ ys)) → Q (.ref p) H2
theorem op_addU {X : Cx} : OpR X (binaryOp .Add) (rAddU X.K) := OpR.or op_add (OpR.or op_add_str (OpR.or op_catN op_catAN))
def fAdd : PyData → PyData → (PyData → Prop) → Prop
  | .int i, .int j, R => R (.int (i + j))
  | .str a, .str b, R => a.length + b.length ≤ 10000000 ∧ R (.str (a ++ b))
  | .list a, .list b, R => a.length + b.length ≤ 10000000 ∧ R (.list (a ++ b))
  | .tuple a, .tuple b, R => a.length + b.length ≤ 10000000 ∧ R (.tuple (a ++ b))
  | _, _, _ => False
section
variable {K : PySem.W.Frag}
theorem new_away {M : Addr → Prop} {H H' : Hp} {p : Addr} {o : HO} (a : Al M H) (h : New H H' p o) : ¬ M p := fun m => by
  obtain ⟨u, e, _⟩ := a _ m
  rw [h.2.2] at e
  cases e
theorem fit_add : FitR K (rAddU K) fAdd := by
  intro dx dy R M H x y Q al wx wy f k
  cases wx with
  | int i =>
    cases wy with
    | int j => exact .inl ⟨i, j, rfl, rfl, k _ f _ _ (Same.refl _) (.int _)⟩
    | _ => exact f.elim
  | str a =>
    cases wy with
    | str b => exact .inr (.inl ⟨a, b, rfl, rfl, small_line f.1, k _ f.2 _ _ (Same.refl _) (.str _)⟩)
    | _ => exact f.elim
  | lst s a =>
    cases wy with
    | lst s2 a2 => exact .inr (.inr (.inl ⟨_, _, _, _, rfl, rfl, s.2, s2.2, by rw [a.length, a2.length]; exact small_line f.1, fun p H2 n2 => k _ f.2 _ _ n2.1 (.lst ⟨new_away al n2, n2.2.1⟩ ((a.append a2).same n2.1))⟩))
    | _ => exact f.elim
  | tup s a =>
    cases wy with
    | tup s2 a2 =>
      refine .inr (.inr (.inr ⟨_, _, _, _, rfl, rfl, s.at, s2.at, by rw [a.length, a2.length]; exact small_line f.1, fun e => ?_, fun _ e => ?_, fun p H2 n2 => k _ f.2 _ _ n2.1 (.tup (.inl ⟨new_away al n2, n2.2.1⟩) ((a.append a2).same n2.1))⟩))
      · subst e
        cases a
        exact k _ f.2 _ _ (Same.refl _) (.tup s2 a2)
      · subst e
        cases a2
        have q := f.2
        rw [List.append_nil] at q
        exact k _ q _ _ (Same.refl _) (.tup s a)
    | _ => exact f.elim
  | _ => exact f.elim
/-! ### - -/
def fSub : PyData → PyData → (PyData → Prop) → Prop
  | .int i, .int j, R => R (.int (i - j))
  | _, _, _ => False
theorem fit_sub : FitR K (rI0 (fun i j => .int (i - j))) fSub := by
  intro dx dy R M H x y Q al wx wy f k
  cases wx with
  | int i =>
    cases wy with
    | int j => exact ⟨i, j, rfl, rfl, k _ f _ _ (Same.refl _) (.int _)⟩
    | _ => exact f.elim
  | _ => exact f.elim
end
/-! ### * -/
def rMulU (K : PySem.W.Frag) : R2 := fun x y H Q => (∃ i j, x = .int i ∧ y = .int j ∧ CMul i j ∧ Q (.int (i * j)) H) ∨ (∃ (z : Str) (n : Int), x = .str z ∧ y = .int n ∧ 2 ≤ n ∧ n ≤ 1000 ∧ 1 ≤ z.length ∧ z.length ≤ 1000 ∧ (repStr z n).length ≤ sizeLine ∧ Q (.str (repStr z n)) H) ∨
  (∃ l k xs, x = .ref l ∧ y = .int k ∧ H l = some (.lst xs) ∧ -(2 ^ 63) ≤ k ∧ k < 2 ^ 63 ∧ xs.length * k.toNat ≤ sizeLine ∧ ∀ p H2, New H H2 p (.lst (List.replicate k.toNat xs).flatten) → Q (.ref p) H2) ∨
  ∃ l k xs, x = .ref l ∧ y = .int k ∧ SqT K H l xs ∧ xs ≠ [] ∧ 2 ≤ k ∧ k ≤ 1000 ∧ xs.length ≤ 1000 ∧ ∀ p H2, New H H2 p (.tup (List.replicate k.toNat xs).flatten) → Q (.ref p) H2
theorem op_mulU {X : Cx} : OpR X (binaryOp .Mult) (rMulU X.K) := OpR.or op_mul (OpR.or op_repS (OpR.or op_repN op_repTN))
def fMul : PyData → PyData → (PyData → Prop) → Prop
  | .int i, .int j, R => CMul i j ∧ R (.int (i * j))
  | .str z, .int n, R => (2 ≤ n ∧ n ≤ 1000 ∧ 1 ≤ z.length ∧ z.length ≤ 1000 ∧ (repStr z n).length ≤ sizeLine) ∧ R (.str (repStr z n))
  | .list a, .int n, R => (-(2 ^ 63) ≤ n ∧ n < 2 ^ 63 ∧ a.length * n.toNat ≤ 10000000) ∧ R (.list (List.replicate n.toNat a).flatten)
  | .tuple a, .int n, R => (a ≠ [] ∧ 2 ≤ n ∧ n ≤ 1000 ∧ a.length ≤ 1000) ∧ R (.tuple (List.replicate n.toNat a).flatten)
  | _, _, _ => False
section
variable {K : PySem.W.Frag}
theorem DwAll.rep {M : Addr → Prop} {H : Hp} {vs : List V} {ds : List PyData} (h : DwAll K M H vs ds) : ∀ n : Nat, DwAll K M H (List.replicate n vs).flatten (List.replicate n ds).flatten
  | 0 => .nil
  | n + 1 => by
    rw [List.replicate_succ, List.replicate_succ, List.flatten_cons, List.flatten_cons]
    exact h.append (DwAll.rep h n)
theorem fit_mul : FitR K (rMulU K) fMul := by
  intro dx dy R M H x y Q al wx wy f k
  cases wx with
  | int i =>
    cases wy with
    | int j => exact .inl ⟨i, j, rfl, rfl, f.1, k _ f.2 _ _ (Same.refl _) (.int _)⟩
    | _ => exact f.elim
  | str a =>
    cases wy with
    | int j =>
      obtain ⟨⟨h1, h2, h3, h4, h5⟩, r⟩ := f
      exact .inr (.inl ⟨a, j, rfl, rfl, h1, h2, h3, h4, h5, k _ r _ _ (Same.refl _) (.str _)⟩)
    | _ => exact f.elim
  | lst s a =>
    cases wy with
    | int j =>
      obtain ⟨⟨h1, h2, h3⟩, r⟩ := f
      exact .inr (.inr (.inl ⟨_, _, _, rfl, rfl, s.2, h1, h2, by rw [a.length]; exact small_line h3, fun p H2 n2 => k _ r _ _ n2.1 (.lst ⟨new_away al n2, n2.2.1⟩ ((a.rep _).same n2.1))⟩))
    | _ => exact f.elim
  | tup s a =>
    cases wy with
    | int j =>
      obtain ⟨⟨h0, h1, h2, h3⟩, r⟩ := f
      exact .inr (.inr (.inr ⟨_, _, _, rfl, rfl, s.at, fun e => h0 (by subst e; cases a; rfl), h1, h2, by rw [a.length]; exact h3, fun p H2 n2 => k _ r _ _ n2.1 (.tup (.inl ⟨new_away al n2, n2.2.1⟩) ((a.rep _).same n2.1))⟩))
    | _ => exact f.elim
  | _ => exact f.elim
/-! ### == != -/
def fEq (d e : PyData) (R : PyData → Prop) : Prop := tame d = true ∧ tame e = true ∧ R (.bool (PyData.eqv d e))
def fNe (d e : PyData) (R : PyData → Prop) : Prop := tame d = true ∧ tame e = true ∧ R (.bool (!PyData.eqv d e))
theorem tame_shaped {d : PyData} (h : tame d = true) : SeqAt.shaped d = true ∧ d.canLay0 = true := by
  unfold tame at h
  rw [Bool.and_eq_true] at h
  refine ⟨?_, h.1⟩
  unfold SeqAt.shaped
  rw [h.1, Bool.true_and]
  exact decide_eq_true (Nat.le_trans (of_decide_eq_true h.2) (by decide))
theorem fit_eq : FitR K (rEqD K) fEq := fun dx dy R M H x y Q al wx wy f k =>
  ⟨dx, dy, wx.dp (tame_shaped f.1).2, wy.dp (tame_shaped f.2.1).2, (tame_shaped f.1).1, (tame_shaped f.2.1).1, k _ f.2.2 _ _ (Same.refl _) (.bl _)⟩
theorem fit_ne : FitR K (rNeD K) fNe := fun dx dy R M H x y Q al wx wy f k =>
  ⟨dx, dy, wx.dp (tame_shaped f.1).2, wy.dp (tame_shaped f.2.1).2, (tame_shaped f.1).1, (tame_shaped f.2.1).1, k _ f.2.2 _ _ (Same.refl _) (.bl _)⟩
end
/-! ### < <= > >= -/
def rOrd (g : Int → Int → Bool) (h : Str → Str → Bool) : R2 := fun x y H Q => rI0 (fun i j => .bl (g i j)) x y H Q ∨ ∃ i j, x = .str i ∧ y = .str j ∧ Q (.bl (h i j)) H
def fOrd (g : Int → Int → Bool) (h : Str → Str → Bool) : PyData → PyData → (PyData → Prop) → Prop
  | .int i, .int j, R => R (.bool (g i j))
  | .str i, .str j, R => R (.bool (h i j))
  | _, _, _ => False
def ltS (a b : Str) : Bool := decide (a.cps.toList < b.cps.toList)
theorem op_ltU {X : Cx} : OpR X (compareOp .Lt) (rOrd (fun i j => decide (i < j)) ltS) := OpR.or op_lt op_lt_str
theorem op_leU {X : Cx} : OpR X (compareOp .LtE) (rOrd (fun i j => decide (i ≤ j)) (fun a b => !ltS b a)) := OpR.or op_le op_le_str
theorem op_gtU {X : Cx} : OpR X (compareOp .Gt) (rOrd (fun i j => decide (j < i)) (fun a b => ltS b a)) := OpR.or op_gt op_gt_str
theorem op_geU {X : Cx} : OpR X (compareOp .GtE) (rOrd (fun i j => decide (j ≤ i)) (fun a b => !ltS a b)) := OpR.or op_ge op_ge_str
theorem fit_ord {K : PySem.W.Frag} {g : Int → Int → Bool} {h : Str → Str → Bool} : FitR K (rOrd g h) (fOrd g h) := by
  intro dx dy R M H x y Q al wx wy f k
  cases wx with
  | int i =>
    cases wy with
    | int j => exact .inl ⟨i, j, rfl, rfl, k _ f _ _ (Same.refl _) (.bl _)⟩
    | _ => exact f.elim
  | str i =>
    cases wy with
    | str j => exact .inr ⟨i, j, rfl, rfl, k _ f _ _ (Same.refl _) (.bl _)⟩
    | _ => exact f.elim
  | _ => exact f.elim
/-! ### is -/
def isNone : PyData → Bool
  | .none => true
  | _ => false
def rIsU : R2 := fun x y H Q => (y = .non ∧ Q (.bl (decide (x = .non))) H) ∨ ∃ a b : Bool, x = .bl a ∧ y = .bl b ∧ Q (.bl (decide (a = b))) H
def rNotU : R2 := fun x y H Q => (y = .non ∧ Q (.bl (!decide (x = .non))) H) ∨ ∃ a b : Bool, x = .bl a ∧ y = .bl b ∧ Q (.bl (!decide (a = b))) H
theorem op_isU {X : Cx} : OpR X (compareOp .Is) rIsU := OpR.or op_isN op_isBl
theorem op_notU {X : Cx} : OpR X (compareOp .IsNot) rNotU := OpR.or op_notN op_notBl
def fIs (d e : PyData) (R : PyData → Prop) : Prop := match e with
  | .none => R (.bool (isNone d))
  | .bool b => ∃ a, d = .bool a ∧ R (.bool (decide (a = b)))
  | _ => False
def fNot (d e : PyData) (R : PyData → Prop) : Prop := match e with
  | .none => R (.bool (!isNone d))
  | .bool b => ∃ a, d = .bool a ∧ R (.bool (!decide (a = b)))
  | _ => False
theorem isNone_eq {K : PySem.W.Frag} {M : Addr → Prop} {H : Hp} {v : V} {d : PyData} (w : Dw K M H v d) : decide (v = .non) = isNone d := by
  cases w <;> rfl
theorem fit_is {K : PySem.W.Frag} : FitR K rIsU fIs := by
  intro dx dy R M H x y Q al wx wy f k
  cases wy with
  | non => exact .inl ⟨rfl, by rw [isNone_eq wx]; exact k _ f _ _ (Same.refl _) (.bl _)⟩
  | bl b =>
    obtain ⟨a, rfl, r⟩ := f
    cases wx
    exact .inr ⟨a, b, rfl, rfl, k _ r _ _ (Same.refl _) (.bl _)⟩
  | _ => exact f.elim
theorem fit_not {K : PySem.W.Frag} : FitR K rNotU fNot := by
  intro dx dy R M H x y Q al wx wy f k
  cases wy with
  | non => exact .inl ⟨rfl, by rw [isNone_eq wx]; exact k _ f _ _ (Same.refl _) (.bl _)⟩
  | bl b =>
    obtain ⟨a, rfl, r⟩ := f
    cases wx
    exact .inr ⟨a, b, rfl, rfl, k _ r _ _ (Same.refl _) (.bl _)⟩
  | _ => exact f.elim
/-! ### in -/
def flatD : PyData → Bool
  | .none => true
  | .bool _ => true
  | .int _ => true
  | .str _ => true
  | _ => false
def eqF : PyData → PyData → Bool
  | .none, .none => true
  | .bool a, .bool b => a == b
  | .bool a, .int b => (if a then 1 else 0) == b
  | .int a, .bool b => a == (if b then 1 else 0)
  | .int a, .int b => a == b
  | .str a, .str b => a == b
  | _, _ => false
def inF (x : PyData) (ds : List PyData) : Bool := ds.any fun y => eqF y x
section
variable {K : PySem.W.Frag} {M : Addr → Prop} {H : Hp}
theorem flat_eq {v : V} {d : PyData} (w : Dw K M H v d) : flatV v = flatD d := by
  cases w <;> rfl
theorem flats_eq : ∀ {vs : List V} {ds : List PyData}, DwAll K M H vs ds → vs.all flatV = ds.all flatD
  | _, _, .nil => rfl
  | _, _, .cons a b => by rw [List.all_cons, List.all_cons, flat_eq a, flats_eq b]
theorem eqV_eqF {v u : V} {d e : PyData} (w : Dw K M H v d) (w2 : Dw K M H u e) (h : flatD d = true) (h2 : flatD e = true) : eqV v u = eqF d e := by
  cases w <;> first | (cases h; done) | (cases w2 <;> first | (cases h2; done) | rfl)
theorem in_eq {v : V} {d : PyData} (w : Dw K M H v d) (h : flatD d = true) : ∀ {vs : List V} {ds : List PyData}, DwAll K M H vs ds → ds.all flatD = true → inV v vs = inF d ds
  | _, _, .nil, _ => rfl
  | _, _, .cons a b, hh => by
    rw [List.all_cons, Bool.and_eq_true] at hh
    have ih := in_eq w h b hh.2
    unfold inV inF at ih ⊢
    rw [List.any_cons, List.any_cons, ih, eqV_eqF a w hh.1 h]
def rInU (K : PySem.W.Frag) (neg : Bool) : R2 := fun x y H Q => rIn K neg x y H Q ∨ ∃ (c : Nat) (z : Str), x = .str ⟨#[c]⟩ ∧ y = .str z ∧ Q (.bl (if neg then !decide (c ∈ z.cps.toList) else decide (c ∈ z.cps.toList))) H
end
theorem op_inU {X : Cx} : OpR X (compareOp .In) (rInU X.K false) := OpR.or op_in_seq op_in_sign
def fIn (neg : Bool) : PyData → PyData → (PyData → Prop) → Prop
  | d, .list ds, R => flatD d = true ∧ ds.all flatD = true ∧ R (.bool (if neg then !inF d ds else inF d ds))
  | d, .tuple ds, R => flatD d = true ∧ ds.all flatD = true ∧ R (.bool (if neg then !inF d ds else inF d ds))
  | .str x, .str z, R => ∃ c : Nat, x = ⟨#[c]⟩ ∧ R (.bool (if neg then !decide (c ∈ z.cps.toList) else decide (c ∈ z.cps.toList)))
  | _, _, _ => False
theorem fit_in {K : PySem.W.Frag} {neg : Bool} : FitR K (rInU K neg) (fIn neg) := by
  intro dx dy R M H x y Q al wx wy f k
  have seq : ∀ {p : Addr} {xs : List V} {ds : List PyData}, (SqL K H p xs ∨ SqT K H p xs) → DwAll K M H xs ds → (flatD dx = true ∧ ds.all flatD = true ∧ R (.bool (if neg then !inF dx ds else inF dx ds))) → rIn K neg x (.ref p) H Q := fun {p xs ds} s a f =>
    ⟨p, xs, rfl, s, (flat_eq wx).trans f.1, (flats_eq a).trans f.2.1, by rw [in_eq wx f.1 a f.2.1]; exact k _ f.2.2 _ _ (Same.refl _) (.bl _)⟩
  cases wy with
  | lst s a => cases wx <;> exact .inl (seq (.inl s.at) a f)
  | tup s a => cases wx <;> exact .inl (seq (.inr s.at) a f)
  | str z =>
    cases wx with
    | str x =>
      obtain ⟨c, rfl, r⟩ := f
      exact .inr ⟨c, z, rfl, rfl, k _ r _ _ (Same.refl _) (.bl _)⟩
    | _ => exact f.elim
  | _ => cases wx <;> exact f.elim
end MT
set_option maxHeartbeats 1000000
/-! items, slices, what is built in; walks; calls -/
namespace MT
open PySem L2
/-- x in l, whatever stands there -/
def rInV (K : PySem.W.Frag) (neg : Bool) : R2 := fun x y H Q => (∃ d e ds, Dp K H x d ∧ Dp K H y e ∧ (e = .list ds ∨ e = .tuple ds) ∧ SeqAt.shaped d = true ∧ PyData.canLayAll0 ds = true ∧ Q (.bl (if neg then !ds.any fun z => PyData.eqv z d else ds.any fun z => PyData.eqv z d)) H) ∨
  ∃ (c : Nat) (z : Str), x = .str ⟨#[c]⟩ ∧ y = .str z ∧ Q (.bl (if neg then !decide (c ∈ z.cps.toList) else decide (c ∈ z.cps.toList))) H
theorem op_inV {X : Cx} (hu : X.A.units + 65 < cLine) : OpR X (compareOp .In) (rInV X.K false) := OpR.or (by
  intro pins s σ H x y v u Q I rx ry h
  obtain ⟨d, e, ds, hd, he, hs, sd, se, q⟩ := h
  obtain ⟨as, r1⟩ := Dp.reads I d x v hd rx
  obtain ⟨bs, r2⟩ := Dp.reads I e y u he ry
  rcases hs with rfl | rfl
  · exact SeqAt.in_list_reads r2 r1 se (SeqAt.canLay_of_shaped sd) (PyProof.Rows.room_in_shaped sd hu) ⟨.bl _, H, I, rfl, q⟩
  · exact SeqAt.in_tuple_reads r2 r1 se (SeqAt.canLay_of_shaped sd) (PyProof.Rows.room_in_shaped sd hu) ⟨.bl _, H, I, rfl, q⟩) op_in_sign
theorem op_notInV {X : Cx} (hu : X.A.units + 65 < cLine) : OpR X (compareOp .NotIn) (rInV X.K true) := OpR.or (by
  intro pins s σ H x y v u Q I rx ry h
  obtain ⟨d, e, ds, hd, he, hs, sd, se, q⟩ := h
  obtain ⟨as, r1⟩ := Dp.reads I d x v hd rx
  obtain ⟨bs, r2⟩ := Dp.reads I e y u he ry
  rcases hs with rfl | rfl
  · exact SeqAt.notIn_list_reads r2 r1 se (SeqAt.canLay_of_shaped sd) (PyProof.Rows.room_in_shaped sd hu) ⟨.bl _, H, I, rfl, q⟩
  · exact SeqAt.notIn_tuple_reads r2 r1 se (SeqAt.canLay_of_shaped sd) (PyProof.Rows.room_in_shaped sd hu) ⟨.bl _, H, I, rfl, q⟩) op_notIn_sign
def inD (x : PyData) (ds : List PyData) : Bool := ds.any fun z => PyData.eqv z x
def fInV (neg : Bool) : PyData → PyData → (PyData → Prop) → Prop
  | d, .list ds, R => tame d = true ∧ ds.all tame = true ∧ R (.bool (if neg then !inD d ds else inD d ds))
  | d, .tuple ds, R => tame d = true ∧ ds.all tame = true ∧ R (.bool (if neg then !inD d ds else inD d ds))
  | .str x, .str z, R => ∃ c : Nat, x = ⟨#[c]⟩ ∧ R (.bool (if neg then !decide (c ∈ z.cps.toList) else decide (c ∈ z.cps.toList)))
  | _, _, _ => False
theorem fit_inV {K : PySem.W.Frag} {neg : Bool} : FitR K (rInV K neg) (fInV neg) := by
  intro dx dy R M H x y Q al wx wy f k
  have seq : ∀ {e : PyData} {ds : List PyData}, Dw K M H y e → (e = .list ds ∨ e = .tuple ds) → (tame dx = true ∧ ds.all tame = true ∧ R (.bool (if neg then !inD dx ds else inD dx ds))) → rInV K neg x y H Q := fun {e ds} w he f =>
    .inl ⟨dx, e, ds, wx.dp (tame_shaped f.1).2, w.dp (by rcases he with rfl | rfl <;> simpa [PyData.canLay0] using (tame_seq f.2.1).1), he, (tame_shaped f.1).1, (tame_seq f.2.1).1, k _ f.2.2 _ _ (Same.refl _) (.bl _)⟩
  cases wy with
  | lst s a => cases wx <;> exact seq (.lst s a) (.inl rfl) f
  | tup s a => cases wx <;> exact seq (.tup s a) (.inr rfl) f
  | str z =>
    cases wx with
    | str x =>
      obtain ⟨c, rfl, r⟩ := f
      exact .inr ⟨c, z, rfl, rfl, k _ r _ _ (Same.refl _) (.bl _)⟩
    | _ => exact f.elim
  | _ => cases wx <;> exact f.elim
/-! ### items -/
def rIxU (K : PySem.W.Frag) : R2 := fun x y H Q => (∃ a xs i v, x = .ref a ∧ y = .int i ∧ (SqL K H a xs ∨ SqT K H a xs) ∧ atI xs i = some v ∧ Q v H) ∨ rIxS x y H Q
theorem ix_U {X : Cx} : IxR X (rIxU X.K) := ix_or ix_sq ix_str
def fIx (d e : PyData) (R : PyData → Prop) : Prop := ∃ i, e = .int i ∧ match d with
  | .list ds => ∃ x, atI ds i = some x ∧ R x
  | .tuple ds => ∃ x, atI ds i = some x ∧ R x
  | .str z => z.length ≤ 10000000 ∧ ∃ c, atI z.cps.toList i = some c ∧ R (.str ⟨#[c]⟩)
  | _ => False
section
variable {K : PySem.W.Frag} {M : Addr → Prop} {H : Hp}
theorem at_of {vs : List V} {ds : List PyData} {i : Int} {x : PyData} (a : DwAll K M H vs ds) (h : atI ds i = some x) : ∃ v, atI vs i = some v ∧ Dw K M H v x := by
  unfold atI at h ⊢
  rw [← a.length] at h
  cases e : ixN vs.length i with
  | none => rw [e] at h; cases h
  | some j =>
    rw [e] at h
    exact a.getD h
end
theorem fit_ix {K : PySem.W.Frag} : FitR K (rIxU K) fIx := by
  intro dx dy R M H x y Q al wx wy f k
  obtain ⟨i, rfl, f⟩ := f
  cases wy
  cases wx with
  | lst s a =>
    obtain ⟨z, e, r⟩ := f
    obtain ⟨v, e2, w⟩ := at_of a e
    exact .inl ⟨_, _, _, _, rfl, rfl, .inl s.at, e2, k _ r _ _ (Same.refl _) w⟩
  | tup s a =>
    obtain ⟨z, e, r⟩ := f
    obtain ⟨v, e2, w⟩ := at_of a e
    exact .inl ⟨_, _, _, _, rfl, rfl, .inr s.at, e2, k _ r _ _ (Same.refl _) w⟩
  | str z =>
    obtain ⟨h, c, e, r⟩ := f
    exact .inr ⟨z, i, c, rfl, rfl, small_line h, e, k _ r _ _ (Same.refl _) (.str _)⟩
  | _ => exact f.elim
theorem de_ix {X : Cx} {e : Expr} {ta tb : TD} (h : PE X e (tOp (rIxU X.K) (tD X.K o ta) (tD X.K o tb))) : PE X e (tD X.K o (qOp fIx ta tb)) := de_op fit_ix h
/-! ### slices -/
def cutD (xs : List PyData) (lo hi : Option Int) : List PyData := (xs.drop (HT.sIx xs.length 0 lo)).take (HT.sIx xs.length xs.length hi - HT.sIx xs.length 0 lo)
def rSlU (K : PySem.W.Frag) : V → Option Int → Option Int → Hp → VK → Prop := fun x lo hi H Q => (∃ a xs, x = .ref a ∧ SqL K H a xs ∧ ∀ p H2, New H H2 p (.lst (cutV xs lo hi)) → Q (.ref p) H2) ∨
  ((∃ a xs, x = .ref a ∧ SqT K H a xs ∧ (cutV xs lo hi = xs → Q (.ref a) H) ∧ ∀ p H2, New H H2 p (.tup (cutV xs lo hi)) → Q (.ref p) H2) ∨ rSlS x lo hi H Q)
theorem sl_U {X : Cx} : SlR X (rSlU X.K) := SlR.or sl_listN (SlR.or sl_tupN sl_str)
def fSl (d : PyData) (lo hi : Option Int) (R : PyData → Prop) : Prop := match d with
  | .list ds => R (.list (cutD ds lo hi))
  | .tuple ds => R (.tuple (cutD ds lo hi))
  | .str z => z.length ≤ 10000000 ∧ R (.str (cutS z lo hi))
  | _ => False
theorem cut_of {K : PySem.W.Frag} {M : Addr → Prop} {H : Hp} {vs : List V} {ds : List PyData} (lo hi : Option Int) (a : DwAll K M H vs ds) : DwAll K M H (cutV vs lo hi) (cutD ds lo hi) := by
  unfold cutV cutD
  rw [a.length]
  exact (a.drop _).take _
theorem DwAll.same_len {K : PySem.W.Frag} {M : Addr → Prop} {H : Hp} : ∀ {vs : List V} {ds es : List PyData}, DwAll K M H vs ds → DwAll K M H vs es → True := fun _ _ => trivial
theorem fit_sl {K : PySem.W.Frag} : FitS K (rSlU K) fSl := by
  intro d lo hi R M H x Q al wx f k
  cases wx with
  | lst s a => exact .inl ⟨_, _, rfl, s.at, fun p H2 n2 => k _ f _ _ n2.1 (.lst ⟨new_away al n2, n2.2.1⟩ ((cut_of lo hi a).same n2.1))⟩
  | tup s a =>
    refine .inr (.inl ⟨_, _, rfl, s.at, fun e => k _ f _ _ (Same.refl _) (.tup s ?_), fun p H2 n2 => k _ f _ _ n2.1 (.tup (.inl ⟨new_away al n2, n2.2.1⟩) ((cut_of lo hi a).same n2.1))⟩)
    have c := cut_of lo hi a
    rw [e] at c
    exact c
  | str z => exact .inr (.inr ⟨z, rfl, small_line f.1, k _ f.2 _ _ (Same.refl _) (.str _)⟩)
  | _ => exact f.elim
/-! ### len, list, tuple, int, abs, max, min, ord, all, any -/
section
variable {K : PySem.W.Frag}
def rLenU (K : PySem.W.Frag) : List V → Hp → VK → Prop := fun xs H Q => (∃ p ys, xs = [.ref p] ∧ (SqL K H p ys ∨ SqT K H p ys) ∧ Q (.int ys.length) H) ∨ ∃ z, xs = [.str z] ∧ z.length ≤ sizeLine ∧ Q (.int z.length) H
theorem call_lenU {X : Cx} : CallR X (.builtin "len") (rLenU X.K) := call_or call_len_seq call_len_str
def fLen (ds : List PyData) (R : PyData → Prop) : Prop := match ds with
  | [.list xs] => R (.int xs.length)
  | [.tuple xs] => R (.int xs.length)
  | [.str z] => z.length ≤ 10000000 ∧ R (.int z.length)
  | _ => False
theorem fit_len : FitC K (rLenU K) fLen := by
  intro ds R M H vs Q al w f k
  cases w with
  | nil => exact f.elim
  | cons a r =>
    cases r with
    | cons b c => cases a <;> exact f.elim
    | nil =>
      cases a with
      | lst s a => exact .inl ⟨_, _, rfl, .inl s.at, by rw [a.length]; exact k _ f _ _ (Same.refl _) (.int _)⟩
      | tup s a => exact .inl ⟨_, _, rfl, .inr s.at, by rw [a.length]; exact k _ f _ _ (Same.refl _) (.int _)⟩
      | str z => exact .inr ⟨_, rfl, small_line f.1, k _ f.2 _ _ (Same.refl _) (.int _)⟩
      | _ => exact f.elim
def fList (ds : List PyData) (R : PyData → Prop) : Prop := match ds with
  | [.list xs] => R (.list xs)
  | [.tuple xs] => R (.list xs)
  | _ => False
theorem fit_list : FitC K (fun xs H Q => ∃ p ys, xs = [.ref p] ∧ (SqL K H p ys ∨ SqT K H p ys) ∧ ∀ l H2, New H H2 l (.lst ys) → Q (.ref l) H2) fList := by
  intro ds R M H vs Q al w f k
  cases w with
  | nil => exact f.elim
  | cons a r =>
    cases r with
    | cons b c => cases a <;> exact f.elim
    | nil =>
      cases a with
      | lst s a => exact ⟨_, _, rfl, .inl s.at, fun p H2 n2 => k _ f _ _ n2.1 (.lst ⟨new_away al n2, n2.2.1⟩ (a.same n2.1))⟩
      | tup s a => exact ⟨_, _, rfl, .inr s.at, fun p H2 n2 => k _ f _ _ n2.1 (.lst ⟨new_away al n2, n2.2.1⟩ (a.same n2.1))⟩
      | _ => exact f.elim
def fTuple (ds : List PyData) (R : PyData → Prop) : Prop := match ds with
  | [.list xs] => R (.tuple xs)
  | [.tuple xs] => R (.tuple xs)
  | _ => False
theorem fit_tuple : FitC K (fun xs H Q => ∃ p ys, xs = [.ref p] ∧ ((SqL K H p ys ∧ ∀ l H2, New H H2 l (.tup ys) → Q (.ref l) H2) ∨ (SqT K H p ys ∧ Q (.ref p) H))) fTuple := by
  intro ds R M H vs Q al w f k
  cases w with
  | nil => exact f.elim
  | cons a r =>
    cases r with
    | cons b c => cases a <;> exact f.elim
    | nil =>
      cases a with
      | lst s a => exact ⟨_, _, rfl, .inl ⟨s.at, fun p H2 n2 => k _ f _ _ n2.1 (.tup (.inl ⟨new_away al n2, n2.2.1⟩) (a.same n2.1))⟩⟩
      | tup s a => exact ⟨_, _, rfl, .inr ⟨s.at, k _ f _ _ (Same.refl _) (.tup s a)⟩⟩
      | _ => exact f.elim
def fInt (ds : List PyData) (R : PyData → Prop) : Prop := match ds with
  | [.int i] => R (.int i)
  | [.bool b] => R (.int (if b then 1 else 0))
  | _ => False
theorem fit_int : FitC K (fun xs H Q => (∃ i, xs = [.int i] ∧ Q (.int i) H) ∨ ∃ k, xs = [.bl k] ∧ Q (.int (if k then 1 else 0)) H) fInt := by
  intro ds R M H vs Q al w f k
  cases w with
  | nil => exact f.elim
  | cons a r =>
    cases r with
    | cons b c => cases a <;> exact f.elim
    | nil =>
      cases a with
      | int i => exact .inl ⟨i, rfl, k _ f _ _ (Same.refl _) (.int _)⟩
      | bl b => exact .inr ⟨b, rfl, k _ f _ _ (Same.refl _) (.int _)⟩
      | _ => exact f.elim
def fI1 (g : Int → Int) (ds : List PyData) (R : PyData → Prop) : Prop := match ds with
  | [.int i] => R (.int (g i))
  | _ => False
theorem fit_abs : FitC K (fun xs H Q => ∃ i, xs = [.int i] ∧ Q (.int (if i < 0 then -i else i)) H) (fI1 fun i => if i < 0 then -i else i) := by
  intro ds R M H vs Q al w f k
  cases w with
  | nil => exact f.elim
  | cons a r =>
    cases r with
    | cons b c => cases a <;> exact f.elim
    | nil =>
      cases a with
      | int i => exact ⟨i, rfl, k _ f _ _ (Same.refl _) (.int _)⟩
      | _ => exact f.elim
def fI2 (g : Int → Int → Int) (ds : List PyData) (R : PyData → Prop) : Prop := match ds with
  | [.int i, .int j] => R (.int (g i j))
  | _ => False
theorem fit_max2 : FitC K (fun xs H Q => ∃ i j, xs = [.int i, .int j] ∧ Q (.int (if j > i then j else i)) H) (fI2 fun i j => if j > i then j else i) := by
  intro ds R M H vs Q al w f k
  cases w with
  | nil => exact f.elim
  | cons a r =>
    cases r with
    | nil => cases a <;> exact f.elim
    | cons b c =>
      cases c with
      | cons d e => cases a <;> first | exact f.elim | (cases b <;> exact f.elim)
      | nil =>
        cases a with
        | int i =>
          cases b with
          | int j => exact ⟨i, j, rfl, k _ f _ _ (Same.refl _) (.int _)⟩
          | _ => exact f.elim
        | _ => exact f.elim
theorem fit_min2 : FitC K (fun xs H Q => ∃ i j, xs = [.int i, .int j] ∧ Q (.int (if j < i then j else i)) H) (fI2 fun i j => if j < i then j else i) := by
  intro ds R M H vs Q al w f k
  cases w with
  | nil => exact f.elim
  | cons a r =>
    cases r with
    | nil => cases a <;> exact f.elim
    | cons b c =>
      cases c with
      | cons d e => cases a <;> first | exact f.elim | (cases b <;> exact f.elim)
      | nil =>
        cases a with
        | int i =>
          cases b with
          | int j => exact ⟨i, j, rfl, k _ f _ _ (Same.refl _) (.int _)⟩
          | _ => exact f.elim
        | _ => exact f.elim
def fOrdS (ds : List PyData) (R : PyData → Prop) : Prop := match ds with
  | [.str z] => z.length = 1 ∧ R (.int (z.cps.getD 0 0 : Nat))
  | _ => False
theorem fit_ord1 : FitC K (fun xs H Q => ∃ x, xs = [.str x] ∧ x.length = 1 ∧ Q (.int (x.cps.getD 0 0 : Nat)) H) fOrdS := by
  intro ds R M H vs Q al w f k
  cases w with
  | nil => exact f.elim
  | cons a r =>
    cases r with
    | cons b c => cases a <;> exact f.elim
    | nil =>
      cases a with
      | str z => exact ⟨z, rfl, f.1, k _ f.2 _ _ (Same.refl _) (.int _)⟩
      | _ => exact f.elim
def fAll (ds : List PyData) (R : PyData → Prop) : Prop := ∃ bs : List Bool, ds = [.list (bs.map PyData.bool)] ∧ R (.bool (bs.all id))
def fAny (ds : List PyData) (R : PyData → Prop) : Prop := ∃ bs : List Bool, ds = [.list (bs.map PyData.bool)] ∧ R (.bool (bs.any id))
theorem bools_of {M : Addr → Prop} {H : Hp} : ∀ {vs : List V} {bs : List Bool}, DwAll K M H vs (bs.map PyData.bool) → vs = bs.map V.bl
  | _, [], h => by cases h; rfl
  | _, b :: bs, h => by
    cases h with
    | cons a r => cases a; rw [bools_of r]; rfl
theorem fit_all : FitC K (rAll K) fAll := by
  intro ds R M H vs Q al w f k
  obtain ⟨bs, rfl, r⟩ := f
  match w with
  | .cons (.lst s a) .nil =>
    cases bools_of a
    exact ⟨_, bs, rfl, s.at, k _ r _ _ (Same.refl _) (.bl _)⟩
theorem fit_any : FitC K (rAny K) fAny := by
  intro ds R M H vs Q al w f k
  obtain ⟨bs, rfl, r⟩ := f
  match w with
  | .cons (.lst s a) .nil =>
    cases bools_of a
    exact ⟨_, bs, rfl, s.at, k _ r _ _ (Same.refl _) (.bl _)⟩
end
/-! ### isinstance -/
def qIs (p : PyData → Bool) (t : TD) : TD := fun ρ n R => t ρ n fun d n1 => R (.bool (p d)) n1
section
variable {X : Cx} {e : Expr}
theorem de_isi {T : String} {p : PyData → Bool} {t : TD} (hT : T ∈ ["int", "bool", "str", "list", "tuple"]) (hp : ∀ d : PyData, PySem.W.kitOne X.K (.type (tyName d)) (.type T) = some (p d)) (hd : ∀ ks, p (.dict ks) = false) (h : PE X e (tCB (rIsiY X.K) (tCons (tD X.K o t) (tCons (tC (.ty T)) tNil)))) : PE X e (tD X.K o (qIs p t)) := PE.imp h fun σ H Q ⟨W, ρ, n, R, E, g, t, k⟩ =>
  ⟨W, ρ, n, _, E, g, t, fun d n1 r v H1 F1 g1 w => by
    obtain ⟨ty, h1, h2⟩ := w.isi hT hp hd
    exact ⟨v, .ty T, ty, _, p d, rfl, .ty _, h1, h2, k _ n1 r _ H1 F1 g1 (.bl _)⟩⟩
theorem de_isi_str {t : TD} (h : PE X e (tCB (rIsiY X.K) (tCons (tD X.K o t) (tCons (tC (.ty "str")) tNil)))) : PE X e (tD X.K o (qIs isStrD t)) := de_isi (by simp) (fun d => kit_str d) (fun _ => rfl) h
theorem de_isi_int {t : TD} (h : PE X e (tCB (rIsiY X.K) (tCons (tD X.K o t) (tCons (tC (.ty "int")) tNil)))) : PE X e (tD X.K o (qIs (fun d => isIntD d || isBoolD d) t)) := de_isi (by simp) (fun d => kit_int d) (fun _ => rfl) h
theorem de_isi_bool {t : TD} (h : PE X e (tCB (rIsiY X.K) (tCons (tD X.K o t) (tCons (tC (.ty "bool")) tNil)))) : PE X e (tD X.K o (qIs isBoolD t)) := de_isi (by simp) (fun d => kit_bool d) (fun _ => rfl) h
theorem de_isi_seq {t : TD} (h : PE X e (tCB (rIsiTY X.K) (tCons (tD X.K o t) (tCons (tTupN (tCons (tC (.ty "list")) (tCons (tC (.ty "tuple")) tNil))) tNil)))) : PE X e (tD X.K o (qIs (fun d => (seqD d).isSome) t)) := PE.imp h fun σ H Q ⟨W, ρ, n, R, E, g, t, k⟩ =>
  ⟨W, ρ, n, _, E, g, t, fun d n1 r v H1 F1 g1 w => ⟨small_line (by decide), fun p H2 n2 => by
    obtain ⟨ty, h1, h2⟩ := (w.same n2.1).isSeq
    exact ⟨v, p, _, ty, _, _, rfl, n2.2.1, .cons (.ty _) (.cons (.ty _) .nil), h1, h2, k _ n1 r _ H2 (W.trans F1 (W.of n2.1)) (W.same g1 n2.1) (.bl _)⟩⟩⟩
end
end MT
set_option maxHeartbeats 1000000
/-! walks over data: loops, comprehensions -/
namespace MT
open PySem L2
def Wlk (J : It) (P : Hp → Prop) (vs : List V) : Prop := ∀ i H, P H → (i < vs.length → J.go i H) ∧ (vs.length ≤ i → J.stop i H) ∧ ∀ v H', J.yld i H v H' → H' = H ∧ (i < vs.length → vs[i]? = some v)
section
variable {K : PySem.W.Frag}
theorem wlk_list {a : Addr} {xs : List V} : Wlk (Itl K a) (fun H => SqL K H a xs) xs := fun i H s =>
  ⟨fun h => ⟨xs, xs[i], s, List.getElem?_eq_getElem h⟩, fun h => ⟨xs, s, h⟩, fun v H' y => ⟨y.1, fun _ => y.2 xs s⟩⟩
theorem wlk_tup {a : Addr} {xs : List V} : Wlk (Itt K a) (fun H => SqT K H a xs) xs := fun i H s =>
  ⟨fun h => ⟨xs, xs[i], s, List.getElem?_eq_getElem h⟩, fun h => ⟨xs, s, h⟩, fun v H' y => ⟨y.1, fun _ => y.2 xs s⟩⟩
theorem wlk_str {z : Str} : Wlk (Its z) (fun _ => True) (z.cps.toList.map fun c => V.str ⟨#[c]⟩) := fun i H _ => by
  have l : (z.cps.toList.map fun c => V.str ⟨#[c]⟩).length = z.cps.size := by rw [List.length_map, Array.length_toList]
  refine ⟨fun h => (by show i < z.cps.size; omega), fun h => (by show z.cps.size ≤ i; omega), fun v H' y => ?_⟩
  obtain ⟨rfl, c, hc, rfl⟩ := y
  refine ⟨rfl, fun _ => ?_⟩
  rw [List.getElem?_map, Array.getElem?_toList, hc]
  rfl
theorem wlk_rng {lo : Int} {n : Nat} : Wlk (Itr lo n) (fun _ => True) ((List.range n).map fun i => V.int (lo + (i : Nat))) := fun i H _ => by
  have l : ((List.range n).map fun i => V.int (lo + (i : Nat))).length = n := by rw [List.length_map, List.length_range]
  refine ⟨fun h => (by show i < n; omega), fun h => (by show n ≤ i; omega), fun v H' y => ?_⟩
  obtain ⟨rfl, rfl⟩ := y
  refine ⟨rfl, fun h => ?_⟩
  rw [List.getElem?_map, List.getElem?_range (by omega)]
  rfl
end
/-! ### where items come from -/
abbrev TDI := List DS → Nat → (List PyData → Nat → Prop) → Prop
def tDI (K : PySem.W.Frag) (o : Option TSet) (t : TDI) : TI := fun σ H R => ∃ (W : Fld) (ρ : List DS) (n : Nat) (Q : List PyData → Nat → Prop), EnvD K o W.M (W.a, W.ts, W.ov) ρ σ H ∧ W.G n H ∧ t ρ n Q ∧ ∀ ds n', Q ds n' → ∀ J H', W.Rel H H' → W.G n' H' →
  (∃ P vs, Wlk J P vs ∧ DwAll K W.M H' vs ds ∧ ∀ H'', Fx W.M H' H'' → P H'') → R J H'
theorem PI.imp {X : Cx} {tg e : Expr} {t t' : TI} (h : PI X tg e t) (i : ∀ σ H R, t' σ H R → t σ H R) : PI X tg e t' := ⟨fun pins s σ H R I q => h.run pins s σ H R I (i σ H R q)⟩
/-- a list, a tuple or a text -/
def iU (K : PySem.W.Frag) (tl : TE) : TI := fun σ H R => tl σ H fun x H1 => (∃ a xs, x = .ref a ∧ SqL K H1 a xs ∧ R (Itl K a) H1) ∨ (∃ a xs, x = .ref a ∧ SqT K H1 a xs ∧ R (Itt K a) H1) ∨ ∃ z, x = .str z ∧ R (Its z) H1
theorem pi_U {X : Cx} {tg l : Expr} {tl : TE} (hl : PE X l tl) : PI X tg l (iU X.K tl) := by
  refine ⟨fun pns st sl Hs R I0 told => thn (hl.run pns st sl Hs _ I0 told) fun got st1 ⟨y, Ht, J, ry, q⟩ => ?_⟩
  rcases q with ⟨a, xs, ey, isL, go⟩ | ⟨a, xs, ey, isT, go⟩ | ⟨x, ex, q⟩
  · subst ey
    cases ry
    have free : ∀ b ∈ [st1.heap.objs.size], FpOk X pns Ht b := fun b hb => by
      rw [List.mem_singleton] at hb
      rw [hb]
      exact J.fpOk (Nat.le_refl _) (J.hok.fresh (Nat.le_refl _))
    obtain ⟨items, _, plain, _⟩ := J.list isL
    exact wpAny_pyIter_list plain.isList ⟨_, [st1.heap.objs.size], _, _, Ht, rfl, J.kept (t' := st1.toks) (fun _ _ e => Heap.get?_push_of_some _ e), turn_list a _, ⟨_, Heap.get?_push_size _ rfl, rfl, rfl⟩, free, go⟩
  · subst ey
    cases ry
    have free : ∀ b ∈ [st1.heap.objs.size], FpOk X pns Ht b := fun b hb => by
      rw [List.mem_singleton] at hb
      rw [hb]
      exact J.fpOk (Nat.le_refl _) (J.hok.fresh (Nat.le_refl _))
    obtain ⟨items, _, plain, _⟩ := J.tuple isT
    exact wpAny_pyIter_tuple (show st1.heap.IsTuple a items.toArray from plain) ⟨_, [st1.heap.objs.size], _, _, Ht, rfl, J.kept (t' := st1.toks) (fun _ _ e => Heap.get?_push_of_some _ e), turn_tuple a _, ⟨_, Heap.get?_push_size _ rfl, rfl, rfl⟩, free, go⟩
  · subst ex
    obtain ⟨t, rfl⟩ := ry
    cases ha : x.cps.all (· < 128)
    · exact wpAny_pyIter_wide ha (pi_one (tk := st1.toks) J _ (turn_str _ x t "str_iterator" (.inr rfl)) ⟨_, Heap.get?_push_size _ rfl, rfl, rfl⟩ q)
    · exact wpAny_pyIter_ascii ha (pi_one (tk := st1.toks) J _ (turn_str _ x t "str_ascii_iterator" (.inl rfl)) ⟨_, Heap.get?_push_size _ rfl, rfl, rfl⟩ q)
def signsD (z : Str) : List PyData := z.cps.toList.map fun c => PyData.str ⟨#[c]⟩
def itemsD : PyData → Option (List PyData)
  | .list ds => some ds
  | .tuple ds => some ds
  | .str z => some (signsD z)
  | _ => none
theorem dw_signs {K : PySem.W.Frag} {M : Addr → Prop} {H : Hp} : ∀ l : List Nat, DwAll K M H (l.map fun c => V.str ⟨#[c]⟩) (l.map fun c => PyData.str ⟨#[c]⟩)
  | [] => .nil
  | c :: l => .cons (.str _) (dw_signs l)
def qItU (t : TD) : TDI := fun ρ n Q => t ρ n fun d n' => ∃ ds, itemsD d = some ds ∧ Q ds n'
theorem di_U {X : Cx} {tg e : Expr} {t : TD} (h : PI X tg e (iU X.K (tD X.K o t))) : PI X tg e (tDI X.K o (qItU t)) := PI.imp h fun σ H R ⟨W, ρ, n, Q, E, g, t, k⟩ =>
  ⟨W, ρ, n, _, E, g, t, fun d n1 ⟨ds, e, r⟩ v H1 F1 g1 w => by
    cases w with
    | lst s a =>
      cases e
      exact .inl ⟨_, _, rfl, s.at, k _ n1 r _ H1 F1 g1 ⟨_, _, wlk_list, a, fun H2 F2 => (s.frm F2).at⟩⟩
    | tup s a =>
      cases e
      exact .inr (.inl ⟨_, _, rfl, s.at, k _ n1 r _ H1 F1 g1 ⟨_, _, wlk_tup, a, fun H2 F2 => (s.frm F2).at⟩⟩)
    | str z =>
      cases e
      exact .inr (.inr ⟨z, rfl, k _ n1 r _ H1 F1 g1 ⟨_, _, wlk_str, dw_signs _, fun _ _ => trivial⟩⟩)
    | _ => cases e⟩
/-- range -/
def qIt1 (u : TDA) : TDI := fun ρ n Q => u ρ n fun ds n' => ∃ j : Int, ds = [.int j] ∧ -(2 ^ 62) ≤ j ∧ j < 2 ^ 62 ∧ Q ((List.range j.toNat).map fun i => PyData.int (0 + (i : Nat))) n'
def qIt2 (u : TDA) : TDI := fun ρ n Q => u ρ n fun ds n' => ∃ i j : Int, ds = [.int i, .int j] ∧ (-(2 ^ 62) ≤ i ∧ i < 2 ^ 62 ∧ -(2 ^ 62) ≤ j ∧ j < 2 ^ 62) ∧ Q ((List.range (j - i).toNat).map fun k => PyData.int (i + (k : Nat))) n'
theorem dw_ints {K : PySem.W.Frag} {M : Addr → Prop} {H : Hp} (f : Nat → Int) : ∀ l : List Nat, DwAll K M H (l.map fun i => V.int (f i)) (l.map fun i => PyData.int (f i))
  | [] => .nil
  | c :: l => .cons (.int _) (dw_ints f l)
theorem di_1 {X : Cx} {tg e : Expr} {u : TDA} (h : PI X tg e (iRng1 (tDA X.K o u))) : PI X tg e (tDI X.K o (qIt1 u)) := PI.imp h fun σ H R ⟨W, ρ, n, Q, E, g, t, k⟩ =>
  ⟨W, ρ, n, _, E, g, t, fun ds n1 ⟨j, e, h1, h2, r⟩ vs H1 F1 g1 w => by
    subst e
    cases w with
    | cons a b =>
      cases a
      cases b
      exact ⟨j, rfl, h1, h2, k _ n1 r _ H1 F1 g1 ⟨_, _, wlk_rng, dw_ints (fun i => 0 + (i : Nat)) _, fun _ _ => trivial⟩⟩⟩
theorem di_2 {X : Cx} {tg e : Expr} {u : TDA} (h : PI X tg e (iRng2 (tDA X.K o u))) : PI X tg e (tDI X.K o (qIt2 u)) := PI.imp h fun σ H R ⟨W, ρ, n, Q, E, g, t, k⟩ =>
  ⟨W, ρ, n, _, E, g, t, fun ds n1 ⟨i, j, e, h1, r⟩ vs H1 F1 g1 w => by
    subst e
    cases w with
    | cons a b =>
      cases a
      cases b with
      | cons c d =>
        cases c
        cases d
        exact ⟨i, j, rfl, h1, k _ n1 r _ H1 F1 g1 ⟨_, _, wlk_rng, dw_ints (fun k => i + (k : Nat)) _, fun _ _ => trivial⟩⟩⟩
/-! ### targets -/
def GFit (K : PySem.W.Frag) (vs : List Nat) (g : TG) (f : PyData → List DS → (List DS → Prop) → Prop) : Prop := ∀ (o : Option TSet) (M : Addr → Prop) (a : Option Addr × Option TSet × (Nat → V)) (H : Hp) (v : V) (d : PyData) (ρ : List DS) (σ : L2.St) (R : List DS → Prop) (Q : L2.St → Hp → Prop),
  Dw K M H v d → EnvD K o M a ρ σ H → f d ρ R → (∀ ρ', R ρ' → ∀ σ', EnvD K o M a ρ' σ' H → wipe σ' vs = wipe σ vs → Q σ' H) → g v σ H Q
def fName (i : Nat) (d : PyData) (ρ : List DS) (R : List DS → Prop) : Prop := R (ρ.set i (DS.d d))
theorem fit_name {K : PySem.W.Frag} {i : Nat} : GFit K [i] (gName i) (fName i) := fun o M a H v d ρ σ R Q w E f k => k _ f _ (E.set i w) (by
  unfold wipe wipe
  rw [List.set_set])
def fPair (i j : Nat) (d : PyData) (ρ : List DS) (R : List DS → Prop) : Prop := ∃ x y, seqD d = some [x, y] ∧ R ((ρ.set i (DS.d x)).set j (DS.d y))
def wipeD (ρ : List DS) : List Nat → List DS
  | [] => ρ
  | v :: vs => (wipeD ρ vs).set v .no
theorem wipe_at (σ : L2.St) : ∀ (vs : List Nat) (j : Nat), j ∈ vs → (L2.wipe σ vs).set j none = L2.wipe σ vs
  | v :: vs, j, h => by
    show ((L2.wipe σ vs).set v none).set j none = (L2.wipe σ vs).set v none
    by_cases e : j = v
    · rw [e, List.set_set]
    · rw [List.set_comm _ _ (fun z => e z.symm), wipe_at σ vs j ((List.mem_cons.mp h).resolve_left e)]
theorem wipe_fix (τ : L2.St) : ∀ vs : List Nat, (∀ j ∈ vs, τ.set j none = τ) → L2.wipe τ vs = τ
  | [], _ => rfl
  | v :: vs, h => by
    show (L2.wipe τ vs).set v none = τ
    rw [wipe_fix τ vs fun j hj => h j (List.mem_cons_of_mem _ hj)]
    exact h v List.mem_cons_self
theorem wipe_wipe (σ : L2.St) (vs : List Nat) : L2.wipe (L2.wipe σ vs) vs = L2.wipe σ vs := wipe_fix _ vs fun j hj => wipe_at σ vs j hj
theorem EnvD.wipe {K : PySem.W.Frag} {o : Option TSet} {M : Addr → Prop} {a : Option Addr × Option TSet × (Nat → V)} {ρ : List DS} {σ : L2.St} {H : Hp} (E : EnvD K o M a ρ σ H) : ∀ vs, EnvD K o M a (wipeD ρ vs) (L2.wipe σ vs) H
  | [] => E
  | v :: vs => (E.wipe vs).setn v
/-! ### for -/
def qFor (f : PyData → List DS → (List DS → Prop) → Prop) (src : TDI) (tb : TDS) : TDS := fun ρ n Rn Rr => src ρ n fun ds n1 => ∃ I : Nat → List DS → Nat → Prop, I 0 ρ n1 ∧
  (∀ i x ρ' m, ds[i]? = some x → I i ρ' m → f x ρ' fun ρ2 => tb ρ2 m (fun ρ'' m' => I (i + 1) ρ'' m') Rr) ∧ ∀ ρ' m, I ds.length ρ' m → Rn ρ' m
theorem ds_for {X : Cx} {st : Stmt} {vs0 : List Nat} {g : TG} {f} {src : TDI} {tb : TDS} (hf : GFit X.K vs0 g f) (h : PS X st (tFor (tDI X.K o src) g (tDs X.K o tb))) : PS X st (tDs X.K o (qFor f src tb)) := PS.imp h fun D σ H ⟨W, ρ, n, Rn, Rr, E, gg, t, k1, k2⟩ =>
  ⟨W, ρ, n, _, E, gg, t, fun ds n1 ⟨I, h0, hs, hd⟩ J H1 F1 g1 ⟨P, vs, wk, da, hP⟩ => by
    have ln := da.length
    refine ⟨fun i m σ' H' => m = ds.length - i ∧ i ≤ ds.length ∧ ∃ ρ' c, I i ρ' c ∧ EnvD X.K o W.M (W.a, W.ts, W.ov) ρ' σ' H' ∧ W.G c H' ∧ W.Rel H1 H', ⟨_, rfl, Nat.zero_le _, ρ, n1, h0, E.frm (W.frm F1), g1, W.refl⟩, ?_⟩
    rintro i m σ' H' ⟨rfl, hi, ρ', c, inv, E', g', F'⟩
    have w := wk i H' (hP _ (W.frm F'))
    by_cases hlt : i < ds.length
    · refine .inr ⟨w.1 (by omega), fun σ2 H2 => i + 1 ≤ ds.length ∧ ∃ ρ' c, I (i + 1) ρ' c ∧ EnvD X.K o W.M (W.a, W.ts, W.ov) ρ' σ2 H2 ∧ W.G c H2 ∧ W.Rel H1 H2, fun σ2 H2 q => ⟨_, by omega, rfl, q⟩, fun x H2 y => ?_⟩
      obtain ⟨e2, y2⟩ := w.2.2 x H2 y
      subst e2
      obtain ⟨d, hd1, hd2⟩ := da.get (y2 (by omega))
      refine hf o W.M (W.a, W.ts, W.ov) _ x d ρ' σ' _ _ (hd2.frm (W.frm F')) E' (hs i d ρ' c hd1 inv) fun ρ2 r2 σ2 E2 _ => ?_
      exact ⟨W, ρ2, c, _, Rr, E2, g', r2, fun ρ3 m3 r3 σ3 H3 F3 g3 E3 => ⟨hlt, ρ3, m3, r3, E3, g3, W.trans F' F3⟩, fun d3 m3 r3 v3 H3 F3 g3 w3 => k2 d3 m3 r3 v3 H3 (W.trans F1 (W.trans F' F3)) g3 w3⟩
    · have e : i = ds.length := by omega
      subst e
      exact .inl ⟨w.2.1 (by omega), k1 ρ' c (hd ρ' c inv) σ' H' (W.trans F1 F') g' E'⟩⟩
/-- a = .. with more names -/
def qAsg (f : PyData → List DS → (List DS → Prop) → Prop) (t : TD) : TDS := fun ρ n Rn _ => t ρ n fun d n' => f d ρ fun ρ' => Rn ρ' n'
theorem ds_asg {X : Cx} {st : Stmt} {vs0 : List Nat} {g : TG} {f} {t : TD} (hf : GFit X.K vs0 g f) (h : PS X st (tAsg (tD X.K o t) g)) : PS X st (tDs X.K o (qAsg f t)) := PS.imp h fun D σ H ⟨W, ρ, n, Rn, Rr, E, gg, t, k1, k2⟩ =>
  ⟨W, ρ, n, _, E, gg, t, fun d n1 r v H1 F1 g1 w => hf o W.M (W.a, W.ts, W.ov) H1 v d ρ σ _ _ w (E.frm (W.frm F1)) r fun ρ' r' σ' E' _ => k1 ρ' n1 r' σ' H1 F1 g1 E'⟩
/-! ### [.. for ..] -/
def qLc (vs : List Nat) (f : PyData → List DS → (List DS → Prop) → Prop) (src : TDI) (tt : TDB) (te : TD) : TD := fun ρ n R => src ρ n fun ds n1 => ds.length ≤ 10000000 ∧ ∃ A : Nat → List PyData → Nat → Prop, A 0 [] n1 ∧
  (∀ i x acc m, ds[i]? = some x → A i acc m → f x (wipeD ρ vs) fun ρ' => tt ρ' m fun b m' => if b = true then te ρ' m' fun y m'' => A (i + 1) (acc ++ [y]) m'' else A (i + 1) acc m') ∧
  ∀ acc m, A ds.length acc m → acc.length ≤ ds.length → R (.list acc) m
theorem lc_over {K : PySem.W.Frag} {vs0 : List Nat} {g : TG} {f} {src : TDI} {tt : TDB} {te : TD} (hf : GFit K vs0 g f) {σ : L2.St} {H : Hp} {Q : VK} : tD K o (qLc vs0 f src tt te) σ H Q → tLc (tDI K o src) g (tDB K o tt) (tD K o te) vs0 σ H Q := fun ⟨W, ρ, n, R, E, gg, t, k⟩ =>
  ⟨W, ρ, n, _, E, gg, t, fun ds n1 ⟨hlen, A, h0, hs, hd⟩ J H1 F1 g1 ⟨P, vs, wk, da, hP⟩ D hD => by
    have ln := da.length
    have nD : ¬ W.M D := fun m => by
      obtain ⟨ob, q, _⟩ := W.al g1 m
      rw [hD] at q
      cases q
    have EM : EnvD K o (fun c => W.M c ∨ c = D) (W.a, W.ts, W.ov) ρ σ H1 := (E.frm (W.frm F1)).more fun c o m q => m.elim id fun e => by rw [e, hD] at q; cases q
    have DM : DwAll K (fun c => W.M c ∨ c = D) H1 vs ds := da.more fun c o m q => m.elim id fun e => by rw [e, hD] at q; cases q
    refine ⟨fun i m H' => m = ds.length - i ∧ i ≤ ds.length ∧ ∃ acc av c, A i acc c ∧ H' D = some (.lst av) ∧ DwAll K (fun c => W.M c ∨ c = D) H' av acc ∧ av.length ≤ i ∧ W.G c H' ∧ W.Rel H1 H',
      ⟨_, rfl, Nat.zero_le _, [], [], n1, h0, upd_same, .nil, Nat.le_refl _, W.updG g1 hD g1 (fun u e => by rw [hD] at e; cases e), W.updR W.refl hD⟩, ?_⟩
    rintro i m H' ⟨rfl, hi, acc, av, c, inv, hDa, hav, hal, g', F'⟩
    have w := wk i H' (hP _ (W.frm F'))
    have FM : Fx (fun c => W.M c ∨ c = D) H1 H' := (W.frm F').mono fun c e => .inl e
    by_cases hlt : i < ds.length
    · refine .inr ⟨w.1 (by omega), fun H2 => i + 1 ≤ ds.length ∧ ∃ acc av c, A (i + 1) acc c ∧ H2 D = some (.lst av) ∧ DwAll K (fun c => W.M c ∨ c = D) H2 av acc ∧ av.length ≤ i + 1 ∧ W.G c H2 ∧ W.Rel H1 H2, fun H2 q => ⟨_, by omega, rfl, q⟩, fun x H2 y => ?_⟩
      obtain ⟨e2, y2⟩ := w.2.2 x H2 y
      subst e2
      obtain ⟨d, hd1, hd2⟩ := DM.get (y2 (by omega))
      refine hf o _ (W.a, W.ts, W.ov) _ x d (wipeD ρ vs0) (wipe σ vs0) _ _ (hd2.frm FM) ((EM.frm FM).wipe vs0) (hs i d acc c hd1 inv) fun ρ2 r2 σ2 E2 ew => ⟨by rw [ew]; exact wipe_wipe σ vs0, ?_⟩
      refine ⟨W.plus D (.lst av) (fun _ z => by cases z) nD, ρ2, c, _, E2, ⟨g', hDa⟩, r2, fun b m3 r3 H3 F3 g3 => ?_⟩
      cases b with
      | false => exact ⟨hlt, acc, av, m3, r3, g3.2, hav.frm ((W.plus D (.lst av) (fun _ z => by cases z) nD).frm F3), Nat.le_succ_of_le hal, g3.1, W.trans F' F3⟩
      | true =>
        refine ⟨W.plus D (.lst av) (fun _ z => by cases z) nD, ρ2, m3, _, E2.frm ((W.plus D (.lst av) (fun _ z => by cases z) nD).frm F3), g3, r3, fun y m4 r4 v4 H4 F4 g4 w4 => ⟨av, g4.2, by rw [sizeLine_eq]; omega, hlt, acc ++ [y], av ++ [v4], m4, r4, upd_same, ?_, by rw [List.length_append]; exact Nat.succ_le_succ hal, W.updG g1 hD g4.1 (fun u e => by rw [g4.2] at e; cases e; trivial), W.updR (W.trans F' (W.trans F3 F4)) hD⟩⟩
        have h4 := hav.frm ((W.plus D (.lst av) (fun _ z => by cases z) nD).frm (W.trans F3 F4))
        exact (h4.append (.cons w4 .nil)).frm (fx_frm (Frm.mono (frm_upd (a := D)) fun c e => .inr e))
    · have e : i = ds.length := by omega
      subst e
      have hl := hav.length
      exact .inl ⟨w.2.1 (by omega), k _ c (hd acc c inv (by omega)) _ H' (W.trans F1 F') g' (.lst ⟨nD, hDa⟩ (hav.more fun c o m _ => .inl m))⟩⟩
theorem de_lc {X : Cx} {e : Expr} {vs0 : List Nat} {g : TG} {f} {src : TDI} {tt : TDB} {te : TD} (hf : GFit X.K vs0 g f) (h : PE X e (tLc (tDI X.K o src) g (tDB X.K o tt) (tD X.K o te) vs0)) : PE X e (tD X.K o (qLc vs0 f src tt te)) := PE.imp h fun _ _ _ => lc_over hf
end MT
set_option maxHeartbeats 1000000
/-! calls over data; texts -/
namespace MT
open PySem L2
abbrev FD := List PyData → (PyData → Prop) → Prop
/-- a def that changes nothing -/
def spPure (K : PySem.W.Frag) (P : FD) : Sp := fun vs H Q _ => ∃ (M : Addr → Prop) (ds : List PyData) (R : PyData → Prop), Al M H ∧ DwAll K M H vs ds ∧ P ds R ∧ ∀ d, R d → ∀ v H', Same H H' → Dw K M H' v d → Q v H'
/-- .. that may raise -/
def spX (K : PySem.W.Frag) (P : List PyData → (PyData → Prop) → (Addr → List (Str × V) → Prop) → Prop) : Sp := fun vs H Q E => ∃ (M : Addr → Prop) (ds : List PyData) (R : PyData → Prop) (Rx : Addr → List (Str × V) → Prop), Al M H ∧ DwAll K M H vs ds ∧ P ds R Rx ∧ (∀ d, R d → ∀ v H', Same H H' → Dw K M H' v d → Q v H') ∧
  ∀ C fs, Rx C fs → ∀ a H', New H H' a (.xd fs) → E (.ref C) (some a) H'
/-- a def that draws with its first, at most c times -/
def spDr (K : PySem.W.Frag) (c : Nat) (P : FD) : Sp := fun vs H Q _ => ∃ (M : Addr → Prop) (a b : Addr) (cs : List Int) (n : Nat) (us : List V) (ds : List PyData) (R : PyData → Prop), vs = .ref a :: us ∧ M a ∧ Al M H ∧ Sx a b cs n H ∧ n + c ≤ 1000000 ∧ DwAll K M H us ds ∧ P ds R ∧
  ∀ d, R d → ∀ v H', Frm (· = a) H H' → Sx a b cs (n + c) H' → Dw K M H' v d → Q v H'
section
variable {X : Cx} {e : Expr} {E : XK}
theorem de_call {P : FD} {u : TDA} (h : PE X e (tCall (spPure X.K P) [] E (tDA X.K o u))) : PE X e (tD X.K o (qCB P u)) := PE.imp h fun σ H Q ⟨W, ρ, n, R, E, g, t, k⟩ =>
  ⟨W, ρ, n, _, E, g, t, fun ds n1 t1 vs H1 F1 g1 w => ⟨W.M, ds, _, fun c m => W.al g1 m, by rw [List.append_nil]; exact w, t1, fun d r v H' s w' => k d n1 r v H' (W.trans F1 (W.of s)) (W.same g1 s) w'⟩⟩
theorem de_callX {P} {u : TDA} (h : PE X e (tCall (spX X.K P) [] E (tDA X.K o u))) : PE X e (tD X.K o (qCB (fun ds R => P ds R fun _ _ => False) u)) := PE.imp h fun σ H Q ⟨W, ρ, n, R, E, g, t, k⟩ =>
  ⟨W, ρ, n, _, E, g, t, fun ds n1 t1 vs H1 F1 g1 w => ⟨W.M, ds, _, _, fun c m => W.al g1 m, by rw [List.append_nil]; exact w, t1, fun d r v H' s w' => k d n1 r v H' (W.trans F1 (W.of s)) (W.same g1 s) w', fun _ _ z => z.elim⟩⟩
theorem PK.imp {kws : List Keyword} {t t' : TA} (h : PK X kws t) (i : ∀ σ H Q, t' σ H Q → t σ H Q) : PK X kws t' := ⟨fun pos pins s σ H Q I q => h.run pos pins s σ H Q I (i σ H Q q)⟩
theorem nil_over {K : PySem.W.Frag} {σ : L2.St} {H : Hp} {Q : List V → Hp → Prop} : tDA K o qNil σ H Q → tNil σ H Q := fun ⟨W, ρ, n, R, E, g, r, k⟩ => k _ n r _ H W.refl g .nil
theorem cons_over {K : PySem.W.Frag} {t : TD} {u : TDA} {σ : L2.St} {H : Hp} {Q : List V → Hp → Prop} : tDA K o (qCons t u) σ H Q → tCons (tD K o t) (tDA K o u) σ H Q := fun ⟨W, ρ, n, R, E, g, r, k⟩ =>
  ⟨W, ρ, n, _, E, g, r, fun d n1 r1 v H1 F1 g1 w1 => ⟨W, ρ, n1, _, E.frm (W.frm F1), g1, r1, fun ds n2 r2 vs H2 F2 g2 w2 => k _ n2 r2 _ H2 (W.trans F1 F2) g2 (.cons (w1.frm (W.frm F2)) w2)⟩⟩
theorem dk_nil {kws : List Keyword} (h : PK X kws tNil) : PK X kws (tDA X.K o qNil) := PK.imp h fun _ _ _ => nil_over
theorem dk_cons {kws : List Keyword} {t : TD} {u : TDA} (h : PK X kws (tCons (tD X.K o t) (tDA X.K o u))) : PK X kws (tDA X.K o (qCons t u)) := PK.imp h fun _ _ _ => cons_over
/-- by names -/
def qKw (n m : Nat) (g : List PyData → List PyData → List PyData) (P : FD) (ta tk : TDA) : TD := fun ρ c R => ta ρ c fun ds c1 => tk ρ c1 fun es c2 => ds.length = n ∧ es.length = m ∧ P (g ds es) fun d => R d c2
theorem de_callN {n m : Nat} {gV : List V → List V → List V} {gD : List PyData → List PyData → List PyData} {P : FD} {ta tk : TDA}
    (hg : ∀ {M : Addr → Prop} {H : Hp} {vs zs : List V} {ds es : List PyData}, DwAll X.K M H vs ds → DwAll X.K M H zs es → DwAll X.K M H (gV vs zs) (gD ds es))
    (h : PE X e (L2.tCallN n m (spPure X.K P) gV E (tDA X.K o ta) (tDA X.K o tk))) : PE X e (tD X.K o (qKw n m gD P ta tk)) := PE.imp h fun σ H Q ⟨W, ρ, c, R, E, g, t, k⟩ =>
  ⟨W, ρ, c, _, E, g, t, fun ds c1 t1 vs H1 F1 g1 w => ⟨W, ρ, c1, _, E.frm (W.frm F1), g1, t1, fun es c2 ⟨l1, l2, t2⟩ zs H2 F2 g2 w2 => ⟨w.length.trans l1, w2.length.trans l2, W.M, _, _, fun c m => W.al g2 m, hg (w.frm (W.frm F2)) w2, t2, fun d r v H' s w' => k d c2 r v H' (W.trans F1 (W.trans F2 (W.of s))) (W.same g2 s) w'⟩⟩⟩
theorem de_callN0 {m : Nat} {gV : List V → List V → List V} {gD : List PyData → List PyData → List PyData} {P : FD} {tk : TDA}
    (hg : ∀ {M : Addr → Prop} {H : Hp} {vs zs : List V} {ds es : List PyData}, DwAll X.K M H vs ds → DwAll X.K M H zs es → DwAll X.K M H (gV vs zs) (gD ds es))
    (h : PE X e (L2.tCallN 0 m (spPure X.K P) gV E tNil (tDA X.K o tk))) : PE X e (tD X.K o (qKw 0 m gD P qNil tk)) := de_callN (ta := qNil) hg (PE.imp h fun σ H Q q => nil_over q)
theorem de_callNX {n m : Nat} {gV : List V → List V → List V} {gD : List PyData → List PyData → List PyData} {P} {ta tk : TDA}
    (hg : ∀ {M : Addr → Prop} {H : Hp} {vs zs : List V} {ds es : List PyData}, DwAll X.K M H vs ds → DwAll X.K M H zs es → DwAll X.K M H (gV vs zs) (gD ds es))
    (h : PE X e (L2.tCallN n m (spX X.K P) gV E (tDA X.K o ta) (tDA X.K o tk))) : PE X e (tD X.K o (qKw n m gD (fun ds R => P ds R fun _ _ => False) ta tk)) := PE.imp h fun σ H Q ⟨W, ρ, c, R, E, g, t, k⟩ =>
  ⟨W, ρ, c, _, E, g, t, fun ds c1 t1 vs H1 F1 g1 w => ⟨W, ρ, c1, _, E.frm (W.frm F1), g1, t1, fun es c2 ⟨l1, l2, t2⟩ zs H2 F2 g2 w2 => ⟨w.length.trans l1, w2.length.trans l2, W.M, _, _, _, fun c m => W.al g2 m, hg (w.frm (W.frm F2)) w2, t2, fun d r v H' s w' => k d c2 r v H' (W.trans F1 (W.trans F2 (W.of s))) (W.same g2 s) w', fun _ _ z => z.elim⟩⟩⟩
theorem de_callNX0 {m : Nat} {gV : List V → List V → List V} {gD : List PyData → List PyData → List PyData} {P} {tk : TDA}
    (hg : ∀ {M : Addr → Prop} {H : Hp} {vs zs : List V} {ds es : List PyData}, DwAll X.K M H vs ds → DwAll X.K M H zs es → DwAll X.K M H (gV vs zs) (gD ds es))
    (h : PE X e (L2.tCallN 0 m (spX X.K P) gV E tNil (tDA X.K o tk))) : PE X e (tD X.K o (qKw 0 m gD (fun ds R => P ds R fun _ _ => False) qNil tk)) := de_callNX (ta := qNil) hg (PE.imp h fun σ H Q q => nil_over q)
/-- what draws -/
def qDr (c : Nat) (i : Nat) (P : FD) (u : TDA) : TD := fun ρ n R => ρ[i]? = some DS.dr ∧ u ρ n fun ds n1 => n1 + c ≤ 1000000 ∧ P ds fun d => R d (n1 + c)
theorem de_draw {c i : Nat} {P : FD} {u : TDA} (h : PE X e (tCall (spDr X.K c P) [] E (tCons (tVar i) (tDA X.K o u)))) : PE X e (tD X.K o (qDr c i P u)) := PE.imp h fun σ H Q ⟨W, ρ, n, R, E, g, ⟨hi, t⟩, k⟩ => by
  obtain ⟨a, ea, hσ⟩ := E.drw i hi
  obtain ⟨m, b, cs, h1, h2⟩ := W.dr a ea
  exact ⟨_, hσ, W, ρ, n, _, E, g, t, fun ds n1 ⟨l, t1⟩ vs H1 F1 g1 w => ⟨W.M, a, b, cs, n1, vs, ds, _, by rw [List.append_nil], m, fun c m => W.al g1 m, h1 _ _ g1, l, w, t1, fun d r v H' F' S' w' => by
    have q := h2 _ _ _ _ g1 F' S'
    exact k d _ r v H' (W.trans F1 q.2) q.1 w'⟩⟩
/-! ### texts -/
def qM1 (f : PyData → PyData → (PyData → Prop) → Prop) (t u : TD) : TD := fun ρ n R => t ρ n fun d n1 => isStrD d = true ∧ u ρ n1 fun y n2 => f d y fun z => R z n2
def FitM (K : PySem.W.Frag) (r : V → List V → Hp → VK → Prop) (f : PyData → PyData → (PyData → Prop) → Prop) : Prop := ∀ (dx dy : PyData) (R : PyData → Prop) (M : Addr → Prop) (H : Hp) (x y : V) (Q : VK), Al M H → Dw K M H x dx → Dw K M H y dy → f dx dy R →
  (∀ d, R d → ∀ v H', Same H H' → Dw K M H' v d → Q v H') → r x [y] H Q
theorem de_m1 {r : V → List V → Hp → VK → Prop} {f} {t u : TD} (hf : FitM X.K r f) (h : PE X e (tM1 r (tD X.K o t) (tD X.K o u))) : PE X e (tD X.K o (qM1 f t u)) := PE.imp h fun σ H Q ⟨W, ρ, n, R, E, g, t, k⟩ =>
  ⟨W, ρ, n, _, E, g, t, fun d n1 ⟨e, r1⟩ v H1 F1 g1 w => ⟨(by cases w <;> first | exact ⟨_, rfl⟩ | cases e), W, ρ, n1, _, E.frm (W.frm F1), g1, r1, fun y n2 r2 v2 H2 F2 g2 w2 =>
    hf d y _ W.M H2 v v2 Q (fun c m => W.al g2 m) (w.frm (W.frm F2)) w2 r2 fun d r v H' s w => k d n2 r v H' (W.trans (W.trans F1 F2) (W.of s)) (W.same g2 s) w⟩⟩
/-- a text's texts joined -/
def fJoin (d e : PyData) (R : PyData → Prop) : Prop := ∃ (a : Str) (ys : List Str), d = .str a ∧ (e = .list (ys.map PyData.str) ∨ e = .tuple (ys.map PyData.str)) ∧ (ys.map (·.length)).sum + ys.length * a.length ≤ 16777216 ∧ R (.str (Txt.join a ys))
theorem strs_dw {K : PySem.W.Frag} {M : Addr → Prop} {H : Hp} : ∀ {vs : List V} {ys : List Str}, DwAll K M H vs (ys.map PyData.str) → vs = ys.map V.str
  | _, [], h => by cases h; rfl
  | _, y :: ys, h => by
    cases h with
    | cons a r => cases a; rw [strs_dw r]; rfl
theorem dw_strs {K : PySem.W.Frag} {M : Addr → Prop} {H : Hp} : ∀ ys : List Str, DwAll K M H (ys.map V.str) (ys.map PyData.str)
  | [] => .nil
  | y :: ys => .cons (.str y) (dw_strs ys)
theorem fit_join {K : PySem.W.Frag} : FitM K (fun x xs H Q => ∃ a p, ∃ ys : List Str, x = .str a ∧ xs = [.ref p] ∧ (SqL K H p (ys.map V.str) ∨ SqT K H p (ys.map V.str)) ∧
      (ys.map (·.length)).sum + ys.length * a.length ≤ 16777216 ∧ Q (.str (Txt.join a ys)) H) fJoin := by
  intro dx dy R M H x y Q al wx wy f k
  obtain ⟨a, ys, rfl, h, l, r⟩ := f
  cases wx
  rcases h with rfl | rfl
  · cases wy with
    | lst s w => cases strs_dw w; exact ⟨a, _, ys, rfl, rfl, .inl s.at, l, k _ r _ _ (Same.refl _) (.str _)⟩
  · cases wy with
    | tup s w => cases strs_dw w; exact ⟨a, _, ys, rfl, rfl, .inr s.at, l, k _ r _ _ (Same.refl _) (.str _)⟩
def fSplit (d e : PyData) (R : PyData → Prop) : Prop := ∃ a b : Str, d = .str a ∧ e = .str b ∧ (b.length == 0) = false ∧ a.length + 2 ≤ 10000000 ∧ R (.list ((Txt.split a b).map PyData.str))
theorem fit_split {K : PySem.W.Frag} : FitM K (fun x xs H Q => ∃ a b, x = .str a ∧ xs = [.str b] ∧ (b.length == 0) = false ∧ a.length + 2 ≤ sizeLine ∧ rNewStrs (Txt.split a b) H Q) fSplit := by
  intro dx dy R M H x y Q al wx wy f k
  obtain ⟨a, b, rfl, rfl, h1, h2, r⟩ := f
  cases wx
  cases wy
  refine ⟨a, b, rfl, rfl, h1, small_line h2, fun p hp => k _ r _ _ (same_new hp) (.lst ⟨fun m => ?_, upd_same⟩ (dw_strs _))⟩
  obtain ⟨ob, e, _⟩ := al _ m
  rw [hp] at e
  cases e
def fStarts (d e : PyData) (R : PyData → Prop) : Prop := ∃ a b : Str, d = .str a ∧ e = .str b ∧ R (.bool (Txt.startswith a b))
theorem fit_starts {K : PySem.W.Frag} : FitM K (fun x xs H Q => ∃ a b, x = .str a ∧ xs = [.str b] ∧ Q (.bl (Txt.startswith a b)) H) fStarts := by
  intro dx dy R M H x y Q al wx wy f k
  obtain ⟨a, b, rfl, rfl, r⟩ := f
  cases wx
  cases wy
  exact ⟨a, b, rfl, rfl, k _ r _ _ (Same.refl _) (.bl _)⟩
/-! ### repr -/
def okRepr (d : PyData) : Prop := d.canLay0 = true ∧ d.showable = true ∧ d.hasDict = false ∧ d.depth ≤ 64 ∧ d.shown.length ≤ sizeLine
def fRepr (ds : List PyData) (R : PyData → Prop) : Prop := ∃ d, ds = [d] ∧ okRepr d ∧ R (.str d.shown)
theorem fit_repr {K : PySem.W.Frag} : FitC K (fun xs H Q => ∃ v d, xs = [v] ∧ Dp K H v d ∧ d.showable = true ∧ d.hasDict = false ∧ d.depth ≤ 64 ∧ d.shown.length ≤ sizeLine ∧ Q (.str d.shown) H) fRepr := by
  intro ds R M H vs Q al w f k
  obtain ⟨d, rfl, ⟨c, h1, h2, h3, h4⟩, r⟩ := f
  cases w with
  | cons a b =>
    cases b
    exact ⟨_, d, rfl, a.dp c, h1, h2, h3, h4, k _ r _ _ (Same.refl _) (.str _)⟩
end
end MT
set_option maxHeartbeats 1000000
/-! more of the same; a def's whole body over data -/
namespace MT
open PySem L2
section
variable {X : Cx} {e : Expr}
def qNeg (t : TD) : TD := fun ρ n R => t ρ n fun d n1 => ∃ i, d = .int i ∧ R (.int (-i)) n1
theorem de_neg {t : TD} (h : PE X e (tUn (rU fun i => .int (-i)) (tD X.K o t))) : PE X e (tD X.K o (qNeg t)) := PE.imp h fun σ H Q ⟨W, ρ, n, R, E, g, t, k⟩ =>
  ⟨W, ρ, n, _, E, g, t, fun d n1 ⟨i, ed, r⟩ v H1 F1 g1 w => by subst ed; cases w; exact ⟨i, rfl, k _ n1 r _ H1 F1 g1 (.int _)⟩⟩
/-- {} -/
theorem de_d0 (h : PE X e tDNewK) : PE X e (tD X.K o (qC (.dict []))) := PE.imp h fun σ H Q ⟨W, ρ, n, R, E, g, r, k⟩ => fun p hp =>
  k _ n r _ _ (W.of (same_new hp)) (W.same g (same_new hp)) (.dct (W.new g (New.mk' (o := .dK []) hp)) upd_same trivial)
def atomD : PyData → Bool
  | .none => true
  | .bool _ => true
  | .int _ => true
  | .str _ => true
  | _ => false
def dkD (d e : PyData) : PyData := if atomD e = true then .dict [(d, e)] else .dict [(.list [], .none)]
theorem dk_dw {K : PySem.W.Frag} {M N : Addr → Prop} {H H' : Hp} {p : Addr} {z : Str} {v : V} {e : PyData} (n : ¬ M p) (h : H p = some (.dK [(.inr z, v)])) (w : Dw K N H' v e) : Dw K M H (.ref p) (dkD (.str z) e) := by
  cases w with
  | non => exact .dct n h ⟨rfl, trivial, trivial⟩
  | bl b => exact .dct n h ⟨rfl, rfl, trivial⟩
  | int b => exact .dct n h ⟨rfl, rfl, trivial⟩
  | str b => exact .dct n h ⟨rfl, rfl, trivial⟩
  | lst _ _ => exact .dkT n h
  | tup _ _ => exact .dkT n h
  | dct _ _ _ => exact .dkT n h
  | dkT _ _ => exact .dkT n h
  | dcT _ _ => exact .dkT n h
  | dk _ _ _ => exact .dkT n h
  | dt _ _ _ => exact .dkT n h
  | obj _ _ _ _ => exact .dkT n h
  | exn _ _ _ _ _ _ => exact .dkT n h
  | exn0 _ _ _ => exact .dkT n h
/-- {text: ..} -/
def qDk (t u : TD) : TD := fun ρ n R => t ρ n fun d n1 => (∃ z, d = .str z) ∧ u ρ n1 fun e n2 => R (dkD d e) n2
theorem de_dk {t u : TD} (h : PE X e (fun σ H Q => ∀ p H0, New H H0 p (.dK []) → tD X.K o t σ H0 fun x H1 => tD X.K o u σ H1 fun y H2 =>
    H2 p = some (.dK []) ∧ ∃ key : Key, x = kV key ∧ ∀ H3, (∀ c, c ≠ p → H3 c = H2 c) → H3 p = some (.dK [(key, y)]) → Q (.ref p) H3)) : PE X e (tD X.K o (qDk t u)) := PE.imp h fun σ H Q ⟨W, ρ, n, R, E, g, t, k⟩ => fun p H0 n0 => by
  have nM := W.new g n0
  have g0 := W.same g n0.1
  have E0 : EnvD X.K o (fun c => W.M c ∨ c = p) (W.a, W.ts, W.ov) ρ σ H0 := ((E.more (N := fun c => W.M c ∨ c = p) fun c o m q => m.elim id fun e => by rw [e, n0.2.2] at q; cases q).frm (fx_same n0.1))
  refine ⟨W.plus p (.dK []) (fun _ z => by cases z) nM, ρ, n, _, E0, ⟨g0, n0.2.1⟩, t, fun d n1 ⟨⟨z, ez⟩, u1⟩ v H1 F1 g1 w1 => ⟨W.plus p (.dK []) (fun _ z => by cases z) nM, ρ, n1, _, E0.frm ((W.plus p (.dK []) (fun _ z => by cases z) nM).frm F1), g1, u1, fun y n2 r v2 H2 F2 g2 w2 => ⟨g2.2, .inr z, ?_, fun H3 hc h3 => ?_⟩⟩⟩
  · subst ez
    cases w1
    rfl
  · have e3 : H3 = upd H2 p (.dK [(.inr z, v2)]) := by
      funext c
      by_cases ec : c = p
      · rw [ec, h3, upd_same]
      · rw [hc c ec, upd_ne ec]
    subst e3
    exact k _ n2 r _ _ (W.updR (W.trans (W.of n0.1) (W.trans F1 F2)) n0.2.2) (W.updG g n0.2.2 g2.1 (fun u e => by rw [g2.2] at e; cases e; trivial)) (by rw [ez]; exact dk_dw nM upd_same w2)
/-- {path: ..} -/
def qDt (t u : TD) : TD := fun ρ n R => t ρ n fun d n1 => (∃ ns : List Str, d = .tuple (ns.map PyData.str) ∧ ns ≠ [] ∧ ns ≠ [("none" : Str)] ∧ ns ≠ [("folder" : Str)]) ∧ u ρ n1 fun _ n2 => R (.dict [(.list [], .none)]) n2
theorem str_map_inj : ∀ {ns ms : List Str}, ns.map V.str = ms.map V.str → ns = ms
  | [], [], _ => rfl
  | [], _ :: _, h => by cases h
  | _ :: _, [], h => by cases h
  | n :: r, m :: t, h => by
    rw [List.map_cons, List.map_cons] at h
    injection h with h1 h2
    injection h1 with h1
    rw [h1, str_map_inj h2]
theorem kV_strs (ns : List Str) : (ns.map fun z => (.inr z : Key)).map kV = ns.map V.str := by
  rw [List.map_map]
  rfl
theorem de_dt {t u : TD} (h : PE X e (fun σ H Q => ∀ p H0, New H H0 p (.dT []) → tD X.K o t σ H0 fun x H1 => tD X.K o u σ H1 fun y H2 =>
    H2 p = some (.dT []) ∧ ∃ (ks : List Key) (b : Addr), x = .ref b ∧ H2 b = some (.tup (ks.map kV)) ∧ ∀ H3, (∀ c, c ≠ p → H3 c = H2 c) → H3 p = some (.dT [(ks, y)]) → Q (.ref p) H3)) : PE X e (tD X.K o (qDt t u)) := PE.imp h fun σ H Q ⟨W, ρ, n, R, E, g, t, k⟩ => fun p H0 n0 => by
  have nM := W.new g n0
  have g0 := W.same g n0.1
  have E0 : EnvD X.K o (fun c => W.M c ∨ c = p) (W.a, W.ts, W.ov) ρ σ H0 := ((E.more (N := fun c => W.M c ∨ c = p) fun c o m q => m.elim id fun e => by rw [e, n0.2.2] at q; cases q).frm (fx_same n0.1))
  refine ⟨W.plus p (.dT []) (fun _ z => by cases z) nM, ρ, n, _, E0, ⟨g0, n0.2.1⟩, t, fun d n1 ⟨⟨ns, ez, e1, e2, e3⟩, u1⟩ v H1 F1 g1 w1 => ⟨W.plus p (.dT []) (fun _ z => by cases z) nM, ρ, n1, _, E0.frm ((W.plus p (.dT []) (fun _ z => by cases z) nM).frm F1), g1, u1, fun y n2 r v2 H2 F2 g2 w2 => ?_⟩⟩
  subst ez
  have w3 := w1.frm ((W.plus p (.dT []) (fun _ z => by cases z) nM).frm F2)
  cases w3 with
  | tup s a =>
    cases strs_dw a
    rcases s with ⟨_, s⟩ | ⟨c, _⟩
    · refine ⟨g2.2, ns.map fun z => (.inr z : Key), _, rfl, by rw [kV_strs]; exact s, fun H3 hc h3 => ?_⟩
      have e3 : H3 = upd H2 p (.dT [(ns.map fun z => (.inr z : Key), v2)]) := by
        funext c
        by_cases ec : c = p
        · rw [ec, h3, upd_same]
        · rw [hc c ec, upd_ne ec]
      subst e3
      exact k _ n2 r _ _ (W.updR (W.trans (W.of n0.1) (W.trans F1 F2)) n0.2.2) (W.updG g n0.2.2 g2.1 (fun u e => by rw [g2.2] at e; cases e; trivial)) (.dcT nM upd_same)
    · rcases c with c | c | c
      · exact absurd (List.map_eq_nil_iff.mp c) e1
      · exact absurd (str_map_inj (ms := [("none" : Str)]) c) e2
      · exact absurd (str_map_inj (ms := [("folder" : Str)]) c) e3
end
theorem room65 {k : Nat} {A : Around} (r : Room k A) : A.units + 65 < cLine := by have := r.un; omega
theorem room1 {k : Nat} {A : Around} (r : Room k A) : A.units + 1 < cLine := by have := r.un; omega
/-! ### tests of a comprehension -/
section
variable {X : Cx} {cs : List Expr}
theorem PTs.imp {t t' : TT} (h : PTs X cs t) (i : ∀ σ H Q, t' σ H Q → t σ H Q) : PTs X cs t' := ⟨fun pins s σ H Q I q => h.run pins s σ H Q I (i σ H Q q)⟩
def qYes : TDB := fun _ n R => R true n
theorem dts_nil (h : PTs X cs tYes) : PTs X cs (tDB X.K o qYes) := PTs.imp h fun σ H Q ⟨W, ρ, n, R, E, g, r, k⟩ => k _ n r H W.refl g
end
/-! ### stores -/
section
variable {X : Cx} {st : Stmt} {ss : List Stmt}
theorem ds_setLc {i : Nat} {vs0 : List Nat} {g : TG} {f} {src : TDI} {tt : TDB} {te : TD} (hf : GFit X.K vs0 g f) (h : PS X st (tAsg (tLc (tDI X.K o src) g (tDB X.K o tt) (tD X.K o te) vs0) (gName i))) : PS X st (tDs X.K o (qSet i (qLc vs0 f src tt te))) := ds_set (PS.imp h fun D σ H q => lc_over hf q)
def qPar (i j : Nat) (u : TDA) : TDS := fun ρ n Rn _ => u ρ n fun ds n1 => ∃ x y, ds = [x, y] ∧ Rn ((ρ.set i (DS.d x)).set j (DS.d y)) n1
theorem ds_par {i j : Nat} {u : TDA} (h : PS X st (tPar i j (tDA X.K o u))) : PS X st (tDs X.K o (qPar i j u)) := PS.imp h fun D σ H ⟨W, ρ, n, Rn, Rr, E, g, t, k1, k2⟩ =>
  ⟨W, ρ, n, _, E, g, t, fun ds n1 ⟨x, y, e, r⟩ vs H1 F1 g1 w => by
    subst e
    cases w with
    | cons a b =>
      cases b with
      | cons c d =>
        cases d
        exact ⟨_, _, rfl, k1 _ n1 r _ H1 F1 g1 (((E.frm (W.frm F1)).set i a).set j c)⟩⟩
theorem dss_nil (h : PSs X ss tNext) : PSs X ss (tDs X.K o qNilS) := PSs.imp h fun D σ H ⟨W, ρ, n, Rn, Rr, E, g, t, k1, k2⟩ => k1 ρ n t σ H W.refl g E
theorem ds_pass (h : PS X st tNext) : PS X st (tDs X.K o qNilS) := PS.imp h fun D σ H ⟨W, ρ, n, Rn, Rr, E, g, t, k1, k2⟩ => k1 ρ n t σ H W.refl g E
theorem wipe_get (σ : L2.St) : ∀ (vs : List Nat) (k : Nat), (L2.wipe σ vs)[k]? = if k ∈ vs ∧ k < σ.length then some none else σ[k]?
  | [], k => by simp [L2.wipe]
  | v :: vs, k => by
    show ((L2.wipe σ vs).set v none)[k]? = _
    have ih := wipe_get σ vs k
    have l := wipe_length σ vs
    by_cases e : v = k
    · subst e
      by_cases h : v < σ.length
      · rw [List.getElem?_set_self (by rw [l]; exact h), if_pos ⟨List.mem_cons_self, h⟩]
      · rw [if_neg (fun q => h q.2), List.getElem?_eq_none (by rw [List.length_set, l]; omega), List.getElem?_eq_none (by omega)]
    · rw [List.getElem?_set_ne e, ih]
      have : (k ∈ v :: vs) ↔ k ∈ vs := ⟨fun q => (List.mem_cons.mp q).resolve_left fun z => e z.symm, fun q => List.mem_cons_of_mem _ q⟩
      simp only [this]
theorem wipe_set {σ : L2.St} {x : Nat} {u : Option V} {vs : List Nat} (h : x ∈ vs) : L2.wipe (σ.set x u) vs = L2.wipe σ vs := List.ext_getElem? fun k => by
  rw [wipe_get, wipe_get, List.length_set]
  by_cases e : x = k
  · subst e
    by_cases l : x < σ.length
    · rw [if_pos ⟨h, l⟩, if_pos ⟨h, l⟩]
    · rw [if_neg (fun q => l q.2), if_neg (fun q => l q.2), List.getElem?_eq_none (by rw [List.length_set]; omega), List.getElem?_eq_none (by omega)]
  · rw [List.getElem?_set_ne e]
theorem fit_pair {K : PySem.W.Frag} {i j : Nat} : GFit K [i, j] (gTup K 2 (gCons (gName i) (gCons (gName j) gNil))) (fun d ρ R => ∃ x y, d = .tuple [x, y] ∧ R ((ρ.set i (DS.d x)).set j (DS.d y))) := fun o M a H v d ρ σ R Q w E ⟨x, y, e, r⟩ k => by
  subst e
  cases w with
  | tup s w =>
    cases w with
    | cons wa wb =>
      cases wb with
      | cons wc wd =>
        cases wd
        exact ⟨_, _, rfl, s.at, rfl, _, _, rfl, _, _, rfl, rfl, k _ r _ ((E.set i wa).set j wc) (by rw [wipe_set (by simp), wipe_set (by simp)])⟩
end
theorem fit_pp {K : PySem.W.Frag} {i j k l : Nat} : GFit K [i, j, k, l] (gTup K 2 (gCons (gTup K 2 (gCons (gName i) (gCons (gName j) gNil))) (gCons (gTup K 2 (gCons (gName k) (gCons (gName l) gNil))) gNil)))
    (fun d ρ R => ∃ x y z w, d = .tuple [.tuple [x, y], .tuple [z, w]] ∧ R ((((ρ.set i (DS.d x)).set j (DS.d y)).set k (DS.d z)).set l (DS.d w))) := fun o M a H v d ρ σ R Q w E ⟨x, y, z, u, e, r⟩ k' => by
  subst e
  cases w with
  | tup s w =>
    cases w with
    | cons wa wb =>
      cases wb with
      | cons wc wd =>
        cases wd
        cases wa with
        | tup s1 w1 =>
          cases wc with
          | tup s2 w2 =>
            cases w1 with
            | cons a1 b1 =>
              cases b1 with
              | cons c1 d1 =>
                cases d1
                cases w2 with
                | cons a2 b2 =>
                  cases b2 with
                  | cons c2 d2 =>
                    cases d2
                    exact ⟨_, _, rfl, s.at, rfl, _, _, rfl, ⟨_, _, rfl, s1.at, rfl, _, _, rfl, _, _, rfl, rfl, ⟨_, _, rfl, ⟨_, _, rfl, s2.at, rfl, _, _, rfl, _, _, rfl, rfl, ⟨rfl, k' _ r _ ((((E.set i a1).set j c1).set k a2).set l c2) (by rw [wipe_set (by simp), wipe_set (by simp), wipe_set (by simp), wipe_set (by simp)])⟩⟩⟩⟩⟩
/-- a comprehension in which nothing is drawn -/
theorem lc_pure {vs : List Nat} {f : PyData → List DS → (List DS → Prop) → Prop} {tt : TDB} {te : TD} {ρ : List DS} {n : Nat} {R : List PyData → Nat → Prop} {ds : List PyData} (p : PyData → Bool) (g : PyData → PyData) (hl : ds.length ≤ 10000000)
    (hs : ∀ x ∈ ds, ∀ (Ky : QD) (Kn : Nat → Prop), (p x = true → Ky (g x) n) → (p x = false → Kn n) → f x (wipeD ρ vs) fun ρ' => tt ρ' n fun b m' => if b = true then te ρ' m' Ky else Kn m') (r : R ((ds.filter p).map g) n) :
    ds.length ≤ 10000000 ∧ ∃ A : Nat → List PyData → Nat → Prop, A 0 [] n ∧ (∀ i x acc m, ds[i]? = some x → A i acc m → f x (wipeD ρ vs) fun ρ' => tt ρ' m fun b m' => if b = true then te ρ' m' fun y m'' => A (i + 1) (acc ++ [y]) m'' else A (i + 1) acc m') ∧
      ∀ acc m, A ds.length acc m → acc.length ≤ ds.length → R acc m := by
  refine ⟨hl, fun i acc m => m = n ∧ acc = ((ds.take i).filter p).map g, ⟨rfl, rfl⟩, ?_, ?_⟩
  · rintro i x acc m hx ⟨rfl, rfl⟩
    refine hs x (List.mem_of_getElem? hx) _ _ (fun hp => ⟨rfl, ?_⟩) (fun hp => ⟨rfl, ?_⟩)
    · rw [take_filter_next hx, if_pos hp, List.map_append]
      rfl
    · rw [take_filter_next hx, if_neg (by rw [hp]; exact Bool.false_ne_true), List.append_nil]
  · rintro acc m ⟨rfl, rfl⟩ _
    rw [List.take_of_length_le (Nat.le_refl _)]
    exact r
theorem lc_map {vs : List Nat} {f : PyData → List DS → (List DS → Prop) → Prop} {te : TD} {ρ : List DS} {n : Nat} {R : List PyData → Nat → Prop} {ds : List PyData} (g : PyData → PyData) (hl : ds.length ≤ 10000000)
    (hs : ∀ x ∈ ds, ∀ Ky : QD, Ky (g x) n → f x (wipeD ρ vs) fun ρ' => te ρ' n Ky) (r : R (ds.map g) n) :
    ds.length ≤ 10000000 ∧ ∃ A : Nat → List PyData → Nat → Prop, A 0 [] n ∧ (∀ i x acc m, ds[i]? = some x → A i acc m → f x (wipeD ρ vs) fun ρ' => qYes ρ' m fun b m' => if b = true then te ρ' m' fun y m'' => A (i + 1) (acc ++ [y]) m'' else A (i + 1) acc m') ∧
      ∀ acc m, A ds.length acc m → acc.length ≤ ds.length → R acc m := by
  refine ⟨hl, fun i acc m => m = n ∧ acc = (ds.take i).map g, ⟨rfl, rfl⟩, ?_, ?_⟩
  · rintro i x acc m hx ⟨rfl, rfl⟩
    have q := hs x (List.mem_of_getElem? hx) (fun y m'' => m'' = m ∧ (ds.take i).map g ++ [y] = (ds.take (i + 1)).map g) ⟨rfl, by rw [take_next hx, List.map_append]; rfl⟩
    simp only [qYes, if_true]
    exact q
  · rintro acc m ⟨rfl, rfl⟩ _
    rw [List.take_of_length_le (Nat.le_refl _)]
    exact r
/-! ### whole bodies -/
def Fn0 (f : PyData) : FD := fun ds R => ds = [] ∧ R f
def Fn1 (p : PyData → Prop) (f : PyData → PyData) : FD := fun ds R => ∃ d, ds = [d] ∧ p d ∧ R (f d)
def Fn2 (p : PyData → PyData → Prop) (f : PyData → PyData → PyData) : FD := fun ds R => ∃ d e, ds = [d, e] ∧ p d e ∧ R (f d e)
def Fn3 (p : PyData → PyData → PyData → Prop) (f : PyData → PyData → PyData → PyData) : FD := fun ds R => ∃ d e c, ds = [d, e, c] ∧ p d e c ∧ R (f d e c)
def Dr0 (post : PyData → Prop) : FD := fun ds R => ds = [] ∧ ∀ y, post y → R y
def Dr1 (p : PyData → Prop) (post : PyData → PyData → Prop) : FD := fun ds R => ∃ d, ds = [d] ∧ p d ∧ ∀ y, post d y → R y
def Dr2 (p : PyData → PyData → Prop) (post : PyData → PyData → PyData → Prop) : FD := fun ds R => ∃ d e, ds = [d, e] ∧ p d e ∧ ∀ y, post d e y → R y
section
variable {K : PySem.W.Frag} {t : TDS} {N : List Str} {vs : List V} {H : Hp} {Q : VK} {E : XK} {m c : Nat}
theorem no_env {M : Addr → Prop} {o : Option TSet} {a : Option Addr} : ∀ m, EnvD K o M (a, o, noV) (List.replicate m DS.no) (List.replicate m (none : Option V)) H
  | 0 => .nil rfl
  | m + 1 => .cons (s := .no) trivial (no_env m)
theorem end_pure {M : Addr → Prop} {R : PyData → Prop} {σ : L2.St} {ρ : List DS} (al : Al M H) (k : ∀ d, R d → ∀ v H', Same H H' → Dw K M H' v d → Q v H') (e : EnvD K none M (none, none, noV) ρ σ H) (q : t ρ 0 (fun _ _ => False) (fun y _ => R y)) :
    tDs K none t { nx := fun _ H' => Q .non H', rt := Q } σ H := ⟨pureF M, ρ, 0, _, _, e, al, q, fun _ _ z => z.elim, fun d n r v H' s _ w => k d r v H' s w⟩
theorem pure0 {f : PyData} (h : spPure K (Fn0 f) vs H Q E) (hs : start N [] = List.replicate m none) (q : t (List.replicate m DS.no) 0 (fun _ _ => False) (fun y _ => y = f)) : tDs K none t { nx := fun _ H' => Q .non H', rt := Q } (start N vs) H := by
  obtain ⟨M, ds, R, al, w, ⟨rfl, r⟩, k⟩ := h
  cases w
  exact end_pure (R := (· = f)) al (fun d e => k d (e ▸ r)) (hs ▸ no_env m) q
theorem pure1 {p : PyData → Prop} {f : PyData → PyData} (h : spPure K (Fn1 p f) vs H Q E) (hs : ∀ v, start N [v] = some v :: List.replicate m none) (q : ∀ d, p d → t (.d d :: List.replicate m DS.no) 0 (fun _ _ => False) (fun y _ => y = f d)) : tDs K none t { nx := fun _ H' => Q .non H', rt := Q } (start N vs) H := by
  obtain ⟨M, ds, R, al, w, ⟨d, rfl, hp, r⟩, k⟩ := h
  cases w with
  | cons a b =>
    cases b
    exact end_pure (R := (· = f d)) al (fun y e => k y (e ▸ r)) (hs _ ▸ .cons (s := .d d) ⟨_, rfl, a⟩ (no_env m)) (q d hp)
theorem pure2 {p : PyData → PyData → Prop} {f : PyData → PyData → PyData} (h : spPure K (Fn2 p f) vs H Q E) (hs : ∀ v u, start N [v, u] = some v :: some u :: List.replicate m none) (q : ∀ d e, p d e → t (.d d :: .d e :: List.replicate m DS.no) 0 (fun _ _ => False) (fun y _ => y = f d e)) : tDs K none t { nx := fun _ H' => Q .non H', rt := Q } (start N vs) H := by
  obtain ⟨M, ds, R, al, w, ⟨d, e, rfl, hp, r⟩, k⟩ := h
  cases w with
  | cons a b =>
    cases b with
    | cons a2 b2 =>
      cases b2
      exact end_pure (R := (· = f d e)) al (fun y e => k y (e ▸ r)) (hs _ _ ▸ .cons (s := .d d) ⟨_, rfl, a⟩ (.cons (s := .d e) ⟨_, rfl, a2⟩ (no_env m))) (q d e hp)
theorem pure3 {p : PyData → PyData → PyData → Prop} {f : PyData → PyData → PyData → PyData} (h : spPure K (Fn3 p f) vs H Q E) (hs : ∀ v u w, start N [v, u, w] = some v :: some u :: some w :: List.replicate m none) (q : ∀ d e c, p d e c → t (.d d :: .d e :: .d c :: List.replicate m DS.no) 0 (fun _ _ => False) (fun y _ => y = f d e c)) : tDs K none t { nx := fun _ H' => Q .non H', rt := Q } (start N vs) H := by
  obtain ⟨M, ds, R, al, w, ⟨d, e, c, rfl, hp, r⟩, k⟩ := h
  cases w with
  | cons a b =>
    cases b with
    | cons a2 b2 =>
      cases b2 with
      | cons a3 b3 =>
        cases b3
        exact end_pure (R := (· = f d e c)) al (fun y e => k y (e ▸ r)) (hs _ _ _ ▸ .cons (s := .d d) ⟨_, rfl, a⟩ (.cons (s := .d e) ⟨_, rfl, a2⟩ (.cons (s := .d c) ⟨_, rfl, a3⟩ (no_env m)))) (q d e c hp)
theorem len0 {f : PyData} (h : spPure K (Fn0 f) vs H Q E) : vs.length = 0 := by
  obtain ⟨M, ds, R, al, w, ⟨rfl, _⟩, k⟩ := h
  exact w.length
theorem len1 {p : PyData → Prop} {f : PyData → PyData} (h : spPure K (Fn1 p f) vs H Q E) : vs.length = 1 := by
  obtain ⟨M, ds, R, al, w, ⟨d, rfl, _⟩, k⟩ := h
  exact w.length
theorem len2 {p : PyData → PyData → Prop} {f : PyData → PyData → PyData} (h : spPure K (Fn2 p f) vs H Q E) : vs.length = 2 := by
  obtain ⟨M, ds, R, al, w, ⟨d, e, rfl, _⟩, k⟩ := h
  exact w.length
theorem len3 {p : PyData → PyData → PyData → Prop} {f : PyData → PyData → PyData → PyData} (h : spPure K (Fn3 p f) vs H Q E) : vs.length = 3 := by
  obtain ⟨M, ds, R, al, w, ⟨d, e, c, rfl, _⟩, k⟩ := h
  exact w.length
theorem end_draw {M : Addr → Prop} {a b : Addr} {cs : List Int} {n : Nat} {R : PyData → Prop} {σ : L2.St} {ρ : List DS} (hM : M a) (al : Al M H) (S : Sx a b cs n H) (k : ∀ d, R d → ∀ v H', Frm (· = a) H H' → Sx a b cs (n + c) H' → Dw K M H' v d → Q v H')
    (e : EnvD K none M (some a, none, noV) ρ σ H) (q : t ρ n (fun _ _ => False) (fun y m => m ≤ n + c ∧ R y)) : tDs K none t { nx := fun _ H' => Q .non H', rt := Q } σ H :=
  ⟨drawF M a b cs hM, ρ, n, _, _, e, ⟨S, al⟩, q, fun _ _ z => z.elim, fun d n r v H' s g w => k d r.2 v H' s (g.1.le r.1) w⟩
theorem draw0 {post : PyData → Prop} (h : spDr K c (Dr0 post) vs H Q E) (hs : ∀ v, start N [v] = some v :: List.replicate m none) (q : ∀ n, n + c ≤ 1000000 → t (.dr :: List.replicate m DS.no) n (fun _ _ => False) (fun y m => m ≤ n + c ∧ post y)) : tDs K none t { nx := fun _ H' => Q .non H', rt := Q } (start N vs) H := by
  obtain ⟨M, a, b, cs, n, us, ds, R, rfl, hM, al, S, hn, w, ⟨rfl, r⟩, k⟩ := h
  cases w
  exact end_draw (c := c) (R := post) hM al S (fun y e => k y (r y e)) (hs _ ▸ .cons (s := .dr) ⟨_, rfl, rfl⟩ (no_env m)) (q n hn)
theorem draw1 {p : PyData → Prop} {post : PyData → PyData → Prop} (h : spDr K c (Dr1 p post) vs H Q E) (hs : ∀ v u, start N [v, u] = some v :: some u :: List.replicate m none) (q : ∀ n d, n + c ≤ 1000000 → p d → t (.dr :: .d d :: List.replicate m DS.no) n (fun _ _ => False) (fun y m => m ≤ n + c ∧ post d y)) : tDs K none t { nx := fun _ H' => Q .non H', rt := Q } (start N vs) H := by
  obtain ⟨M, a, b, cs, n, us, ds, R, rfl, hM, al, S, hn, w, ⟨d, rfl, hp, r⟩, k⟩ := h
  cases w with
  | cons wa wb =>
    cases wb
    exact end_draw (c := c) (R := post d) hM al S (fun y e => k y (r y e)) (hs _ _ ▸ .cons (s := .dr) ⟨_, rfl, rfl⟩ (.cons (s := .d d) ⟨_, rfl, wa⟩ (no_env m))) (q n d hn hp)
theorem draw2 {p : PyData → PyData → Prop} {post : PyData → PyData → PyData → Prop} (h : spDr K c (Dr2 p post) vs H Q E) (hs : ∀ v u w, start N [v, u, w] = some v :: some u :: some w :: List.replicate m none) (q : ∀ n d e, n + c ≤ 1000000 → p d e → t (.dr :: .d d :: .d e :: List.replicate m DS.no) n (fun _ _ => False) (fun y m => m ≤ n + c ∧ post d e y)) : tDs K none t { nx := fun _ H' => Q .non H', rt := Q } (start N vs) H := by
  obtain ⟨M, a, b, cs, n, us, ds, R, rfl, hM, al, S, hn, w, ⟨d, e, rfl, hp, r⟩, k⟩ := h
  cases w with
  | cons wa wb =>
    cases wb with
    | cons wc wd =>
      cases wd
      exact end_draw (c := c) (R := post d e) hM al S (fun y e => k y (r y e)) (hs _ _ _ ▸ .cons (s := .dr) ⟨_, rfl, rfl⟩ (.cons (s := .d d) ⟨_, rfl, wa⟩ (.cons (s := .d e) ⟨_, rfl, wc⟩ (no_env m)))) (q n d e hn hp)
theorem dlen0 {post : PyData → Prop} (h : spDr K c (Dr0 post) vs H Q E) : vs.length = 1 := by
  obtain ⟨M, a, b, cs, n, us, ds, R, rfl, hM, al, S, hn, w, ⟨rfl, r⟩, k⟩ := h
  exact congrArg Nat.succ w.length
theorem dlen1 {p : PyData → Prop} {post : PyData → PyData → Prop} (h : spDr K c (Dr1 p post) vs H Q E) : vs.length = 2 := by
  obtain ⟨M, a, b, cs, n, us, ds, R, rfl, hM, al, S, hn, w, ⟨d, rfl, hp, r⟩, k⟩ := h
  exact congrArg Nat.succ w.length
theorem dlen2 {p : PyData → PyData → Prop} {post : PyData → PyData → PyData → Prop} (h : spDr K c (Dr2 p post) vs H Q E) : vs.length = 3 := by
  obtain ⟨M, a, b, cs, n, us, ds, R, rfl, hM, al, S, hn, w, ⟨d, e, rfl, hp, r⟩, k⟩ := h
  exact congrArg Nat.succ w.length
theorem env_of {M : Addr → Prop} {o : Option TSet} {a : Option Addr} : ∀ {vs : List V} {ds : List PyData} (m : Nat), DwAll K M H vs ds → EnvD K o M (a, o, noV) (ds.map DS.d ++ List.replicate m DS.no) (vs.map some ++ List.replicate m none) H
  | _, _, m, .nil => no_env m
  | _, _, m, .cons w r => .cons (s := .d _) ⟨_, rfl, w⟩ (env_of m r)
theorem pureG {P : FD} (h : spPure K P vs H Q E) (q : ∀ ds R, P ds R → t (ds.map DS.d ++ List.replicate (N.length - ds.length) DS.no) 0 (fun _ _ => False) (fun y _ => R y)) : tDs K none t { nx := fun _ H' => Q .non H', rt := Q } (start N vs) H := by
  obtain ⟨M, ds, R, al, w, p, k⟩ := h
  have e := env_of (o := none) (a := none) (N.length - ds.length) w
  refine end_pure al k ?_ (q ds R p)
  unfold L2.start
  rw [w.length]
  exact e
theorem lenG {P : FD} {n : Nat} (h : spPure K P vs H Q E) (l : ∀ ds R, P ds R → ds.length = n) : vs.length = n := by
  obtain ⟨M, ds, R, al, w, p, k⟩ := h
  exact w.length.trans (l ds R p)
theorem drawG {P : FD} (h : spDr K c P vs H Q E) (q : ∀ n ds R, n + c ≤ 1000000 → P ds R → t (DS.dr :: (ds.map DS.d ++ List.replicate (N.length - (ds.length + 1)) DS.no)) n (fun _ _ => False) (fun y m => m ≤ n + c ∧ R y)) : tDs K none t { nx := fun _ H' => Q .non H', rt := Q } (start N vs) H := by
  obtain ⟨M, a, b, cs, n, us, ds, R, rfl, hM, al, S, hn, w, p, k⟩ := h
  have e := env_of (o := none) (a := some a) (N.length - (ds.length + 1)) w
  refine end_draw (c := c) (R := R) hM al S k ?_ (q n ds R hn p)
  unfold L2.start
  rw [List.length_cons, w.length, List.map_cons, List.cons_append]
  exact .cons (s := .dr) ⟨_, rfl, rfl⟩ e
theorem dlenG {P : FD} {n : Nat} (h : spDr K c P vs H Q E) (l : ∀ ds R, P ds R → ds.length + 1 = n) : vs.length = n := by
  obtain ⟨M, a, b, cs, n', us, ds, R, rfl, hM, al, S, hn, w, p, k⟩ := h
  exact (congrArg Nat.succ w.length).trans (l ds R p)
/-- the drawer of the laws -/
theorem sp_draw (h : spDr K 1 (Dr1 (fun d => ∃ m : Int, d = .int m ∧ 0 < m ∧ m < 2 ^ 62) fun d y => ∃ m i : Int, d = .int m ∧ y = .int i ∧ 0 ≤ i ∧ i < m) vs H Q E) : spDraw vs H Q E := by
  obtain ⟨M, a, b, cs, n, us, ds, R, rfl, hM, al, S, hn, w, ⟨d, rfl, ⟨m, rfl, h1, h2⟩, r⟩, k⟩ := h
  cases w with
  | cons wa wb =>
    cases wa
    cases wb
    exact ⟨a, b, cs, n, m, rfl, S, by omega, h1, h2, fun H' d F S' l u => k _ (r _ ⟨m, d, rfl, rfl, l, u⟩) _ H' F S' (.int d)⟩
end
end MT
set_option maxHeartbeats 1000000
/-! a call whose error is met where it stands -/
namespace MT
open PySem L2
section
variable {X : Cx} {k : Nat} {f : Addr} {fd : FuncData} {ps : List Str} {sp : Sp} {dvs : List V} {ds : List Value} {x : Str} {p pos : Pos} {e : Expr} {es : List Expr} {t : TA} {W : WX}
theorem pe_callW (tk : Takes X W) (F : FnOk X.prog X.w X.K X.mg X.base (L2.CX X.prog X.w) k f fd ps sp) (hr : Room k X.A) (hg : Gl X x) (hm : X.mg x = some (.ref f)) (hk : PySem.W.keepIn X.K (.ref f) = true) (hb : Binds X.K fd ps ds) (hd : Vals dvs ds)
    (ha : PA X (e :: es) t) (hdb : (x == ("__debug__" : Str)) = false := by decide) (he : starEach (e :: es) X.env = (false, eval e X.env) :: starEach es X.env := by rfl) (hpl : (backTo pos (starEach es X.env)).any (·.1) = false := by rfl) :
    PE X (.Call (.Name x p) (e :: es) [] pos) (fun σ H Q => ∃ E : XK, (∀ cls d H', E cls d H' → W cls d σ H') ∧ t σ H fun vs H1 => sp (vs ++ dvs) H1 Q E) := by
  refine ⟨fun pins s σ H Q I h => ?_⟩
  obtain ⟨E, hW, h⟩ := h
  refine wpAny_Call_Name_kw (ld_glob I hg hm ?_ hdb)
  refine PySem.W.callWith_K (h₀ := X.base) I.ok.mod.kin hk (thn (ha.run pos pins s σ H _ I h) fun us s1 ⟨vs, H1, I1, r, q⟩ => ⟨I1.kIn, ?_⟩) he hpl
  have r2 : Vals (vs ++ dvs) (us ++ ds) := r.append hd
  have hl : (us ++ ds).length = ps.length := by rw [← r2.length]; exact F.len _ _ _ _ q
  refine wpAny_call (codeAny_mono (F.run X.A X.stack s1 H1 ⟨us, []⟩ (us ++ ds) (vs ++ dvs) Q E hr I1.env0 (hb s1 us I1.kIn hl) r2 q) fun r s' hq => ?_)
  cases r with
  | error e => exact tk e s' (XE.of_call I1 (fun cls d H' w => hW cls d H' w) hq)
  | ok fl =>
    cases fl with
    | ret u => exact I1.after hq
    | next => exact False.elim hq
    | brk => exact False.elim hq
    | cont => exact False.elim hq
end
end MT
set_option maxHeartbeats 1000000
/-! lambdas, errors, over data -/
namespace MT
open PySem L2
open LamX (Tabs ExtN)
/-- an error's fields -/
def FvW (K : PySem.W.Frag) (M : Addr → Prop) (H : Hp) (fv : List (Str × V)) (fs : List (Str × PyData)) : Prop := fv.map (·.1) = fs.map (·.1) ∧ DwAll K M H (fv.map (·.2)) (fs.map (·.2))
theorem FvW.one {K : PySem.W.Frag} {M : Addr → Prop} {H : Hp} {fv : List (Str × V)} {f : Str} {d : PyData} (h : FvW K M H fv [(f, d)]) : ∃ v, fv = [(f, v)] ∧ Dw K M H v d := by
  obtain ⟨h1, h2⟩ := h
  match fv, h1, h2 with
  | [(g, v)], h1, h2 =>
    cases h2 with
    | cons a b =>
      have e : [g] = [f] := h1
      injection e with e
      subst e
      exact ⟨v, rfl, a⟩
theorem FvW.two {K : PySem.W.Frag} {M : Addr → Prop} {H : Hp} {fv : List (Str × V)} {f g : Str} {d e : PyData} (h : FvW K M H fv [(f, d), (g, e)]) : ∃ v u, fv = [(f, v), (g, u)] ∧ Dw K M H v d ∧ Dw K M H u e := by
  obtain ⟨h1, h2⟩ := h
  match fv, h1, h2 with
  | [(f', v), (g', u)], h1, h2 =>
    cases h2 with
    | cons a b =>
      cases b with
      | cons a2 b2 =>
        have e : [f', g'] = [f, g] := h1
        injection e with e1 e2
        injection e2 with e2
        subst e1 e2
        exact ⟨v, u, rfl, a, a2⟩
abbrev FE := List PyData → (PyData → Prop) → (Addr → List (Str × PyData) → Prop) → Prop
/-- a def that may raise -/
def spE (K : PySem.W.Frag) (P : FE) : Sp := fun vs H Q E => ∃ (M : Addr → Prop) (ds : List PyData) (R : PyData → Prop) (Rx : Addr → List (Str × PyData) → Prop), Al M H ∧ DwAll K M H vs ds ∧ P ds R Rx ∧ (∀ d, R d → ∀ v H', Same H H' → Dw K M H' v d → Q v H') ∧
  ∀ C fs, Rx C fs → ∀ a H' fv, Same H H' → H a = none → H' a = some (.xd fv) → FvW K M H' fv fs → E (.ref C) (some a) H'
section
variable {X : Cx} {e : Expr} {E : XK} {o : Option TSet}
theorem de_callE {P : FE} {u : TDA} (h : PE X e (tCall (spE X.K P) [] E (tDA X.K o u))) : PE X e (tD X.K o (qCB (fun ds R => P ds R fun _ _ => False) u)) := PE.imp h fun σ H Q ⟨W, ρ, n, R, E, g, t, k⟩ =>
  ⟨W, ρ, n, _, E, g, t, fun ds n1 t1 vs H1 F1 g1 w => ⟨W.M, ds, _, _, fun c m => W.al g1 m, by rw [List.append_nil]; exact w, t1, fun d r v H' s w' => k d n1 r v H' (W.trans F1 (W.of s)) (W.same g1 s) w', fun _ _ z => z.elim⟩⟩
theorem de_callNE {n m : Nat} {gV : List V → List V → List V} {gD : List PyData → List PyData → List PyData} {P : FE} {ta tk : TDA}
    (hg : ∀ {M : Addr → Prop} {H : Hp} {vs zs : List V} {ds es : List PyData}, DwAll X.K M H vs ds → DwAll X.K M H zs es → DwAll X.K M H (gV vs zs) (gD ds es))
    (h : PE X e (L2.tCallN n m (spE X.K P) gV E (tDA X.K o ta) (tDA X.K o tk))) : PE X e (tD X.K o (qKw n m gD (fun ds R => P ds R fun _ _ => False) ta tk)) := PE.imp h fun σ H Q ⟨W, ρ, c, R, E, g, t, k⟩ =>
  ⟨W, ρ, c, _, E, g, t, fun ds c1 t1 vs H1 F1 g1 w => ⟨W, ρ, c1, _, E.frm (W.frm F1), g1, t1, fun es c2 ⟨l1, l2, t2⟩ zs H2 F2 g2 w2 => ⟨w.length.trans l1, w2.length.trans l2, W.M, _, _, _, fun c m => W.al g2 m, hg (w.frm (W.frm F2)) w2, t2, fun d r v H' s w' => k d c2 r v H' (W.trans F1 (W.trans F2 (W.of s))) (W.same g2 s) w', fun _ _ z => z.elim⟩⟩⟩
theorem de_callNE0 {m : Nat} {gV : List V → List V → List V} {gD : List PyData → List PyData → List PyData} {P : FE} {tk : TDA}
    (hg : ∀ {M : Addr → Prop} {H : Hp} {vs zs : List V} {ds es : List PyData}, DwAll X.K M H vs ds → DwAll X.K M H zs es → DwAll X.K M H (gV vs zs) (gD ds es))
    (h : PE X e (L2.tCallN 0 m (spE X.K P) gV E tNil (tDA X.K o tk))) : PE X e (tD X.K o (qKw 0 m gD (fun ds R => P ds R fun _ _ => False) qNil tk)) := de_callNE (ta := qNil) hg (PE.imp h fun σ H Q q => nil_over q)
end
/-! ### a def that makes lambdas -/
theorem tabs_upd {TS : List (Addr × Str)} {H1 H : Hp} {D : Addr} {o : HO} (t1 : Tabs TS H1) (h : H1 D = none) (t : Tabs TS H) (hp : ∀ u, H D = some u → PlainO u) : Tabs TS (upd H D o) := fun p hq => by
  obtain ⟨ps, h1, h2, h3⟩ := t p hq
  obtain ⟨ps1, g1, _⟩ := t1 p hq
  refine ⟨ps, by rw [upd_ne (ne_of_none g1 h)]; exact h1, h2, fun pos cv hc => ?_⟩
  obtain ⟨c, e1, e2⟩ := h3 pos cv hc
  refine ⟨c, e1, ?_⟩
  rw [upd_ne (fun z => by rw [z] at e2; exact hp _ e2)]
  exact e2
def spL (K : PySem.W.Frag) (TS : TSet) (P : FD) : Sp := fun vs H Q _ => ∃ (M : Addr → Prop) (ds : List PyData) (R : PyData → Prop), Al M H ∧ Tabs TS H ∧ DwAll K M H vs ds ∧ P ds R ∧ ∀ d, R d → ∀ v H', ExtN H H' → Tabs TS H' → Dw K M H' v d → Q v H'
section
variable {X : Cx} {e : Expr} {E : XK} {TS : TSet}
theorem de_callL {P : FD} {u : TDA} (h : PE X e (tCall (spL X.K TS P) [] E (tDA X.K (some TS) u))) : PE X e (tD X.K (some TS) (qCB P u)) := PE.imp h fun σ H Q ⟨W, ρ, n, R, E, g, t, k⟩ => by
  obtain ⟨l1, l2⟩ := W.lm TS E.tse
  exact ⟨W, ρ, n, _, E, g, t, fun ds n1 t1 vs H1 F1 g1 w => ⟨W.M, ds, _, fun c m => W.al g1 m, l1 _ _ g1, by rw [List.append_nil]; exact w, t1, fun d r v H' x t' w' => by
    have q := l2 _ _ _ g1 x t'
    exact k d n1 r v H' (W.trans F1 q.2) q.1 w'⟩⟩
def undr : DS → DS
  | .dr => .no
  | .ow _ => .no
  | s => s
theorem EnvD.undr {K : PySem.W.Frag} {o : Option TSet} {M : Addr → Prop} {a : Option Addr × Option TSet × (Nat → V)} {ρ : List DS} {σ : L2.St} {H : Hp} (E : EnvD K o M a ρ σ H) : EnvD K none M (none, none, noV) (ρ.map undr) σ H := by
  have main : ∀ (i : Nat) s, (ρ.map MT.undr)[i]? = some s → ∃ t, ρ[i]? = some t ∧ MT.undr t = s := fun i s e => by
    rw [List.getElem?_map] at e
    cases q : ρ[i]? with
    | none => rw [q] at e; cases e
    | some t => rw [q] at e; exact ⟨t, rfl, Option.some.inj e⟩
  refine ⟨by rw [List.length_map]; exact E.len, fun i x e => ?_, fun i x e => ?_, fun i e => ?_, fun i k e => ?_, rfl⟩ <;> obtain ⟨t, h1, h2⟩ := main i _ e
  · cases t <;> cases h2; exact E.dat i _ h1
  · cases t <;> cases h2; exact E.val i _ h1
  · cases t <;> cases h2
  · cases t <;> cases h2
/-- what a def makes of asking what it is handed -/
def TTd (K : PySem.W.Frag) (hx : Addr → List (Str × PyData) → PyData → Prop) (hr : PyData → PyData) : (XK → Hp → VK → Prop) → Hp → VK → Prop := fun tl H Q => ∃ (M : Addr → Prop) (R : PyData → Prop), Al M H ∧
  tl (fun cls dd H' => ∃ C fs fv z a, cls = .ref C ∧ dd = some a ∧ Same H H' ∧ H' a = some (.xd fv) ∧ FvW K M H' fv fs ∧ hx C fs z ∧ R z) H (fun v H' => Same H H' ∧ ∃ d, Dw K M H' v d ∧ R (hr d)) ∧
  ∀ z, R z → ∀ v H', Same H H' → Dw K M H' v z → Q v H'
def qHeard (hx : Addr → List (Str × PyData) → PyData → Prop) (hr : PyData → PyData) (P : FE) (u : TDA) : TD := fun ρ n R => u (ρ.map undr) n fun ds _ => P ds (fun d => R (hr d) n) fun C fs => ∃ z, hx C fs z ∧ R z n
theorem de_heard {hx : Addr → List (Str × PyData) → PyData → Prop} {hr : PyData → PyData} {P : FE} {u : TDA} (h : PE X e (LamX.tLam TS (TTd X.K hx hr) (fun E => tCall (spE X.K P) [] E (tDA X.K none u)))) : PE X e (tD X.K (some TS) (qHeard hx hr P u)) := PE.imp h fun σ H Q ⟨W, ρ, n, R, E, g, t, k⟩ => by
  obtain ⟨l1, l2⟩ := W.lm TS E.tse
  refine ⟨l1 _ _ g, fun H1 x1 t1 => ?_⟩
  have q := l2 _ _ _ g x1 t1
  refine ⟨W.M, fun z => R z n, fun c m => W.al q.1 m, ?_, fun z r v H' s w => k z n r v H' (W.trans q.2 (W.of s)) (W.same q.1 s) w⟩
  have E1 := (E.frm (W.frm q.2)).undr
  have al1 : Al W.M H1 := fun c m => W.al q.1 m
  refine ⟨pureF W.M, _, n, _, E1, al1, t, fun ds n1 t1 vs H2 F2 g2 w => ⟨W.M, ds, _, _, g2, by rw [List.append_nil]; exact w, t1, fun d r v H' s w' => ⟨F2.trans s, d, w', r⟩, ?_⟩⟩
  rintro C fs ⟨z, hz, r⟩ a H' fv s na ha hw
  exact ⟨C, fs, fv, z, a, rfl, rfl, F2.trans s, ha, hw, hz, r⟩
end
def lamF (M : Addr → Prop) (TS : TSet) : Fld where
  M := M
  G := fun _ H => Al M H ∧ Tabs TS H
  Rel := ExtN
  a := none
  ts := some TS
  ov := noV
  born := fun x g e H' u x' b w q n => by
    rename_i H0 H D
    rw [upd_ne (fun z => by rw [z] at q; rw [x _ _ q n] at e; cases e)]
    exact x' b w q n
  trans := ExtN.trans
  of := fun s => ExtN.of s
  frm := fx_ext
  same := fun g s => ⟨g.1.same s, g.2.ext fun b o e => s _ _ e⟩
  al := fun g m => g.1 _ m
  updR := fun x h b u e n => by rw [upd_ne (ne_of_none e h)]; exact x b u e n
  updG := fun g h q hp => ⟨g.1.upd h q.1, tabs_upd g.2 h q.2 hp⟩
  dr := fun x e => by cases e
  lm := fun T e => by
    cases e
    exact ⟨fun n H g => g.2, fun n H H' g x t => ⟨⟨g.1.ext x, t⟩, x⟩⟩
def lawF (a b : Addr) (cs : List Int) (TS : TSet) : Fld where
  M := (· = a)
  G := fun n H => Sx a b cs n H ∧ Tabs TS H
  Rel := Fx (· = a)
  a := some a
  ts := some TS
  ov := noV
  born := fun x g e H' u x' b w n q z => by
    rename_i H0 H D
    rw [upd_ne (fun c => by rw [c] at q n; rw [x _ _ n q z] at e; cases e)]
    exact x' b w n q z
  trans := Fx.trans
  of := fx_same
  frm := id
  same := fun g s => ⟨g.1.same s, g.2.ext fun b o e => s _ _ e⟩
  al := fun g m => by
    cases m
    exact g.1.atl
  updR := fun x h b u n e t => by rw [upd_ne (ne_of_none e h)]; exact x b u n e t
  updG := fun g h q hp => ⟨Sx.updD g.1 h q.1, tabs_upd g.2 h q.2 hp⟩
  dr := fun x e => by
    cases e
    exact ⟨rfl, b, cs, fun n H g => g.1, fun n n' H H' g F S => ⟨⟨S, tabs_draw g.2 F g.1⟩, fx_frm F⟩⟩
  lm := fun T e => by
    cases e
    exact ⟨fun n H g => g.2, fun n H H' g x t => ⟨⟨g.1.ext x, t⟩, fx_ext x⟩⟩
section
variable {K : PySem.W.Frag} {t : TDS} {N : List Str} {vs : List V} {H : Hp} {Q : VK} {E : XK} {TS : TSet}
theorem lamG {P : FD} (h : spL K TS P vs H Q E) (q : ∀ ds R, P ds R → t (ds.map DS.d ++ List.replicate (N.length - ds.length) DS.no) 0 (fun _ _ => False) (fun y _ => R y)) : tDs K (some TS) t { nx := fun _ H' => Q .non H', rt := Q } (start N vs) H := by
  obtain ⟨M, ds, R, al, tb, w, p, k⟩ := h
  have e := env_of (o := some TS) (a := none) (N.length - ds.length) w
  refine ⟨lamF M TS, _, 0, _, _, ?_, ⟨al, tb⟩, q ds R p, fun _ _ z => z.elim, fun d n r v H' x g w => k d r v H' x g.2 w⟩
  unfold L2.start
  rw [w.length]
  exact e
theorem llenG {P : FD} {n : Nat} (h : spL K TS P vs H Q E) (l : ∀ ds R, P ds R → ds.length = n) : vs.length = n := by
  obtain ⟨M, ds, R, al, tb, w, p, k⟩ := h
  exact w.length.trans (l ds R p)
theorem law_lam {a0 p b : Addr} {cs : List Int} {H1 : Hp} {m : Nat} (S1 : Sx p b cs 0 H1) (tb : Tabs TS H1) (k : ∀ H', Q (.bl true) H') (q : t (.no :: .dr :: List.replicate m DS.no) 0 (fun _ _ => False) (fun y _ => y = .bool true)) :
    tDs K (some TS) t { nx := fun _ H' => Q .non H', rt := Q } (some (.ref a0) :: some (.ref p) :: List.replicate m none) H1 :=
  ⟨lawF p b cs TS, _, 0, _, _, .cons (s := .no) trivial (.cons (s := .dr) ⟨p, rfl, rfl⟩ (no_env (o := some TS) m)), ⟨S1, tb⟩, q, fun _ _ z => z.elim, fun d n e v H' _ _ w => by subst e; cases w; exact k H'⟩
end
/-! ### raising -/
abbrev TDX := List DS → (List DS → Prop) → (PyData → Prop) → (Addr → List (Str × PyData) → Prop) → Prop
def tDx (K : PySem.W.Frag) (E : XK) (t : TDX) : TS := fun D σ H => ∃ (M : Addr → Prop) (ρ : List DS) (Rn : List DS → Prop) (Rr : PyData → Prop) (Rx : Addr → List (Str × PyData) → Prop), EnvD K none M (none, none, noV) ρ σ H ∧ Al M H ∧ t ρ Rn Rr Rx ∧
  (∀ ρ', Rn ρ' → ∀ σ' H', Same H H' → EnvD K none M (none, none, noV) ρ' σ' H' → D.nx σ' H') ∧ (∀ d, Rr d → ∀ v H', Same H H' → Dw K M H' v d → D.rt v H') ∧
  ∀ C fs, Rx C fs → ∀ a H' fv, Same H H' → H a = none → H' a = some (.xd fv) → FvW K M H' fv fs → E (.ref C) (some a) H'
section
variable {X : Cx} {st : Stmt} {ss : List Stmt} {E : XK}
def qxOf (t : TDS) : TDX := fun ρ Rn Rr _ => t ρ 0 (fun ρ' _ => Rn ρ') (fun d _ => Rr d)
theorem dx_over {K : PySem.W.Frag} {t : TDS} {D : Ends} {σ : L2.St} {H : Hp} : tDx K E (qxOf t) D σ H → tDs K none t D σ H := fun ⟨M, ρ, Rn, Rr, Rx, e, al, q, k1, k2, k3⟩ =>
  ⟨pureF M, ρ, 0, _, _, e, al, q, fun ρ' n r σ' H' s g e' => k1 ρ' r σ' H' s e', fun d n r v H' s g w => k2 d r v H' s w⟩
theorem dx_of {t : TDS} (h : PS X st (tDs X.K none t)) : PS X st (tDx X.K E (qxOf t)) := PS.imp h fun _ _ _ => dx_over
theorem dxs_of {t : TDS} (h : PSs X ss (tDs X.K none t)) : PSs X ss (tDx X.K E (qxOf t)) := PSs.imp h fun _ _ _ => dx_over
def qxIf (c : TDB) (t u : TDX) : TDX := fun ρ Rn Rr Rx => c ρ 0 fun b _ => if b = true then t ρ Rn Rr Rx else u ρ Rn Rr Rx
theorem dx_if {c : TDB} {t u : TDX} (h : PS X st (tIfS (tDB X.K none c) (tDx X.K E t) (tDx X.K E u))) : PS X st (tDx X.K E (qxIf c t u)) := PS.imp h fun D σ H ⟨M, ρ, Rn, Rr, Rx, e, al, q, k1, k2, k3⟩ =>
  ⟨pureF M, ρ, 0, _, e, al, q, fun b n r H1 s g => by
    have k3' : ∀ C fs, Rx C fs → ∀ a H' fv, Same H1 H' → H1 a = none → H' a = some (.xd fv) → FvW X.K M H' fv fs → E (.ref C) (some a) H' := fun C fs r a H' fv s' na ha hw => k3 C fs r a H' fv (Same.trans s s') (Same.free s na) ha hw
    cases b with
    | true => exact ⟨M, ρ, Rn, Rr, Rx, e.frm (fx_same s), g, r, fun ρ' r σ' H' s' e' => k1 ρ' r σ' H' (Same.trans s s') e', fun d r v H' s' w => k2 d r v H' (Same.trans s s') w, k3'⟩
    | false => exact ⟨M, ρ, Rn, Rr, Rx, e.frm (fx_same s), g, r, fun ρ' r σ' H' s' e' => k1 ρ' r σ' H' (Same.trans s s') e', fun d r v H' s' w => k2 d r v H' (Same.trans s s') w, k3'⟩⟩
def qxSeq (t u : TDX) : TDX := fun ρ Rn Rr Rx => t ρ (fun ρ1 => u ρ1 Rn Rr Rx) Rr Rx
theorem dxs_cons {t u : TDX} (h : PSs X ss (tSeq (tDx X.K E t) (tDx X.K E u))) : PSs X ss (tDx X.K E (qxSeq t u)) := PSs.imp h fun D σ H ⟨M, ρ, Rn, Rr, Rx, e, al, q, k1, k2, k3⟩ =>
  ⟨M, ρ, _, Rr, Rx, e, al, q, fun ρ1 r1 σ1 H1 s e1 => ⟨M, ρ1, Rn, Rr, Rx, e1, al.same s, r1, fun ρ' r σ' H' s' e' => k1 ρ' r σ' H' (Same.trans s s') e', fun d r v H' s' w => k2 d r v H' (Same.trans s s') w, fun C fs r a H' fv s' na ha hw => k3 C fs r a H' fv (Same.trans s s') (Same.free s na) ha hw⟩, k2, k3⟩
def qxRaise (C : Addr) (f : Str) (u : TDA) : TDX := fun ρ _ _ Rx => u ρ 0 fun ds _ => ∃ x, ds = [x] ∧ Rx C [(f, x)]
theorem dx_raise {C : Addr} {f : Str} {u : TDA} (h : PS X st (fun _ σ H => tMkE C f (tDA X.K none u) σ H fun cls d H' => E cls d H')) : PS X st (tDx X.K E (qxRaise C f u)) := PS.imp h fun D σ H ⟨M, ρ, Rn, Rr, Rx, e, al, q, k1, k2, k3⟩ =>
  ⟨pureF M, ρ, 0, _, e, al, q, fun ds n ⟨x, ed, r⟩ vs H1 s g w => by
    subst ed
    cases w with
    | cons a b =>
      cases b
      exact ⟨_, rfl, fun d H2 n2 => k3 C _ r d H2 _ (Same.trans s n2.1) (Same.free s n2.2.2) n2.2.1 ⟨rfl, .cons (a.same n2.1) .nil⟩⟩⟩
def qxRaise2 (C : Addr) (f g : Str) (u : TDA) : TDX := fun ρ _ _ Rx => u ρ 0 fun ds _ => ∃ x y, ds = [x, y] ∧ Rx C [(g, y), (f, x)]
theorem dx_raise2 {C : Addr} {f g : Str} {u : TDA} (h : PS X st (fun _ σ H => tMkE2 C f g (tDA X.K none u) σ H fun cls d H' => E cls d H')) : PS X st (tDx X.K E (qxRaise2 C f g u)) := PS.imp h fun D σ H ⟨M, ρ, Rn, Rr, Rx, e, al, q, k1, k2, k3⟩ =>
  ⟨pureF M, ρ, 0, _, e, al, q, fun ds n ⟨x, y, ed, r⟩ vs H1 s g w => by
    subst ed
    cases w with
    | cons a b =>
      cases b with
      | cons a2 b2 =>
        cases b2
        exact ⟨_, _, rfl, fun d H2 n2 => k3 C _ r d H2 _ (Same.trans s n2.1) (Same.free s n2.2.2) n2.2.1 ⟨rfl, .cons (a2.same n2.1) (.cons (a.same n2.1) .nil)⟩⟩⟩
end
section
variable {K : PySem.W.Frag} {N : List Str} {vs : List V} {H : Hp} {Q : VK} {E : XK}
theorem exG {t : TDX} {P : FE} (h : spE K P vs H Q E) (q : ∀ ds R Rx, P ds R Rx → t (ds.map DS.d ++ List.replicate (N.length - ds.length) DS.no) (fun _ => False) R Rx) : tDx K E t { nx := fun _ H' => Q .non H', rt := Q } (start N vs) H := by
  obtain ⟨M, ds, R, Rx, al, w, p, k, kx⟩ := h
  have e := env_of (o := none) (a := none) (N.length - ds.length) w
  refine ⟨M, _, _, R, Rx, ?_, al, q ds R Rx p, fun _ z => z.elim, k, kx⟩
  unfold L2.start
  rw [w.length]
  exact e
theorem xlenG {P : FE} {n : Nat} (h : spE K P vs H Q E) (l : ∀ ds R Rx, P ds R Rx → ds.length = n) : vs.length = n := by
  obtain ⟨M, ds, R, Rx, al, w, p, k, kx⟩ := h
  exact w.length.trans (l ds R Rx p)
end
end MT
set_option maxHeartbeats 1000000
/-! repr of data in which dicts stand -/
namespace MT
open PySem L2
mutual
def toldD : PyData → Bool
  | .list ds => toldAll ds
  | .tuple ds => toldAll ds
  | .dict ks => toldKv ks
  | _ => true
def toldAll : List PyData → Bool
  | [] => true
  | d :: ds => toldD d && toldAll ds
def toldKv : List (PyData × PyData) → Bool
  | [] => true
  | (.list _, _) :: _ => false
  | (.tuple _, _) :: _ => false
  | (_, e) :: r => toldD e && toldKv r
end
theorem ct_ks {K : PySem.W.Frag} {M : Addr → Prop} {H : Hp} : ∀ {kvs : List (Key × V)} {ks : List (PyData × PyData)}, CtW kvs ks → DwKs K M H kvs ks
  | [], [], _ => .nil
  | [], _ :: _, h => False.elim h
  | _ :: _, [], h => False.elim h
  | (k, v) :: r, (d, e) :: s, h => by
    obtain ⟨h1, h2, h3⟩ := (show KyW k d ∧ AtW v e ∧ CtW r s from h)
    refine .cons h1 ?_ (ct_ks h3)
    cases v <;> cases e <;> first | exact False.elim h2 | exact .non | (have h2 : _ = _ := h2; subst h2; constructor)
theorem kv_all {κ : Type} : ∀ {kvs : List (κ × V)} {vs : List (κ × Value)}, KV kvs vs → kvs.length = vs.length
  | _, _, .nil => rfl
  | _, _, .cons _ r => congrArg Nat.succ (kv_all r)
theorem at_reads {h : Heap} {v : V} {u : Value} {d : PyData} (a : AtW v d) (r : RelV v u) : Reads h u d [] := by
  cases v <;> cases d <;> first | exact False.elim a | skip
  · cases r; exact .none
  · cases r
    have a : _ = _ := a
    subst a
    exact .bool _
  · obtain ⟨t, rfl⟩ := r
    have a : _ = _ := a
    subst a
    exact .int _ _
  · obtain ⟨t, rfl⟩ := r
    have a : _ = _ := a
    subst a
    exact .str _ _
theorem ky_reads {h : Heap} {k : Key} {u : Value} {d : PyData} (a : KyW k d) (r : keyIs k u = true) : Reads h u d [] := by
  rcases keyIs_shape r with ⟨i, t, rfl, rfl⟩ | ⟨x, t, rfl, rfl⟩
  · cases d <;> first | exact False.elim a | skip
    have a : _ = _ := a
    subst a
    exact .int _ _
  · cases d <;> first | exact False.elim a | skip
    have a : _ = _ := a
    subst a
    exact .str _ _
theorem at_nodict {v : V} {d : PyData} (a : AtW v d) : d.hasDict = false := by
  cases v <;> cases d <;> first | exact False.elim a | simp [PyData.hasDict]
theorem ky_nodict {k : Key} {d : PyData} (a : KyW k d) : d.hasDict = false := by
  cases k <;> cases d <;> first | exact False.elim a | simp [PyData.hasDict]
section
variable {X : Cx} {pins : List (Addr × Obj)} {σ : L2.St} {H : Hp} {s : Shared} {M : Addr → Prop}
theorem dim_not {ds : List (PyData × PyData)} (h : toldKv ds = true) : ds ≠ [(.list [], .none)] := fun e => by
  rw [e] at h
  cases h
theorem kt_not {k : List Key} {d e : PyData} {r : List (PyData × PyData)} (c : KtW k d) : ¬ toldKv ((d, e) :: r) = true := fun h => by
  cases d <;> first | exact False.elim c | simp [toldKv] at h
theorem ky_told {k : Key} {d e : PyData} {r : List (PyData × PyData)} (c : KyW k d) (h : toldKv ((d, e) :: r) = true) : toldD e = true ∧ toldKv r = true := by
  cases k <;> cases d <;> first | exact False.elim c | simpa [toldKv] using h
theorem rk_atom {u : Value} {d : PyData} {as : List Addr} (r : Reads s.heap u d as) (sh : d.showable = true) (nd : d.hasDict = false) (hz : d.shown.length ≤ sizeLine) : ∃ as bs, Reads s.heap u d as ∧ ReadAtMost s.heap d.depth bs ∧ ReprK X.prog X.w bs s.heap d.depth u d.shown := by
  obtain ⟨bs, h1, h2⟩ := ReprK.of_reads (prog := X.prog) (w := X.w) r sh (fun z => by rw [nd] at z; cases z) hz
  exact ⟨_, bs, r, h1, h2⟩
mutual
theorem Dw.rk (I : Inv X pins σ H s) : ∀ (d : PyData) (v : V) (u : Value), Dw X.K M H v d → RelV v u → toldD d = true → d.showable = true → d.shown.length ≤ sizeLine → ∃ as bs, Reads s.heap u d as ∧ ReadAtMost s.heap d.depth bs ∧ ReprK X.prog X.w bs s.heap d.depth u d.shown
  | .none, _, _, h, r, _, sh, hz => by
    cases h
    cases r
    exact rk_atom .none sh (by simp only [PyData.hasDict]) hz
  | .bool b, _, _, h, r, _, sh, hz => by
    cases h
    cases r
    exact rk_atom (.bool b) sh (by simp only [PyData.hasDict]) hz
  | .int i, _, _, h, r, _, sh, hz => by
    cases h
    obtain ⟨t, rfl⟩ := r
    exact rk_atom (.int i t) sh (by simp only [PyData.hasDict]) hz
  | .str x, _, _, h, r, _, sh, hz => by
    cases h
    obtain ⟨t, rfl⟩ := r
    exact rk_atom (.str x t) sh (by simp only [PyData.hasDict]) hz
  | .list ds, _, _, h, r, td, sh, hz => by
    cases h with
    | lst n a =>
      cases r
      obtain ⟨its, rv, ⟨o, m, ho, hc, _, hd⟩, _⟩ := I.list n.at
      have hz' : (listText (PyData.shownAll ds)).length ≤ sizeLine := by simpa only [PyData.shown] using hz
      obtain ⟨as, bs, rr, hb, hk⟩ := DwAll.rk I ds _ its a rv (by simpa [toldD] using td) (by simpa [PyData.showable] using sh) (fun t ht => Nat.le_trans (listText_mem_le ht) hz')
      have r := Reads.list ho hc hd rr
      have hna := not_mem_of_deeper r (by simp only [PyData.depth]; omega) hb
      refine ⟨_, _, r, ReadAtMost.cons r (by simp only [PyData.depth]; omega) hb, ?_⟩
      simp only [PyData.depth, PyData.shown]
      cases its with
      | nil =>
        cases rr
        simp only [PyData.shownAll, listText_nil]
        exact ReprK.listEmpty ho hc hd
      | cons x l => exact ReprK.list ho hc hd hna (by simpa using hk.length_eq) (fun i y e => hk.item i y (by simpa using e))
  | .tuple ds, _, _, h, r, td, sh, hz => by
    cases h with
    | tup n a =>
      cases r
      obtain ⟨its, rv, ⟨o, ho, hc, m, hd⟩, _⟩ := I.tuple n.at
      have hz' : (tupleText (PyData.shownAll ds)).length ≤ sizeLine := by simpa only [PyData.shown] using hz
      obtain ⟨as, bs, rr, hb, hk⟩ := DwAll.rk I ds _ its a rv (by simpa [toldD] using td) (by simpa [PyData.showable] using sh) (fun t ht => Nat.le_trans (tupleText_mem_le ht) hz')
      have r := Reads.tuple ho hc hd rr
      have hna := not_mem_of_deeper r (by simp only [PyData.depth]; omega) hb
      refine ⟨_, _, r, ReadAtMost.cons r (by simp only [PyData.depth]; omega) hb, ?_⟩
      simp only [PyData.depth, PyData.shown]
      exact ReprK.tuple ho hc hd hna hk
  | .dict ks, _, _, h, r, td, sh, hz => by
    have td : toldKv ks = true := by simpa [toldD] using td
    have main : ∀ {p : Addr} {kvs : List (Key × V)}, H p = some (.dK kvs) → DwKs X.K M H kvs ks → ∃ as bs, Reads s.heap (.ref p) (.dict ks) as ∧ ReadAtMost s.heap (PyData.dict ks).depth bs ∧ ReprK X.prog X.w bs s.heap (PyData.dict ks).depth (.ref p) (PyData.dict ks).shown := fun {p kvs} e c => by
      obtain ⟨_, low, vs, kv, dd⟩ := dk_of I.hok e
      obtain ⟨es, ep, ⟨o, ho, hc, hd⟩, le, hi⟩ := dd.raw
      have hz' : (dictText (PyData.shownKv ks)).length ≤ sizeLine := by simpa only [PyData.shown] using hz
      obtain ⟨a1, a2, bs, q1, q2, hb, k1, k2⟩ := DwKs.rk I ks kvs vs es.toList c kv (by rw [Array.length_toList]; exact le) (fun i e k v a b => by
        rw [Array.getElem?_toList] at a
        obtain ⟨hi2, he⟩ := Array.getElem?_eq_some_iff.mp a
        have := hi i hi2 k v b
        rw [he] at this
        exact this) td (by simpa [PyData.showable] using sh) (fun t ht => Nat.le_trans (dictText_mem_le ht) hz')
      have r := Reads.dict ho hc.1 hd q1 q2
      have hna := not_mem_of_deeper r (by simp only [PyData.depth]; omega) hb
      refine ⟨_, _, r, ReadAtMost.cons r (by simp only [PyData.depth]; omega) hb, ?_⟩
      simp only [PyData.depth, PyData.shown]
      refine ReprK.dict ho hc.1 hd low hna ?_
      rw [PyData.shownKv_eq]
      exact ReprEntriesK.of_two es.toList _ _ k1 k2
    cases h with
    | dct n e c => cases r; exact main e (ct_ks c)
    | dkT n e => exact absurd rfl (dim_not td)
    | dcT n e => exact absurd rfl (dim_not td)
    | dk n e c => cases r; exact main e c
    | dt n e c =>
      cases c with
      | nil =>
        cases r
        obtain ⟨_, low, xs, kt, o, es, ep, ho, hc, hd, le, _⟩ := dt_of I.hok e
        cases kt
        have le : es.toList = [] := le
        have r := Reads.dict ho hc.1 hd (kvs := []) (as := []) (bs := []) (by rw [le]; exact .nil) (by rw [le]; exact .nil)
        have hna := not_mem_of_deeper (bs := []) (n := 0) r (by simp only [PyData.depth]; omega) (fun _ h => nomatch h)
        refine ⟨_, _, r, ReadAtMost.cons (bs := []) (n := 0) r (Nat.zero_le _) (fun _ h => nomatch h), ?_⟩
        simp only [PyData.depth, PyData.shown]
        exact ReprK.dict ho hc.1 hd low hna (by rw [le]; simp only [PyData.shownKv]; exact .nil)
      | cons k v _ =>
        rename_i kk vv rr dd ee ss
        exact absurd td (kt_not k)
    | obj n e c f => simp [toldKv] at td
    | exn n e n2 e2 c f => simp [toldKv] at td
    | exn0 n e c => simp [toldKv] at td
theorem DwAll.rk (I : Inv X pins σ H s) : ∀ (ds : List PyData) (vs : List V) (us : List Value), DwAll X.K M H vs ds → Vals vs us → toldAll ds = true → PyData.showableAll ds = true → (∀ t ∈ PyData.shownAll ds, t.length ≤ sizeLine) →
    ∃ as bs, ReadsAll s.heap us ds as ∧ ReadAtMost s.heap (PyData.depthAll ds) bs ∧ ReprAllK X.prog X.w bs s.heap (PyData.depthAll ds) us (PyData.shownAll ds)
  | [], _, _, h, r, _, _, _ => by
    cases h
    cases r
    exact ⟨_, [], .nil, (fun _ h => nomatch h), by simp only [PyData.shownAll]; exact .nil⟩
  | d :: ds, _, _, h, r, td, sh, hz => by
    have td : toldD d = true ∧ toldAll ds = true := by simpa [toldAll] using td
    have sh : d.showable = true ∧ PyData.showableAll ds = true := by simpa [PyData.showableAll] using sh
    cases h with
    | cons h1 h2 =>
      cases r with
      | cons r1 r2 =>
        obtain ⟨as, b1, q1, hb1, k1⟩ := Dw.rk I d _ _ h1 r1 td.1 sh.1 (hz _ (by simp only [PyData.shownAll]; exact List.mem_cons_self))
        obtain ⟨cs, b2, q2, hb2, k2⟩ := DwAll.rk I ds _ _ h2 r2 td.2 sh.2 (fun t ht => hz t (by simp only [PyData.shownAll]; exact List.mem_cons_of_mem _ ht))
        refine ⟨_, b1 ++ b2, .cons q1 q2, ?_, ?_⟩
        · simp only [PyData.depthAll]
          exact (hb1.mono (Nat.le_max_left _ _)).append (hb2.mono (Nat.le_max_right _ _))
        · simp only [PyData.depthAll, PyData.shownAll]
          exact .cons ((k1.more fun b hb => List.mem_append_left _ hb).level_le (Nat.le_max_left _ _)) (k2.more_le (fun b hb => List.mem_append_right _ hb) (Nat.le_max_right _ _))
theorem DwKs.rk (I : Inv X pins σ H s) : ∀ (ks : List (PyData × PyData)) (kvs : List (Key × V)) (vs : List (Key × Value)) (es : List DictEntry), DwKs X.K M H kvs ks → KV kvs vs → es.length = vs.length →
    (∀ (i : Nat) e k v, es[i]? = some e → vs[i]? = some (k, v) → keyIs k e.key = true ∧ e.val = v) → toldKv ks = true → PyData.showableKv ks = true → (∀ t ∈ PyData.shownKv ks, t.length ≤ sizeLine) →
    ∃ a1 a2 bs, ReadsAll s.heap (es.map (·.key)) (ks.map (·.1)) a1 ∧ ReadsAll s.heap (es.map (·.val)) (ks.map (·.2)) a2 ∧ ReadAtMost s.heap (PyData.depthKv ks) bs ∧ ReprAllK X.prog X.w bs s.heap (PyData.depthKv ks) (es.map (·.key)) (PyData.shownAll (ks.map (·.1))) ∧ ReprAllK X.prog X.w bs s.heap (PyData.depthKv ks) (es.map (·.val)) (PyData.shownAll (ks.map (·.2)))
  | [], _, _, es, h, r, l, _, _, _, _ => by
    cases h
    cases r
    cases es with
    | nil => exact ⟨_, _, [], .nil, .nil, (fun _ h => nomatch h), by simp only [List.map_nil, PyData.shownAll]; exact .nil, by simp only [List.map_nil, PyData.shownAll]; exact .nil⟩
    | cons _ _ => cases l
  | (d1, d2) :: ks, _, _, es, h, r, l, f, td, sh, hz => by
    have sh : (d1.showable = true ∧ d2.showable = true) ∧ PyData.showableKv ks = true := by simpa [PyData.showableKv] using sh
    cases h with
    | cons c1 h1 h2 =>
      cases r with
      | @cons _ kv _ _ hk r2 =>
        cases es with
        | nil => cases l
        | cons e es =>
          obtain ⟨k2, u⟩ := kv
          obtain ⟨f1, f2⟩ := f 0 e k2 u rfl rfl
          obtain ⟨e1, e2⟩ := hk
          have e1 : _ = k2 := e1
          subst e1
          have tn : toldD d2 = true ∧ toldKv ks = true := by
            exact ky_told c1 td
          have l1 : d1.shown.length ≤ sizeLine := by
            obtain ⟨p, hp, hl⟩ := PyData.shownKv_key_le ((d1, d2) :: ks) d1.shown (by simp only [List.map_cons, PyData.shownAll]; exact List.mem_cons_self)
            exact Nat.le_trans hl (hz p hp)
          have l2 : d2.shown.length ≤ sizeLine := by
            obtain ⟨p, hp, hl⟩ := PyData.shownKv_val_le ((d1, d2) :: ks) d2.shown (by simp only [List.map_cons, PyData.shownAll]; exact List.mem_cons_self)
            exact Nat.le_trans hl (hz p hp)
          obtain ⟨a0, b0, q0, hb0, k0⟩ := rk_atom (X := X) (s := s) (ky_reads c1 f1) sh.1.1 (ky_nodict c1) l1
          obtain ⟨a1, b1, q1, hb1, k1⟩ := Dw.rk I d2 _ e.val h1 (by rw [f2]; exact e2) tn.1 sh.1.2 l2
          obtain ⟨a2, a3, b2, q2, q3, hb2, k3, k4⟩ := DwKs.rk I ks _ _ es h2 r2 (Nat.succ.inj l) (fun i e k v a b => f (i + 1) e k v a b) tn.2 sh.2 (fun t ht => hz t (by simp only [PyData.shownKv]; exact List.mem_cons_of_mem _ ht))
          refine ⟨_, _, b0 ++ (b1 ++ b2), .cons q0 q2, .cons q1 q3, ?_, ?_, ?_⟩
          · simp only [PyData.depthKv]
            exact (hb0.mono (by omega)).append ((hb1.mono (by omega)).append (hb2.mono (by omega)))
          · simp only [PyData.depthKv, List.map_cons, PyData.shownAll]
            exact .cons ((k0.more fun b hb => List.mem_append_left _ hb).level_le (by omega)) (k3.more_le (fun b hb => List.mem_append_right _ (List.mem_append_right _ hb)) (by omega))
          · simp only [PyData.depthKv, List.map_cons, PyData.shownAll]
            exact .cons ((k1.more fun b hb => List.mem_append_right _ (List.mem_append_left _ hb)).level_le (by omega)) (k4.more_le (fun b hb => List.mem_append_right _ (List.mem_append_right _ hb)) (by omega))
end
theorem dict_dk (I : Inv X pins σ H s) {p : Addr} {kvs : List (Key × V)} {ks : List (PyData × PyData)} (e : H p = some (.dK kvs)) (c : DwKs X.K M H kvs ks) (td : toldKv ks = true) (sh : PyData.showableKv ks = true) (hz : (dictText (PyData.shownKv ks)).length ≤ sizeLine) :
    ∃ o es n as bs, s.heap.get? p = some o ∧ o.cls = .type "dict" ∧ o.data = .dict es n ∧ (p == sysModules) = false ∧ Reads s.heap (.ref p) (.dict ks) as ∧ ReadAtMost s.heap (PyData.depthKv ks) bs ∧ ReprEntriesK X.prog X.w bs s.heap (PyData.depthKv ks) es.toList (PyData.shownKv ks) := by
  obtain ⟨_, low, vs, kv, dd⟩ := dk_of I.hok e
  obtain ⟨es, ep, ⟨o, ho, hc, hd⟩, le, hi⟩ := dd.raw
  obtain ⟨a1, a2, bs, q1, q2, hb, k1, k2⟩ := DwKs.rk I ks kvs vs es.toList c kv (by rw [Array.length_toList]; exact le) (fun i e k v a b => by
    rw [Array.getElem?_toList] at a
    obtain ⟨hi2, he⟩ := Array.getElem?_eq_some_iff.mp a
    have := hi i hi2 k v b
    rw [he] at this
    exact this) td sh (fun t ht => Nat.le_trans (dictText_mem_le ht) hz)
  refine ⟨o, es, ep, _, bs, ho, hc.1, hd, low, Reads.dict ho hc.1 hd q1 q2, hb, ?_⟩
  rw [PyData.shownKv_eq]
  exact ReprEntriesK.of_two es.toList _ _ k1 k2
theorem dict_dt (I : Inv X pins σ H s) {p : Addr} {kvs : List (List Key × V)} {ks : List (PyData × PyData)} (e : H p = some (.dT kvs)) (c : DwKt X.K M H kvs ks) (td : toldKv ks = true) :
    ∃ o es n as bs, s.heap.get? p = some o ∧ o.cls = .type "dict" ∧ o.data = .dict es n ∧ (p == sysModules) = false ∧ Reads s.heap (.ref p) (.dict ks) as ∧ ReadAtMost s.heap (PyData.depthKv ks) bs ∧ ReprEntriesK X.prog X.w bs s.heap (PyData.depthKv ks) es.toList (PyData.shownKv ks) := by
  cases c with
  | nil =>
    obtain ⟨_, low, xs, kt, o, es, ep, ho, hc, hd, le, _⟩ := dt_of I.hok e
    cases kt
    have le : es.toList = [] := le
    refine ⟨o, es, ep, _, [], ho, hc.1, hd, low, Reads.dict ho hc.1 hd (kvs := []) (by rw [le]; exact .nil) (by rw [le]; exact .nil), (fun _ h => nomatch h), by rw [le]; simp only [PyData.shownKv]; exact .nil⟩
  | cons k v _ =>
    rename_i kk vv rr dd ee ss
    exact absurd td (kt_not k)
end
/-- what repr takes -/
def okRepW (d : PyData) : Prop := toldD d = true ∧ d.showable = true ∧ d.depth ≤ 64 ∧ d.shown.length ≤ sizeLine
section
variable {X : Cx} {k : Nat}
theorem call_reprW (hq : X.A.guards = some []) (hr : Room k X.A) : CallR X (.builtin "repr") (fun xs H Q => ∃ M v d, xs = [v] ∧ Dw X.K M H v d ∧ okRepW d ∧ Q (.str d.shown) H) := by
  intro pns st sl Hs xs us Q I0 r h
  obtain ⟨M, v, d, rfl, hd, ⟨td, sh, dp, sz⟩, q⟩ := h
  obtain ⟨u, rfl, rv⟩ := Vals.one r
  have hu := hr.un
  have fin : ∀ (h' : Heap) (tk : Nat), (∀ b o, st.heap.get? b = some o → h'.get? b = some o) → Inv X pns sl Hs { st with heap := h', toks := tk } := fun h' tk kp => I0.kept kp
  have last : ∀ (z : Str), z = d.shown → ∀ h' u tk, (∀ b o, st.heap.get? b = some o → h'.get? b = some o) → ∃ x t, Value.str z u = .str x t ∧ EP X pns sl Q (.str z u) { st with heap := h', toks := tk } := fun z e h' u tk kp => ⟨_, _, rfl, .str z, Hs, fin h' tk kp, ⟨_, rfl⟩, by rw [e]; exact q⟩
  have mainD : ∀ {p : Addr} {ks : List (PyData × PyData)}, (∃ o es n as bs, st.heap.get? p = some o ∧ o.cls = .type "dict" ∧ o.data = .dict es n ∧ (p == sysModules) = false ∧ Reads st.heap (.ref p) (.dict ks) as ∧ ReadAtMost st.heap (PyData.depthKv ks) bs ∧ ReprEntriesK X.prog X.w bs st.heap (PyData.depthKv ks) es.toList (PyData.shownKv ks)) →
      (PyData.dict ks).depth ≤ 64 → (PyData.dict ks).shown.length ≤ sizeLine → (∀ (z : Str), z = (PyData.dict ks).shown → ∀ h' u tk, (∀ b o, st.heap.get? b = some o → h'.get? b = some o) → ∃ x t, Value.str z u = .str x t ∧ EP X pns sl Q (.str z u) { st with heap := h', toks := tk }) →
      wpAny (model X.prog X.w) X.A (call (.builtin "repr") [.ref p]) (EP X pns sl Q) X.xe st := fun {p ks} ⟨o, es, m, as, bs, ho, hc, hd, low, r, hb, hE⟩ dp sz last => by
    have hz' : (dictText (PyData.shownKv ks)).length ≤ sizeLine := by simpa only [PyData.shown] using sz
    have hna := not_mem_of_deeper r (by simp only [PyData.depth]; omega) hb
    have dp : PyData.depthKv ks + 1 ≤ 64 := by simpa only [PyData.depth] using dp
    refine call_repr_slot (by omega) ⟨o, ho, hc⟩ F.slot_dict_repr ?_
    exact call_dict_reprK ho hc hd low hna hE hq (fun b _ => Clear.nil b) (by show X.A.units + 1 + (PyData.depthKv ks + 1) < cLine; omega) (fun _ _ e => e) (last _ (by simp only [PyData.shown])) hz'
  cases hd with
  | non => cases rv; exact PySem.P.repr_of_none ⟨.str _, _, I0.tok _, ⟨_, rfl⟩, q⟩
  | bl b => cases rv; exact PySem.P.repr_of_bool ⟨.str _, _, I0.tok _, ⟨_, rfl⟩, q⟩
  | int i => obtain ⟨t, rfl⟩ := rv; exact PySem.P.repr_of_int (by simpa [PyData.showable] using sh) ⟨.str _, _, I0.tok _, ⟨_, rfl⟩, q⟩
  | str z => obtain ⟨t, rfl⟩ := rv; exact PySem.P.repr_of_str ⟨.str _, _, I0.tok _, ⟨_, rfl⟩, q⟩ sz
  | lst n a =>
    cases rv
    rename_i ds
    obtain ⟨its, rv, ⟨o, m, ho, hc, _, hd⟩, _⟩ := I0.list n.at
    have hz' : (listText (PyData.shownAll ds)).length ≤ sizeLine := by simpa only [PyData.shown] using sz
    obtain ⟨as, bs, rr, hb, hk⟩ := DwAll.rk I0 ds _ its a rv (by simpa [toldD] using td) (by simpa [PyData.showable] using sh) (fun t ht => Nat.le_trans (listText_mem_le ht) hz')
    have r := Reads.list ho hc hd rr
    have hna := not_mem_of_deeper r (by simp only [PyData.depth]; omega) hb
    have dp : PyData.depthAll ds + 1 ≤ 64 := by simpa only [PyData.depth] using dp
    refine call_repr_slot (by omega) ⟨o, ho, hc⟩ F.slot_list_repr.toG ?_
    cases its with
    | nil =>
      cases rr
      exact call_list_repr_empty ⟨o, ho, hc⟩ ho hd (last _ (by simp only [PyData.shown, PyData.shownAll, listText_nil]) st.heap _ _ fun _ _ e => e)
    | cons x l =>
      exact call_list_reprK ho hc hd hna (by simpa using hk.length_eq) (fun i y e => hk.item i y (by simpa using e)) hq (fun b _ => Clear.nil b) (by show X.A.units + 1 + (PyData.depthAll ds + 1) < cLine; omega) (fun _ _ e => e) (last _ (by simp only [PyData.shown])) hz'
  | tup n a =>
    cases rv
    rename_i ds
    obtain ⟨its, rv, ⟨o, ho, hc, m, hd⟩, _⟩ := I0.tuple n.at
    have hz' : (tupleText (PyData.shownAll ds)).length ≤ sizeLine := by simpa only [PyData.shown] using sz
    obtain ⟨as, bs, rr, hb, hk⟩ := DwAll.rk I0 ds _ its a rv (by simpa [toldD] using td) (by simpa [PyData.showable] using sh) (fun t ht => Nat.le_trans (tupleText_mem_le ht) hz')
    have r := Reads.tuple ho hc hd rr
    have hna := not_mem_of_deeper r (by simp only [PyData.depth]; omega) hb
    have dp : PyData.depthAll ds + 1 ≤ 64 := by simpa only [PyData.depth] using dp
    refine call_repr_slot (by omega) ⟨o, ho, hc⟩ F.slot_tuple_repr ?_
    exact call_tuple_reprK ho hc hd hna hk hq (fun b _ => Clear.nil b) (by show X.A.units + 1 + (PyData.depthAll ds + 1) < cLine; omega) (fun _ _ e => e) (last _ (by simp only [PyData.shown])) hz'
  | dct n e c =>
    cases rv
    exact mainD (dict_dk (M := M) I0 e (ct_ks c) (by simpa [toldD] using td) (by simpa [PyData.showable] using sh) (by simpa only [PyData.shown] using sz)) dp sz last
  | dk n e c =>
    cases rv
    exact mainD (dict_dk (M := M) I0 e c (by simpa [toldD] using td) (by simpa [PyData.showable] using sh) (by simpa only [PyData.shown] using sz)) dp sz last
  | dt n e c =>
    cases rv
    exact mainD (dict_dt I0 e c (by simpa [toldD] using td)) dp sz last
  | obj n e c f => simp [toldD, toldKv] at td
  | exn n e n2 e2 c f => simp [toldD, toldKv] at td
  | exn0 n e c => simp [toldD, toldKv] at td
  | dkT n e => exact absurd rfl (dim_not (by simpa [toldD] using td))
  | dcT n e => exact absurd rfl (dim_not (by simpa [toldD] using td))
end
def fRepW (ds : List PyData) (R : PyData → Prop) : Prop := ∃ d, ds = [d] ∧ okRepW d ∧ R (.str d.shown)
theorem fit_reprW {K : PySem.W.Frag} : FitC K (fun xs H Q => ∃ M v d, xs = [v] ∧ Dw K M H v d ∧ okRepW d ∧ Q (.str d.shown) H) fRepW := by
  intro ds R M H vs Q al w f k
  obtain ⟨d, rfl, ok, r⟩ := f
  cases w with
  | cons a b =>
    cases b
    exact ⟨M, _, d, rfl, a, ok, k _ r _ _ (Same.refl _) (.str _)⟩
end MT
set_option maxHeartbeats 1000000
/-! == [] of lists of anything; a list that is set and appended to at once -/
namespace MT
open PySem L2
def rEqL (K : PySem.W.Frag) : R2 := fun x y H Q => ∃ a xs b, x = .ref a ∧ y = .ref b ∧ SqL K H a xs ∧ SqL K H b [] ∧ Q (.bl xs.isEmpty) H
theorem op_eqL {X : Cx} (hu : X.A.units < cLine) : OpR X (compareOp .Eq) (rEqL X.K) := by
  intro pins s σ H x y v u Q I rx ry h
  obtain ⟨a, xs, b, rfl, rfl, ha, hb, q⟩ := h
  cases rx
  cases ry
  obtain ⟨its, rv, p1, _⟩ := I.list ha
  obtain ⟨its2, rv2, p2, _⟩ := I.list hb
  cases rv2
  cases rv with
  | nil => exact SeqAt.RcAt.lists (e := fun _ => true) p1.isList p2.isList rfl hu (fun j h1 _ => by simp at h1) _ _ _ _ ⟨.bl _, H, I, rfl, q⟩
  | cons r1 r2 => exact SeqAt.RcAt.lists_lengths p1.isList p2.isList (by simp) hu _ _ _ _ ⟨.bl _, H, I, rfl, q⟩
/-- a list against [] -/
def fEqL (d e : PyData) (R : PyData → Prop) : Prop := ∃ ds, d = .list ds ∧ e = .list [] ∧ R (.bool ds.isEmpty)
theorem fit_eqL {K : PySem.W.Frag} : FitR K (rEqL K) fEqL := by
  intro dx dy R M H x y Q al wx wy f k
  obtain ⟨ds, rfl, rfl, r⟩ := f
  cases wx with
  | lst n a =>
    cases wy with
    | lst n2 a2 =>
      cases a2
      refine ⟨_, _, _, rfl, rfl, n.at, n2.at, ?_⟩
      have e : ∀ {xs : List V} {ds : List PyData}, DwAll K M H xs ds → xs.isEmpty = ds.isEmpty := fun h => by cases h <;> rfl
      rw [e a]
      exact k _ r _ _ (Same.refl _) (.bl _)
/-- texts -/
def fEqS (d e : PyData) (R : PyData → Prop) : Prop := ∃ a b : Str, d = .str a ∧ e = .str b ∧ R (.bool (decide (a = b)))
def fNeS (d e : PyData) (R : PyData → Prop) : Prop := ∃ a b : Str, d = .str a ∧ e = .str b ∧ R (.bool (!decide (a = b)))
theorem str_dec (a b : Str) : decide (V.str a = V.str b) = decide (a = b) := decide_eq_decide.mpr ⟨fun h => V.str.inj h, fun h => by rw [h]⟩
theorem fit_eqS {K : PySem.W.Frag} : FitR K rEq fEqS := by
  intro dx dy R M H x y Q al wx wy f k
  obtain ⟨a, b, rfl, rfl, r⟩ := f
  cases wx
  cases wy
  refine ⟨rfl, ?_⟩
  rw [str_dec]
  exact k _ r _ _ (Same.refl _) (.bl _)
theorem fit_neS {K : PySem.W.Frag} : FitR K rNe fNeS := by
  intro dx dy R M H x y Q al wx wy f k
  obtain ⟨a, b, rfl, rfl, r⟩ := f
  cases wx
  cases wy
  refine ⟨rfl, ?_⟩
  rw [str_dec]
  exact k _ r _ _ (Same.refl _) (.bl _)
/-! ### x = [e]; x.append(u) -/
section
variable {X : Cx} {st st2 : Stmt} {ss : List Stmt}
def qSetApp (i : Nat) (t u : TD) (k : TDS) : TDS := fun ρ n Rn Rr => i < ρ.length ∧ t ρ n fun d n1 => u (ρ.set i .no) n1 fun e n2 => k (ρ.set i (.d (.list [d, e]))) n2 Rn Rr
theorem dss_setapp {o : Option TSet} {i : Nat} {t u : TD} {k : TDS}
    (h : PSs X ss (tSeq (tAsg (tLstN (tCons (tD X.K o t) tNil)) (gName i)) (tSeq (tDrop (tBM X.K "list" rAppend (tVar i) (tCons (tD X.K o u) tNil))) (tDs X.K o k)))) :
    PSs X ss (tDs X.K o (qSetApp i t u k)) := PSs.imp h fun D σ H ⟨W, ρ, n, Rn, Rr, E, g, ⟨hi, t⟩, k1, k2⟩ => by
  refine ⟨W, ρ, n, _, E, g, t, fun d n1 r x H1 F1 g1 w => ⟨by rw [sizeLine_eq]; simp, fun p H1' np => ?_⟩⟩
  have nM := W.new g1 np
  have gp := W.same g1 np.1
  have E1 := E.frm (W.frm F1)
  have E2 : EnvD X.K o (fun c => W.M c ∨ c = p) (W.a, W.ts, W.ov) (ρ.set i .no) (σ.set i (some (.ref p))) H1' :=
    ((E1.more (N := fun c => W.M c ∨ c = p) fun c o m q => m.elim id fun e => by rw [e, np.2.2] at q; cases q).frm (fx_same np.1)).setn i
  have w1 : Dw X.K (fun c => W.M c ∨ c = p) H1' x d := (w.more (N := fun c => W.M c ∨ c = p) fun c o m q => m.elim id fun e => by rw [e, np.2.2] at q; cases q).same np.1
  have li : i < σ.length := by
    rw [← E.len]
    exact hi
  refine ⟨.ref p, List.getElem?_set_self li, .inl ⟨rfl, [x], SqL.of np.2.1⟩, ?_⟩
  refine ⟨W.plus p (.lst [x]) (fun _ z => by cases z) nM, ρ.set i .no, n1, _, E2, ⟨gp, np.2.1⟩, r, fun e n2 r2 y H2 F2 g2 w2 => ⟨p, [x], y, rfl, rfl, g2.2, by rw [sizeLine_eq]; simp, ?_⟩⟩
  have w3 := w1.frm ((W.plus p (.lst [x]) (fun _ z => by cases z) nM).frm F2)
  have R2 : W.Rel H (upd H2 p (.lst [x, y])) := W.trans F1 (W.updR (W.trans (W.of np.1) F2) np.2.2)
  have g3 : W.G n2 (upd H2 p (.lst [x, y])) := W.updG g1 np.2.2 g2.1 (fun u e => by rw [g2.2] at e; cases e; trivial)
  have up : Fx (fun c => W.M c ∨ c = p) H2 (upd H2 p (.lst [x, y])) := fx_frm (Frm.mono (frm_upd (a := p)) fun c e => .inr e)
  have dl : Dw X.K W.M (upd H2 p (.lst [x, y])) (.ref p) (.list [d, e]) := .lst ⟨nM, upd_same⟩ (.cons ((w3.frm up).more fun c o m _ => .inl m) (.cons ((w2.frm up).more fun c o m _ => .inl m) .nil))
  exact ⟨W, _, n2, Rn, Rr, (E.frm (W.frm R2)).set i dl, g3, r2, fun ρ' n' rr σ' H' F' g' e' => k1 ρ' n' rr σ' H' (W.trans R2 F') g' e', fun d' n' rr v H' F' g' w' => k2 d' n' rr v H' (W.trans R2 F') g' w'⟩
end
end MT
set_option maxHeartbeats 1000000
/-! enumerate over a tuple; over data -/
namespace MT
open PySem L2
section
variable {prog : Program} {w : World} {A : Around} {E : Value → Shared → Prop} {s : Shared}
theorem tup_next {it t : Addr} {i : Nat} {items : Array Value} {x : Value} {Q : Value → Shared → Prop} (hit : s.heap.IsTupleIter it t i) (ht : s.heap.IsTuple t items) (hx : items[i]? = some x)
    (hQ : ∀ h', h'.IsTupleIter it t (i + 1) → Heap.SameBut it s.heap h' → Q x { s with heap := h' }) : wpAny (model prog w) A (Builtin.SmallTypes.nextOf (.ref it)) Q E s := by
  obtain ⟨o, ho, hc, hd⟩ := id hit
  obtain ⟨u, hu, _, m, hm⟩ := ht
  unfold Builtin.SmallTypes.nextOf
  refine wpAny_bind (wpAny_callSpecial?_slot (name := Str.ofString "__next__") hit.typeIs F.slot_tuple_iterator_next (wpAny_call_entry F.slot_tuple_iterator_next hit.typeIs F.entry_tuple_iterator_next ?_ (F.args_tuple_iterator_next_1 _)))
  refine (show wpAny _ _ (field (.ref it) 0 >>= _) _ _ s from wpAny_bind (wpAny_field ho hd (x := .ref t) rfl ?_))
  refine (show wpAny _ _ (if (Value.ref t == Value.none) = true then _ else _) _ _ s from ?_)
  rw [if_neg (show ¬ ((Value.ref t == Value.none) = true) from Bool.false_ne_true)]
  refine (show wpAny _ _ (field (.ref it) 1 >>= _) _ _ s from wpAny_bind (wpAny_field ho hd (x := .int i 0) rfl ?_))
  refine (show wpAny _ _ (seqItems? (.ref t) >>= _) _ _ s from wpAny_bind (wpAny_seqItems hu hm ?_))
  simp only [Int.toNat_natCast, hx]
  refine wpAny_bind (wpAny_setField ho hd (by simp) (wpAny_pure ⟨x, rfl, wpAny_pure (hQ _ ?_ (Heap.SameBut.update ..))⟩))
  exact ⟨_, Heap.get?_update_self _ ho (Obj.isFreed_of_fields (Obj.data_mapFields hd _)), (Obj.cls_mapFields ..).trans hc, by rw [Obj.data_mapFields hd]; simp [rawInt]⟩
theorem tup_end {it t : Addr} {i : Nat} {items : Array Value} {Q : Value → Shared → Prop} (hh : A.handled = none) (hit : s.heap.IsTupleIter it t i) (ht : s.heap.IsTuple t items) (hx : items[i]? = none)
    (hE : ∀ h' e, Heap.ExtBut it s.heap h' → (∃ o, h'.get? e = some o ∧ o.cls = .type "StopIteration") → E (.ref e) { s with heap := h' }) : wpAny (model prog w) A (Builtin.SmallTypes.nextOf (.ref it)) Q E s := by
  obtain ⟨o, ho, hc, hd⟩ := id hit
  obtain ⟨u, hu, _, m, hm⟩ := ht
  unfold Builtin.SmallTypes.nextOf
  refine wpAny_bind (wpAny_callSpecial?_slot (name := Str.ofString "__next__") hit.typeIs F.slot_tuple_iterator_next (wpAny_call_entry F.slot_tuple_iterator_next hit.typeIs F.entry_tuple_iterator_next ?_ (F.args_tuple_iterator_next_1 _)))
  refine (show wpAny _ _ (field (.ref it) 0 >>= _) _ _ s from wpAny_bind (wpAny_field ho hd (x := .ref t) rfl ?_))
  refine (show wpAny _ _ (if (Value.ref t == Value.none) = true then _ else _) _ _ s from ?_)
  rw [if_neg (show ¬ ((Value.ref t == Value.none) = true) from Bool.false_ne_true)]
  refine (show wpAny _ _ (field (.ref it) 1 >>= _) _ _ s from wpAny_bind (wpAny_field ho hd (x := .int i 0) rfl ?_))
  refine (show wpAny _ _ (seqItems? (.ref t) >>= _) _ _ s from wpAny_bind (wpAny_seqItems hu hm ?_))
  simp only [Int.toNat_natCast, hx]
  refine wpAny_bind (wpAny_rule (wpAny_bind (wpAny_setField ho hd (by simp) ?_)))
  refine (show wpAny _ _ (newExc (.type "StopIteration") [] >>= _) _ _ _ from wpAny_bind ?_)
  simp only [newExc, newTuple]
  refine wpAny_bind (wpAny_newObj_type ?_ (by size_fits))
  refine wpAny_bind (m := firstArgMember _ _) (wpAny_of_eq (a := Value.none) (by first | rfl | (simp only [firstArgMember]; rfl)) ?_)
  refine wpAny_newObj_type ?_ (by size_fits)
  simp only [raiseNew]
  refine wpAny_bind (wpAny_handled ?_)
  first | rw [show A.in1.handled = none from hh] | rw [hh]
  refine wpAny_bind (wpAny_pure (wpAny_throw ?_))
  exact hE _ _ (((Heap.SameBut.update ..).extBut.push _).push _) ⟨_, Heap.get?_push_size _ rfl, rfl⟩
theorem draws_tup (hh : A.handled = none) (it l : Addr) (hne : l ≠ it) (items : Array Value) : Draws prog w A it [it, l] items.size (fun i v => items[i]? = some v) (fun i h => h.IsTupleIter it l i ∧ h.IsTuple l items) where
  live := fun _ _ st => let ⟨o, ho, _⟩ := st.1; ⟨o, ho⟩
  frame := fun _ _ _ st hk => by
    obtain ⟨⟨o, ho, r⟩, ⟨u, hu, q⟩⟩ := st
    exact ⟨⟨o, hk it (by simp) o ho, r⟩, ⟨u, hk l (by simp) u hu, q⟩⟩
  item := fun i s Q E hi st hQ => tup_next st.1 st.2 (x := items[i]) (by simp [hi]) fun h' hit' hs' => hQ _ h' s.toks (by simp [hi]) ⟨hit', st.2.extBut hs'.extBut hne⟩ hs'
  done := fun s Q E st hE => tup_end hh st.1 st.2 (by simp) hE
theorem new_enum (l : Addr) (items : Array Value) (n : Nat) (dct : Option Addr) (sl : Array (Option Value)) :
    Meets (Builtin.«enumerate.__new__» ⟨[.type "enumerate", .ref l], []⟩) (fun _ R s => s.heap.get? l = some { cls := .type "tuple", dict := dct, data := .seq items n, slots := sl } ∧
      R (.ok (.ret (.ref (s.heap.push { cls := .type "tuple_iterator", data := .fields #[.ref l, .int 0 0] }).objs.size)))
        { s with heap := (s.heap.push { cls := .type "tuple_iterator", data := .fields #[.ref l, .int 0 0] }).push { cls := .type "enumerate", data := .fields #[.none, .bool false, .ref s.heap.objs.size, rawInt 0, .none, .none] } }) :=
  .of_wp fun prog w A R s h => by
    obtain ⟨hp, g, d, tk, os⟩ := s
    obtain ⟨hl, h⟩ := h
    have hsub := sub_enumerate
    have hL : Heap.IsTuple (Shared.heap ⟨hp, g, d, tk, os⟩) l items := ⟨_, hl, rfl, n, rfl⟩
    wp_walk using wpAny_loadPart' hl
    refine wpAny_stack_any fun st => wpAny_pure ?_
    split
    · rename_i c _ _ _ _ _
      cases (c == Value.type "enumerate")
      · wp_walk using wpAny_loadPart' hl, wpAny_pyIter_tuple hL
        exact ⟨_, rfl, h⟩
      · wp_walk using wpAny_loadPart' hl, wpAny_pyIter_tuple hL
        exact ⟨_, rfl, h⟩
    · wp_walk using wpAny_loadPart' hl, wpAny_pyIter_tuple hL
      exact ⟨_, rfl, h⟩
theorem call_enum_tup {l : Addr} {items : Array Value} {Q : Value → Shared → Prop} (hL : s.heap.IsTuple l items)
    (h : ∀ h', IsEnum h' (s.heap.objs.size + 1) s.heap.objs.size 0 .none → h'.IsTupleIter s.heap.objs.size l 0 → (∀ b o, s.heap.get? b = some o → h'.get? b = some o) → Q (.ref (s.heap.objs.size + 1)) { s with heap := h' }) :
    wpAny (model prog w) A (call (.type "enumerate") [.ref l]) Q E s := by
  obtain ⟨⟨c, dct, dt, sl⟩, hl, hc, n, hd⟩ := hL
  replace hc : c = .type "tuple" := hc
  replace hd : dt = .seq items n := hd
  subst hc hd
  refine callType_new F.called_enumerate (by decide) (F.typeCall_enumerate_1 _) (F.newCall_enumerate_1 _) (fun obj => F.args_object_init_2 obj _) F.entry_enumerate_new (new_enum l items n dct sl) ⟨hl, ?_⟩
  have hz : (s.heap.push { cls := .type "tuple_iterator", data := .fields #[.ref l, .int 0 0] }).objs.size = s.heap.objs.size + 1 := Heap.size_push ..
  show _ ∧ _
  rw [hz]
  have he := Heap.get?_push_size (s.heap.push { cls := .type "tuple_iterator", data := .fields #[.ref l, .int 0 0] }) (o := { cls := .type "enumerate", data := .fields #[.none, .bool false, .ref s.heap.objs.size, rawInt 0, .none, .none] }) rfl
  rw [hz] at he
  exact ⟨⟨_, he, rfl⟩, h _ he ⟨_, Heap.get?_push_of_some _ (Heap.get?_push_size _ rfl), rfl, rfl⟩ fun b o x => Heap.get?_push_of_some _ (Heap.get?_push_of_some _ x)⟩
end
/-- a tuple's items, each in a new pair -/
def Itn (K : PySem.W.Frag) (a : Addr) (xs : List V) : It :=
  ⟨fun i H => SqT K H a xs ∧ i < xs.length, fun i H v H' => ∃ T x, v = .ref T ∧ H T = none ∧ H' = upd H T (.tup [.int (i : Nat), x]) ∧ xs[i]? = some x, fun i H => SqT K H a xs ∧ xs.length ≤ i⟩
theorem turn_enumT {P : Program} {w : World} {K : PySem.W.Frag} {elts : List Expr} {kk : Nat} {tpos : Pos} (a e it : Addr) (xs : List V) (hai : a ≠ it) (hae : a ≠ e) :
    Turn P w K (.Tuple elts kk tpos) (Itn K a xs) [e, it] e (fun i h => (∃ old, IsEnum h e it ((i : Nat) : Int) old) ∧ h.IsTupleIter it a i ∧ e ≠ it ∧ i ≤ xs.length) where
  mem := by simp
  obj := fun i h st b hb => by
    obtain ⟨⟨old, he⟩, ⟨o, ho, hc, hd⟩, _⟩ := st
    have e' : b = e ∨ b = it := by simpa using hb
    rcases e' with z | z
    · rw [z]; exact ⟨_, he, fun v q => nomatch q⟩
    · rw [z]; exact ⟨o, ho, fun v q => by rw [hd] at q; cases q⟩
  keep := fun i h h' st k => by
    obtain ⟨⟨old, he⟩, ⟨o, ho, r⟩, hne, hle⟩ := st
    exact ⟨⟨old, k e (by simp) _ he⟩, ⟨o, k it (by simp) o ho, r⟩, hne, hle⟩
  item := by
    intro X hP hw hK hc i pins s σ H E I hf st hg
    subst hP hw hK
    obtain ⟨⟨old, he⟩, hit, hne, hle⟩ := st
    obtain ⟨hq, hx0⟩ := hg
    obtain ⟨x, hx⟩ : ∃ x, xs[i]? = some x := ⟨_, List.getElem?_eq_getElem hx0⟩
    obtain ⟨its, rv, p, hz⟩ := I.tuple hq
    obtain ⟨u, hu, ru⟩ := rv.get hx
    have hel : e < s.heap.objs.size := Heap.lt_size he
    have hil : it < s.heap.objs.size := by obtain ⟨_, q, _⟩ := hit; exact Heap.lt_size q
    have pt : s.heap.IsTuple a its.toArray := p
    have hlt : i < its.toArray.size := by
      rw [List.size_toArray]
      exact (List.getElem?_eq_some_iff.mp hu).1
    refine wpAny_pyNext_enum_itemD (draws_tup (A := X.A.in1) (I.ok.hd hc) it a hai its.toArray) he ⟨hit, pt⟩ hlt hne (by simp [hne, Ne.symm hae]) fun v h' tk hv ho hst hT hsz hk => ?_
    have ev : v = u := by
      have q : some u = some v := by rw [← hv, List.getElem?_toArray]; exact hu.symm
      exact (Option.some.inj q).symm
    subst ev
    refine ⟨_, rfl, wpAny_letOwnedTupleGo_enum (s := { s with heap := h', toks := tk + 1 }) ho fun h'' he' sb => ?_⟩
    have hT2 : h''.get? s.heap.objs.size = some { cls := .type "tuple", data := .seq #[.int i tk, v] } := (sb.2 _ (Nat.ne_of_gt hel)).trans hT
    have new : ObjOk X.prog X.w (upd H s.heap.objs.size (.tup [.int (i : Nat), x])) h'' s.heap.objs.size (.tup [.int (i : Nat), x]) :=
      ⟨by show 2 ≤ sizeLine; decide, [.int i tk, v], .cons ⟨_, rfl⟩ (.cons ru .nil), ⟨_, hT2, rfl, _, rfl⟩⟩
    have I1 : Inv X pins σ (upd H s.heap.objs.size (.tup [.int (i : Nat), x])) { s with heap := h'', toks := tk + 1 } :=
      I.turnedNew (ch := [e, it]) (fun b ob hb q => (sb.2 b (fun z => hb (by simp [z]))).trans (hk b ob (fun z => hb (by simp [z])) (fun z => hb (by simp [z])) q)) hf (Nat.le_refl _) new
    refine ⟨.ref s.heap.objs.size, _, I1, rfl, ⟨_, x, rfl, I.hok.fresh (Nat.le_refl _), rfl, hx⟩, ⟨⟨v, ?_⟩, ?_, hne, hx0⟩, fun b hb => ?_⟩
    · have e1 : ((i + 1 : Nat) : Int) = (i : Int) + 1 := by omega
      rw [e1]; exact he'
    · obtain ⟨⟨o, ho2, r⟩, _⟩ := hst
      exact ⟨o, (sb.2 it (Ne.symm hne)).trans ho2, r⟩
    · have hb' : b < s.heap.objs.size := by
        have e' : b = e ∨ b = it := by simpa using hb
        rcases e' with z | z
        · rw [z]; exact hel
        · rw [z]; exact hil
      rw [upd_ne (Nat.ne_of_lt hb')]
      exact (hf b hb).1
  done := by
    intro X hP hw hK hc i pins s σ H E I hf st hg
    subst hP hw hK
    obtain ⟨⟨old, he⟩, hit, hne, hle⟩ := st
    obtain ⟨hq, hx⟩ := hg
    obtain ⟨its, rv, p, hz⟩ := I.tuple hq
    obtain ⟨f0, f1, f2, f3, f4, f5⟩ := hf it (by simp)
    have hl := rv.length
    have pt : s.heap.IsTuple a its.toArray := p
    have ei : i = its.toArray.size := by
      rw [List.size_toArray]
      omega
    refine wpAny_pyNext_enum_endD (draws_tup (A := X.A.in1) (I.ok.hd hc) it a hai its.toArray) he ⟨by rw [← ei]; exact hit, pt⟩ fun h' eb => ⟨rfl, I.turned (t' := s.toks) (fun b o hb q => eb b o hb q) f0 f1 f3 f4 f5⟩
  self := fun A i s Q E st h => let ⟨⟨_, he⟩, _⟩ := st; wpAny_pyIter_enum he h
/-! ### enumerate of a list or a tuple -/
def iEnumU (K : PySem.W.Frag) (tl : TE) : TI := fun σ H R => tl σ H fun x H1 => (∃ a xs, x = .ref a ∧ SqL K H1 a xs ∧ R (Ite K a) H1) ∨ ∃ a xs, x = .ref a ∧ SqT K H1 a xs ∧ R (Itn K a xs) H1
theorem pi_enumU {X : Cx} {e : Expr} {te : TE} {p pos tpos : Pos} {elts : List Expr} {kk : Nat} (hg : Gl X "enumerate") (hm : X.mg "enumerate" = none) (ha : PA X [e] (tCons te tNil)) (hs : starEach [e] X.env = [(false, eval e X.env)] := by rfl) :
    PI X (.Tuple elts kk tpos) (.Call (.Name "enumerate" p) [e] [] pos) (iEnumU X.K te) := by
  refine ⟨fun pins s σ H R I h => ?_⟩
  have boot : bootBuiltins "enumerate" = some (.type "enumerate") := by decide +kernel
  refine PyProof.Rows.Call_ (ld_blt I hg hm boot (PyProof.Rows.callWith_type1 (thn (ha.run pos pins s σ H (fun vs H1 => match vs with
    | [x] => (∃ a xs, x = .ref a ∧ SqL X.K H1 a xs ∧ R (Ite X.K a) H1) ∨ ∃ a xs, x = .ref a ∧ SqT X.K H1 a xs ∧ R (Itn X.K a xs) H1
    | _ => False) I h) fun us s1 ⟨vs, H1, I1, r1, q1⟩ => ?_) hs rfl))
  obtain ⟨x, rfl⟩ : ∃ x, vs = [x] := by
    match vs, q1 with
    | [x], _ => exact ⟨x, rfl⟩
  have go : ∀ (it : Addr), it = s1.heap.objs.size → ∀ b ∈ [s1.heap.objs.size + 1, it], FpOk X pins H1 b := fun it e b hb => by
    have hle : s1.heap.objs.size ≤ b := by
      have e' : b = s1.heap.objs.size + 1 ∨ b = it := by simpa using hb
      rcases e' with z | z
      · rw [z]; exact Nat.le_add_right _ _
      · rw [z, e]; exact Nat.le_refl _
    exact I1.fpOk hle (I1.hok.fresh hle)
  rcases (show (∃ a xs, x = .ref a ∧ SqL X.K H1 a xs ∧ R (Ite X.K a) H1) ∨ ∃ a xs, x = .ref a ∧ SqT X.K H1 a xs ∧ R (Itn X.K a xs) H1 from q1) with ⟨a, xs, ex, hq, q⟩ | ⟨a, xs, ex, hq, q⟩
  · subst ex
    cases r1 with
    | cons r rr =>
      cases rr
      cases r
      obtain ⟨its, rv, p', hz⟩ := I1.list hq
      refine call_enumerate_list p'.isList fun h' he hit hsz hk => wpAny_pyIter_enum he ?_
      exact ⟨s1.heap.objs.size + 1, [s1.heap.objs.size + 1, s1.heap.objs.size], _, _, H1, rfl, I1.kept (t' := s1.toks) hk, turn_enum a (s1.heap.objs.size + 1) s1.heap.objs.size, ⟨⟨.none, he⟩, hit, Nat.succ_ne_self _⟩, go _ rfl, q⟩
  · subst ex
    cases r1 with
    | cons r rr =>
      cases rr
      cases r
      obtain ⟨its, rv, p', hz⟩ := I1.tuple hq
      have pt : s1.heap.IsTuple a its.toArray := p'
      have la : a < s1.heap.objs.size := by
        obtain ⟨o, ho, _⟩ := pt
        exact Heap.lt_size ho
      refine call_enum_tup pt fun h' he hit hk => wpAny_pyIter_enum he ?_
      exact ⟨s1.heap.objs.size + 1, [s1.heap.objs.size + 1, s1.heap.objs.size], _, _, H1, rfl, I1.kept (t' := s1.toks) hk, turn_enumT a (s1.heap.objs.size + 1) s1.heap.objs.size xs (Nat.ne_of_lt la) (Nat.ne_of_lt (Nat.lt_succ_of_lt la)), ⟨⟨.none, he⟩, hit, Nat.succ_ne_self _, Nat.zero_le _⟩, go _ rfl, q⟩
/-! ### a comprehension over it -/
def WlkE (J : It) (P : Hp → Prop) (vs : List V) : Prop := ∀ i H, P H → (i < vs.length → J.go i H) ∧ (vs.length ≤ i → J.stop i H) ∧ ∀ v H', J.yld i H v H' → ∃ T x, v = .ref T ∧ H T = none ∧ H' = upd H T (.tup [.int (i : Nat), x]) ∧ (i < vs.length → vs[i]? = some x)
theorem wlkE_list {K : PySem.W.Frag} {a : Addr} {xs : List V} : WlkE (Ite K a) (fun H => SqL K H a xs) xs := fun i H s =>
  ⟨fun h => ⟨xs, xs[i], s, List.getElem?_eq_getElem h⟩, fun h => ⟨xs, s, h⟩, fun v H' ⟨T, x, e1, e2, e3, e4⟩ => ⟨T, x, e1, e2, e3, fun _ => e4 xs s⟩⟩
theorem wlkE_tup {K : PySem.W.Frag} {a : Addr} {xs : List V} : WlkE (Itn K a xs) (fun H => SqT K H a xs) xs := fun i H s =>
  ⟨fun h => ⟨s, h⟩, fun h => ⟨s, h⟩, fun v H' ⟨T, x, e1, e2, e3, e4⟩ => ⟨T, x, e1, e2, e3, fun _ => e4⟩⟩
def qLcE (vs : List Nat) (f : PyData → List DS → (List DS → Prop) → Prop) (t : TD) (tt : TDB) (te : TD) : TD := fun ρ n R => t ρ n fun d n1 => ∃ ds, seqD d = some ds ∧ ds.length ≤ 10000000 ∧ ∃ A : Nat → List PyData → Nat → Prop, A 0 [] n1 ∧
  (∀ i x acc m, ds[i]? = some x → A i acc m → f (.tuple [.int (i : Nat), x]) (wipeD ρ vs) fun ρ' => tt ρ' m fun b m' => if b = true then te ρ' m' fun y m'' => A (i + 1) (acc ++ [y]) m'' else A (i + 1) acc m') ∧
  ∀ acc m, A ds.length acc m → acc.length ≤ ds.length → R (.list acc) m
section
variable {o : Option TSet}
theorem lcE_core {K : PySem.W.Frag} {vs0 : List Nat} {g : TG} {f} {tt : TDB} {te : TD} (hf : GFit K vs0 g f) {σ : L2.St} {H1 : Hp} {Q : VK} {W : Fld} {ρ : List DS} {n1 : Nat} {R : QD} {ds : List PyData} {J : It} {P : Hp → Prop} {vs : List V}
    (E : EnvD K o W.M (W.a, W.ts, W.ov) ρ σ H1) (g1 : W.G n1 H1) (hlen : ds.length ≤ 10000000) {A : Nat → List PyData → Nat → Prop} (h0 : A 0 [] n1)
    (hs : ∀ i x acc m, ds[i]? = some x → A i acc m → f (.tuple [.int (i : Nat), x]) (wipeD ρ vs0) fun ρ' => tt ρ' m fun b m' => if b = true then te ρ' m' fun y m'' => A (i + 1) (acc ++ [y]) m'' else A (i + 1) acc m')
    (hd : ∀ acc m, A ds.length acc m → acc.length ≤ ds.length → R (.list acc) m) (k : ∀ d n', R d n' → ∀ v H', W.Rel H1 H' → W.G n' H' → Dw K W.M H' v d → Q v H')
    (wk : WlkE J P vs) (da : DwAll K W.M H1 vs ds) (hP : ∀ H'', Fx W.M H1 H'' → P H'') (D : Addr) (hD : H1 D = none) :
    ∃ Wn : Nat → Nat → Hp → Prop, (∃ m, Wn 0 m (upd H1 D (.lst []))) ∧ ∀ i m H, Wn i m H →
      (J.stop i H ∧ Q (.ref D) H) ∨ (J.go i H ∧ ∃ Nx : Hp → Prop, (∀ H', Nx H' → ∃ m', m' < m ∧ Wn (i + 1) m' H') ∧ ∀ x H', J.yld i H x H' → g x (wipe σ vs0) H' fun σ2 H2 => wipe σ2 vs0 = wipe σ vs0 ∧ (tDB K o tt) σ2 H2 fun b H3 =>
        if b = true then (tD K o te) σ2 H3 fun y H4 => ∃ acc, H4 D = some (.lst acc) ∧ acc.length < sizeLine ∧ Nx (upd H4 D (.lst (acc ++ [y]))) else Nx H3) := by
  have ln := da.length
  have nD : ¬ W.M D := fun m => by
    obtain ⟨ob, q, _⟩ := W.al g1 m
    rw [hD] at q
    cases q
  have EM : EnvD K o (fun c => W.M c ∨ c = D) (W.a, W.ts, W.ov) ρ σ H1 := E.more fun c o m q => m.elim id fun e => by rw [e, hD] at q; cases q
  have DM : DwAll K (fun c => W.M c ∨ c = D) H1 vs ds := da.more fun c o m q => m.elim id fun e => by rw [e, hD] at q; cases q
  refine ⟨fun i m H' => m = ds.length - i ∧ i ≤ ds.length ∧ ∃ acc av c, A i acc c ∧ H' D = some (.lst av) ∧ DwAll K (fun c => W.M c ∨ c = D) H' av acc ∧ av.length ≤ i ∧ W.G c H' ∧ W.Rel H1 H',
    ⟨_, rfl, Nat.zero_le _, [], [], n1, h0, upd_same, .nil, Nat.le_refl _, W.updG g1 hD g1 (fun u e => by rw [hD] at e; cases e), W.updR W.refl hD⟩, ?_⟩
  rintro i m H' ⟨rfl, hi, acc, av, c, inv, hDa, hav, hal, g', F'⟩
  have w := wk i H' (hP _ (W.frm F'))
  have FM : Fx (fun c => W.M c ∨ c = D) H1 H' := (W.frm F').mono fun c e => .inl e
  by_cases hlt : i < ds.length
  · refine .inr ⟨w.1 (by omega), fun H2 => i + 1 ≤ ds.length ∧ ∃ acc av c, A (i + 1) acc c ∧ H2 D = some (.lst av) ∧ DwAll K (fun c => W.M c ∨ c = D) H2 av acc ∧ av.length ≤ i + 1 ∧ W.G c H2 ∧ W.Rel H1 H2, fun H2 q => ⟨_, by omega, rfl, q⟩, fun x H2 y => ?_⟩
    obtain ⟨T, xv, rfl, hT, rfl, y2⟩ := w.2.2 x H2 y
    obtain ⟨d, hd1, hd2⟩ := DM.get (y2 (by omega))
    have nT := New.mk' (o := .tup [.int (i : Nat), xv]) hT
    have sT := nT.1
    have neT : D ≠ T := fun e => by
      rw [← e, hDa] at hT
      cases hT
    have nMT : ¬ (W.M T ∨ T = D) := fun m => m.elim (fun m => by
      obtain ⟨ob, q, _⟩ := W.al g' m
      rw [hT] at q
      cases q) fun e => neT e.symm
    have F2 : W.Rel H1 (upd H' T (.tup [.int (i : Nat), xv])) := W.trans F' (W.of sT)
    have g2' := W.same g' sT
    have hDa2 := sT _ _ hDa
    have hav2 := hav.same sT
    have FM2 : Fx (fun c => W.M c ∨ c = D) H1 (upd H' T (.tup [.int (i : Nat), xv])) := (W.frm F2).mono fun c e => .inl e
    have dT : Dw K (fun c => W.M c ∨ c = D) (upd H' T (.tup [.int (i : Nat), xv])) (.ref T) (.tuple [.int (i : Nat), d]) := .tup (.inl ⟨nMT, upd_same⟩) (.cons (.int _) (.cons (hd2.frm FM2) .nil))
    revert F2 g2' hDa2 hav2 FM2 dT
    generalize upd H' T (.tup [.int (i : Nat), xv]) = G2
    intro F2 g2' hDa2 hav2 FM2 dT
    refine hf o _ (W.a, W.ts, W.ov) _ _ _ (wipeD ρ vs0) (wipe σ vs0) _ _ dT ((EM.frm FM2).wipe vs0) (hs i d acc c hd1 inv) fun ρ2 r2 σ2 E2 ew => ⟨by rw [ew]; exact wipe_wipe σ vs0, ?_⟩
    refine ⟨W.plus D (.lst av) (fun _ z => by cases z) nD, ρ2, c, _, E2, ⟨g2', hDa2⟩, r2, fun b m3 r3 H3 F3 g3 => ?_⟩
    cases b with
    | false => exact ⟨hlt, acc, av, m3, r3, g3.2, hav2.frm ((W.plus D (.lst av) (fun _ z => by cases z) nD).frm F3), Nat.le_succ_of_le hal, g3.1, W.trans F2 F3⟩
    | true =>
      refine ⟨W.plus D (.lst av) (fun _ z => by cases z) nD, ρ2, m3, _, E2.frm ((W.plus D (.lst av) (fun _ z => by cases z) nD).frm F3), g3, r3, fun y m4 r4 v4 H4 F4 g4 w4 => ⟨av, g4.2, by rw [sizeLine_eq]; omega, hlt, acc ++ [y], av ++ [v4], m4, r4, upd_same, ?_, by rw [List.length_append]; exact Nat.succ_le_succ hal, W.updG g1 hD g4.1 (fun u e => by rw [g4.2] at e; cases e; trivial), W.updR (W.trans F2 (W.trans F3 F4)) hD⟩⟩
      have h4 := hav2.frm ((W.plus D (.lst av) (fun _ z => by cases z) nD).frm (W.trans F3 F4))
      exact (h4.append (.cons w4 .nil)).frm (fx_frm (Frm.mono (frm_upd (a := D)) fun c e => .inr e))
  · have e : i = ds.length := by omega
    subst e
    refine .inl ⟨w.2.1 (by omega), k _ c (hd acc c inv (by rw [← hav.length]; exact hal)) _ _ F' g' (.lst ⟨nD, hDa⟩ (hav.more fun c o m _ => .inl m))⟩
theorem de_lcE {X : Cx} {e : Expr} {vs0 : List Nat} {g : TG} {f} {t : TD} {tt : TDB} {te : TD} (hf : GFit X.K vs0 g f) (h : PE X e (tLc (iEnumU X.K (tD X.K o t)) g (tDB X.K o tt) (tD X.K o te) vs0)) : PE X e (tD X.K o (qLcE vs0 f t tt te)) := PE.imp h fun σ H Q ⟨W, ρ, n, R, E, gg, t, k⟩ =>
  ⟨W, ρ, n, _, E, gg, t, fun d n1 ⟨ds, e, hlen, A, h0, hs, hd⟩ v H1 F1 g1 w => by
    have E1 := E.frm (W.frm F1)
    have k1 : ∀ d n', R d n' → ∀ v H', W.Rel H1 H' → W.G n' H' → Dw X.K W.M H' v d → Q v H' := fun d n' r v H' F' g' w' => k d n' r v H' (W.trans F1 F') g' w'
    cases w with
    | lst s a =>
      cases e
      exact .inl ⟨_, _, rfl, s.at, fun D hD => lcE_core hf E1 g1 hlen h0 hs hd k1 wlkE_list a (fun H2 F2 => (s.frm F2).at) D hD⟩
    | tup s a =>
      cases e
      exact .inr ⟨_, _, rfl, s.at, fun D hD => lcE_core hf E1 g1 hlen h0 hs hd k1 wlkE_tup a (fun H2 F2 => (s.frm F2).at) D hD⟩
    | _ => cases e⟩
end
end MT
set_option maxHeartbeats 1000000
/-! partition; more targets; stars; truth -/
namespace MT
open PySem L2 TL StX
theorem cut_at (s : Nat) : ∀ l : List Nat, s ∉ l ∨ ∃ a b, s ∉ a ∧ l = a ++ (s :: b)
  | [] => .inl (fun h => nomatch h)
  | c :: l => by
    by_cases e : c = s
    · subst e
      exact .inr ⟨[], l, (fun h => nomatch h), rfl⟩
    · rcases cut_at s l with h | ⟨a, b, h, rfl⟩
      · exact .inl fun q => (List.mem_cons.mp q).elim (fun z => e z.symm) h
      · exact .inr ⟨c :: a, b, fun q => (List.mem_cons.mp q).elim (fun z => e z.symm) h, rfl⟩
theorem tl_of (l : List Nat) : tl (⟨l.toArray⟩ : Str) = l := rfl
/-- a text cut at the first sign s: partition and split tell the same -/
theorem parts_at {s : Nat} (x y : Str) (hy : tl y = [s]) (hk : y.cps.all (· < 256) = true) :
    (s ∉ tl x ∧ Txt.partition x y = (x, ("" : Str), ("" : Str)) ∧ Txt.split x y = [x]) ∨ ∃ a b : Str, s ∉ tl a ∧ tl x = tl a ++ (s :: tl b) ∧ Txt.partition x y = (a, y, b) ∧ Txt.split x y = a :: Txt.split b y := by
  have yn : tl y ≠ [] := by rw [hy]; simp
  have inj : ∀ {u v : List Str}, u.map tl = v.map tl → u = v := fun {u} => by
    induction u with
    | nil => intro v h; cases v with | nil => rfl | cons _ _ => cases h
    | cons z u ih =>
      intro v h
      cases v with
      | nil => cases h
      | cons w v =>
        rw [List.map_cons, List.map_cons] at h
        injection h with h1 h2
        rw [ext_tl h1, ih h2]
  rcases cut_at s (tl x) with h | ⟨a, b, h, e⟩
  · refine .inl ⟨h, ?_, ?_⟩
    · rw [partition_par x y yn, hy, par_none1 h]
      rfl
    · refine inj ?_
      rw [split_spl x y yn (kind_ok hk), hy, spl_last1 h]
      rfl
  · refine .inr ⟨⟨a.toArray⟩, ⟨b.toArray⟩, h, e, ?_, ?_⟩
    · rw [partition_par x y yn, hy, e, show a ++ (s :: b) = a ++ ([s] ++ b) from rfl, par_part1 h]
      rfl
    · refine inj ?_
      rw [split_spl x y yn (kind_ok hk), hy, e, show a ++ (s :: b) = a ++ ([s] ++ b) from rfl, spl_part1 h, List.map_cons, split_spl _ y yn (kind_ok hk), hy]
      rfl
theorem split_ne (x y : Str) (hy : tl y ≠ []) (hk : y.cps.all (· < 256) = true) : Txt.split x y ≠ [] := fun e => by
  have q := split_spl x y hy (kind_ok hk)
  rw [e] at q
  have key : ∀ (S : List Nat) (k : Nat) (acc l : List Nat), spl S k acc l ≠ [] := by
    intro S k acc l
    induction l generalizing k acc with
    | nil => rw [spl_nil]; simp
    | cons c r ih =>
      cases k with
      | zero =>
        show (if pre S (c :: r) = true then acc :: spl S (S.length - 1) [] r else spl S 0 (acc ++ [c]) r) ≠ []
        split
        · simp
        · exact ih _ _
      | succ k => exact ih _ _
  exact key _ _ _ _ q.symm
theorem joinL_sum {s : Nat} : ∀ l : List (List Nat), l ≠ [] → (l.map List.length).sum + l.length = (joinL [s] l).length + 1
  | [], h => absurd rfl h
  | [p], _ => by simp [joinL]
  | p :: q :: r, _ => by
    have ih := joinL_sum (s := s) (q :: r) (by simp)
    show _ = (p ++ ([s] ++ joinL [s] (q :: r))).length + 1
    rw [List.length_append, List.length_append, List.map_cons, List.sum_cons, List.length_cons, List.length_singleton]
    omega
theorem joinL_mem {S : List Nat} : ∀ {l : List (List Nat)} {p : List Nat}, p ∈ l → ∀ c ∈ p, c ∈ joinL S l
  | [], _, h, _, _ => nomatch h
  | [q], p, h, c, hc => by rw [List.mem_singleton.mp h] at hc; exact hc
  | q :: q2 :: r, p, h, c, hc => by
    show c ∈ q ++ (S ++ joinL S (q2 :: r))
    rcases List.mem_cons.mp h with rfl | h
    · exact List.mem_append_left _ hc
    · exact List.mem_append_right _ (List.mem_append_right _ (joinL_mem h c hc))
theorem split_joinL (x y : Str) : joinL (tl y) ((Txt.split x y).map tl) = tl x := by
  have q := StrLaws.join_split x y
  rw [← tl_join, q]
theorem split_sum {s : Nat} (x y : Str) (hy : tl y = [s]) (hk : y.cps.all (· < 256) = true) : ((Txt.split x y).map (·.length)).sum + (Txt.split x y).length = x.length + 1 := by
  have q := joinL_sum (s := s) ((Txt.split x y).map tl) (by simpa using split_ne x y (by rw [hy]; simp) hk)
  have e := split_joinL x y
  rw [hy] at e
  rw [e, List.length_map, List.map_map, ← len_tl] at q
  rw [← q]
  congr 2
theorem split_mem {x y z : Str} (h : z ∈ Txt.split x y) : ∀ c ∈ tl z, c ∈ tl x := fun c hc => by
  have q := joinL_mem (S := tl y) (List.mem_map.mpr ⟨z, h, rfl⟩) c hc
  rwa [split_joinL] at q
theorem sum_ge {l : List Nat} {n : Nat} (h : n ∈ l) : n ≤ l.sum := by
  induction l with
  | nil => nomatch h
  | cons m l ih =>
    rw [List.sum_cons]
    rcases List.mem_cons.mp h with rfl | h
    · omega
    · have := ih h; omega
theorem split_le1 {s : Nat} {x y z : Str} (hy : tl y = [s]) (hk : y.cps.all (· < 256) = true) (h : z ∈ Txt.split x y) : z.length ≤ x.length := by
  have q := split_sum x y hy hk
  have g : z.length ≤ ((Txt.split x y).map (·.length)).sum := sum_ge (List.mem_map.mpr ⟨z, h, rfl⟩)
  have p : 1 ≤ (Txt.split x y).length := List.length_pos_iff.mpr (split_ne x y (by rw [hy]; simp) hk)
  omega
section
variable {K : PySem.W.Frag}
def fPart (d e : PyData) (R : PyData → Prop) : Prop := ∃ a b : Str, d = .str a ∧ e = .str b ∧ (b.length == 0) = false ∧ a.length ≤ 10000000 ∧ R (.tuple [.str (Txt.partition a b).1, .str (Txt.partition a b).2.1, .str (Txt.partition a b).2.2])
theorem fit_part : FitM K (fun x xs H Q => ∃ a b, x = .str a ∧ xs = [.str b] ∧ (b.length == 0) = false ∧ a.length ≤ sizeLine ∧
      ∀ p, H p = none → Q (.ref p) (upd H p (.tup [.str (Txt.partition a b).1, .str (Txt.partition a b).2.1, .str (Txt.partition a b).2.2]))) fPart := by
  intro dx dy R M H x y Q al wx wy f k
  obtain ⟨a, b, rfl, rfl, h1, h2, r⟩ := f
  cases wx
  cases wy
  refine ⟨a, b, rfl, rfl, h1, small_line h2, fun p hp => k _ r _ _ (same_new hp) (.tup (.inl ⟨fun m => ?_, upd_same⟩) (.cons (.str _) (.cons (.str _) (.cons (.str _) .nil))))⟩
  obtain ⟨ob, e, _⟩ := al _ m
  rw [hp] at e
  cases e
/-! ### targets -/
theorem fit_tri {i j k : Nat} : GFit K [i, j, k] (gTup K 3 (gCons (gName i) (gCons (gName j) (gCons (gName k) gNil)))) (fun d ρ R => ∃ x y z, d = .tuple [x, y, z] ∧ R (((ρ.set i (DS.d x)).set j (DS.d y)).set k (DS.d z))) := fun o M a H v d ρ σ R Q w E ⟨x, y, z, e, r⟩ k' => by
  subst e
  cases w with
  | tup s w =>
    cases w with
    | cons wa wb =>
      cases wb with
      | cons wc wd =>
        cases wd with
        | cons we wf =>
          cases wf
          exact ⟨_, _, rfl, s.at, rfl, _, _, rfl, _, _, rfl, _, _, rfl, rfl, k' _ r _ (((E.set i wa).set j wc).set k we) (by rw [wipe_set (by simp), wipe_set (by simp), wipe_set (by simp)])⟩
end
section
variable {X : Cx} {e : Expr} {o : Option TSet}
/-- a, b, *c = .. -/
def qStar2 (i j k : Nat) (t : TD) : TDS := fun ρ n Rn _ => t ρ n fun d n' => ∃ x y r, seqD d = some (x :: y :: r) ∧ r.length ≤ 16000 ∧ Rn (((ρ.set i (DS.d x)).set j (DS.d y)).set k (DS.d (.list r))) n'
theorem ds_star2 {st : Stmt} {i j k : Nat} {t : TD} (h : PS X st (tAsg (tD X.K o t) (gStar X.K 3 2 (gCons (gName i) (gCons (gName j) (gCons (gName k) gNil)))))) : PS X st (tDs X.K o (qStar2 i j k t)) := PS.imp h fun D σ H ⟨W, ρ, n, Rn, Rr, E, gg, t, k1, k2⟩ =>
  ⟨W, ρ, n, _, E, gg, t, fun d n1 ⟨x, y, r, ed, l, r'⟩ v H1 F1 g1 w => by
    obtain ⟨p, xs, rfl, sq, nl, da⟩ := w.seq ed
    cases da with
    | cons wx da =>
      cases da with
      | cons wy da =>
        have ln := da.length
        have sd : ∀ (y1 y2 : V) (zs : List V), ((y1 :: y2 :: zs).drop 2).take ((y1 :: y2 :: zs).length + 1 - 3) = zs := fun y1 y2 zs => by
          show zs.take _ = zs
          rw [List.length_cons, List.length_cons]
          exact List.take_of_length_le (by omega)
        have se : ∀ (y1 y2 : V) (zs : List V), ((y1 :: y2 :: zs).drop 2).drop ((y1 :: y2 :: zs).length + 1 - 3) = [] := fun y1 y2 zs => by
          show zs.drop _ = []
          rw [List.length_cons, List.length_cons]
          exact List.drop_of_length_le (by omega)
        refine ⟨p, _, rfl, sq, by simp, by simp only [List.length_cons]; omega, fun L H2 nw => ?_⟩
        rw [sd] at nw
        rw [se]
        have s2 := nw.1
        have Ee := (E.frm (W.frm F1)).frm (fx_same (M := W.M) s2)
        have wl : Dw X.K W.M H2 (.ref L) (.list r) := .lst ⟨W.new g1 nw, nw.2.1⟩ (da.same s2)
        exact ⟨_, _, rfl, _, _, rfl, _, _, rfl, rfl, k1 _ n1 r' _ H2 (W.trans F1 (W.of s2)) (W.same g1 s2) (((Ee.set i (wx.same s2)).set j (wy.same s2)).set k wl)⟩⟩
/-- a, b, c = x, y, z -/
def qPar3 (i j l : Nat) (u : TDA) : TDS := fun ρ n Rn _ => u ρ n fun ds n1 => ∃ x y z, ds = [x, y, z] ∧ Rn (((ρ.set i (DS.d x)).set j (DS.d y)).set l (DS.d z)) n1
theorem ds_par3 {st : Stmt} {i j l : Nat} {u : TDA} (h : PS X st (tPar3 i j l (tDA X.K o u))) : PS X st (tDs X.K o (qPar3 i j l u)) := PS.imp h fun D σ H ⟨W, ρ, n, Rn, Rr, E, g, t, k1, k2⟩ =>
  ⟨W, ρ, n, _, E, g, t, fun ds n1 ⟨x, y, z, e, r⟩ vs H1 F1 g1 w => by
    subst e
    cases w with
    | cons a b =>
      cases b with
      | cons c d =>
        cases d with
        | cons a2 b2 =>
          cases b2
          exact ⟨_, _, _, rfl, k1 _ n1 r _ H1 F1 g1 ((((E.frm (W.frm F1)).set i a).set j c).set l a2)⟩⟩
/-- [.., *e, ..] -/
def qStar (t : TD) (u : TDA) : TDA := fun ρ n R => t ρ n fun d n1 => ∃ es, seqD d = some es ∧ u ρ n1 fun ds n2 => R (es ++ ds) n2
theorem da_star {es : List Expr} {t : TD} {u : TDA} (h : PA X es (tStar X.K (tD X.K o t) (tDA X.K o u))) : PA X es (tDA X.K o (qStar t u)) := PA.imp h fun σ H Q ⟨W, ρ, n, R, E, g, r, k⟩ =>
  ⟨W, ρ, n, _, E, g, r, fun d n1 ⟨es, e1, r1⟩ v H1 F1 g1 w1 => by
    obtain ⟨p, xs, rfl, sq, nl, da⟩ := w1.seq e1
    exact ⟨p, xs, rfl, sq.symm, W, ρ, n1, _, E.frm (W.frm F1), g1, r1, fun ds n2 r2 vs H2 F2 g2 w2 => k _ n2 r2 _ H2 (W.trans F1 F2) g2 ((da.frm (W.frm F2)).append w2)⟩⟩
/-- truth -/
def truthD : PyData → Option Bool
  | .none => some false
  | .bool b => some b
  | .int i => some (i != 0)
  | .str z => if z.length ≤ 10000000 then some ((z.length : Int) != 0) else none
  | .list ds => some (!ds.isEmpty)
  | .tuple ds => some (!ds.isEmpty)
  | .dict _ => none
def qTru (t : TD) : TDB := fun ρ n R => t ρ n fun d n' => ∃ b, truthD d = some b ∧ R b n'
theorem dt_truth {t : TD} (h : PT X e (fun σ H Q => tD X.K o t σ H fun x H' => ∃ k, TruV X.K x H' k ∧ Q k H')) : PT X e (tDB X.K o (qTru t)) := PT.imp h fun σ H Q ⟨W, ρ, n, R, E, g, t, k⟩ =>
  ⟨W, ρ, n, _, E, g, t, fun d n1 ⟨b, eb, r⟩ v H1 F1 g1 w => by
    refine ⟨b, ?_, k b n1 r H1 F1 g1⟩
    cases w with
    | non => cases eb; exact rfl
    | bl c => cases eb; exact rfl
    | int i => cases eb; exact rfl
    | str z =>
      have eb : (if z.length ≤ 10000000 then some ((z.length : Int) != 0) else none) = some b := eb
      by_cases h : z.length ≤ 10000000
      · rw [if_pos h] at eb
        cases eb
        exact ⟨small_line h, rfl⟩
      · rw [if_neg h] at eb
        cases eb
    | lst s a =>
      cases eb
      exact .inl ⟨_, s.at, by cases a <;> rfl⟩
    | tup s a =>
      cases eb
      exact .inr (.inl ⟨_, s.at, by cases a <;> rfl⟩)
    | dct _ _ _ => cases eb
    | dkT _ _ => cases eb
    | dcT _ _ => cases eb
    | dk _ _ _ => cases eb
    | dt _ _ _ => cases eb
    | obj _ _ _ _ => cases eb
    | exn _ _ _ _ _ _ => cases eb
    | exn0 _ _ _ => cases eb⟩
def isTupD : PyData → Bool
  | .tuple _ => true | _ => false
def isLstD : PyData → Bool
  | .list _ => true | _ => false
theorem kit_tupD {K : PySem.W.Frag} (d : PyData) : PySem.W.kitOne K (.type (tyName d)) (.type "tuple") = some (isTupD d) := by
  rw [kit_tyN d (by decide)]
  cases d <;> simp [tyName, isTupD, isBoolD]
theorem kit_lstD {K : PySem.W.Frag} (d : PyData) : PySem.W.kitOne K (.type (tyName d)) (.type "list") = some (isLstD d) := by
  rw [kit_tyN d (by decide)]
  cases d <;> simp [tyName, isLstD, isBoolD]
theorem de_isi_tuple {t : TD} (h : PE X e (tCB (rIsiY X.K) (tCons (tD X.K o t) (tCons (tC (.ty "tuple")) tNil)))) : PE X e (tD X.K o (qIs isTupD t)) := de_isi (by simp) (fun d => kit_tupD d) (fun _ => rfl) h
theorem de_isi_list {t : TD} (h : PE X e (tCB (rIsiY X.K) (tCons (tD X.K o t) (tCons (tC (.ty "list")) tNil)))) : PE X e (tD X.K o (qIs isLstD t)) := de_isi (by simp) (fun d => kit_lstD d) (fun _ => rfl) h
end
def rNeL (K : PySem.W.Frag) : R2 := fun x y H Q => ∃ a xs b, x = .ref a ∧ y = .ref b ∧ SqL K H a xs ∧ SqL K H b [] ∧ Q (.bl (!xs.isEmpty)) H
theorem op_neL {X : Cx} (hu : X.A.units < cLine) : OpR X (compareOp .NotEq) (rNeL X.K) := by
  intro pins s σ H x y v u Q I rx ry h
  obtain ⟨a, xs, b, rfl, rfl, ha, hb, q⟩ := h
  cases rx
  cases ry
  obtain ⟨its, rv, p1, _⟩ := I.list ha
  obtain ⟨its2, rv2, p2, _⟩ := I.list hb
  cases rv2
  cases rv with
  | nil => exact SeqAt.RcNeAt.lists (e := fun _ => true) p1.isList p2.isList rfl hu (fun j h1 _ => by simp at h1) _ _ _ _ ⟨.bl _, H, I, rfl, q⟩
  | cons r1 r2 => exact SeqAt.RcNeAt.lists_lengths p1.isList p2.isList (by simp) hu _ _ _ _ ⟨.bl _, H, I, rfl, q⟩
/-- a list against [] -/
def fNeL (d e : PyData) (R : PyData → Prop) : Prop := ∃ ds, d = .list ds ∧ e = .list [] ∧ R (.bool (!ds.isEmpty))
theorem fit_neL {K : PySem.W.Frag} : FitR K (rNeL K) fNeL := by
  intro dx dy R M H x y Q al wx wy f k
  obtain ⟨ds, rfl, rfl, r⟩ := f
  cases wx with
  | lst n a =>
    cases wy with
    | lst n2 a2 =>
      cases a2
      refine ⟨_, _, _, rfl, rfl, n.at, n2.at, ?_⟩
      have e : ∀ {xs : List V} {ds : List PyData}, DwAll K M H xs ds → xs.isEmpty = ds.isEmpty := fun h => by cases h <;> rfl
      rw [e a]
      exact k _ r _ _ (Same.refl _) (.bl _)
/-- what a def makes of asking what it is handed, once more is there -/
def TTs (K : PySem.W.Frag) (hx : Addr → List (Str × PyData) → PyData → Prop) (hr : PyData → PyData) : (XK → Hp → VK → Prop) → Hp → VK → Prop := fun tl H Q => ∃ (M : Addr → Prop) (R : PyData → Prop), Al M H ∧
  (∀ H0, Same H H0 → tl (fun cls dd H' => ∃ C fs fv z a, cls = .ref C ∧ dd = some a ∧ Same H0 H' ∧ H' a = some (.xd fv) ∧ FvW K M H' fv fs ∧ hx C fs z ∧ R z) H0 (fun v H' => Same H0 H' ∧ ∃ d, Dw K M H' v d ∧ R (hr d))) ∧
  ∀ z, R z → ∀ v H', Same H H' → Dw K M H' v z → Q v H'
theorem de_heardS {X : Cx} {e : Expr} {TS : TSet} {hx : Addr → List (Str × PyData) → PyData → Prop} {hr : PyData → PyData} {P : FE} {u : TDA} (h : PE X e (LamX.tLam TS (TTs X.K hx hr) (fun E => tCall (spE X.K P) [] E (tDA X.K none u)))) : PE X e (tD X.K (some TS) (qHeard hx hr P u)) := PE.imp h fun σ H Q ⟨W, ρ, n, R, E, g, t, k⟩ => by
  obtain ⟨l1, l2⟩ := W.lm TS E.tse
  refine ⟨l1 _ _ g, fun H1 x1 t1 => ?_⟩
  have q := l2 _ _ _ g x1 t1
  refine ⟨W.M, fun z => R z n, fun c m => W.al q.1 m, fun H0 s0 => ?_, fun z r v H' s w => k z n r v H' (W.trans q.2 (W.of s)) (W.same q.1 s) w⟩
  have E1 := ((E.frm (W.frm q.2)).undr).frm (fx_same s0)
  have al1 : Al W.M H0 := Al.same (fun c m => W.al q.1 m) s0
  refine ⟨pureF W.M, _, n, _, E1, al1, t, fun ds n1 t1 vs H2 F2 g2 w => ⟨W.M, ds, _, _, g2, by rw [List.append_nil]; exact w, t1, fun d r v H' s w' => ⟨F2.trans s, d, w', r⟩, ?_⟩⟩
  rintro C fs ⟨z, hz, r⟩ a H' fv s na ha hw
  exact ⟨C, fs, fv, z, a, rfl, rfl, F2.trans s, ha, hw, hz, r⟩
end MT
set_option maxHeartbeats 4000000
/-! texts over data that laws share -/
namespace MT
open PySem L2 RZ


theorem lc_boolsM {K : PySem.W.Frag} {M : Addr → Prop} {a : Addr} {xs : List V} {ds : List PyData} {J : It} {g : TG} {te : TE} {vs : List Nat} {σ : L2.St} {H1 : Hp} {D : Addr} {Qd : Hp → Prop} (p : PyData → Bool)
    (hD : H1 D = none) (hJ : SeqIt K a xs H1 J) (hda : DvAll K M H1 xs ds) (hlen : xs.length ≤ 10000000)
    (hs : ∀ x d H, d ∈ ds → Dv K M H x d → Same H1 H → ∀ Ky : VK, (∀ H', Same H H' → Ky (.bl (p d)) H') → g x (wipe σ vs) H fun σ2 H2 => wipe σ2 vs = wipe σ vs ∧ te σ2 H2 Ky)
    (hd : ∀ H, Same H1 H → H D = some (.lst ((ds.map p).map V.bl)) → Qd H) : LcW J g tYes te vs σ H1 D Qd := by
  refine lcg_seq (fun _ => False) (fun _ _ => True) (fun i acc _ => acc = ((ds.take i).map p).map V.bl) hD hJ (fun z => z) hlen (fun _ _ _ _ z => z) (fun _ _ _ _ _ z => z) trivial rfl ?_ ?_
  · intro i x acc H hx F hDa _ hA Ky Kn ky kn
    obtain ⟨d, hd1, hd2⟩ := hda.get hx
    have F2 := same_frm F
    refine hs x d H (List.mem_of_getElem? hd1) (hd2.same F2) F2 _ fun H' F' => ?_
    refine ky _ H' (F.trans (frm_same F')) (F' _ _ hDa) trivial ?_
    rw [hA, take_next hd1, List.map_append, List.map_append]
    rfl
  · intro H acc F hDa _ hA _
    refine hd H (same_frm F) ?_
    rw [hDa, hA, List.take_of_length_le (by rw [hda.length]; exact Nat.le_refl _)]
/-- its texts are not too long -/
def shortD (d : PyData) : Prop := ∀ ds, seqD d = some ds → ∀ x, PyData.str x ∈ ds → x.length ≤ 1000000
def spSpot (K : PySem.W.Frag) : Sp := fun vs H Q _ => ∃ (M : Addr → Prop) (v : V) (d : PyData), vs = [v] ∧ Dv K M H v d ∧ shortD d ∧ ∀ H', Same H H' → Q (.bl (spotD d)) H'
theorem nt_true {b : Bool} (h : (!b) = true) : b = false := by cases b with | true => cases h | false => rfl
theorem nt_false {b : Bool} (h : ¬ (!b) = true) : b = true := by cases b with | true => rfl | false => exact absurd rfl h
theorem bfalse {b : Bool} (h : ¬ b = true) : b = false := by cases b with | true => exact absurd rfl h | false => rfl
theorem spot_none {d : PyData} (h : seqD d = none) : spotD d = false := by unfold spotD; rw [h]
theorem spot_some {d : PyData} {ds : List PyData} (h : seqD d = some ds) : spotD d = (decide (ds.length ≤ 6) && ds.all nameD) := by unfold spotD; rw [h]
theorem names_of : ∀ {ds : List PyData}, ds.all nameD = true → ∃ ns : List Str, ds = ns.map PyData.str ∧ ∀ z ∈ ns, nameD (.str z) = true
  | [], _ => ⟨[], rfl, by simp⟩
  | d :: r, h => by
    rw [List.all_cons, Bool.and_eq_true] at h
    obtain ⟨ns, rfl, q⟩ := names_of h.2
    cases d with
    | str x =>
      refine ⟨x :: ns, rfl, fun z hz => ?_⟩
      rcases List.mem_cons.mp hz with e | e
      · rw [e]; exact h.1
      · exact q z e
    | _ => exact absurd h.1 (by simp [nameD])
theorem spot_of {d : PyData} (h : spotD d = true) : ∃ ns : List Str, seqD d = some (ns.map PyData.str) ∧ ns.length ≤ 6 ∧ ∀ z ∈ ns, nameD (.str z) = true := by
  cases e : seqD d with
  | none => rw [spot_none e] at h; cases h
  | some ds =>
    rw [spot_some e, Bool.and_eq_true, decide_eq_true_iff] at h
    obtain ⟨ns, rfl, q⟩ := names_of h.2
    exact ⟨ns, rfl, by rw [List.length_map] at h; exact h.1, q⟩
theorem strs_of_dv {K : PySem.W.Frag} {M : Addr → Prop} {H : Hp} : ∀ {ns : List Str} {xs : List V}, DvAll K M H xs (ns.map PyData.str) → xs = ns.map V.str
  | [], _, .nil => rfl
  | _ :: _, _, .cons (.str _) r => by rw [strs_of_dv r]; rfl
theorem dv_strs {K : PySem.W.Frag} {M : Addr → Prop} {H : Hp} : ∀ ns : List Str, DvAll K M H (ns.map V.str) (ns.map PyData.str)
  | [] => .nil
  | z :: ns => .cons (.str z) (dv_strs ns)


def spPath (K : PySem.W.Frag) : Sp := fun vs H Q _ => ∃ (M : Addr → Prop) (v : V) (d : PyData), vs = [v] ∧ Dv K M H v d ∧ shortD d ∧ ∀ H', Same H H' → Q (.bl (pathD d)) H'
def spText (K : PySem.W.Frag) : Sp := fun vs H Q _ => ∃ (M : Addr → Prop) (v : V) (d : PyData), vs = [v] ∧ Dv K M H v d ∧ (∀ x, d = .str x → x.length ≤ 1000000) ∧ ∀ H', Same H H' → Q (.bl (textD d)) H'
def spValue_ (K : PySem.W.Frag) : Sp := fun vs H Q _ => ∃ (M : Addr → Prop) (v : V) (d : PyData), vs = [v] ∧ Dv K M H v d ∧ fewD d ∧ shortD d ∧ ∀ H', Same H H' → Q (.bl (valueD d)) H'
theorem len_within {n : Nat} : withinD (.int n) (some 1) (some 2) = (decide (1 ≤ n) && decide (n ≤ 2)) := by
  show (decide ((1 : Int) ≤ n) && decide ((n : Int) ≤ 2)) = _
  rw [Bool.eq_iff_iff]
  simp only [Bool.and_eq_true, decide_eq_true_eq]
  omega
theorem word_in (x : Str) : inV (.str x) [.str "none", .str "folder"] = (decide (x = "none") || decide (x = "folder")) := by
  show ((("none" : Str) == x) || ((("folder" : Str) == x) || false)) = _
  rw [Bool.or_false, Bool.eq_iff_iff]
  simp only [Bool.or_eq_true, beq_iff_eq, decide_eq_true_eq]
  exact ⟨fun h => h.imp Eq.symm Eq.symm, fun h => h.imp Eq.symm Eq.symm⟩
theorem len_test {n : Nat} {m : Int} : decide (V.int (n : Int) = V.int m) = decide ((n : Int) = m) := len_eq
/-! ### fixed -/
def fixedD : PyData → PyData
  | .list xs => .tuple (fixedAll xs)
  | .tuple xs => .tuple (fixedAll xs)
  | d => d
where fixedAll : List PyData → List PyData
  | [] => []
  | x :: xs => fixedD x :: fixedAll xs
theorem fixedAll_map : ∀ xs : List PyData, fixedD.fixedAll xs = xs.map fixedD
  | [] => rfl
  | x :: xs => by rw [fixedD.fixedAll, fixedAll_map xs]; rfl
/-- nested at most so deep, all its lists short, no dict in it -/
def deepD : Nat → PyData → Prop
  | _, .none => True
  | _, .bool _ => True
  | _, .int _ => True
  | _, .str _ => True
  | n + 1, .list ds => ds.length ≤ 10000000 ∧ ∀ d ∈ ds, deepD n d
  | n + 1, .tuple ds => ds.length ≤ 10000000 ∧ ∀ d ∈ ds, deepD n d
  | _, _ => False
def spFixed (K : PySem.W.Frag) : Nat → Sp
  | 0 => fun _ _ _ _ => False
  | n + 1 => fun vs H Q _ => ∃ (M M' : Addr → Prop) (v : V) (d : PyData), vs = [v] ∧ Dv K M H v d ∧ deepD n d ∧ (∀ c, M' c → ∃ o, H c = some o) ∧ ∀ v' H', Same H H' → Dv K M' H' v' (fixedD d) → Q v' H'
theorem fixed_seq {d : PyData} {ds : List PyData} (h : seqD d = some ds) : fixedD d = .tuple (ds.map fixedD) := by
  cases d with
  | list xs => cases h; show PyData.tuple _ = _; rw [fixedAll_map]
  | tuple xs => cases h; show PyData.tuple _ = _; rw [fixedAll_map]
  | _ => cases h
theorem deep_seq {n : Nat} {d : PyData} {ds : List PyData} (h : seqD d = some ds) (p : deepD n d) : ∃ m, n = m + 1 ∧ ds.length ≤ 10000000 ∧ ∀ d ∈ ds, deepD m d := by
  cases d with
  | list xs =>
    cases h
    cases n with
    | zero => exact p.elim
    | succ m => exact ⟨m, rfl, p.1, p.2⟩
  | tuple xs =>
    cases h
    cases n with
    | zero => exact p.elim
    | succ m => exact ⟨m, rfl, p.1, p.2⟩
  | _ => cases h
theorem fixed_atom {n : Nat} {d : PyData} (h : seqD d = none) (p : deepD n d) : fixedD d = d ∧ ∀ {K : PySem.W.Frag} {M M' : Addr → Prop} {H : Hp} {v : V}, Dv K M H v d → Dv K M' H v d := by
  cases d with
  | none => exact ⟨rfl, fun h => by cases h; exact .non⟩
  | bool b => exact ⟨rfl, fun h => by cases h; exact .bl b⟩
  | int i => exact ⟨rfl, fun h => by cases h; exact .int i⟩
  | str x => exact ⟨rfl, fun h => by cases h; exact .str x⟩
  | list ds => cases h
  | tuple ds => cases h
  | dict kvs => cases n <;> exact p.elim

section
variable {K : PySem.W.Frag} {M M' : Addr → Prop} {H : Hp}
mutual
theorem Dv.subR (s : ∀ c, M' c → M c) : ∀ (d : PyData) (v : V), Dv K M H v d → Dv K M' H v d
  | .none, _, h => by cases h; exact .non
  | .bool b, _, h => by cases h; exact .bl b
  | .int i, _, h => by cases h; exact .int i
  | .str x, _, h => by cases h; exact .str x
  | .list ds, _, h => by
    cases h with
    | lst n q a => exact .lst (fun z => n (s _ z)) q (DvAll.subR s ds _ a)
  | .tuple ds, _, h => by
    cases h with
    | tup n q a => exact .tup (fun z => n (s _ z)) q (DvAll.subR s ds _ a)
  | .dict _, _, h => by
    cases h with
    | dct n q => exact .dct (fun z => n (s _ z)) q
    | dcT n q => exact .dcT (fun z => n (s _ z)) q
theorem DvAll.subR (s : ∀ c, M' c → M c) : ∀ (ds : List PyData) (vs : List V), DvAll K M H vs ds → DvAll K M' H vs ds
  | [], _, h => by cases h; exact .nil
  | d :: ds, _, h => by
    cases h with
    | cons a b => exact .cons (Dv.subR s d _ a) (DvAll.subR s ds _ b)
end
theorem dv_sub {d : PyData} {v : V} (h : Dv K M H v d) (s : ∀ c, M' c → M c) : Dv K M' H v d := Dv.subR s d v h
theorem dva_sub {d : List PyData} {v : List V} (h : DvAll K M H v d) (s : ∀ c, M' c → M c) : DvAll K M' H v d := DvAll.subR s d v h
end


theorem ints_eq {K : PySem.W.Frag} {H : Hp} {p l : Addr} {cs : List Int} {Q : VK} (hp : SqL K H p (cs.map V.int)) (hl : SqL K H l []) (q : Q (.bl cs.isEmpty) H) : rEqD K (.ref p) (.ref l) H Q :=
  ⟨.list (cs.map .int), .list [], .lst hp (dp_ints cs), .lst hl .nil, shaped_ints cs, shaped_ints [], by cases cs <;> exact q⟩


theorem pss0 {X : Cx} {ss : List Stmt} {t : TDS} (h : PSs X ss (tDs X.K none t)) : PSs X ss (tDs X.K none t) := h
theorem pss1 {X : Cx} {ss : List Stmt} {t : TDS} {TS : MT.TSet} (h : PSs X ss (tDs X.K (some TS) t)) : PSs X ss (tDs X.K (some TS) t) := h
def okM1 (d : PyData) : Prop := ∃ m : Int, d = .int m ∧ 0 < m ∧ m < 2 ^ 62
def below (d y : PyData) : Prop := ∃ m i : Int, d = .int m ∧ y = .int i ∧ 0 ≤ i ∧ i < m
def okSome (d : PyData) : Prop := ∃ xs, d = .list xs ∧ xs ≠ [] ∧ xs.length < 2 ^ 62
def oneOf (d y : PyData) : Prop := ∃ xs, d = .list xs ∧ y ∈ xs
theorem atI_mem {α : Type} {xs : List α} {i : Int} (h0 : 0 ≤ i) (h1 : i < (xs.length : Int)) : ∃ x, atI xs i = some x ∧ x ∈ xs := by
  obtain ⟨j, rfl⟩ : ∃ j : Nat, i = j := ⟨_, (Int.toNat_of_nonneg h0).symm⟩
  have hj : j < xs.length := by omega
  exact ⟨xs[j], atI_nat (List.getElem?_eq_getElem hj), List.getElem_mem hj⟩

theorem one_b {p : PyData → Bool} {xs : List PyData} {y : PyData} (h : oneOf (.list xs) y) (a : xs.all p = true) : p y = true := by
  obtain ⟨zs, e, m⟩ := h
  cases e
  exact List.all_eq_true.mp a y m
theorem one_p {p : PyData → Prop} {xs : List PyData} {y : PyData} (h : oneOf (.list xs) y) (a : ∀ z ∈ xs, p z) : p y := by
  obtain ⟨zs, e, m⟩ := h
  cases e
  exact a y m
theorem some_ok {xs : List PyData} (h : xs ≠ []) (h2 : xs.length < 2 ^ 62) : okSome (.list xs) := ⟨xs, rfl, h, h2⟩
def intIn (lo hi : Int) : PyData → Bool
  | .int w => decide (lo ≤ w) && decide (w ≤ hi)
  | _ => false
theorem int_in {lo hi : Int} {d : PyData} (h : intIn lo hi d = true) : ∃ w, d = .int w ∧ lo ≤ w ∧ w ≤ hi := by
  cases d with
  | int w =>
    have h : (decide (lo ≤ w) && decide (w ≤ hi)) = true := h
    rw [Bool.and_eq_true] at h
    exact ⟨w, rfl, of_decide_eq_true h.1, of_decide_eq_true h.2⟩
  | _ => cases h
def strIs (p : Str → Bool) : PyData → Bool
  | .str z => p z
  | _ => false
theorem str_is {p : Str → Bool} {d : PyData} (h : strIs p d = true) : ∃ z, d = .str z ∧ p z = true := by
  cases d with
  | str z => exact ⟨z, rfl, h⟩
  | _ => cases h
theorem rng_at {n i : Nat} {x : PyData} {lo : Int} (h : ((List.range n).map fun i => PyData.int (lo + (i : Nat)))[i]? = some x) : i < n ∧ x = .int (lo + (i : Nat)) := by
  have l := (List.getElem?_eq_some_iff.mp h).1
  rw [List.length_map, List.length_range] at l
  rw [List.getElem?_map, List.getElem?_range l] at h
  exact ⟨l, (Option.some.inj h).symm⟩
theorem q_yes {ρ : List DS} {n : Nat} {f g : Nat → Prop} (h : f n) : qYes ρ n (fun b m => if b = true then f m else g m) := by
  show if true = true then f n else g n
  rw [if_pos rfl]
  exact h
theorem rng_len {n : Nat} {lo : Int} : ((List.range n).map fun i => PyData.int (lo + (i : Nat))).length = n := by rw [List.length_map, List.length_range]

theorem tame_s {z : Str} (h : PyData.strOk z = true) : tame (.str z) = true := by simp [tame, PyData.canLay0, PyData.depth, h]
theorem eqv_s (a b : Str) : PyData.eqv (.str a) (.str b) = decide (a = b) := by
  rw [PyData.eqv]
  by_cases e : a = b
  · rw [e]; simp
  · rw [decide_eq_false e]; simpa using e
theorem cutD_to (ds : List PyData) (k : Nat) : cutD ds none (some (k : Int)) = ds.take k := by
  unfold cutD
  rw [HT.sIx_nat, HT.sIx_none, List.drop_zero, Nat.sub_zero]
  by_cases h : k ≤ ds.length
  · rw [Nat.min_eq_left h]
  · rw [Nat.min_eq_right (by omega), List.take_of_length_le (Nat.le_refl _), List.take_of_length_le (by omega)]
theorem cutD_from (ds : List PyData) (k : Nat) : cutD ds (some (k : Int)) none = ds.drop k := by
  unfold cutD
  rw [HT.sIx_nat, HT.sIx_none]
  by_cases h : k ≤ ds.length
  · rw [Nat.min_eq_left h, List.take_of_length_le (by rw [List.length_drop]; omega)]
  · rw [Nat.min_eq_right (by omega), List.drop_of_length_le (Nat.le_refl _), List.drop_of_length_le (by omega), List.take_nil]
theorem cutD_last (ds : List PyData) : cutD ds none (some (-1)) = ds.dropLast := by
  unfold cutD
  rw [HT.sIx_none, List.drop_zero, Nat.sub_zero, List.dropLast_eq_take]
  have e : HT.sIx ds.length ds.length (some (-1)) = ds.length - 1 := by
    show (if (-1 : Int) < 0 then (-1 + (ds.length : Int)).toNat else min (-1 : Int).toNat ds.length) = ds.length - 1
    rw [if_pos (by decide)]
    omega
  rw [e]
theorem at_last {α : Type} {xs : List α} {x : α} (h : xs.getLast? = some x) : atI xs (-1) = some x := by
  unfold atI ixN
  rw [if_neg (by decide)]
  have l : xs ≠ [] := fun e => by rw [e] at h; cases h
  have l2 := List.length_pos_iff.mpr l
  rw [if_pos (by omega)]
  show xs[(-1 + (xs.length : Int)).toNat]? = some x
  rw [List.getLast?_eq_getElem?] at h
  rw [← h]
  congr 1
  omega
theorem at_0 {α : Type} {xs : List α} {x : α} : atI (x :: xs) 0 = some x := atI_nat (j := 0) rfl
theorem at_1 {α : Type} {xs : List α} {x y : α} : atI (y :: x :: xs) 1 = some x := atI_nat (j := 1) rfl

def lenOf : PyData → Option Nat
  | .list ds => some ds.length
  | .tuple ds => some ds.length
  | .str z => if z.length ≤ 10000000 then some z.length else none
  | _ => none
theorem f_len {d : PyData} {k : Nat} {R : PyData → Prop} (hl : lenOf d = some k) (r : R (.int k)) : fLen [d] R := by
  cases d with
  | list ds => cases hl; exact r
  | tuple ds => cases hl; exact r
  | str z =>
    by_cases h : z.length ≤ 10000000
    · rw [lenOf, if_pos h] at hl
      cases hl
      exact ⟨h, r⟩
    · rw [lenOf, if_neg h] at hl
      cases hl
  | _ => cases hl
theorem len_seqD {d : PyData} {ds : List PyData} (h : seqD d = some ds) : lenOf d = some ds.length := by
  cases d <;> cases h <;> rfl
theorem len_str {z : Str} (h : z.length ≤ 10000000) : lenOf (.str z) = some z.length := if_pos h
theorem items_seqD {d : PyData} {ds : List PyData} (h : seqD d = some ds) : itemsD d = some ds := by
  cases d <;> cases h <;> rfl
theorem f_ix {d e x : PyData} {ds : List PyData} {R : PyData → Prop} {i : Int} (h : seqD d = some ds) (he : e = .int i) (a : atI ds i = some x) (r : R x) : fIx d e R := by
  refine ⟨i, he, ?_⟩
  cases d <;> cases h <;> exact ⟨x, a, r⟩
theorem q_len_btw {g g' : Int → Int → Bool} {h h' : Str → Str → Bool} {lo hi : Int} {i n k : Nat} {ρ : List DS} {R : QD} {d : PyData} (hv : ρ[i]? = some (DS.d d)) (hl : lenOf d = some k) (r : R (.bool (g lo k && g' k hi)) n) :
    qChain (fOrd g h) (fOrd g' h') (qC (.int lo)) (qCB fLen (qCons (qVar i) qNil)) (qC (.int hi)) ρ n R := by
  unfold qChain qCB qCons qVar qNil qC
  refine ⟨d, hv, f_len hl ⟨g lo k, rfl, ?_⟩⟩
  cases e : g lo k with
  | true => rw [e] at r; exact r
  | false => rw [e] at r; exact r
theorem q_len_ord {g : Int → Int → Bool} {h : Str → Str → Bool} {hi : Int} {i n k : Nat} {ρ : List DS} {R : QD} {d : PyData} (hv : ρ[i]? = some (DS.d d)) (hl : lenOf d = some k) (r : R (.bool (g k hi)) n) :
    qOp (fOrd g h) (qCB fLen (qCons (qVar i) qNil)) (qC (.int hi)) ρ n R := by
  unfold qOp qCB qCons qVar qNil qC
  exact ⟨d, hv, f_len hl r⟩
theorem q_len_eq {hi : Int} {i n k : Nat} {ρ : List DS} {R : QD} {d : PyData} (hv : ρ[i]? = some (DS.d d)) (hl : lenOf d = some k) (r : R (.bool (decide ((k : Int) = hi))) n) :
    qOp fEq (qCB fLen (qCons (qVar i) qNil)) (qC (.int hi)) ρ n R := by
  unfold qOp qCB qCons qVar qNil qC
  exact ⟨d, hv, f_len hl ⟨rfl, rfl, r⟩⟩
def tm (n : Nat) (e : PyData) : Bool := e.canLay0 && decide (e.depth ≤ n)
theorem tm_tame {n : Nat} {e : PyData} (h : tm n e = true) (l : n ≤ 5) : tame e = true := by
  unfold tm at h
  rw [Bool.and_eq_true, decide_eq_true_iff] at h
  unfold tame
  rw [h.1, decide_eq_true (by omega)]
  rfl
theorem tm_all {n : Nat} : ∀ {ds : List PyData}, (∀ y ∈ ds, tm n y = true) → PyData.canLayAll0 ds = true ∧ PyData.depthAll ds ≤ n
  | [], _ => ⟨by simp [PyData.canLayAll0], by simp [PyData.depthAll]⟩
  | d :: ds, h => by
    obtain ⟨h1, h2⟩ := tm_all fun y hy => h y (List.mem_cons_of_mem _ hy)
    have h0 := h d List.mem_cons_self
    unfold tm at h0
    rw [Bool.and_eq_true, decide_eq_true_iff] at h0
    exact ⟨by simp only [PyData.canLayAll0, h0.1, h1, Bool.and_self], by simp only [PyData.depthAll]; omega⟩
theorem tm_seq {n : Nat} {d : PyData} {ds : List PyData} (e : seqD d = some ds) (h : ∀ y ∈ ds, tm n y = true) : tm (n + 1) d = true := by
  obtain ⟨h1, h2⟩ := tm_all h
  unfold tm
  rw [Bool.and_eq_true, decide_eq_true_iff]
  cases d <;> cases e <;> exact ⟨by simp only [PyData.canLay0, h1], by simp only [PyData.depth]; omega⟩
theorem tm_str {n : Nat} {z : Str} (h : PyData.strOk z = true) : tm n (.str z) = true := by simp [tm, PyData.canLay0, PyData.depth, h]
theorem str_of_tm {n : Nat} {z : Str} (h : tm n (.str z) = true) : PyData.strOk z = true := by
  unfold tm at h
  rw [Bool.and_eq_true] at h
  simpa [PyData.canLay0] using h.1
/-- no item of it is long, none odd -/
def okB2 (d : PyData) : Bool := match seqD d with
  | none => true
  | some es => decide (es.length ≤ 10000000) && es.all fun y => tm 3 y && match y with | .str z => decide (z.length ≤ 1000000) | _ => true
def okB1 (d : PyData) : Bool := match seqD d with
  | none => true
  | some ds => decide (ds.length ≤ 10000000) && ds.all okB2
theorem ok2_of {d : PyData} {es : List PyData} (h : okB2 d = true) (e : seqD d = some es) : es.length ≤ 10000000 ∧ ∀ y ∈ es, tm 3 y = true ∧ ∀ z, y = .str z → z.length ≤ 1000000 := by
  unfold okB2 at h
  rw [e] at h
  have h : (decide (es.length ≤ 10000000) && es.all fun y => tm 3 y && match y with | .str z => decide (z.length ≤ 1000000) | _ => true) = true := h
  rw [Bool.and_eq_true] at h
  refine ⟨of_decide_eq_true h.1, fun y hy => ?_⟩
  have q := List.all_eq_true.mp h.2 y hy
  rw [Bool.and_eq_true] at q
  exact ⟨q.1, fun z ez => by subst ez; exact of_decide_eq_true q.2⟩
theorem ok1_of {d : PyData} {ds : List PyData} (h : okB1 d = true) (e : seqD d = some ds) : ds.length ≤ 10000000 ∧ ∀ x ∈ ds, okB2 x = true := by
  unfold okB1 at h
  rw [e] at h
  have h : (decide (ds.length ≤ 10000000) && ds.all okB2) = true := h
  rw [Bool.and_eq_true] at h
  exact ⟨of_decide_eq_true h.1, List.all_eq_true.mp h.2⟩
theorem signs_ok {z : Str} (h : PyData.strOk z = true) : ∀ c ∈ z.cps.toList, PyData.strOk ⟨#[c]⟩ = true := fun c hc => by
  have q : z.cps.all (· < 0x110000) = true := h
  rw [← Array.all_toList, List.all_eq_true] at q
  show (#[c] : Array Nat).all (· < 0x110000) = true
  simpa using q c hc
theorem sign_memD {z : Str} {x : PyData} (h : x ∈ signsD z) : ∃ c, c ∈ z.cps.toList ∧ x = .str ⟨#[c]⟩ := by
  obtain ⟨c, hc, e⟩ := List.mem_map.mp h
  exact ⟨c, hc, e.symm⟩
theorem signs_len (z : Str) : (signsD z).length = z.length := by
  unfold signsD
  rw [List.length_map, Array.length_toList]
  rfl
/-- a text's signs that p keeps: are there some -/
theorem signs_keep (p : Nat → Bool) (q : PyData → Bool) (hq : ∀ c, q (.str ⟨#[c]⟩) = p c) (z : Str) : ((signsD z).filter q) = ((z.cps.toList.filter p).map fun c => PyData.str ⟨#[c]⟩) := by
  unfold signsD
  rw [List.filter_map]
  congr 1
  exact List.filter_congr fun c _ => hq c
theorem tame_signs {z : Str} (h : PyData.strOk z = true) (p : Nat → Bool) : tame (.list ((z.cps.toList.filter p).map fun c => PyData.str ⟨#[c]⟩)) = true := by
  have a : ∀ y ∈ ((z.cps.toList.filter p).map fun c => (⟨#[c]⟩ : Str)), PyData.strOk y = true := fun y hy => by
    obtain ⟨c, hc, rfl⟩ := List.mem_map.mp hy
    exact signs_ok h c (List.mem_filter.mp hc).1
  have e : ((z.cps.toList.filter p).map fun c => PyData.str ⟨#[c]⟩) = (((z.cps.toList.filter p).map fun c => (⟨#[c]⟩ : Str)).map PyData.str) := by
    rw [List.map_map]
    rfl
  rw [e]
  have ta := tame_strs a
  obtain ⟨c1, c2⟩ := tame_seq ta
  have c3 : PyData.depthAll (((z.cps.toList.filter p).map fun c => (⟨#[c]⟩ : Str)).map PyData.str) = 0 := by
    generalize ((z.cps.toList.filter p).map fun c => (⟨#[c]⟩ : Str)) = l
    induction l with
    | nil => simp [PyData.depthAll]
    | cons x l ih => simp [PyData.depthAll, PyData.depth, ih]
  unfold tame
  simp only [PyData.canLay0, c1, PyData.depth, c3]
  rfl
theorem eqv_nil (l : List PyData) : PyData.eqv (.list l) (.list []) = l.isEmpty := by
  cases l <;> simp [PyData.eqv, PyData.eqvAll]
theorem keep_none (p : Nat → Bool) (z : Str) : ((z.cps.toList.filter p).map fun c => PyData.str ⟨#[c]⟩).isEmpty = z.cps.toList.all fun c => !p c := by
  rw [List.isEmpty_map]
  induction z.cps.toList with
  | nil => rfl
  | cons c l ih =>
    rw [List.filter_cons, List.all_cons]
    cases p c <;> simp [ih]
theorem q_btw_s {lo hi s : Str} {i n : Nat} {ρ : List DS} {R : QD} (hv : ρ[i]? = some (DS.d (.str s))) (r : R (.bool (!ltS s lo && !ltS hi s)) n) :
    qChain (fOrd (fun i j => decide (i ≤ j)) fun a b => !ltS b a) (fOrd (fun i j => decide (i ≤ j)) fun a b => !ltS b a) (qC (.str lo)) (qVar i) (qC (.str hi)) ρ n R := by
  refine ⟨_, hv, ⟨!ltS s lo, rfl, ?_⟩⟩
  cases e : ltS s lo with
  | true => rw [e] at r; exact r
  | false => rw [e] at r; exact r
theorem q_ix {i n : Nat} {k : Int} {ρ : List DS} {R : QD} {d x : PyData} {es : List PyData} (hv : ρ[i]? = some (DS.d d)) (he : seqD d = some es) (a : atI es k = some x) (r : R x n) : qOp fIx (qVar i) (qC (.int k)) ρ n R := by
  unfold qOp qVar qC
  exact ⟨d, hv, f_ix he rfl a r⟩
theorem q_it_eq {i n : Nat} {k : Int} {ρ : List DS} {R : QD} {d x : PyData} {es : List PyData} {w : Str} (hv : ρ[i]? = some (DS.d d)) (he : seqD d = some es) (a : atI es k = some x) (tx : tame x = true) (tw : PyData.strOk w = true) (r : R (.bool (PyData.eqv x (.str w))) n) :
    qOp fEq (qOp fIx (qVar i) (qC (.int k))) (qC (.str w)) ρ n R := by
  unfold qOp qVar qC
  exact ⟨d, hv, f_ix he rfl a ⟨tx, tame_s tw, r⟩⟩
theorem q_it_ne {i n : Nat} {k : Int} {ρ : List DS} {R : QD} {d x : PyData} {es : List PyData} {w : Str} (hv : ρ[i]? = some (DS.d d)) (he : seqD d = some es) (a : atI es k = some x) (tx : tame x = true) (tw : PyData.strOk w = true) (r : R (.bool (!PyData.eqv x (.str w))) n) :
    qOp fNe (qOp fIx (qVar i) (qC (.int k))) (qC (.str w)) ρ n R := by
  unfold qOp qVar qC
  exact ⟨d, hv, f_ix he rfl a ⟨tx, tame_s tw, r⟩⟩
theorem q_it_is {i n : Nat} {k : Int} {ρ : List DS} {R : QD} {d x : PyData} {es : List PyData} {p : PyData → Bool} (hv : ρ[i]? = some (DS.d d)) (he : seqD d = some es) (a : atI es k = some x) (r : R (.bool (p x)) n) : qIs p (qOp fIx (qVar i) (qC (.int k))) ρ n R := by
  unfold qIs qOp qVar qC
  exact ⟨d, hv, f_ix he rfl a r⟩
theorem q_it_in {i n : Nat} {k : Int} {ρ : List DS} {R : QD} {d x : PyData} {es : List PyData} {neg : Bool} {w1 w2 : Str} (hv : ρ[i]? = some (DS.d d)) (he : seqD d = some es) (a : atI es k = some x) (tx : tame x = true) (t1 : PyData.strOk w1 = true) (t2 : PyData.strOk w2 = true)
    (r : R (.bool (if neg then !inD x [.str w1, .str w2] else inD x [.str w1, .str w2])) n) : qOp (fInV neg) (qOp fIx (qVar i) (qC (.int k))) (qTup (qCons (qC (.str w1)) (qCons (qC (.str w2)) qNil))) ρ n R := by
  unfold qOp qVar qTup qCons qNil qC
  refine ⟨d, hv, f_ix he rfl a ⟨by simp, ?_⟩⟩
  have q : tame x = true ∧ [PyData.str w1, .str w2].all tame = true ∧ R (.bool (if neg then !inD x [.str w1, .str w2] else inD x [.str w1, .str w2])) n := ⟨tx, by simp [tame_s t1, tame_s t2], r⟩
  cases x <;> exact q
theorem q_ord_btw {g g' : Int → Int → Bool} {h h' : Str → Str → Bool} {lo hi : Int} {i n c : Nat} {ρ : List DS} {R : QD} (hv : ρ[i]? = some (DS.d (.str ⟨#[c]⟩))) (r : R (.bool (g lo c && g' c hi)) n) :
    qChain (fOrd g h) (fOrd g' h') (qC (.int lo)) (qCB fOrdS (qCons (qVar i) qNil)) (qC (.int hi)) ρ n R := by
  refine ⟨_, hv, rfl, ⟨g lo c, rfl, ?_⟩⟩
  cases e : g lo c with
  | true => rw [e] at r; exact r
  | false => rw [e] at r; exact r
theorem q_ord_eq {k : Int} {i n c : Nat} {ρ : List DS} {R : QD} (hv : ρ[i]? = some (DS.d (.str ⟨#[c]⟩))) (r : R (.bool (decide ((c : Int) = k))) n) :
    qOp fEq (qCB fOrdS (qCons (qVar i) qNil)) (qC (.int k)) ρ n R := ⟨_, hv, rfl, rfl, rfl, r⟩
theorem eqv_emptyT {d : PyData} {es : List PyData} (h : PyData.eqv d (.tuple []) = true) (e : seqD d = some es) : es = [] := by
  cases d <;> cases e
  · simp [PyData.eqv] at h
  · cases es with
    | nil => rfl
    | cons a b => simp [PyData.eqv, PyData.eqvAll] at h
theorem eqv_emptyL {d : PyData} {es : List PyData} (h : PyData.eqv d (.list []) = true) (e : seqD d = some es) : es = [] := by
  cases d <;> cases e
  · cases es with
    | nil => rfl
    | cons a b => simp [PyData.eqv, PyData.eqvAll] at h
  · simp [PyData.eqv] at h
theorem not_empty {d : PyData} {es : List PyData} (h : ¬ PyData.eqv d (.tuple []) = true) (h2 : ¬ PyData.eqv d (.list []) = true) (e : seqD d = some es) : es ≠ [] := fun q => by
  subst q
  cases d <;> cases e
  · exact h2 (by simp [PyData.eqv, PyData.eqvAll])
  · exact h (by simp [PyData.eqv, PyData.eqvAll])
theorem eqv_str_not {x : PyData} {w : Str} (h : isStrD x = false) : PyData.eqv x (.str w) = false := by
  cases x <;> first | (simp [PyData.eqv]; done) | cases h
theorem in_strs {x : PyData} {w1 w2 : Str} : inD x [.str w1, .str w2] = match x with | .str z => (decide (z = w1) || decide (z = w2)) | _ => false := by
  unfold inD
  cases x with
  | str z =>
    simp only [List.any_cons, List.any_nil, Bool.or_false, eqv_s]
    congr 1
    · exact decide_eq_decide.mpr ⟨Eq.symm, Eq.symm⟩
    · exact decide_eq_decide.mpr ⟨Eq.symm, Eq.symm⟩
  | _ => simp [PyData.eqv]

theorem okB1_of {d : PyData} {ds : List PyData} (e : seqD d = some ds) (l : ds.length ≤ 10000000) (h : ∀ x ∈ ds, okB2 x = true) : okB1 d = true := by
  unfold okB1
  rw [e]
  show (decide (ds.length ≤ 10000000) && ds.all okB2) = true
  rw [decide_eq_true l, Bool.true_and]
  exact List.all_eq_true.mpr h
theorem okB1_atom {d : PyData} (e : seqD d = none) : okB1 d = true := by
  unfold okB1
  rw [e]
theorem okB2_atom {d : PyData} (e : seqD d = none) : okB2 d = true := by
  unfold okB2
  rw [e]
theorem okB2_strs {d : PyData} {ns : List Str} (e : seqD d = some (ns.map PyData.str)) (l : ns.length ≤ 10000000) (h : ∀ z ∈ ns, PyData.strOk z = true ∧ z.length ≤ 1000000) : okB2 d = true := by
  unfold okB2
  rw [e]
  show (decide _ && List.all _ _) = true
  rw [decide_eq_true (by rw [List.length_map]; exact l), Bool.true_and, List.all_map, List.all_eq_true]
  intro z hz
  show (tm 3 (.str z) && decide (z.length ≤ 1000000)) = true
  rw [tm_str (h z hz).1, decide_eq_true (h z hz).2]
  rfl

theorem law_data {K : PySem.W.Frag} {t : TDS} {a0 p b : Addr} {cs : List Int} {H1 : Hp} {Q : VK} {m : Nat} (S1 : Sx p b cs 0 H1) (k : ∀ H', Q (.bl true) H') (q : t (.no :: .dr :: List.replicate m DS.no) 0 (fun _ _ => False) (fun y _ => y = .bool true)) :
    tDs K none t { nx := fun _ H' => Q .non H', rt := Q } (some (.ref a0) :: some (.ref p) :: List.replicate m none) H1 :=
  ⟨drawF (· = p) p b cs rfl, _, 0, _, _, .cons (s := .no) trivial (.cons (s := .dr) ⟨p, rfl, rfl⟩ (no_env m)), ⟨S1, fun c e => by subst e; exact S1.atl⟩, q, fun _ _ z => z.elim, fun d n e v H' _ _ w => by subst e; cases w; exact k H'⟩
theorem okr_bool (b : Bool) : okRepr (.bool b) := by cases b <;> exact ⟨by decide +kernel, by decide +kernel, by decide +kernel, by decide +kernel, by decide +kernel⟩
theorem okr_two (a b : Bool) : okRepr (.list [.bool a, .bool b]) := by cases a <;> cases b <;> exact ⟨by decide +kernel, by decide +kernel, by decide +kernel, by decide +kernel, by decide +kernel⟩
theorem okr_three (a : Bool) : okRepr (.list [.bool a, .bool a, .bool a]) := by cases a <;> exact ⟨by decide +kernel, by decide +kernel, by decide +kernel, by decide +kernel, by decide +kernel⟩
theorem tm_bool (b : Bool) : tame (.str (PyData.bool b).shown) = true := by cases b <;> decide +kernel
theorem tm_two (a b : Bool) : tame (.str (PyData.list [.bool a, .bool b]).shown) = true := by cases a <;> cases b <;> decide +kernel
theorem tm_three (a : Bool) : tame (.str (PyData.list [.bool a, .bool a, .bool a]).shown) = true := by cases a <;> decide +kernel
theorem ne_self {z : Str} : (!PyData.eqv (.str z) (.str z)) = false := by rw [eqv_s, decide_eq_true rfl]; rfl


def okSomeS (d : PyData) : Prop := okSome d ∨ ∃ z : Str, d = .str z ∧ 0 < z.length ∧ z.length ≤ 1000
def oneOfS (d y : PyData) : Prop := oneOf d y ∨ ∃ (z : Str) (c : Nat), d = .str z ∧ y = .str ⟨#[c]⟩ ∧ c ∈ z.cps.toList
theorem oneL {xs : List PyData} {y : PyData} (h : oneOfS (.list xs) y) : oneOf (.list xs) y := h.elim id fun ⟨_, _, e, _⟩ => by cases e
theorem oneT {z : Str} {y : PyData} (h : oneOfS (.str z) y) : ∃ c, y = .str ⟨#[c]⟩ ∧ c ∈ z.cps.toList := by
  rcases h with ⟨xs, e, _⟩ | ⟨u, c, e, h1, h2⟩
  · cases e
  · cases e
    exact ⟨c, h1, h2⟩
def tupS (ns : List Str) : PyData := .tuple (ns.map PyData.str)
def isN (d : PyData) : Prop := ∃ z, d = .str z ∧ nameD (.str z) = true
def isSp (d : PyData) : Prop := ∃ ns, d = tupS ns ∧ ns.length ≤ 6 ∧ ∀ z ∈ ns, nameD (.str z) = true
theorem name_str {z : Str} : nameD (.str z) = ((decide (1 ≤ z.length) && decide (z.length ≤ 12)) && z.cps.toList.all nameSign) := rfl
theorem name_not {d : PyData} (h : isStrD d = false) : nameD d = false := by
  cases d <;> first | rfl | cases h
theorem sign_name (c : Nat) : decide (c ∈ ("abcdefghijklmnopqrstuvwxyz0123456789" : Str).cps.toList) = nameSign c := by
  have e : ("abcdefghijklmnopqrstuvwxyz0123456789" : Str).cps.toList = (List.range 26).map (97 + ·) ++ (List.range 10).map (48 + ·) := by decide +kernel
  rw [e]
  unfold nameSign
  rw [Bool.eq_iff_iff, decide_eq_true_iff, Bool.or_eq_true, Bool.and_eq_true, Bool.and_eq_true, decide_eq_true_iff, decide_eq_true_iff, decide_eq_true_iff, decide_eq_true_iff, List.mem_append, List.mem_map, List.mem_map]
  constructor
  · rintro (⟨i, h, rfl⟩ | ⟨i, h, rfl⟩)
    · have := List.mem_range.mp h; omega
    · have := List.mem_range.mp h; omega
  · rintro (h | h)
    · exact .inl ⟨c - 97, List.mem_range.mpr (by omega), by omega⟩
    · exact .inr ⟨c - 48, List.mem_range.mpr (by omega), by omega⟩
/-- signs, one behind another -/
def ofSigns (cs : List Nat) : List Str := cs.map fun c => ⟨#[c]⟩
theorem join_signs (cs : List Nat) : Txt.join "" (ofSigns cs) = ⟨cs.toArray⟩ := TL.ext_tl (by
  rw [show TL.tl (Txt.join "" (ofSigns cs)) = cs from tl_join_signs cs])


def PSpotL : FD := fun ds R => ds = [.int 0] ∧ ∀ y, isSp y → R y


def okN (d : PyData) : Prop := ∀ z, d = .str z → z.length ≤ 1000000 ∧ PyData.strOk z = true
def PIsName : FD := fun ds R => ∃ d, ds = [d] ∧ okN d ∧ R (.bool (nameD d))
def badN : PyData → Bool
  | .str s => !nameSign (s.cps.getD 0 0)
  | _ => false
def okNB : PyData → Bool
  | .str z => decide (z.length ≤ 1000) && PyData.strOk z
  | _ => true
theorem okN_of {d : PyData} (h : okNB d = true) : okN d := fun z e => by
  subst e
  have h : (decide (z.length ≤ 1000) && PyData.strOk z) = true := h
  rw [Bool.and_eq_true, decide_eq_true_iff] at h
  exact ⟨by omega, h.2⟩
/-- items short, texts well-formed -/
def okI (d : PyData) : Bool := match seqD d with
  | none => true
  | some es => decide (es.length ≤ 100) && es.all okNB
theorem okI_of {d : PyData} {es : List PyData} (h : okI d = true) (e : seqD d = some es) : es.length ≤ 100 ∧ ∀ y ∈ es, okNB y = true := by
  unfold okI at h
  rw [e] at h
  have h : (decide (es.length ≤ 100) && es.all okNB) = true := h
  rw [Bool.and_eq_true, decide_eq_true_iff] at h
  exact ⟨h.1, List.all_eq_true.mp h.2⟩
theorem okI_short {d : PyData} (h : okI d = true) : shortD d := fun ds e x hx => by
  have q := (okN_of ((okI_of h e).2 _ hx)) x rfl
  exact q.1
theorem okI_few {d : PyData} (h : okI d = true) : fewD d := fun ds e => by
  have := (okI_of h e).1
  omega
def PIsSpot : FD := fun ds R => ∃ d, ds = [d] ∧ okI d = true ∧ R (.bool (spotD d))
theorem spot_len {d : PyData} {ds : List PyData} (h : seqD d = some ds) (l : ¬ ds.length ≤ 6) : spotD d = false := by
  rw [spot_some h, decide_eq_false l]
  rfl
theorem none_all {ds : List PyData} (p : PyData → Bool) : ((ds.filter fun x => !p x).map id).isEmpty = ds.all p := by
  rw [List.map_id]
  induction ds with
  | nil => rfl
  | cons x r ih =>
    rw [List.filter_cons, List.all_cons]
    cases p x <;> simp [ih]


def PIsValue : FD := fun ds R => ∃ d, ds = [d] ∧ okI d = true ∧ R (.bool (valueD d))
def badT : PyData → Bool
  | .str s => (ltS s " " || ltS "~" s) || decide (((s.cps.getD 0 0 : Nat) : Int) = 37)
  | _ => false
theorem lt_one (a b : Nat) : ltS ⟨#[a]⟩ ⟨#[b]⟩ = decide (a < b) := by
  unfold ltS
  congr 1
  simp [List.cons_lt_cons_iff]
theorem badT_sign (c : Nat) : badT (.str ⟨#[c]⟩) = !textSign c := by
  show ((ltS ⟨#[c]⟩ ⟨#[32]⟩ || ltS ⟨#[126]⟩ ⟨#[c]⟩) || decide (((c : Nat) : Int) = 37)) = _
  rw [lt_one, lt_one]
  unfold textSign
  have e3 : decide (((c : Nat) : Int) = 37) = decide (c = 37) := decide_eq_decide.mpr (by omega)
  have e1 : decide (c < 32) = !decide (32 ≤ c) := by rw [Bool.eq_iff_iff]; simp
  have e2 : decide (126 < c) = !decide (c ≤ 126) := by rw [Bool.eq_iff_iff]; simp
  rw [e1, e2, e3]
  cases decide (32 ≤ c) <;> cases decide (c ≤ 126) <;> cases decide (c = 37) <;> rfl
theorem text_str {z : Str} : textD (.str z) = (decide (z.length ≤ 60) && z.cps.toList.all textSign) := rfl
theorem text_not {d : PyData} (h : isStrD d = false) : textD d = false := by
  cases d <;> first | rfl | cases h
theorem ok_none : PyData.strOk ("none" : Str) = true := by decide +kernel
theorem ok_folder : PyData.strOk ("folder" : Str) = true := by decide +kernel
theorem ok_file : PyData.strOk ("file" : Str) = true := by decide +kernel
theorem value_two {x e : PyData} : valueL [x, e] = (PyData.eqv x (.str "file") && textD e) := by
  cases x with
  | str z => rw [eqv_s]; rfl
  | _ => simp [PyData.eqv, valueL]
theorem value_one {x : PyData} : valueL [x] = inD x [.str "none", .str "folder"] := by
  rw [in_strs]
  cases x <;> rfl
theorem in_12 {k : Nat} : inD (.int (k : Int)) [.int 1, .int 2] = (decide (1 ≤ k) && decide (k ≤ 2)) := by
  unfold inD
  simp only [List.any_cons, List.any_nil, PyData.eqv, Bool.or_false]
  rw [Bool.eq_iff_iff, Bool.or_eq_true, Bool.and_eq_true, decide_eq_true_iff, decide_eq_true_iff, beq_iff_eq, beq_iff_eq]
  omega
theorem q_op {f : PyData → PyData → (PyData → Prop) → Prop} {ta tb : TD} {ρ : List DS} {n : Nat} {R : QD} (h : ta ρ n fun dx n1 => tb ρ n1 fun dy n2 => f dx dy fun d => R d n2) : qOp f ta tb ρ n R := h
theorem q_lc_ix {vs : List Nat} {f : PyData → List DS → (List DS → Prop) → Prop} {tt : TDB} {te : TD} {i n : Nat} {k : Int} {ρ : List DS} {R : QD} {d x : PyData} {es ds : List PyData} (hv : ρ[i]? = some (DS.d d)) (he : seqD d = some es) (a : atI es k = some x) (hx : itemsD x = some ds)
    (r : ds.length ≤ 10000000 ∧ ∃ A : Nat → List PyData → Nat → Prop, A 0 [] n ∧ (∀ i x acc m, ds[i]? = some x → A i acc m → f x (wipeD ρ vs) fun ρ' => tt ρ' m fun b m' => if b = true then te ρ' m' fun y m'' => A (i + 1) (acc ++ [y]) m'' else A (i + 1) acc m') ∧
      ∀ acc m, A ds.length acc m → acc.length ≤ ds.length → R (.list acc) m) : qLc vs f (qItU (qOp fIx (qVar i) (qC (.int k)))) tt te ρ n R := by
  unfold qLc qItU qOp qVar qC
  exact ⟨d, hv, f_ix he rfl a ⟨ds, hx, r⟩⟩
theorem q_len_in {i n k : Nat} {neg : Bool} {a b : PyData} {ρ : List DS} {R : QD} {d : PyData} (hv : ρ[i]? = some (DS.d d)) (hl : lenOf d = some k) (t : [a, b].all tame = true) (r : R (.bool (if neg then !inD (.int (k : Int)) [a, b] else inD (.int (k : Int)) [a, b])) n) :
    qOp (fInV neg) (qCB fLen (qCons (qVar i) qNil)) (qTup (qCons (qC a) (qCons (qC b) qNil))) ρ n R := by
  unfold qOp qCB qCons qVar qNil qC qTup
  exact ⟨d, hv, f_len hl ⟨by simp, rfl, t, r⟩⟩
theorem q_ix_len_ord {g : Int → Int → Bool} {h : Str → Str → Bool} {hi j : Int} {i n k : Nat} {ρ : List DS} {R : QD} {d x : PyData} {es : List PyData} (hv : ρ[i]? = some (DS.d d)) (he : seqD d = some es) (a : atI es j = some x) (hl : lenOf x = some k) (r : R (.bool (g k hi)) n) :
    qOp (fOrd g h) (qCB fLen (qCons (qOp fIx (qVar i) (qC (.int j))) qNil)) (qC (.int hi)) ρ n R := by
  unfold qOp qCB qCons qVar qNil qC
  exact ⟨d, hv, f_ix he rfl a (f_len hl r)⟩
theorem q_nis {i n : Nat} {k : Int} {ρ : List DS} {R : Bool → Nat → Prop} {d x : PyData} {es : List PyData} {p : PyData → Bool} (hv : ρ[i]? = some (DS.d d)) (he : seqD d = some es) (a : atI es k = some x) (r : R (!(p x)) n) : qNot (qB (qIs p (qOp fIx (qVar i) (qC (.int k))))) ρ n R := by
  unfold qNot qB qIs qOp qVar qC
  exact ⟨d, hv, f_ix he rfl a ⟨_, rfl, r⟩⟩
theorem tame_12 : [PyData.int 1, PyData.int 2].all tame = true := by decide +kernel


/-- can be shown, nested at most n deep, of at most w -/
def fine (n w : Nat) (d : PyData) : Bool := toldD d && (d.showable && (decide (d.depth ≤ n) && (PyData.leavesShort 8 d && decide (PyData.weight d ≤ w))))
theorem fine_of {n w : Nat} {d : PyData} (h : fine n w d = true) : toldD d = true ∧ d.showable = true ∧ d.depth ≤ n ∧ PyData.leavesShort 8 d = true ∧ PyData.weight d ≤ w := by
  unfold fine at h
  simp only [Bool.and_eq_true, decide_eq_true_eq] at h
  exact h
theorem fine_mk {n w : Nat} {d : PyData} (h : toldD d = true ∧ d.showable = true ∧ d.depth ≤ n ∧ PyData.leavesShort 8 d = true ∧ PyData.weight d ≤ w) : fine n w d = true := by
  unfold fine
  simp only [Bool.and_eq_true, decide_eq_true_eq]
  exact h
theorem fine_more {n w m v : Nat} {d : PyData} (h : fine n w d = true) (a : n ≤ m) (b : w ≤ v) : fine m v d = true := by
  obtain ⟨h1, h2, h3, h4, h5⟩ := fine_of h
  exact fine_mk ⟨h1, h2, by omega, h4, by omega⟩
theorem fine_all {n w : Nat} : ∀ {ds : List PyData}, (∀ y ∈ ds, fine n w y = true) → toldAll ds = true ∧ PyData.showableAll ds = true ∧ PyData.depthAll ds ≤ n ∧ PyData.leavesShortAll 8 ds = true ∧ PyData.weightAll ds ≤ ds.length * (w + 1)
  | [], _ => ⟨by simp [toldAll], by simp [PyData.showableAll], by simp [PyData.depthAll], by simp [PyData.leavesShortAll], by simp [PyData.weightAll]⟩
  | d :: ds, h => by
    obtain ⟨h1, h2, h3, h4, h5⟩ := fine_all fun y hy => h y (List.mem_cons_of_mem _ hy)
    obtain ⟨g1, g2, g3, g4, g5⟩ := fine_of (h d List.mem_cons_self)
    refine ⟨by simp only [toldAll, g1, h1, Bool.and_self], by simp only [PyData.showableAll, g2, h2, Bool.and_self], by simp only [PyData.depthAll]; omega, by simp only [PyData.leavesShortAll, g4, h4, Bool.and_self], ?_⟩
    simp only [PyData.weightAll, List.length_cons, Nat.add_mul]
    omega
theorem fine_seq {n w : Nat} {d : PyData} {ds : List PyData} (e : seqD d = some ds) (h : ∀ y ∈ ds, fine n w y = true) : fine (n + 1) (ds.length * (w + 1)) d = true := by
  obtain ⟨h1, h2, h3, h4, h5⟩ := fine_all h
  cases d <;> cases e
  · exact fine_mk ⟨by simp only [toldD, h1], by simp only [PyData.showable, h2], by simp only [PyData.depth]; omega, by simp only [PyData.leavesShort, h4], by simp only [PyData.weight]; exact h5⟩
  · exact fine_mk ⟨by simp only [toldD, h1], by simp only [PyData.showable, h2], by simp only [PyData.depth]; omega, by simp only [PyData.leavesShort, h4], by simp only [PyData.weight]; exact h5⟩
theorem fine_rep {n w : Nat} {d : PyData} (h : fine n w d = true) (a : n ≤ 64) (b : w ≤ 2 ^ 20) : okRepW d := by
  obtain ⟨h1, h2, h3, h4, h5⟩ := fine_of h
  exact ⟨h1, h2, by omega, PyData.shown_fits (B := 8) (by decide) (by decide) h4 (by omega)⟩
def fineI (y : PyData) : Bool := okNB y && fine 3 100 y
def okVd (d : PyData) : Bool := okI d && fine 4 2000 d
theorem okV_of {d : PyData} (h : okVd d = true) : okI d = true ∧ fine 4 2000 d = true := by
  unfold okVd at h
  rwa [Bool.and_eq_true] at h
theorem all_v {xs : List PyData} {y : PyData} (h : xs.all okVd = true) (m : y ∈ xs) : okVd y = true := List.all_eq_true.mp h y m
theorem okV_seq {d : PyData} {ds : List PyData} (e : seqD d = some ds) (l : ds.length ≤ 14) (h : ∀ y ∈ ds, fineI y = true) : okVd d = true := by
  have h2 : ∀ y ∈ ds, okNB y = true ∧ fine 3 100 y = true := fun y hy => by
    have q := h y hy
    unfold fineI at q
    rwa [Bool.and_eq_true] at q
  unfold okVd okI
  rw [e, fine_more (fine_seq e fun y hy => (h2 y hy).2) (by omega) (by omega), Bool.and_true]
  show (decide (ds.length ≤ 100) && ds.all okNB) = true
  rw [decide_eq_true (by omega), Bool.true_and]
  exact List.all_eq_true.mpr fun y hy => (h2 y hy).1
theorem name_fine {z : Str} (h : nameD (.str z) = true) : fineI (.str z) = true := by
  have l := name_len h
  have s := strOk_signs (name_signs h)
  unfold fineI
  rw [Bool.and_eq_true]
  constructor
  · show (decide (z.length ≤ 1000) && PyData.strOk z) = true
    rw [decide_eq_true (by omega), s]
    rfl
  · refine fine_mk ⟨by simp [toldD], by simp [PyData.showable], by simp [PyData.depth], ?_, ?_⟩
    · have q : z.cps.all (· < 0x110000) = true := s
      rw [← Array.all_toList, List.all_eq_true] at q
      simp only [PyData.leavesShort, List.all_eq_true, decide_eq_true_eq]
      intro c hc
      have := of_decide_eq_true (q c hc)
      omega
    · simp only [PyData.weight]
      have : z.cps.size = z.length := rfl
      omega
theorem names_fine {ns : List Str} (h : ∀ z ∈ ns, nameD (.str z) = true) : ∀ y ∈ ns.map PyData.str, fineI y = true := fun y hy => by
  obtain ⟨z, hz, rfl⟩ := List.mem_map.mp hy
  exact name_fine (h z hz)
def PBent : FD := fun ds R => ∃ ns : List Str, ds = [tupS ns] ∧ ns.length ≤ 6 ∧ (∀ z ∈ ns, nameD (.str z) = true) ∧ ∀ y, okVd y = true → R y


def sgB : PyData → Bool
  | .str z => decide (z.cps.toList.length = 1) && z.cps.toList.all fun c => decide (c < 128)
  | _ => false
theorem sg_of {d : PyData} (h : sgB d = true) : ∃ c, d = .str ⟨#[c]⟩ ∧ c < 128 := by
  cases d with
  | str z =>
    obtain ⟨⟨l⟩⟩ := z
    have h : (decide (l.length = 1) && l.all fun c => decide (c < 128)) = true := h
    rw [Bool.and_eq_true, decide_eq_true_iff] at h
    match l, h with
    | [c], h => exact ⟨c, rfl, by simpa using h.2⟩
  | _ => cases h
theorem low_fine {l : List Nat} (h : l.length ≤ 12) (a : ∀ c ∈ l, c < 128) : fineI (.str ⟨l.toArray⟩) = true := by
  have e : (⟨l.toArray⟩ : Str).length = l.length := by show l.toArray.size = _; simp
  unfold fineI
  rw [Bool.and_eq_true]
  constructor
  · show (decide ((⟨l.toArray⟩ : Str).length ≤ 1000) && PyData.strOk ⟨l.toArray⟩) = true
    rw [decide_eq_true (by omega), Bool.true_and]
    show l.toArray.all (· < 0x110000) = true
    rw [← Array.all_toList, List.all_eq_true]
    intro c hc
    have := a c (by simpa using hc)
    exact decide_eq_true (by omega)
  · refine fine_mk ⟨by simp [toldD], by simp [PyData.showable], by simp [PyData.depth], ?_, ?_⟩
    · simp only [PyData.leavesShort, List.all_eq_true, decide_eq_true_eq]
      intro c hc
      have := a c (by simpa using hc)
      omega
    · simp only [PyData.weight]
      show l.toArray.size ≤ 100
      rw [List.size_toArray]
      omega


theorem eqv_strs : ∀ ns ms : List Str, PyData.eqvAll (ns.map PyData.str) (ms.map PyData.str) = decide (ns = ms)
  | [], [] => by simp [PyData.eqvAll]
  | [], _ :: _ => by simp [PyData.eqvAll]
  | _ :: _, [] => by simp [PyData.eqvAll]
  | n :: ns, m :: ms => by
    have ih := eqv_strs ns ms
    simp only [List.map_cons, PyData.eqvAll, PyData.eqv, ih, List.cons.injEq]
    by_cases e : n = m
    · simp [e]
    · simp [e]
theorem depth_strs : ∀ ns : List Str, PyData.depthAll (ns.map PyData.str) = 0
  | [] => by simp [PyData.depthAll]
  | n :: ns => by simp [PyData.depthAll, PyData.depth, depth_strs ns]
def okS (ns : List Str) : Prop := ∀ z ∈ ns, PyData.strOk z = true
theorem tame_tupS {ns : List Str} (h : okS ns) : tame (tupS ns) = true := by
  obtain ⟨c1, c2⟩ := tame_seq (tame_strs h)
  have c3 := depth_strs ns
  unfold tame tupS
  simp only [PyData.canLay0, c1, PyData.depth, c3]
  rfl
theorem eqv_tupS (a b : List Str) : PyData.eqv (tupS a) (tupS b) = decide (a = b) := by simp only [tupS, PyData.eqv, eqv_strs]
theorem okS_take {ns : List Str} (h : okS ns) (k : Nat) : okS (ns.take k) := fun z hz => h z (List.mem_of_mem_take hz)
theorem okS_names {ns : List Str} (h : ∀ z ∈ ns, nameD (.str z) = true) : okS ns := fun z hz => strOk_signs (name_signs (h z hz))
/-- ms is above ns -/
def aboveB (ms ns : List Str) : Bool := decide (ms.length < ns.length) && decide (ns.take ms.length = ms)
def PBegins : FD := fun ds R => ∃ ns ms : List Str, ds = [tupS ns, tupS ms] ∧ okS ns ∧ okS ms ∧ R (.bool (aboveB ms ns))
/-- all above -/
def upsD (ns : List Str) : PyData := .tuple ((List.range (ns.length - 1)).map fun k => tupS (ns.take (k + 1)))
def PUppers : FD := fun ds R => ∃ ns : List Str, ds = [tupS ns] ∧ ns.length ≤ 6 ∧ R (upsD ns)
def PFix : Nat → FD
  | 0 => fun _ _ => False
  | 1 => fun ds R => ∃ z, ds = [PyData.str z] ∧ R (.str z)
  | _ => fun ds R => ∃ d ns, ds = [d] ∧ seqD d = some (List.map PyData.str ns) ∧ ns.length ≤ 10000000 ∧ R (tupS ns)


def isNs (d : PyData) (ns : List Str) : Prop := seqD d = some (ns.map PyData.str) ∧ ns.length ≤ 6 ∧ ∀ z ∈ ns, nameD (.str z) = true
def PAbove (C : Addr) : FE := fun ds R Rx => ∃ d e, ds = [d, e] ∧ shortD d ∧ shortD e ∧ (spotD d = false → Rx C [("part", .str "one")]) ∧ (spotD d = true → spotD e = false → Rx C [("part", .str "other")]) ∧ ∀ ms ns, isNs d ms → isNs e ns → R (.bool (aboveB ms ns))
def PPath (C : Addr) (f : List Str → PyData) : FE := fun ds R Rx => ∃ d, ds = [d] ∧ shortD d ∧ (pathD d = false → Rx C [("part", .str "path")]) ∧ ∀ ns, ns ≠ [] → isNs d ns → R (f ns)
theorem path_of {d : PyData} (h : pathD d = true) : ∃ ns, ns ≠ [] ∧ isNs d ns := by
  unfold pathD at h
  rw [Bool.and_eq_true] at h
  obtain ⟨ns, hs, l, a⟩ := spot_of h.1
  refine ⟨ns, fun e => ?_, hs, l, a⟩
  have q := h.2
  rw [hs, e] at q
  cases q


/-- an error's part -/
def hxP (CP : Addr) : Addr → List (Str × PyData) → PyData → Prop := fun C fs z => C = CP ∧ ∃ p : Str, fs = [(("part" : Str), PyData.str p)] ∧ z = .str p


def PAboveR : FD := fun ds R => ∃ d e, ds = [d, e] ∧ okVd d = true ∧ okVd e = true ∧ R (.bool true)
theorem one_rep (a : Bool) : okRepW (.bool a) := by cases a <;> exact fine_rep (n := 2) (w := 100) (by decide +kernel) (by omega) (by omega)
theorem iteF' {b : Bool} {p q : Prop} (h : b = false) (hq : q) : if b = true then p else q := by rw [if_neg (by rw [h]; exact Bool.false_ne_true)]; exact hq
theorem eqv_oo : PyData.eqv (.str "one") (.str "one") = true := by decide +kernel
theorem eqv_tt : PyData.eqv (.str "other") (.str "other") = true := by decide +kernel
theorem snoc_inj {a b : List Str} {x y : Str} : (a ++ [x] = b ++ [y]) ↔ (a = b ∧ x = y) := by
  constructor
  · intro h
    have := congrArg List.reverse h
    simp at this
    exact ⟨this.2, this.1⟩
  · rintro ⟨h1, h2⟩
    rw [h1, h2]
theorem two_of {d : PyData} {L : List PyData} (h : seqD d = some L) : d = .list L ∨ d = .tuple L := by
  cases d <;> cases h
  · exact .inl rfl
  · exact .inr rfl

theorem iteT' {b : Bool} {p q : Prop} (h : b = true) (hp : p) : if b = true then p else q := by rw [if_pos h]; exact hp
theorem showA : ∃ S : PyData → Str, ∀ d : PyData, d.shown = S d := ⟨fun d => d.shown, fun _ => rfl⟩
theorem nn_self (a : Str) : (!decide (a = a)) = false := by rw [decide_eq_true rfl]; rfl
theorem tabs_same {TS : List (Addr × Str)} {H H' : Hp} (t : LamX.Tabs TS H) (s : Same H H') : LamX.Tabs TS H' := t.ext fun b o e => s _ _ e

theorem ns_inj {d : PyData} {ns ms : List Str} (h : isNs d ns) (g : isNs d ms) : ns = ms := by
  have e : ns.map PyData.str = ms.map PyData.str := Option.some.inj (h.1.symm.trans g.1)
  have q := eqv_strs ns ms
  rw [e] at q
  have q2 := eqv_strs ms ms
  rw [q2, decide_eq_true rfl] at q
  exact of_decide_eq_true q.symm
theorem spot_yes {d : PyData} {ns : List Str} (h : isNs d ns) : spotD d = true := by
  rw [spot_some h.1, List.length_map, decide_eq_true h.2.1, Bool.true_and, List.all_map, List.all_eq_true]
  exact h.2.2
theorem path_yes {d : PyData} {ns : List Str} (h : isNs d ns) (n0 : ns ≠ []) : pathD d = true := by
  rw [path_some h.1, spot_yes h, Bool.true_and, List.length_map, decide_eq_true_iff]
  exact List.length_pos_iff.mpr n0
theorem tupS_fine {ns : List Str} (h : ∀ z ∈ ns, nameD (.str z) = true) (l : ns.length ≤ 6) : fine 4 2000 (tupS ns) = true :=
  (okV_of (okV_seq (d := tupS ns) (ds := ns.map PyData.str) rfl (by rw [List.length_map]; omega) (names_fine h))).2
theorem upsD_fine {ns : List Str} (h : ∀ z ∈ ns, nameD (.str z) = true) (l : ns.length ≤ 6) : fine 5 20000 (upsD ns) = true := by
  refine fine_more (fine_seq (d := upsD ns) rfl (n := 4) (w := 2000) fun y hy => ?_) (by omega) (by rw [List.length_map, List.length_range]; omega)
  obtain ⟨k, hk, rfl⟩ := List.mem_map.mp hy
  exact tupS_fine (fun z hz => h z (List.mem_of_mem_take hz)) (by rw [List.length_take]; omega)
theorem pp_true : PyData.eqv (.list [.str "path", .str "path"]) (.list [.str "path", .str "path"]) = true := by decide +kernel
theorem sum_names : ∀ {ns : List Str}, (∀ z ∈ ns, nameD (.str z) = true) → (ns.map (·.length)).sum ≤ 12 * ns.length
  | [], _ => by simp
  | z :: r, h => by
    have ih := sum_names (ns := r) fun y hy => h y (List.mem_cons_of_mem _ hy)
    have q := name_len (h z List.mem_cons_self)
    rw [List.map_cons, List.sum_cons, List.length_cons]
    omega
theorem len_join {ns : List Str} (h1 : ns.length ≤ 6) (h : ∀ z ∈ ns, nameD (.str z) = true) : (ns.map (·.length)).sum + ns.length * ("/" : Str).length ≤ 78 := by
  have q := sum_names h
  have e : ("/" : Str).length = 1 := by decide +kernel
  rw [e]
  omega
theorem joinL_len {S : List Nat} : ∀ l : List (List Nat), (TL.joinL S l).length ≤ (l.map (·.length)).sum + l.length * S.length
  | [] => Nat.zero_le _
  | [p] => by simp [TL.joinL]
  | p :: q :: r => by
    have ih := joinL_len (S := S) (q :: r)
    show (p ++ (S ++ TL.joinL S (q :: r))).length ≤ _
    rw [List.length_append, List.length_append, List.map_cons, List.sum_cons, List.length_cons, Nat.add_mul]
    omega
theorem len_pathT {ns : List Str} (h1 : ns.length ≤ 6) (h : ∀ z ∈ ns, nameD (.str z) = true) : 1 ≤ (pathT ns).length ∧ (pathT ns).length ≤ 79 := by
  have q := len_join h1 h
  have e : ("/" : Str).length = 1 := by decide +kernel
  rw [e] at q
  have w := joinL_len (S := [47]) (ns.map TL.tl)
  have s : ((ns.map TL.tl).map (·.length)).sum = (ns.map (·.length)).sum := by
    rw [List.map_map]
    exact congrArg List.sum (List.map_congr_left fun z _ => (TL.len_tl z).symm)
  rw [s, List.length_map] at w
  have w : (TL.joinL [47] (ns.map TL.tl)).length ≤ (ns.map (·.length)).sum + ns.length * 1 := w
  rw [TL.len_tl, tl_pathT, List.length_cons]
  omega
theorem len_joined {ns : List Str} (h1 : ns.length ≤ 6) (h : ∀ z ∈ ns, nameD (.str z) = true) : (Txt.join "/" ns).length ≤ 78 := by
  have q := (len_pathT h1 h).2
  unfold pathT at q
  have e : ("/" : Str).length = 1 := by decide +kernel
  rw [TL.len_tl, TL.tl_append, List.length_append, ← TL.len_tl, ← TL.len_tl, e] at q
  omega
def readD : PyData → Option (List Str)
  | .str x => readP x
  | _ => none
theorem read_no {d : PyData} (h : isStrD d = false) : readD d = none := by cases d <;> first | rfl | cases h
theorem split_few (r : Str) : (Txt.split r "/").length ≤ r.length + 2 := PyProof.Rows.split_le r "/"
theorem split_short {r z : Str} (h : z ∈ Txt.split r "/") : z.length ≤ r.length := by
  have m : TL.tl z ∈ TL.spl [47] 0 [] (TL.tl r) := by rw [← split_tl]; exact List.mem_map.mpr ⟨z, h, rfl⟩
  have key : ∀ (l acc p : List Nat), p ∈ TL.spl [47] 0 acc l → p.length ≤ acc.length + l.length := by
    intro l
    induction l with
    | nil =>
      intro acc p hp
      rw [TL.spl_nil] at hp
      rw [List.mem_singleton.mp hp]
      omega
    | cons c r ih =>
      intro acc p hp
      rw [List.length_cons]
      cases e : TL.pre [47] (c :: r) with
      | true =>
        rw [TL.spl_hit e] at hp
        rcases List.mem_cons.mp hp with q | q
        · rw [q]; omega
        · have := ih [] p q
          simp at this
          omega
      | false =>
        rw [TL.spl_miss e] at hp
        have := ih _ p hp
        rw [List.length_append, List.length_singleton] at this
        omega
  have q := key _ _ _ m
  rw [TL.len_tl, TL.len_tl]
  simpa using q
theorem cut_short (x : Str) : (cutS x (some 1) none).length ≤ x.length := by
  rw [TL.len_tl, cut_one, List.length_drop, TL.len_tl]
  omega
theorem split_chars {r : Str} (h : ∀ c ∈ TL.tl r, c < 1114112) : ∀ z ∈ Txt.split r "/", PyData.strOk z = true := fun z hz => by
  refine strOk_of fun c hc => ?_
  have m : TL.tl z ∈ TL.spl [47] 0 [] (TL.tl r) := by rw [← split_tl]; exact List.mem_map.mpr ⟨z, hz, rfl⟩
  exact of_decide_eq_true (spl_all1 (q := fun c => decide (c < 1114112)) (TL.tl r) [] (fun c hc => .inr (decide_eq_true (h c hc))) (fun _ m => nomatch m) _ m c hc)
end MT
set_option maxHeartbeats 1000000
/-! lists under way: made by a def, changed by it, and told as data when it is done with them -/
namespace MT
open PySem L2
/-- an item: data, or a list of its own -/
abbrev Itm := V × PyData × Option Addr
/-- a list under way: where it stands, its items -/
abbrev Rt := Addr × List Itm
def adr (r : Rt) : List Addr := r.1 :: r.2.filterMap (·.2.2)
def AtR (Rs : List Rt) (c : Addr) : Prop := ∃ (i : Nat) (r : Rt), Rs[i]? = some r ∧ c ∈ adr r
def ovR (Rs : List Rt) (k : Nat) : V := match Rs[k]? with
  | some r => .ref r.1
  | none => .non
def dR (r : Rt) : PyData := .list (r.2.map (·.2.1))
def ItOk (K : PySem.W.Frag) (M : Addr → Prop) (H : Hp) (i : Itm) : Prop := match i.2.2 with
  | none => Dw K M H i.1 i.2.1
  | some q => ∃ ys ds, i.1 = .ref q ∧ H q = some (.lst ys) ∧ i.2.1 = .list ds ∧ DwAll K M H ys ds
structure RtOk (K : PySem.W.Frag) (M : Addr → Prop) (H : Hp) (r : Rt) : Prop where
  l : H r.1 = some (.lst (r.2.map (·.1)))
  i : ∀ x ∈ r.2, ItOk K M H x
structure NdR (Rs : List Rt) : Prop where
  e : ∀ (i : Nat) r, Rs[i]? = some r → (adr r).Nodup
  d : ∀ (i j : Nat) a b c, Rs[i]? = some a → Rs[j]? = some b → c ∈ adr a → c ∈ adr b → i = j
def MG (W : Fld) (Rs : List Rt) : Addr → Prop := fun c => W.M c ∨ AtR Rs c
structure OwSt (K : PySem.W.Frag) (o : Option TSet) (W : Fld) (H0 H : Hp) (Rs : List Rt) (ρ : List DS) (σ : L2.St) (n : Nat) : Prop where
  env : EnvD K o (MG W Rs) (W.a, W.ts, ovR Rs) ρ σ H
  g : W.G n H
  rel : W.Rel H0 H
  nd : NdR Rs
  out : ∀ c, AtR Rs c → ¬ W.M c ∧ (∃ m H1, W.G m H1 ∧ H1 c = none) ∧ ∀ H' u, W.Rel H0 H' → W.Rel H0 (upd H' c u)
  ok : ∀ (i : Nat) r, Rs[i]? = some r → RtOk K (MG W Rs) H r
section
variable {K : PySem.W.Frag} {o : Option TSet} {W : Fld} {H0 H H' : Hp} {Rs : List Rt} {ρ : List DS} {σ : L2.St} {n n' : Nat} {M N : Addr → Prop}
theorem it_mem {r : Rt} {x : Itm} {q : Addr} (m : x ∈ r.2) (e : x.2.2 = some q) : q ∈ adr r := List.mem_cons_of_mem _ (List.mem_filterMap.mpr ⟨x, m, e⟩)
theorem RtOk.pl {r : Rt} (h : RtOk K M H r) {c : Addr} (m : c ∈ adr r) : ∃ xs, H c = some (.lst xs) := by
  rcases List.mem_cons.mp m with rfl | m
  · exact ⟨_, h.l⟩
  · obtain ⟨x, hx, e⟩ := List.mem_filterMap.mp m
    have q := h.i x hx
    unfold ItOk at q
    rw [e] at q
    obtain ⟨ys, ds, _, h2, _⟩ := q
    exact ⟨ys, h2⟩
theorem OwSt.pl (S : OwSt K o W H0 H Rs ρ σ n) (c : Addr) (m : AtR Rs c) : ∃ xs, H c = some (.lst xs) := by
  obtain ⟨i, r, e, m⟩ := m
  exact (S.ok i r e).pl m
theorem ItOk.bth {x : Itm} (h : ItOk K M H x) (B : Bth K M N H H') (k : ∀ q, x.2.2 = some q → H' q = H q) : ItOk K N H' x := by
  obtain ⟨v, d, a⟩ := x
  cases a with
  | none => exact Dw.bthR B _ _ h
  | some q =>
    obtain ⟨ys, ds, h1, h2, h3, h4⟩ := h
    exact ⟨ys, ds, h1, by rw [k q rfl]; exact h2, h3, DwAll.bthR B _ _ h4⟩
theorem RtOk.bth {r : Rt} (h : RtOk K M H r) (B : Bth K M N H H') (k : ∀ c ∈ adr r, H' c = H c) : RtOk K N H' r :=
  ⟨by rw [k _ List.mem_cons_self]; exact h.l, fun x m => (h.i x m).bth B fun q e => k q (it_mem m e)⟩
/-- all of it as data -/
theorem ItOk.dw {x : Itm} (h : ItOk K M H x) (i : ∀ c u, N c → H c = some u → M c) (k : ∀ q, x.2.2 = some q → ¬ N q) : Dw K N H x.1 x.2.1 := by
  obtain ⟨v, d, a⟩ := x
  cases a with
  | none => exact Dw.more (v := v) h i
  | some q =>
    obtain ⟨ys, ds, h1, h2, h3, h4⟩ := h
    have h1 : v = .ref q := h1
    have h3 : d = .list ds := h3
    subst h1 h3
    exact .lst ⟨k q rfl, h2⟩ (h4.more i)
theorem its_dw (i : ∀ c u, N c → H c = some u → M c) : ∀ {l : List Itm}, (∀ x ∈ l, ItOk K M H x) → (∀ x ∈ l, ∀ q, x.2.2 = some q → ¬ N q) → DwAll K N H (l.map (·.1)) (l.map (·.2.1))
  | [], _, _ => .nil
  | x :: l, h, k => .cons ((h x List.mem_cons_self).dw i (k x List.mem_cons_self)) (its_dw i (fun y m => h y (List.mem_cons_of_mem _ m)) fun y m => k y (List.mem_cons_of_mem _ m))
theorem RtOk.dw {r : Rt} (h : RtOk K M H r) (i : ∀ c u, N c → H c = some u → M c) (k : ∀ c ∈ adr r, ¬ N c) : Dw K N H (.ref r.1) (dR r) :=
  .lst ⟨k _ List.mem_cons_self, h.l⟩ (its_dw i h.i fun x m q e => k q (it_mem m e))
def borK0 (h : List PyData) (k : Nat) : DS := match h[k]? with
  | some d => .d d
  | none => .no
def bor0 (h : List PyData) : DS → DS
  | .ow k => borK0 h k
  | s => s
theorem OwSt.borE (S : OwSt K o W H0 H Rs ρ σ n) : EnvD K o W.M (W.a, W.ts, W.ov) (ρ.map (bor0 (Rs.map dR))) σ H := by
  have main : ∀ (i : Nat) s, (ρ.map (MT.bor0 (Rs.map dR)))[i]? = some s → ∃ t, ρ[i]? = some t ∧ MT.bor0 (Rs.map dR) t = s := fun i s e => by
    rw [List.getElem?_map] at e
    cases q : ρ[i]? with
    | none => rw [q] at e; cases e
    | some t => rw [q] at e; exact ⟨t, rfl, Option.some.inj e⟩
  have ow : ∀ (k : Nat) s, MT.bor0 (Rs.map dR) (.ow k) = s → s = .no ∨ ∃ r, Rs[k]? = some r ∧ s = .d (dR r) := fun k s e => by
    have e : borK0 (Rs.map dR) k = s := e
    unfold borK0 at e
    rw [List.getElem?_map] at e
    cases q : Rs[k]? with
    | none => rw [q] at e; exact .inl e.symm
    | some r => rw [q] at e; exact .inr ⟨r, rfl, e.symm⟩
  refine ⟨by rw [List.length_map]; exact S.env.len, fun i x e => ?_, fun i x e => ?_, fun i e => ?_, fun i k e => ?_, S.env.tse⟩ <;> obtain ⟨t, h1, h2⟩ := main i _ e
  · cases t with
    | d y => cases h2; exact (S.env.dat i _ h1).imp fun v h => ⟨h.1, h.2.more fun c u m _ => .inl m⟩
    | ow k =>
      rcases ow k _ h2 with z | ⟨r, hr, z⟩
      · cases z
      · cases z
        refine ⟨.ref r.1, ?_, (S.ok k r hr).dw (fun c u m _ => .inl m) fun c m => (S.out c ⟨k, r, hr, m⟩).1⟩
        have q := S.env.own i k h1
        have q2 : ovR Rs k = .ref r.1 := by unfold ovR; rw [hr]
        rw [← q2]
        exact q
    | _ => cases h2
  · cases t with
    | v y => cases h2; exact S.env.val i _ h1
    | ow k => rcases ow k _ h2 with z | ⟨r, hr, z⟩ <;> cases z
    | _ => cases h2
  · cases t with
    | dr => exact S.env.drw i h1
    | ow k => rcases ow k _ h2 with z | ⟨r, hr, z⟩ <;> cases z
    | _ => cases h2
  · cases t with
    | ow k => rcases ow k _ h2 with z | ⟨r, hr, z⟩ <;> cases z
    | _ => cases h2
theorem mg_fx (F : Fx W.M H H') : Fx (MG W Rs) H H' := F.mono fun c m => .inl m
theorem OwSt.kept (S : OwSt K o W H0 H Rs ρ σ n) (F : Fx W.M H H') : ∀ c, AtR Rs c → H' c = H c := fun c m => by
  obtain ⟨xs, e⟩ := S.pl c m
  rw [e]
  exact F _ _ (S.out c m).1 e fun _ z => by cases z
theorem OwSt.frm (S : OwSt K o W H0 H Rs ρ σ n) (F : W.Rel H H') (g : W.G n' H') : OwSt K o W H0 H' Rs ρ σ n' :=
  ⟨S.env.frm (mg_fx (W.frm F)), g, W.trans S.rel F, S.nd, S.out, fun i r e => (S.ok i r e).bth (Bth.frm (mg_fx (W.frm F))) fun c m => S.kept (W.frm F) c ⟨i, r, e, m⟩⟩
/-- what is under way stands beside -/
def ownF (W : Fld) (P : Addr → Prop) (Hc : Hp) (ov : Nat → V) (hp : ∀ c, P c → ∃ xs, Hc c = some (.lst xs)) (ho : ∀ c, P c → ¬ W.M c) : Fld where
  M := fun c => W.M c ∨ P c
  G := fun n H => W.G n H ∧ ∀ c, P c → H c = Hc c
  Rel := W.Rel
  a := W.a
  ts := W.ts
  ov := ov
  born := fun r g e => W.born r g.1 e
  lm := fun TS e => by
    obtain ⟨h1, h2⟩ := W.lm TS e
    refine ⟨fun n H g => h1 n H g.1, fun n H H' g x t => ?_⟩
    have q := h2 n H H' g.1 x t
    refine ⟨⟨q.1, fun c m => ?_⟩, q.2⟩
    obtain ⟨xs, e⟩ := hp c m
    rw [e]
    exact x c _ (by rw [g.2 c m]; exact e) fun _ z => by cases z
  trans := W.trans
  of := W.of
  frm := fun F => (W.frm F).mono fun c e => .inl e
  same := fun g s => ⟨W.same g.1 s, fun c m => by
    obtain ⟨xs, e⟩ := hp c m
    rw [e]
    exact s _ _ (by rw [g.2 c m]; exact e)⟩
  al := fun g m => m.elim (fun m => W.al g.1 m) fun m => by
    obtain ⟨xs, e⟩ := hp _ m
    exact ⟨_, by rw [g.2 _ m]; exact e, fun _ z => by cases z⟩
  updR := W.updR
  updG := fun g h q hpl => ⟨W.updG g.1 h q.1 hpl, fun c m => by
    obtain ⟨xs, e⟩ := hp c m
    rw [upd_ne (ne_of_none (o := .lst xs) (by rw [g.2 c m]; exact e) h)]
    exact q.2 c m⟩
  dr := fun x e => by
    obtain ⟨m, b, cs, h1, h2⟩ := W.dr x e
    refine ⟨.inl m, b, cs, fun n H g => h1 n H g.1, fun n n' H H' g F S => ?_⟩
    have q := h2 n n' H H' g.1 F S
    refine ⟨⟨q.1, fun c mc => ?_⟩, q.2⟩
    obtain ⟨xs, e⟩ := hp c mc
    rw [e]
    exact F _ _ (fun z => ho c mc (z ▸ m)) (by rw [g.2 c mc]; exact e)
/-- the field in which a step that leaves what is under way alone is told -/
abbrev OwSt.F (S : OwSt K o W H0 H Rs ρ σ n) : Fld := ownF W (AtR Rs) H (ovR Rs) S.pl fun c m => (S.out c m).1
theorem OwSt.G (S : OwSt K o W H0 H Rs ρ σ n) : S.F.G n H := ⟨S.g, fun _ _ => rfl⟩
theorem OwSt.step {ρ' : List DS} {σ' : L2.St} (S : OwSt K o W H0 H Rs ρ σ n) (F : W.Rel H H') (g : S.F.G n' H') (E : EnvD K o (MG W Rs) (W.a, W.ts, ovR Rs) ρ' σ' H') : OwSt K o W H0 H' Rs ρ' σ' n' :=
  ⟨E, g.1, W.trans S.rel F, S.nd, S.out, fun i r e => (S.ok i r e).bth (Bth.frm (mg_fx (W.frm F))) fun c m => g.2 c ⟨i, r, e, m⟩⟩
end
theorem Bth.trans {P : Addr → Prop} {H'' : Hp} {K : PySem.W.Frag} {M N : Addr → Prop} {H H' : Hp} (a : Bth K M N H H') (b : Bth K N P H' H'') : Bth K M P H H'' := ⟨fun h => b.l (a.l h), fun h => b.t (a.t h), fun n e t => b.o (a.o n e t).1 (a.o n e t).2 t⟩
theorem bth_of {K : PySem.W.Frag} {M N : Addr → Prop} {H H' : Hp} (F : Fx M H H') (i : ∀ c u, N c → H c = some u → (∀ ps, u ≠ .tbl ps) → M c) : Bth K M N H H' :=
  ⟨fun h => ⟨fun m => h.1 (i _ _ m h.2 fun _ z => by cases z), F _ _ h.1 h.2 fun _ z => by cases z⟩, fun h => h.imp (fun h => ⟨fun m => h.1 (i _ _ m h.2 fun _ z => by cases z), F _ _ h.1 h.2 fun _ z => by cases z⟩) id, fun n e t => ⟨fun m => n (i _ _ m e t), F _ _ n e t⟩⟩
theorem EnvD.bth {K : PySem.W.Frag} {o : Option TSet} {M N : Addr → Prop} {H H' : Hp} {a : Option Addr × Option TSet × (Nat → V)} {ρ : List DS} {σ : L2.St} (E : EnvD K o M a ρ σ H) (B : Bth K M N H H') : EnvD K o N a ρ σ H' :=
  ⟨E.len, fun i x e => (E.dat i x e).imp fun v h => ⟨h.1, Dw.bthR B _ _ h.2⟩, E.val, E.drw, E.own, E.tse⟩
/-! ### questions -/
/-- what is told of a list under way: its items; whether they are lists of their own -/
inductive HD where
  | f (ds : List PyData) | n (ds : List PyData)
def HR : HD → Rt → Prop
  | .f ds, r => r.2.map (·.2.1) = ds
  | .n ds, r => r.2.map (·.2.1) = ds ∧ ∀ x ∈ r.2, x.2.2 ≠ none
def HRs (h : List HD) (Rs : List Rt) : Prop := h.length = Rs.length ∧ ∀ (k : Nat) x r, h[k]? = some x → Rs[k]? = some r → HR x r
def borK (h : List HD) (k : Nat) : DS := match h[k]? with
  | some (.f ds) => .d (.list ds)
  | some (.n ds) => .d (.list ds)
  | none => .no
def bor (h : List HD) : DS → DS
  | .ow k => borK h k
  | s => s
theorem bor_eq {h : List HD} {Rs : List Rt} (hr : HRs h Rs) (ρ : List DS) : ρ.map (bor h) = ρ.map (bor0 (Rs.map dR)) := by
  refine List.map_congr_left fun s _ => ?_
  cases s with
  | ow k =>
    show borK h k = borK0 (Rs.map dR) k
    unfold borK borK0
    rw [List.getElem?_map]
    cases q : h[k]? with
    | none =>
      have : Rs[k]? = none := List.getElem?_eq_none (by rw [← hr.1]; exact List.getElem?_eq_none_iff.mp q)
      rw [this]
      rfl
    | some x =>
      have l : k < Rs.length := by rw [← hr.1]; exact (List.getElem?_eq_some_iff.mp q).1
      have e := List.getElem?_eq_getElem l
      have c := hr.2 k x _ q e
      rw [e]
      cases x with
      | f ds =>
        have c : _ = ds := c
        show DS.d (.list ds) = DS.d (dR _)
        unfold dR
        rw [c]
      | n ds =>
        have c : _ = ds := c.1
        show DS.d (.list ds) = DS.d (dR _)
        unfold dR
        rw [c]
  | _ => rfl
theorem OwSt.bor {K : PySem.W.Frag} {o : Option TSet} {W : Fld} {H0 H : Hp} {Rs : List Rt} {ρ : List DS} {σ : L2.St} {n : Nat} {h : List HD} (S : OwSt K o W H0 H Rs ρ σ n) (hr : HRs h Rs) : EnvD K o W.M (W.a, W.ts, W.ov) (ρ.map (MT.bor h)) σ H := by
  rw [bor_eq hr]
  exact S.borE
theorem HRs.nil : HRs [] [] := ⟨rfl, fun k x r e => by simp at e⟩
theorem HRs.at {h : List HD} {Rs : List Rt} {k : Nat} {x : HD} (hr : HRs h Rs) (e : h[k]? = some x) : ∃ r, Rs[k]? = some r ∧ HR x r := by
  have l : k < Rs.length := by rw [← hr.1]; exact (List.getElem?_eq_some_iff.mp e).1
  exact ⟨_, List.getElem?_eq_getElem l, hr.2 k x _ e (List.getElem?_eq_getElem l)⟩
theorem HRs.app {h : List HD} {Rs : List Rt} {x : HD} {r : Rt} (hr : HRs h Rs) (q : HR x r) : HRs (h ++ [x]) (Rs ++ [r]) := by
  refine ⟨by rw [List.length_append, List.length_append, hr.1]; rfl, fun k y s e1 e2 => ?_⟩
  by_cases l : k < h.length
  · rw [List.getElem?_append_left l] at e1
    rw [List.getElem?_append_left (by rw [← hr.1]; exact l)] at e2
    exact hr.2 k y s e1 e2
  · have l1 := (List.getElem?_eq_some_iff.mp e1).1
    rw [List.length_append] at l1
    have : k = h.length := by simp at l1; omega
    subst this
    rw [List.getElem?_append_right (Nat.le_refl _), Nat.sub_self] at e1
    rw [hr.1, List.getElem?_append_right (Nat.le_refl _), Nat.sub_self] at e2
    cases e1
    cases e2
    exact q
theorem HRs.set {h : List HD} {Rs : List Rt} {x : HD} {r : Rt} (hr : HRs h Rs) (k : Nat) (q : HR x r) : HRs (h.set k x) (Rs.set k r) := by
  refine ⟨by rw [List.length_set, List.length_set]; exact hr.1, fun j y s e1 e2 => ?_⟩
  by_cases c : k = j
  · subst c
    have l1 := (List.getElem?_eq_some_iff.mp e1).1
    have l2 := (List.getElem?_eq_some_iff.mp e2).1
    rw [List.length_set] at l1 l2
    rw [List.getElem?_set_self l1] at e1
    rw [List.getElem?_set_self l2] at e2
    cases e1
    cases e2
    exact q
  · rw [List.getElem?_set_ne c] at e1
    rw [List.getElem?_set_ne c] at e2
    exact hr.2 j y s e1 e2
abbrev TDSO := List HD → List DS → Nat → (List HD → List DS → Nat → Prop) → QD → Prop
def tDsO (K : PySem.W.Frag) (o : Option TSet) (t : TDSO) : TS := fun D σ H => ∃ (W : Fld) (H0 : Hp) (Rs : List Rt) (h : List HD) (ρ : List DS) (n : Nat) (Rn : List HD → List DS → Nat → Prop) (Rr : QD), OwSt K o W H0 H Rs ρ σ n ∧ HRs h Rs ∧ t h ρ n Rn Rr ∧
  (∀ Rs' h' ρ' n', HRs h' Rs' → Rn h' ρ' n' → ∀ σ' H', Bth K (MG W Rs) (MG W Rs') H H' → OwSt K o W H0 H' Rs' ρ' σ' n' → D.nx σ' H') ∧ (∀ d n', Rr d n' → ∀ v H', W.Rel H0 H' → W.G n' H' → Dw K W.M H' v d → D.rt v H')
section
variable {X : Cx} {e : Expr} {st : Stmt} {ss : List Stmt} {o : Option TSet}
/-- what leaves them alone -/
def qOld (t : TDS) : TDSO := fun h ρ n Rn Rr => t ρ n (Rn h) Rr
theorem os_old {t : TDS} (h : PS X st (tDs X.K o t)) : PS X st (tDsO X.K o (qOld t)) := PS.imp h fun D σ H ⟨W, H0, Rs, h, ρ, n, Rn, Rr, S, hr, t, k1, k2⟩ =>
  ⟨S.F, ρ, n, Rn h, Rr, S.env, S.G, t, fun ρ' n' r σ' H' F g E => k1 Rs h ρ' n' hr r σ' H' (Bth.frm (mg_fx (W.frm F))) (S.step F g E), fun d n' r v H' F g w => k2 d n' r v H' (W.trans S.rel F) g.1 (w.more fun c u m _ => .inl m)⟩
def qIfO (c : TDB) (t u : TDSO) : TDSO := fun h ρ n Rn Rr => c (ρ.map (bor h)) n fun b n1 => if b = true then t h ρ n1 Rn Rr else u h ρ n1 Rn Rr
theorem os_if {c : TDB} {t u : TDSO} (h : PS X st (tIfS (tDB X.K o c) (tDsO X.K o t) (tDsO X.K o u))) : PS X st (tDsO X.K o (qIfO c t u)) := PS.imp h fun D σ H ⟨W, H0, Rs, h, ρ, n, Rn, Rr, S, hr, t, k1, k2⟩ =>
  ⟨W, _, n, _, S.bor hr, S.g, t, fun b n1 r1 H1 F1 g1 => by
    cases b with
    | true => exact ⟨W, H0, Rs, h, ρ, n1, Rn, Rr, S.frm F1 g1, hr, r1, fun Rs' h' ρ' n' hr' r σ' H' B S' => k1 Rs' h' ρ' n' hr' r σ' H' ((Bth.frm (mg_fx (W.frm F1))).trans B) S', k2⟩
    | false => exact ⟨W, H0, Rs, h, ρ, n1, Rn, Rr, S.frm F1 g1, hr, r1, fun Rs' h' ρ' n' hr' r σ' H' B S' => k1 Rs' h' ρ' n' hr' r σ' H' ((Bth.frm (mg_fx (W.frm F1))).trans B) S', k2⟩⟩
def qRetO (t : TD) : TDSO := fun h ρ n _ Rr => t (ρ.map (bor h)) n Rr
theorem os_ret {t : TD} (h : PS X st (tRet (tD X.K o t))) : PS X st (tDsO X.K o (qRetO t)) := PS.imp h fun D σ H ⟨W, H0, Rs, h, ρ, n, Rn, Rr, S, hr, t, k1, k2⟩ =>
  ⟨W, _, n, _, S.bor hr, S.g, t, fun d n' r v H' F g w => k2 d n' r v H' (W.trans S.rel F) g w⟩
def qSeqO (t u : TDSO) : TDSO := fun h ρ n Rn Rr => t h ρ n (fun h1 ρ1 n1 => u h1 ρ1 n1 Rn Rr) Rr
theorem oss_cons {t u : TDSO} (h : PSs X ss (tSeq (tDsO X.K o t) (tDsO X.K o u))) : PSs X ss (tDsO X.K o (qSeqO t u)) := PSs.imp h fun D σ H ⟨W, H0, Rs, h, ρ, n, Rn, Rr, S, hr, t, k1, k2⟩ =>
  ⟨W, H0, Rs, h, ρ, n, _, Rr, S, hr, t, fun Rs1 h1 ρ1 n1 hr1 r1 σ1 H1 B1 S1 => ⟨W, H0, Rs1, h1, ρ1, n1, Rn, Rr, S1, hr1, r1, fun Rs' h' ρ' n' hr' r σ' H' B S' => k1 Rs' h' ρ' n' hr' r σ' H' (B1.trans B) S', k2⟩, k2⟩
/-- a scalar that is read off them -/
def qSetB (i : Nat) (t : TD) : TDSO := fun h ρ n Rn _ => t (ρ.map (bor h)) n fun d n' => atomD d = true ∧ Rn h (ρ.set i (.d d)) n'
theorem atom_dw {K : PySem.W.Frag} {M N : Addr → Prop} {H H' : Hp} {v : V} {d : PyData} (w : Dw K M H v d) (a : atomD d = true) : Dw K N H' v d := by
  cases w <;> first | exact .non | exact .bl _ | exact .int _ | exact .str _ | cases a
theorem os_setB {i : Nat} {t : TD} (h : PS X st (tAsg (tD X.K o t) (gName i))) : PS X st (tDsO X.K o (qSetB i t)) := PS.imp h fun D σ H ⟨W, H0, Rs, h, ρ, n, Rn, Rr, S, hr, t, k1, k2⟩ =>
  ⟨W, _, n, _, S.bor hr, S.g, t, fun d n1 r v H1 F1 g1 w => by
    have S1 := S.frm F1 g1
    exact k1 Rs h _ n1 hr r.2 _ H1 (Bth.frm (mg_fx (W.frm F1))) ⟨S1.env.set i (atom_dw w r.1), S1.g, S1.rel, S1.nd, S1.out, S1.ok⟩⟩
theorem OwSt.nil {K : PySem.W.Frag} {W : Fld} {H0 H : Hp} {ρ : List DS} {σ : L2.St} {n : Nat} (E : EnvD K o W.M (W.a, W.ts, W.ov) ρ σ H) (g : W.G n H) (rel : W.Rel H0 H) (no : ∀ (i : Nat) k, ρ[i]? ≠ some (DS.ow k)) : OwSt K o W H0 H [] ρ σ n := by
  have z : ∀ c, ¬ AtR [] c := fun c ⟨i, r, e, _⟩ => by simp at e
  have E2 := E.more (N := MG W []) fun c u m _ => m.elim id fun m => (z c m).elim
  exact ⟨⟨E2.len, E2.dat, E2.val, E2.drw, fun i k e => (no i k e).elim, E2.tse⟩, g, rel, ⟨fun i r e => by simp at e, fun i j a b c e => by simp at e⟩, fun c m => (z c m).elim, fun i r e => by simp at e⟩
def noOw : List DS → Bool
  | [] => true
  | .ow _ :: _ => false
  | _ :: r => noOw r
theorem noOw_at : ∀ {ρ : List DS}, noOw ρ = true → ∀ (i : Nat) k, ρ[i]? ≠ some (DS.ow k)
  | [], _, i, k, e => by simp at e
  | s :: r, h, i, k, e => by
    have hr : noOw r = true := by cases s <;> first | exact h | cases h
    cases i with
    | zero => cases e; cases h
    | succ i => exact noOw_at hr i k e
/-- a part with lists of its own -/
def qOwn (t : TDSO) : TDS := fun ρ n Rn Rr => noOw ρ = true ∧ t [] ρ n (fun h ρ' n' => Rn (ρ'.map (bor h)) n') Rr
theorem dss_own {t : TDSO} (h : PSs X ss (tDsO X.K o t)) : PSs X ss (tDs X.K o (qOwn t)) := PSs.imp h fun D σ H ⟨W, ρ, n, Rn, Rr, E, g, ⟨no, t⟩, k1, k2⟩ =>
  ⟨W, H, [], [], ρ, n, _, Rr, OwSt.nil E g W.refl (noOw_at no), HRs.nil, t, fun Rs' h' ρ' n' hr' r σ' H' _ S => k1 _ n' r σ' H' S.rel S.g (S.bor hr'), fun d n' r v H' F g w => k2 d n' r v H' F g w⟩
/-- done with them -/
def qDone (t : TDS) : TDSO := fun h ρ n Rn Rr => t (ρ.map (bor h)) n (fun ρ' n' => noOw ρ' = true ∧ Rn [] ρ' n') Rr
theorem oss_done {t : TDS} (h : PSs X ss (tDs X.K o t)) : PSs X ss (tDsO X.K o (qDone t)) := PSs.imp h fun D σ H ⟨W, H0, Rs, h, ρ, n, Rn, Rr, S, hr, t, k1, k2⟩ =>
  ⟨W, _, n, _, Rr, S.bor hr, S.g, t, fun ρ' n' ⟨no, r⟩ σ' H' F g E => k1 [] [] ρ' n' HRs.nil r σ' H' (bth_of (mg_fx (W.frm F)) fun c u m e _ => m.elim .inl fun ⟨i, r, e, _⟩ => by simp at e) (OwSt.nil E g (W.trans S.rel F) (noOw_at no)), fun d n' r v H' F g w => k2 d n' r v H' (W.trans S.rel F) g w⟩
end
/-! ### lists that are new -/
def tDF (K : PySem.W.Frag) (o : Option TSet) (t : TDA) : TE := fun σ H Q => ∃ (W : Fld) (ρ : List DS) (n : Nat) (R : List PyData → Nat → Prop), EnvD K o W.M (W.a, W.ts, W.ov) ρ σ H ∧ W.G n H ∧ t ρ n R ∧
  ∀ ds n', R ds n' → ∀ p xs m Hb H', W.Rel H Hb → W.G m Hb → Hb p = none → W.Rel Hb H' → W.G n' H' → H' p = some (.lst xs) → DwAll K (fun c => W.M c ∨ c = p) H' xs ds → Q (.ref p) H'
section
variable {X : Cx} {e : Expr} {st : Stmt} {ss : List Stmt} {o : Option TSet}
def qLstF (u : TDA) : TDA := fun ρ n R => u ρ n fun ds n' => ds.length ≤ 10000000 ∧ R ds n'
theorem df_lst {u : TDA} (h : PE X e (tLstN (tDA X.K o u))) : PE X e (tDF X.K o (qLstF u)) := PE.imp h fun σ H Q ⟨W, ρ, n, R, E, g, r, k⟩ =>
  ⟨W, ρ, n, _, E, g, r, fun ds n1 r1 vs H1 F1 g1 w1 => ⟨by rw [w1.length]; exact small_line r1.1, fun p H2 n2 => k _ n1 r1.2 p vs n1 H1 H2 F1 g1 n2.2.2 (W.of n2.1) (W.same g1 n2.1) n2.2.1 ((w1.more (fun c u m q => m.elim id fun e => by rw [e, n2.2.2] at q; cases q)).same n2.1)⟩⟩
def qListF (u : TDA) : TDA := fun ρ n R => u ρ n fun ds n' => ∃ d xs, ds = [d] ∧ seqD d = some xs ∧ R xs n'
theorem df_list {u : TDA} (h : PE X e (tCB (fun xs H Q => ∃ p ys, xs = [.ref p] ∧ (SqL X.K H p ys ∨ SqT X.K H p ys) ∧ ∀ l H2, New H H2 l (.lst ys) → Q (.ref l) H2) (tDA X.K o u))) : PE X e (tDF X.K o (qListF u)) := PE.imp h fun σ H Q ⟨W, ρ, n, R, E, g, r, k⟩ =>
  ⟨W, ρ, n, _, E, g, r, fun ds n1 ⟨d, es, e1, e2, r1⟩ vs H1 F1 g1 w1 => by
    subst e1
    cases w1 with
    | cons w wn =>
      cases wn
      obtain ⟨p, xs, rfl, s, _, a⟩ := w.seq e2
      exact ⟨p, xs, rfl, s, fun l H2 n2 => k _ n1 r1 l xs n1 H1 H2 F1 g1 n2.2.2 (W.of n2.1) (W.same g1 n2.1) n2.2.1 ((a.more (fun c u m q => m.elim id fun e => by rw [e, n2.2.2] at q; cases q)).same n2.1)⟩⟩
def qLcF (vs : List Nat) (f : PyData → List DS → (List DS → Prop) → Prop) (src : TDI) (tt : TDB) (te : TD) : TDA := fun ρ n R => src ρ n fun ds n1 => ds.length ≤ 10000000 ∧ ∃ A : Nat → List PyData → Nat → Prop, A 0 [] n1 ∧
  (∀ i x acc m, ds[i]? = some x → A i acc m → f x (wipeD ρ vs) fun ρ' => tt ρ' m fun b m' => if b = true then te ρ' m' fun y m'' => A (i + 1) (acc ++ [y]) m'' else A (i + 1) acc m') ∧
  ∀ acc m, A ds.length acc m → acc.length ≤ ds.length → R acc m
theorem df_lc {vs0 : List Nat} {g : TG} {f} {src : TDI} {tt : TDB} {te : TD} (hf : GFit X.K vs0 g f) (h : PE X e (tLc (tDI X.K o src) g (tDB X.K o tt) (tD X.K o te) vs0)) : PE X e (tDF X.K o (qLcF vs0 f src tt te)) := PE.imp h fun σ H Q ⟨W, ρ, n, R, E, gg, t, k⟩ =>
  ⟨W, ρ, n, _, E, gg, t, fun ds n1 ⟨hlen, A, h0, hs, hd⟩ J H1 F1 g1 ⟨P, vs, wk, da, hP⟩ D hD => by
    have ln := da.length
    have nD : ¬ W.M D := fun m => by
      obtain ⟨ob, q, _⟩ := W.al g1 m
      rw [hD] at q
      cases q
    have EM : EnvD X.K o (fun c => W.M c ∨ c = D) (W.a, W.ts, W.ov) ρ σ H1 := (E.frm (W.frm F1)).more fun c o m q => m.elim id fun e => by rw [e, hD] at q; cases q
    have DM : DwAll X.K (fun c => W.M c ∨ c = D) H1 vs ds := da.more fun c o m q => m.elim id fun e => by rw [e, hD] at q; cases q
    refine ⟨fun i m H' => m = ds.length - i ∧ i ≤ ds.length ∧ ∃ acc av c, A i acc c ∧ H' D = some (.lst av) ∧ DwAll X.K (fun c => W.M c ∨ c = D) H' av acc ∧ av.length ≤ i ∧ W.G c H' ∧ W.Rel H1 H',
      ⟨_, rfl, Nat.zero_le _, [], [], n1, h0, upd_same, .nil, Nat.le_refl _, W.updG g1 hD g1 (fun u e => by rw [hD] at e; cases e), W.updR W.refl hD⟩, ?_⟩
    rintro i m H' ⟨rfl, hi, acc, av, c, inv, hDa, hav, hal, g', F'⟩
    have w := wk i H' (hP _ (W.frm F'))
    have FM : Fx (fun c => W.M c ∨ c = D) H1 H' := (W.frm F').mono fun c e => .inl e
    by_cases hlt : i < ds.length
    · refine .inr ⟨w.1 (by omega), fun H2 => i + 1 ≤ ds.length ∧ ∃ acc av c, A (i + 1) acc c ∧ H2 D = some (.lst av) ∧ DwAll X.K (fun c => W.M c ∨ c = D) H2 av acc ∧ av.length ≤ i + 1 ∧ W.G c H2 ∧ W.Rel H1 H2, fun H2 q => ⟨_, by omega, rfl, q⟩, fun x H2 y => ?_⟩
      obtain ⟨e2, y2⟩ := w.2.2 x H2 y
      subst e2
      obtain ⟨d, hd1, hd2⟩ := DM.get (y2 (by omega))
      refine hf o _ (W.a, W.ts, W.ov) _ x d (wipeD ρ vs0) (wipe σ vs0) _ _ (hd2.frm FM) ((EM.frm FM).wipe vs0) (hs i d acc c hd1 inv) fun ρ2 r2 σ2 E2 ew => ⟨by rw [ew]; exact wipe_wipe σ vs0, ?_⟩
      refine ⟨W.plus D (.lst av) (fun _ z => by cases z) nD, ρ2, c, _, E2, ⟨g', hDa⟩, r2, fun b m3 r3 H3 F3 g3 => ?_⟩
      cases b with
      | false => exact ⟨hlt, acc, av, m3, r3, g3.2, hav.frm ((W.plus D (.lst av) (fun _ z => by cases z) nD).frm F3), Nat.le_succ_of_le hal, g3.1, W.trans F' F3⟩
      | true =>
        refine ⟨W.plus D (.lst av) (fun _ z => by cases z) nD, ρ2, m3, _, E2.frm ((W.plus D (.lst av) (fun _ z => by cases z) nD).frm F3), g3, r3, fun y m4 r4 v4 H4 F4 g4 w4 => ⟨av, g4.2, by rw [sizeLine_eq]; omega, hlt, acc ++ [y], av ++ [v4], m4, r4, upd_same, ?_, by rw [List.length_append]; exact Nat.succ_le_succ hal, W.updG g1 hD g4.1 (fun u e => by rw [g4.2] at e; cases e; trivial), W.updR (W.trans F' (W.trans F3 F4)) hD⟩⟩
        have h4 := hav.frm ((W.plus D (.lst av) (fun _ z => by cases z) nD).frm (W.trans F3 F4))
        exact (h4.append (.cons w4 .nil)).frm (fx_frm (Frm.mono (frm_upd (a := D)) fun c e => .inr e))
    · have e : i = ds.length := by omega
      subst e
      have hl := hav.length
      exact .inl ⟨w.2.1 (by omega), k _ c (hd acc c inv (by omega)) D av n1 H1 H' F1 g1 hD F' g' hDa hav⟩⟩
end
section
variable {K : PySem.W.Frag} {o : Option TSet} {W : Fld} {H0 H H' : Hp} {Rs : List Rt} {ρ : List DS} {σ : L2.St} {n n' k : Nat} {M N : Addr → Prop}
theorem its_mk : ∀ {xs : List V} {ds : List PyData}, DwAll K M H xs ds → ∃ l : List Itm, l.map (·.1) = xs ∧ l.map (·.2.1) = ds ∧ (∀ x ∈ l, x.2.2 = none) ∧ ∀ x ∈ l, Dw K M H x.1 x.2.1
  | _, _, .nil => ⟨[], rfl, rfl, (fun x m => nomatch m), (fun x m => nomatch m)⟩
  | _, _, .cons (v := v) (d := d) a r => by
    obtain ⟨l, h1, h2, h3, h4⟩ := its_mk r
    refine ⟨(v, d, none) :: l, by rw [List.map_cons, h1], by rw [List.map_cons, h2], fun x m => ?_, fun x m => ?_⟩
    · rcases List.mem_cons.mp m with rfl | m
      · rfl
      · exact h3 x m
    · rcases List.mem_cons.mp m with rfl | m
      · exact a
      · exact h4 x m
theorem fm_none : ∀ {l : List Itm}, (∀ x ∈ l, x.2.2 = none) → l.filterMap (·.2.2) = []
  | [], _ => rfl
  | x :: l, h => by rw [List.filterMap_cons, h x List.mem_cons_self]; exact fm_none fun y m => h y (List.mem_cons_of_mem _ m)
theorem it_none {x : Itm} (e : x.2.2 = none) (w : Dw K M H x.1 x.2.1) : ItOk K M H x := by
  obtain ⟨v, d, a⟩ := x
  cases e
  exact w
theorem get_app {α : Type} {l : List α} {r x : α} {i : Nat} (e : (l ++ [r])[i]? = some x) : l[i]? = some x ∨ (i = l.length ∧ x = r) := by
  by_cases h : i < l.length
  · rw [List.getElem?_append_left h] at e; exact .inl e
  · rw [List.getElem?_append_right (by omega)] at e
    have : i - l.length = 0 := by
      have := (List.getElem?_eq_some_iff.mp e).1
      simp at this
      omega
    rw [this] at e
    cases e
    exact .inr ⟨by omega, rfl⟩
theorem at_app {r : Rt} {c : Addr} (h : AtR (Rs ++ [r]) c) : AtR Rs c ∨ c ∈ adr r := by
  obtain ⟨i, x, e, m⟩ := h
  rcases get_app e with e | ⟨_, rfl⟩
  · exact .inl ⟨i, x, e, m⟩
  · exact .inr m
theorem at_left {r : Rt} {c : Addr} (h : AtR Rs c) : AtR (Rs ++ [r]) c := by
  obtain ⟨i, x, e, m⟩ := h
  exact ⟨i, x, by rw [List.getElem?_append_left (List.getElem?_eq_some_iff.mp e).1]; exact e, m⟩
theorem nd_app {r : Rt} (h : NdR Rs) (n : (adr r).Nodup) (dis : ∀ c ∈ adr r, ¬ AtR Rs c) : NdR (Rs ++ [r]) := by
  refine ⟨fun i x e => ?_, fun i j a b c ea eb ma mb => ?_⟩
  · rcases get_app e with e | ⟨_, rfl⟩
    · exact h.e i x e
    · exact n
  · rcases get_app ea with ga | ⟨ia, rfl⟩ <;> rcases get_app eb with gb | ⟨ib, rfl⟩
    · exact h.d i j a b c ga gb ma mb
    · exact (dis c mb ⟨i, a, ga, ma⟩).elim
    · exact (dis c ma ⟨j, b, gb, mb⟩).elim
    · rw [ia, ib]
def owLt (k : Nat) : List DS → Bool
  | [] => true
  | .ow j :: r => decide (j < k) && owLt k r
  | _ :: r => owLt k r
theorem owLt_at : ∀ {ρ : List DS}, owLt k ρ = true → ∀ (i j : Nat), ρ[i]? = some (DS.ow j) → j < k
  | [], _, i, j, e => by simp at e
  | s :: r, h, i, j, e => by
    have hr : owLt k r = true := by
      cases s <;> first | exact h | exact (Bool.and_eq_true_iff.mp h).2
    cases i with
    | zero => cases e; exact of_decide_eq_true (Bool.and_eq_true_iff.mp h).1
    | succ i => exact owLt_at hr i j e
theorem EnvD.ovc {a : Option Addr} {ts : Option TSet} {ov ov' : Nat → V} (E : EnvD K o M (a, ts, ov) ρ σ H) (lt : owLt k ρ = true) (h : ∀ j, j < k → ov' j = ov j) : EnvD K o M (a, ts, ov') ρ σ H :=
  ⟨E.len, E.dat, E.val, E.drw, fun i j e => by rw [show (a, ts, ov').2.2 j = ov j from h j (owLt_at lt i j e)]; exact E.own i j e, E.tse⟩
theorem ov_app {r : Rt} {j : Nat} (h : j < Rs.length) : ovR (Rs ++ [r]) j = ovR Rs j := by
  unfold ovR
  rw [List.getElem?_append_left h]
theorem ov_last {r : Rt} : ovR (Rs ++ [r]) Rs.length = .ref r.1 := by
  unfold ovR
  rw [List.getElem?_append_right (Nat.le_refl _), Nat.sub_self]
  rfl
/-- one more stands under way -/
theorem OwSt.bornR (S : OwSt K o W H0 H Rs ρ σ n) {r : Rt} {H1 : Hp} (F : W.Rel H H1) (g1 : S.F.G n' H1) (b : ∀ c ∈ adr r, ∃ m Hb, W.Rel H Hb ∧ S.F.G m Hb ∧ Hb c = none) (nd : (adr r).Nodup)
    (ok : RtOk K (fun c => (W.M c ∨ AtR Rs c) ∨ c ∈ adr r) H1 r) (lt : owLt Rs.length ρ = true) : OwSt K o W H0 H1 (Rs ++ [r]) ρ σ n' ∧ Bth K (MG W Rs) (MG W (Rs ++ [r])) H H1 := by
  have nR : ∀ c ∈ adr r, ¬ AtR Rs c := fun c m q => by
    obtain ⟨j, Hb, Fb, gb, eb⟩ := b c m
    obtain ⟨xs, e⟩ := S.pl c q
    rw [gb.2 c q, e] at eb
    cases eb
  have nM : ∀ c ∈ adr r, ¬ W.M c := fun c m q => by
    obtain ⟨j, Hb, Fb, gb, eb⟩ := b c m
    obtain ⟨u, e, _⟩ := W.al gb.1 q
    rw [e] at eb
    cases eb
  have B : Bth K (MG W Rs) (MG W (Rs ++ [r])) H H1 := bth_of (mg_fx (W.frm F)) fun c u m e t => m.elim .inl fun m => (at_app m).elim .inr fun m => by
    obtain ⟨j, Hb, Fb, gb, eb⟩ := b c m
    rw [W.frm Fb c u (nM c m) e t] at eb
    cases eb
  have i2 : ∀ c, MG W (Rs ++ [r]) c → (W.M c ∨ AtR Rs c) ∨ c ∈ adr r := fun c m => m.elim (fun m => .inl (.inl m)) fun m => (at_app m).elim (fun m => .inl (.inr m)) .inr
  refine ⟨⟨(S.env.bth B).ovc lt fun j h => ov_app h, g1.1, W.trans S.rel F, nd_app S.nd nd nR, fun c m => ?_, fun j x e => ?_⟩, B⟩
  · rcases at_app m with m | m
    · exact S.out c m
    · obtain ⟨j, Hb, Fb, gb, eb⟩ := b c m
      exact ⟨nM c m, ⟨_, Hb, gb.1, eb⟩, fun H' u F => W.born (W.trans S.rel Fb) gb.1 eb H' u F⟩
  · rcases get_app e with e | ⟨_, rfl⟩
    · exact (S.ok j x e).bth B fun c m => g1.2 c ⟨j, x, e, m⟩
    · exact ok.bth (Bth.more fun c u m _ => i2 c m) fun c _ => rfl
/-- one of them changed -/
theorem OwSt.re {Rs' : List Rt} {q : Addr} {zs : List V} (S : OwSt K o W H0 H Rs ρ σ n) (hq : AtR Rs q) (sub : ∀ c, AtR Rs' c → AtR Rs c) (nd : NdR Rs') (ov : ∀ j, j < k → ovR Rs' j = ovR Rs j) (lt : owLt k ρ = true)
    (ok : ∀ (i : Nat) r, Rs'[i]? = some r → RtOk K (MG W Rs) (upd H q (.lst zs)) r) : OwSt K o W H0 (upd H q (.lst zs)) Rs' ρ σ n ∧ Bth K (MG W Rs) (MG W Rs') H (upd H q (.lst zs)) := by
  have fx : Fx (MG W Rs) H (upd H q (.lst zs)) := fx_frm (Frm.mono (frm_upd (a := q)) fun c e => e ▸ .inr hq)
  have i : ∀ {G : Hp} (c : Addr) (u : HO), MG W Rs' c → G c = some u → MG W Rs c := fun c u m _ => m.imp id (sub c)
  obtain ⟨_, ⟨m, H1, g1, e1⟩, b⟩ := S.out q hq
  refine ⟨⟨((S.env.frm fx).more i).ovc lt ov, W.updG g1 e1 S.g fun u e => ?_, b _ _ S.rel, nd, fun c m => S.out c (sub c m), fun j r e => (ok j r e).bth (Bth.more i) fun c _ => rfl⟩, (Bth.frm fx).trans (Bth.more i)⟩
  obtain ⟨xs, e2⟩ := S.pl q hq
  rw [e2] at e
  cases e
  trivial
theorem get_set {α : Type} {l : List α} {r x : α} {i j : Nat} (e : (l.set j r)[i]? = some x) : (i = j ∧ x = r) ∨ (i ≠ j ∧ l[i]? = some x) := by
  by_cases h : i = j
  · subst h
    have l1 := (List.getElem?_eq_some_iff.mp e).1
    rw [List.length_set] at l1
    rw [List.getElem?_set_self l1] at e
    exact .inl ⟨rfl, (Option.some.inj e).symm⟩
  · rw [List.getElem?_set_ne (fun z => h z.symm)] at e
    exact .inr ⟨h, e⟩
theorem at_set {r r' : Rt} {c : Addr} (hk : Rs[k]? = some r) (sub : ∀ c ∈ adr r', c ∈ adr r) (h : AtR (Rs.set k r') c) : AtR Rs c := by
  obtain ⟨i, x, e, m⟩ := h
  rcases get_set e with ⟨_, rfl⟩ | ⟨_, e⟩
  · exact ⟨k, r, hk, sub c m⟩
  · exact ⟨i, x, e, m⟩
theorem nd_set {r r' : Rt} (h : NdR Rs) (hk : Rs[k]? = some r) (sub : ∀ c ∈ adr r', c ∈ adr r ∨ ¬ AtR Rs c) (n : (adr r').Nodup) : NdR (Rs.set k r') := by
  refine ⟨fun i x e => ?_, fun i j a b c ea eb ma mb => ?_⟩
  · rcases get_set e with ⟨_, rfl⟩ | ⟨_, e⟩
    · exact n
    · exact h.e i x e
  · rcases get_set ea with ⟨ia, rfl⟩ | ⟨na, ga⟩ <;> rcases get_set eb with ⟨ib, rfl⟩ | ⟨nb, gb⟩
    · rw [ia, ib]
    · rcases sub c ma with m | m
      · exact (nb (h.d k j r b c hk gb m mb).symm).elim
      · exact (m ⟨j, b, gb, mb⟩).elim
    · rcases sub c mb with m | m
      · exact (na (h.d i k a r c ga hk ma m)).elim
      · exact (m ⟨i, a, ga, ma⟩).elim
    · exact h.d i j a b c ga gb ma mb
theorem ov_set {r r' : Rt} {j : Nat} (hk : Rs[k]? = some r) (e : r'.1 = r.1) : ovR (Rs.set k r') j = ovR Rs j := by
  unfold ovR
  by_cases h : j = k
  · subst h
    rw [List.getElem?_set_self (List.getElem?_eq_some_iff.mp hk).1, hk]
    exact congrArg V.ref e
  · rw [List.getElem?_set_ne (fun z => h z.symm)]
theorem OwSt.other {r : Rt} {q : Addr} {zs : List V} (S : OwSt K o W H0 H Rs ρ σ n) (hk : Rs[k]? = some r) (hq : q ∈ adr r) {i : Nat} {x : Rt} (ni : i ≠ k) (e : Rs[i]? = some x) : RtOk K (MG W Rs) (upd H q (.lst zs)) x :=
  (S.ok i x e).bth (Bth.frm (fx_frm (Frm.mono (frm_upd (a := q)) fun c e => e ▸ .inr ⟨k, r, hk, hq⟩))) fun c m => upd_ne fun z => ni (S.nd.d i k x r c e hk m (z ▸ hq))
theorem owLt_big : ∀ (ρ : List DS), ∃ k, owLt k ρ = true
  | [] => ⟨0, rfl⟩
  | s :: r => by
    obtain ⟨k, h⟩ := owLt_big r
    have mono : ∀ {j : Nat} (k : Nat), k ≤ j → ∀ {ρ : List DS}, owLt k ρ = true → owLt j ρ = true := fun {j} k l {ρ} => by
      induction ρ with
      | nil => exact fun _ => rfl
      | cons s r ih =>
        intro h
        cases s with
        | ow i =>
          obtain ⟨h1, h2⟩ := Bool.and_eq_true_iff.mp h
          exact Bool.and_eq_true_iff.mpr ⟨decide_eq_true (Nat.lt_of_lt_of_le (of_decide_eq_true h1) l), ih h2⟩
        | _ => exact ih h
    cases s with
    | ow j => exact ⟨max k (j + 1), Bool.and_eq_true_iff.mpr ⟨decide_eq_true (by omega), mono k (by omega) h⟩⟩
    | _ => exact ⟨k, h⟩
/-- its own items changed -/
theorem OwSt.root {r : Rt} (S : OwSt K o W H0 H Rs ρ σ n) (hk : Rs[k]? = some r) (its : List Itm) (hi : ∀ x ∈ its, x ∈ r.2 ∨ (x.2.2 = none ∧ Dw K (MG W Rs) H x.1 x.2.1)) (nd : (its.filterMap (·.2.2)).Nodup) :
    OwSt K o W H0 (upd H r.1 (.lst (its.map (·.1)))) (Rs.set k (r.1, its)) ρ σ n ∧ Bth K (MG W Rs) (MG W (Rs.set k (r.1, its))) H (upd H r.1 (.lst (its.map (·.1)))) := by
  obtain ⟨kk, lt⟩ := owLt_big ρ
  have nr := S.nd.e k r hk
  unfold adr at nr
  have hq : r.1 ∈ adr r := List.mem_cons_self
  have sub2 : ∀ c ∈ its.filterMap (·.2.2), c ∈ r.2.filterMap (·.2.2) := fun c m => by
    obtain ⟨x, hx, e⟩ := List.mem_filterMap.mp m
    rcases hi x hx with q | ⟨q, _⟩
    · exact List.mem_filterMap.mpr ⟨x, q, e⟩
    · have e : x.2.2 = some c := e
      rw [q] at e
      cases e
  have sub : ∀ c ∈ adr (r.1, its), c ∈ adr r := fun c m => by
    rcases List.mem_cons.mp m with rfl | m
    · exact hq
    · exact List.mem_cons_of_mem _ (sub2 c m)
  refine S.re ⟨k, r, hk, hq⟩ (fun c m => at_set hk sub m) (nd_set S.nd hk (fun c m => .inl (sub c m)) ?_) (fun j _ => ov_set hk rfl) lt fun i x e => ?_
  · exact List.nodup_cons.mpr ⟨fun m => (List.nodup_cons.mp nr).1 (sub2 _ m), nd⟩
  · rcases get_set e with ⟨_, rfl⟩ | ⟨ni, e⟩
    · have fx : Fx (MG W Rs) H (upd H r.1 (.lst (its.map (·.1)))) := fx_frm (Frm.mono (frm_upd (a := r.1)) fun c e => e ▸ .inr ⟨k, r, hk, hq⟩)
      refine ⟨upd_same, fun x m => ?_⟩
      rcases hi x m with q | ⟨q1, q2⟩
      · exact ((S.ok k r hk).i x q).bth (Bth.frm fx) fun c e => upd_ne fun z => (List.nodup_cons.mp nr).1 (List.mem_filterMap.mpr ⟨x, q, e.trans (congrArg some z)⟩)
      · exact it_none q1 (q2.frm fx)
    · exact S.other hk hq ni e
theorem OwSt.at (S : OwSt K o W H0 H Rs ρ σ n) {i : Nat} {r : Rt} (hi : ρ[i]? = some (DS.ow k)) (hk : Rs[k]? = some r) : σ[i]? = some (some (.ref r.1)) := by
  have q := S.env.own i k hi
  have q2 : ovR Rs k = .ref r.1 := by unfold ovR; rw [hk]
  rw [← q2]
  exact q
end
end MT
set_option maxHeartbeats 1000000
/-! statements that change lists under way -/
namespace MT
open PySem L2
section
variable {X : Cx} {e : Expr} {st : Stmt} {ss : List Stmt} {o : Option TSet}
/-- a name that holds a list under way, of data; of lists of its own -/
def rootF (h : List HD) (ρ : List DS) (i k : Nat) (ds : List PyData) : Prop := ρ[i]? = some (DS.ow k) ∧ h[k]? = some (.f ds)
def rootN (h : List HD) (ρ : List DS) (i k : Nat) (ds : List PyData) : Prop := ρ[i]? = some (DS.ow k) ∧ h[k]? = some (.n ds)
/-! ### x = a new list -/
/-- a new list, with new lists in it or none -/
def tDR (K : PySem.W.Frag) (o : Option TSet) (t : TDA) : TE := fun σ H Q => ∃ (W : Fld) (ρ : List DS) (n : Nat) (R : List PyData → Nat → Prop), EnvD K o W.M (W.a, W.ts, W.ov) ρ σ H ∧ W.G n H ∧ t ρ n R ∧
  ∀ ds n', R ds n' → ∀ (r : Rt) H', r.2.map (·.2.1) = ds → W.Rel H H' → W.G n' H' → (∀ c ∈ adr r, ∃ m Hb, W.Rel H Hb ∧ W.G m Hb ∧ Hb c = none) → (adr r).Nodup → RtOk K (fun c => W.M c ∨ c ∈ adr r) H' r → Q (.ref r.1) H'
theorem dr_f {t : TDA} (h : PE X e (tDF X.K o t)) : PE X e (tDR X.K o t) := PE.imp h fun σ H Q ⟨W, ρ, n, R, E, g, t, k⟩ => ⟨W, ρ, n, R, E, g, t, fun ds n1 r p xs m Hb H1 Fb gb eb F2 g1 hp da => by
  obtain ⟨its, rfl, rfl, i3, i4⟩ := its_mk da
  have ad : adr (p, its) = [p] := by unfold adr; rw [fm_none i3]
  refine k _ n1 r (p, its) H1 rfl (W.trans Fb F2) g1 (fun c m => ?_) (by rw [ad]; simp) ⟨hp, fun x m => it_none (i3 x m) ((i4 x m).more fun c u m _ => ?_)⟩
  · rw [ad] at m
    rw [List.mem_singleton.mp m]
    exact ⟨_, Hb, Fb, gb, eb⟩
  · rw [ad] at m
    exact m.imp id List.mem_singleton.mp⟩
theorem OwSt.named {K : PySem.W.Frag} {W : Fld} {H0 H : Hp} {Rs : List Rt} {r : Rt} {ρ : List DS} {σ : L2.St} {n i : Nat} (S : OwSt K o W H0 H (Rs ++ [r]) (ρ.set i .no) σ n) : OwSt K o W H0 H (Rs ++ [r]) (ρ.set i (.ow Rs.length)) (σ.set i (some (.ref r.1))) n := by
  refine ⟨?_, S.g, S.rel, S.nd, S.out, S.ok⟩
  have E := S.env.put i (s := .ow Rs.length) (u := some (.ref r.1)) (by
    show some (V.ref r.1) = some (ovR (Rs ++ [r]) Rs.length)
    rw [ov_last])
  rw [List.set_set] at E
  exact E
def qSetR (i : Nat) (t : TDA) : TDSO := fun h ρ n Rn _ => owLt h.length (ρ.set i .no) = true ∧ t ρ n fun ds n' => Rn (h ++ [.f ds]) (ρ.set i (.ow h.length)) n'
theorem os_setR {i : Nat} {t : TDA} (h : PS X st (tAsg (tDR X.K o t) (gName i))) : PS X st (tDsO X.K o (qSetR i t)) := PS.imp h fun D σ H ⟨W, H0, Rs, h, ρ, n, Rn, Rr, S, hr, ⟨lt, t⟩, k1, k2⟩ =>
  ⟨S.F, ρ, n, _, S.env, S.G, t, fun ds n1 rr r H1 ed F1 g1 b nd ok => by
    rw [hr.1] at lt rr
    have S0 : OwSt X.K o W H0 H Rs (ρ.set i .no) (σ.set i (some (.ref r.1))) n := ⟨S.env.setn i, S.g, S.rel, S.nd, S.out, S.ok⟩
    obtain ⟨S1, B⟩ := S0.bornR F1 g1 b nd ok lt
    have S2 := S1.named
    rw [List.set_set] at S2
    exact k1 (Rs ++ [r]) _ (ρ.set i (.ow Rs.length)) n1 (hr.app (show HR (.f ds) r from ed)) rr _ H1 B S2⟩
/-- x.append(e) -/
def qApp (i : Nat) (t : TD) : TDSO := fun h ρ n Rn _ => ∃ k ds, rootF h ρ i k ds ∧ ds.length < 10000000 ∧ t ρ n fun d n' => Rn (h.set k (.f (ds ++ [d]))) ρ n'
theorem lt_line {k : Nat} (h : k < 10000000) : k < sizeLine := by rw [sizeLine_eq]; omega
theorem os_app {i : Nat} {t : TD} (h : PS X st (tDrop (tBM X.K "list" rAppend (tVar i) (tCons (tD X.K o t) tNil)))) : PS X st (tDsO X.K o (qApp i t)) := PS.imp h fun D σ H ⟨W, H0, Rs, h, ρ, n, Rn, Rr, S, hr, ⟨k, ds, ⟨hi, hk⟩, hl, t⟩, k1, k2⟩ => by
  obtain ⟨r, hkr, ed⟩ := hr.at hk
  have ed : r.2.map (·.2.1) = ds := ed
  refine ⟨.ref r.1, S.at hi hkr, .inl ⟨rfl, _, SqL.of (S.ok k r hkr).l⟩, ?_⟩
  refine ⟨S.F, ρ, n, _, S.env, S.G, t, fun d n1 r1 v H1 F1 g1 w => ?_⟩
  have S1 := S.step F1 g1 (S.env.frm (mg_fx (W.frm F1)))
  refine ⟨r.1, r.2.map (·.1), v, rfl, rfl, (S1.ok k r hkr).l, by rw [List.length_map]; rw [← ed, List.length_map] at hl; exact lt_line hl, ?_⟩
  have S2 := S1.root hkr (r.2 ++ [(v, d, none)]) (fun x m => (List.mem_append.mp m).imp id fun m => by rw [List.mem_singleton.mp m]; exact ⟨rfl, w⟩) (by
    rw [List.filterMap_append]
    simpa using (List.nodup_cons.mp (S.nd.e k r hkr)).2)
  rw [List.map_append] at S2
  exact k1 _ _ ρ n1 (hr.set k (show HR (.f (ds ++ [d])) (r.1, r.2 ++ [(v, d, none)]) from by show (r.2 ++ [(v, d, none)]).map (fun x : Itm => x.2.1) = _; rw [List.map_append, ed]; rfl)) r1 σ _ ((Bth.frm (mg_fx (W.frm F1))).trans S2.2) S2.1
/-- x.extend(e) -/
def qExt (i : Nat) (t : TD) : TDSO := fun h ρ n Rn _ => ∃ k ds, rootF h ρ i k ds ∧ t ρ n fun d n' => ∃ es, d = .list es ∧ ds.length + es.length ≤ 10000000 ∧ Rn (h.set k (.f (ds ++ es))) ρ n'
theorem os_ext {i : Nat} {t : TD} (h : PS X st (tDrop (tBM X.K "list" rExtend (tVar i) (tCons (tD X.K o t) tNil)))) : PS X st (tDsO X.K o (qExt i t)) := PS.imp h fun D σ H ⟨W, H0, Rs, h, ρ, n, Rn, Rr, S, hr, ⟨k, ds, ⟨hi, hk⟩, t⟩, k1, k2⟩ => by
  obtain ⟨r, hkr, ed⟩ := hr.at hk
  have ed : r.2.map (·.2.1) = ds := ed
  refine ⟨.ref r.1, S.at hi hkr, .inl ⟨rfl, _, SqL.of (S.ok k r hkr).l⟩, ?_⟩
  refine ⟨S.F, ρ, n, _, S.env, S.G, t, fun d n1 ⟨es, e1, l1, r1⟩ v H1 F1 g1 w => ?_⟩
  subst e1
  have S1 := S.step F1 g1 (S.env.frm (mg_fx (W.frm F1)))
  cases w with
  | @lst p zs _ s a =>
    refine ⟨r.1, p, r.2.map (·.1), zs, rfl, rfl, (S1.ok k r hkr).l, s.2, by rw [List.length_map, a.length]; rw [← ed, List.length_map] at l1; exact small_line l1, ?_⟩
    obtain ⟨its, rfl, rfl, i3, i4⟩ := its_mk a
    have S2 := S1.root hkr (r.2 ++ its) (fun x m => (List.mem_append.mp m).imp id fun m => ⟨i3 x m, i4 x m⟩) (by
      rw [List.filterMap_append, fm_none i3, List.append_nil]
      exact (List.nodup_cons.mp (S.nd.e k r hkr)).2)
    rw [List.map_append] at S2
    exact k1 _ _ ρ n1 (hr.set k (show HR (.f (ds ++ its.map (fun x : Itm => x.2.1))) (r.1, r.2 ++ its) from by show (r.2 ++ its).map (fun x : Itm => x.2.1) = _; rw [List.map_append, ed])) r1 σ _ ((Bth.frm (mg_fx (W.frm F1))).trans S2.2) S2.1
/-- x.pop(e) -/
theorem er_map {α β : Type} (f : α → β) : ∀ (l : List α) (j : Nat), (l.eraseIdx j).map f = (l.map f).eraseIdx j
  | [], j => by simp
  | a :: l, 0 => rfl
  | a :: l, j + 1 => by simp only [List.eraseIdx_cons_succ, List.map_cons, er_map f l j]
theorem seq_nat {j n : Nat} (h : j < n) : seqIndex? ((j : Nat) : Int) n = some j := by
  unfold seqIndex?
  have h1 : ¬ ((j : Nat) : Int) < 0 := by omega
  simp only [h1, if_false]
  simp [h]
def qPopF (i : Nat) (t : TD) : TDSO := fun h ρ n Rn _ => ∃ k ds, rootF h ρ i k ds ∧ t (ρ.map (bor h)) n fun d n' => ∃ j : Nat, d = .int (j : Nat) ∧ j < ds.length ∧ ds.length ≤ 10000000 ∧ Rn (h.set k (.f (ds.eraseIdx j))) ρ n'
def qPopN (i : Nat) (t : TD) : TDSO := fun h ρ n Rn _ => ∃ k ds, rootN h ρ i k ds ∧ t (ρ.map (bor h)) n fun d n' => ∃ j : Nat, d = .int (j : Nat) ∧ j < ds.length ∧ ds.length ≤ 10000000 ∧ Rn (h.set k (.n (ds.eraseIdx j))) ρ n'
theorem pop_over {W : Fld} {H0 H : Hp} {Rs : List Rt} {ρ : List DS} {σ : L2.St} {n i k : Nat} {h : List HD} {r : Rt} {ds : List PyData} {t : TD} {Rn : List HD → List DS → Nat → Prop} {g : List PyData → HD} {D : Ends} (S : OwSt X.K o W H0 H Rs ρ σ n) (hr : HRs h Rs) (hi : ρ[i]? = some (DS.ow k)) (hkr : Rs[k]? = some r) (ed : r.2.map (·.2.1) = ds)
    (hg : ∀ j, HR (g (ds.eraseIdx j)) (r.1, r.2.eraseIdx j)) (ht : t (ρ.map (bor h)) n fun d n' => ∃ j : Nat, d = .int (j : Nat) ∧ j < ds.length ∧ ds.length ≤ 10000000 ∧ Rn (h.set k (g (ds.eraseIdx j))) ρ n')
    (k1 : ∀ Rs' h' ρ' n', HRs h' Rs' → Rn h' ρ' n' → ∀ σ' H', Bth X.K (MG W Rs) (MG W Rs') H H' → OwSt X.K o W H0 H' Rs' ρ' σ' n' → D.nx σ' H') :
    tDrop (tBM X.K "list" rPopAt (tVar i) (tCons (tD X.K o t) tNil)) D σ H := by
  refine ⟨.ref r.1, S.at hi hkr, .inl ⟨rfl, _, SqL.of (S.ok k r hkr).l⟩, ?_⟩
  refine ⟨W, _, n, _, S.bor hr, S.g, ht, fun d n1 ⟨j, e1, l1, l2, r1⟩ v H1 F1 g1 w => ?_⟩
  subst e1
  cases w
  have S1 := S.frm F1 g1
  have l3 : j < r.2.length := by rw [← ed, List.length_map] at l1; exact l1
  have l4 : r.2.length ≤ 10000000 := by rw [← ed, List.length_map] at l2; exact l2
  refine ⟨r.1, r.2.map (·.1), (j : Nat), j, _, rfl, rfl, (S1.ok k r hkr).l, by omega, by omega, by rw [List.length_map]; exact seq_nat l3, List.getElem?_eq_getElem (by rw [List.length_map]; exact l3), ?_⟩
  have S2 := S1.root hkr (r.2.eraseIdx j) (fun x m => .inl (List.mem_of_mem_eraseIdx m)) ((List.nodup_cons.mp (S.nd.e k r hkr)).2.sublist ((List.eraseIdx_sublist r.2 j).filterMap _))
  rw [er_map] at S2
  exact k1 _ _ ρ n1 (hr.set k (hg j)) r1 σ _ ((Bth.frm (mg_fx (W.frm F1))).trans S2.2) S2.1
theorem os_popF {i : Nat} {t : TD} (h : PS X st (tDrop (tBM X.K "list" rPopAt (tVar i) (tCons (tD X.K o t) tNil)))) : PS X st (tDsO X.K o (qPopF i t)) := PS.imp h fun D σ H ⟨W, H0, Rs, h, ρ, n, Rn, Rr, S, hr, ⟨k, ds, ⟨hi, hk⟩, t⟩, k1, k2⟩ => by
  obtain ⟨r, hkr, ed⟩ := hr.at hk
  have ed : r.2.map (·.2.1) = ds := ed
  exact pop_over (g := .f) S hr hi hkr ed (fun j => by show (r.2.eraseIdx j).map (·.2.1) = _; rw [er_map, ed]) t k1
theorem os_popN {i : Nat} {t : TD} (h : PS X st (tDrop (tBM X.K "list" rPopAt (tVar i) (tCons (tD X.K o t) tNil)))) : PS X st (tDsO X.K o (qPopN i t)) := PS.imp h fun D σ H ⟨W, H0, Rs, h, ρ, n, Rn, Rr, S, hr, ⟨k, ds, ⟨hi, hk⟩, t⟩, k1, k2⟩ => by
  obtain ⟨r, hkr, ed, en⟩ := hr.at hk
  exact pop_over (g := .n) S hr hi hkr ed (fun j => ⟨by show (r.2.eraseIdx j).map (·.2.1) = _; rw [er_map, ed], fun x m => en x (List.mem_of_mem_eraseIdx m)⟩) t k1
/-! ### for -/
def qForO (f : PyData → List DS → (List DS → Prop) → Prop) (src : TDI) (tb : TDSO) : TDSO := fun h ρ n Rn Rr => src ρ n fun ds n1 => ∃ I : Nat → List HD → List DS → Nat → Prop, I 0 h ρ n1 ∧
  (∀ i x h' ρ' m, ds[i]? = some x → I i h' ρ' m → f x ρ' fun ρ2 => tb h' ρ2 m (fun h'' ρ'' m' => I (i + 1) h'' ρ'' m') Rr) ∧ ∀ h' ρ' m, I ds.length h' ρ' m → Rn h' ρ' m
theorem Bth.fx {K : PySem.W.Frag} {M N : Addr → Prop} {H H' : Hp} (B : Bth K M N H H') : Fx M H H' := fun c u n e t => (B.o n e t).2
theorem os_for {vs0 : List Nat} {g : TG} {f} {src : TDI} {tb : TDSO} (hf : GFit X.K vs0 g f) (h : PS X st (tFor (tDI X.K o src) g (tDsO X.K o tb))) : PS X st (tDsO X.K o (qForO f src tb)) := PS.imp h fun D σ H ⟨W, H0, Rs, h, ρ, n, Rn, Rr, S, hr, t, k1, k2⟩ =>
  ⟨S.F, ρ, n, _, S.env, S.G, t, fun ds n1 ⟨I, h0, hs, hd⟩ J H1 F1 g1 ⟨P, vs, wk, da, hP⟩ => by
    have ln := da.length
    have S1 := S.step F1 g1 (S.env.frm (mg_fx (W.frm F1)))
    have B1 : Bth X.K (MG W Rs) (MG W Rs) H H1 := Bth.frm (mg_fx (W.frm F1))
    refine ⟨fun i m σ' H' => m = ds.length - i ∧ i ≤ ds.length ∧ ∃ Rs' h' ρ' c, HRs h' Rs' ∧ I i h' ρ' c ∧ OwSt X.K o W H0 H' Rs' ρ' σ' c ∧ Bth X.K (MG W Rs) (MG W Rs') H1 H', ⟨_, rfl, Nat.zero_le _, Rs, h, ρ, n1, hr, h0, S1, Bth.frm (Fx.refl)⟩, ?_⟩
    rintro i m σ' H' ⟨rfl, hi, Rs', h', ρ', c, hr', inv, S', B'⟩
    have w := wk i H' (hP _ B'.fx)
    by_cases hlt : i < ds.length
    · refine .inr ⟨w.1 (by omega), fun σ2 H2 => i + 1 ≤ ds.length ∧ ∃ Rs' h' ρ' c, HRs h' Rs' ∧ I (i + 1) h' ρ' c ∧ OwSt X.K o W H0 H2 Rs' ρ' σ2 c ∧ Bth X.K (MG W Rs) (MG W Rs') H1 H2, fun σ2 H2 q => ⟨_, by omega, rfl, q⟩, fun x H2 y => ?_⟩
      obtain ⟨e2, y2⟩ := w.2.2 x H2 y
      subst e2
      obtain ⟨d, hd1, hd2⟩ := da.get (y2 (by omega))
      refine hf o _ _ _ x d ρ' σ' _ _ (Dw.bthR B' _ _ hd2) S'.env (hs i d h' ρ' c hd1 inv) fun ρ2 r2 σ2 E2 _ => ?_
      exact ⟨W, H0, Rs', h', ρ2, c, _, Rr, ⟨E2, S'.g, S'.rel, S'.nd, S'.out, S'.ok⟩, hr', r2, fun Rs3 h3 ρ3 m3 hr3 r3 σ3 H3 B3 S3 => ⟨hlt, Rs3, h3, ρ3, m3, hr3, r3, S3, B'.trans B3⟩, fun d3 m3 r3 v3 H3 F3 g3 w3 => k2 d3 m3 r3 v3 H3 F3 g3 w3⟩
    · have e : i = ds.length := by omega
      subst e
      exact .inl ⟨w.2.1 (by omega), k1 Rs' h' ρ' c hr' (hd h' ρ' c inv) σ' H' (B1.trans B') S'⟩⟩
end
end MT
set_option maxHeartbeats 1000000
/-! lists of lists under way -/
namespace MT
open PySem L2
section
variable {K : PySem.W.Frag} {o : Option TSet} {W : Fld} {H0 H H' : Hp} {Rs : List Rt} {ρ : List DS} {σ : L2.St} {n n' k : Nat} {M N : Addr → Prop}
theorem fm_inj : ∀ {l : List Itm}, (l.filterMap (·.2.2)).Nodup → ∀ {i j : Nat} {x y : Itm} {q : Addr}, l[i]? = some x → l[j]? = some y → x.2.2 = some q → y.2.2 = some q → i = j
  | [], _, i, j, x, y, q, ex, _, _, _ => by simp at ex
  | a :: l, nd, i, j, x, y, q, ex, ey, hx, hy => by
    have nd2 : (l.filterMap (·.2.2)).Nodup := by
      rw [List.filterMap_cons] at nd
      cases h : a.2.2 with
      | none => rw [h] at nd; exact nd
      | some b => rw [h] at nd; exact (List.nodup_cons.mp nd).2
    have no : ∀ {k : Nat} {z : Itm}, l[k]? = some z → z.2.2 = some q → a.2.2 ≠ some q := fun {k z} ez hz ha => by
      rw [List.filterMap_cons, ha] at nd
      exact (List.nodup_cons.mp nd).1 (List.mem_filterMap.mpr ⟨z, List.mem_of_getElem? ez, hz⟩)
    cases i with
    | zero =>
      cases j with
      | zero => rfl
      | succ j => cases ex; exact (no ey hy hx).elim
    | succ i =>
      cases j with
      | zero => cases ey; exact (no ex hx hy).elim
      | succ j => exact congrArg Nat.succ (fm_inj nd2 ex ey hx hy)
theorem fm_set : ∀ {l : List Itm} {j : Nat} {x y : Itm}, l[j]? = some x → y.2.2 = x.2.2 → (l.set j y).filterMap (·.2.2) = l.filterMap (·.2.2)
  | [], j, x, y, e, _ => by simp at e
  | a :: l, 0, x, y, e, h => by
    cases e
    rw [List.set_cons_zero, List.filterMap_cons, List.filterMap_cons, h]
  | a :: l, j + 1, x, y, e, h => by
    rw [List.set_cons_succ, List.filterMap_cons, List.filterMap_cons, fm_set (l := l) e h]
theorem set_all {v : V} {d : PyData} : ∀ {ys : List V} {es : List PyData}, DwAll K M H ys es → ∀ b, Dw K M H v d → DwAll K M H (ys.set b v) (es.set b d)
  | _, _, .nil, _, _ => .nil
  | _, _, .cons _ r, 0, w => .cons w r
  | _, _, .cons a r, b + 1, w => .cons a (set_all r b w)
theorem set_self {α : Type} : ∀ {l : List α} {j : Nat} {x : α}, l[j]? = some x → l.set j x = l
  | [], _, _, e => by simp at e
  | a :: l, 0, x, e => by cases e; rfl
  | a :: l, j + 1, x, e => by rw [List.set_cons_succ, set_self (l := l) e]
/-- one place of one of its lists changed -/
theorem OwSt.inner {r : Rt} {j b : Nat} {ys : List V} {es : List PyData} {q : Addr} {v : V} {d : PyData} (S : OwSt K o W H0 H Rs ρ σ n) (hk : Rs[k]? = some r) (hj : r.2[j]? = some (.ref q, .list es, some q))
    (hq : H q = some (.lst ys)) (ha : DwAll K (MG W Rs) H ys es) (hv : Dw K (MG W Rs) H v d) :
    OwSt K o W H0 (upd H q (.lst (ys.set b v))) (Rs.set k (r.1, r.2.set j (.ref q, .list (es.set b d), some q))) ρ σ n ∧ Bth K (MG W Rs) (MG W (Rs.set k (r.1, r.2.set j (.ref q, .list (es.set b d), some q)))) H (upd H q (.lst (ys.set b v))) := by
  obtain ⟨kk, lt⟩ := owLt_big ρ
  have nr := S.nd.e k r hk
  have qa : q ∈ adr r := it_mem (List.mem_of_getElem? hj) rfl
  have fs : (r.2.set j (V.ref q, PyData.list (es.set b d), some q)).filterMap (·.2.2) = r.2.filterMap (·.2.2) := fm_set hj rfl
  have ad : adr (r.1, r.2.set j (V.ref q, PyData.list (es.set b d), some q)) = adr r := by
    unfold adr
    rw [fs]
  have nq : r.1 ≠ q := fun z => (List.nodup_cons.mp nr).1 (z ▸ List.mem_filterMap.mpr ⟨_, List.mem_of_getElem? hj, rfl⟩)
  refine S.re ⟨k, r, hk, qa⟩ (fun c m => at_set hk (fun c m => by rw [ad] at m; exact m) m) (nd_set S.nd hk (fun c m => .inl (by rw [ad] at m; exact m)) (by rw [ad]; exact nr)) (fun j _ => ov_set hk rfl) lt fun i x e => ?_
  rcases get_set e with ⟨_, rfl⟩ | ⟨ni, e⟩
  · have fx : Fx (MG W Rs) H (upd H q (.lst (ys.set b v))) := fx_frm (Frm.mono (frm_upd (a := q)) fun c e => e ▸ .inr ⟨k, r, hk, qa⟩)
    refine ⟨?_, fun x m => ?_⟩
    · show upd H q _ r.1 = _
      rw [upd_ne nq, (S.ok k r hk).l]
      congr 2
      show r.2.map (·.1) = (r.2.set j (V.ref q, PyData.list (es.set b d), some q)).map (·.1)
      rw [List.map_set]
      exact (set_self (by rw [List.getElem?_map, hj]; rfl)).symm
    · obtain ⟨i2, e2⟩ := List.mem_iff_getElem?.mp m
      rcases get_set e2 with ⟨_, rfl⟩ | ⟨n2, e2⟩
      · exact ⟨ys.set b v, es.set b d, rfl, upd_same, rfl, by
          have a2 := ha.frm fx
          have v2 := hv.frm fx
          exact set_all a2 b v2⟩
      · exact ((S.ok k r hk).i x (List.mem_of_getElem? e2)).bth (Bth.frm fx) fun c ec => upd_ne fun z => n2 (fm_inj (List.nodup_cons.mp nr).2 e2 hj ec (congrArg some z.symm))
  · exact S.other hk qa ni e
/-- a list of its own put in -/
theorem OwSt.putIn {r : Rt} {p : Addr} {its : List Itm} {j : Nat} (S : OwSt K o W H0 H (Rs ++ [(p, its)]) ρ σ n) (nn : ∀ x ∈ its, x.2.2 = none) (hk : Rs[k]? = some r) (lt : owLt Rs.length ρ = true) :
    OwSt K o W H0 (upd H r.1 (.lst ((r.2.map (·.1)).take j ++ [.ref p] ++ (r.2.map (·.1)).drop j))) (Rs.set k (r.1, r.2.take j ++ [(.ref p, .list (its.map (·.2.1)), some p)] ++ r.2.drop j)) ρ σ n ∧
      Bth K (MG W (Rs ++ [(p, its)])) (MG W (Rs.set k (r.1, r.2.take j ++ [(.ref p, .list (its.map (·.2.1)), some p)] ++ r.2.drop j))) H (upd H r.1 (.lst ((r.2.map (·.1)).take j ++ [.ref p] ++ (r.2.map (·.1)).drop j))) := by
  have lk := (List.getElem?_eq_some_iff.mp hk).1
  have hk1 : (Rs ++ [(p, its)])[k]? = some r := by rw [List.getElem?_append_left lk]; exact hk
  have hp1 : (Rs ++ [(p, its)])[Rs.length]? = some (p, its) := by rw [List.getElem?_append_right (Nat.le_refl _), Nat.sub_self]; rfl
  have adp : adr (p, its) = [p] := by unfold adr; rw [fm_none nn]
  have pin : p ∈ adr (p, its) := List.mem_cons_self
  have npR : ¬ AtR Rs p := fun ⟨i, x, e, m⟩ => by
    have li := (List.getElem?_eq_some_iff.mp e).1
    have q := S.nd.d i Rs.length x (p, its) p (by rw [List.getElem?_append_left li]; exact e) hp1 m pin
    omega
  have npr : p ∉ adr r := fun m => npR ⟨k, r, hk, m⟩
  have ndR : NdR Rs := ⟨fun i x e => S.nd.e i x (by rw [List.getElem?_append_left (List.getElem?_eq_some_iff.mp e).1]; exact e), fun i j a b c ea eb => S.nd.d i j a b c (by rw [List.getElem?_append_left (List.getElem?_eq_some_iff.mp ea).1]; exact ea) (by rw [List.getElem?_append_left (List.getElem?_eq_some_iff.mp eb).1]; exact eb)⟩
  have nr := S.nd.e k r hk1
  have fm : (r.2.take j ++ [((.ref p, .list (its.map (·.2.1)), some p) : Itm)] ++ r.2.drop j).filterMap (·.2.2) = (r.2.take j).filterMap (·.2.2) ++ p :: (r.2.drop j).filterMap (·.2.2) := by
    rw [List.filterMap_append, List.filterMap_append, List.append_assoc]
    rfl
  have sp : r.2.filterMap (·.2.2) = (r.2.take j).filterMap (·.2.2) ++ (r.2.drop j).filterMap (·.2.2) := by rw [← List.filterMap_append, List.take_append_drop]
  have sub : ∀ c ∈ adr (r.1, r.2.take j ++ [((.ref p, .list (its.map (·.2.1)), some p) : Itm)] ++ r.2.drop j), c ∈ adr r ∨ c = p := fun c m => by
    rcases List.mem_cons.mp m with e | m
    · exact .inl (by rw [e]; exact List.mem_cons_self)
    · have m : c ∈ (r.2.take j ++ [((.ref p, .list (its.map (·.2.1)), some p) : Itm)] ++ r.2.drop j).filterMap (·.2.2) := m
      rw [fm] at m
      rcases List.mem_append.mp m with m | m
      · exact .inl (List.mem_cons_of_mem _ (by rw [sp]; exact List.mem_append_left _ m))
      · rcases List.mem_cons.mp m with m | m
        · exact .inr m
        · exact .inl (List.mem_cons_of_mem _ (by rw [sp]; exact List.mem_append_right _ m))
  refine S.re ⟨k, r, hk1, List.mem_cons_self⟩ (fun c m => ?_) (nd_set ndR hk (fun c m => (sub c m).imp id fun e => by rw [e]; exact npR) ?_) (fun i l => (ov_set (r' := (r.1, r.2.take j ++ [((.ref p, .list (its.map (·.2.1)), some p) : Itm)] ++ r.2.drop j)) hk rfl).trans (ov_app l).symm) lt fun i x e => ?_
  · obtain ⟨i, x, e, m⟩ := m
    rcases get_set e with ⟨_, rfl⟩ | ⟨_, e⟩
    · rcases sub c m with m | m
      · exact ⟨k, r, hk1, m⟩
      · exact ⟨_, _, hp1, by rw [adp]; exact List.mem_singleton.mpr m⟩
    · exact at_left ⟨i, x, e, m⟩
  · unfold adr
    rw [fm]
    unfold adr at nr npr
    rw [sp] at nr npr
    have h1 := List.nodup_cons.mp nr
    refine List.nodup_cons.mpr ⟨fun m => ?_, ?_⟩
    · rcases List.mem_append.mp m with m | m
      · exact h1.1 (List.mem_append_left _ m)
      · rcases List.mem_cons.mp m with m | m
        · exact npr (by rw [← m]; exact List.mem_cons_self)
        · exact h1.1 (List.mem_append_right _ m)
    · refine (List.perm_middle.nodup_iff).mpr (List.nodup_cons.mpr ⟨fun m => npr (List.mem_cons_of_mem _ m), h1.2⟩)
  · rcases get_set e with ⟨_, rfl⟩ | ⟨ni, e⟩
    · have fx : ∀ {zs : List V}, Fx (MG W (Rs ++ [(p, its)])) H (upd H r.1 (.lst zs)) := fun {zs} => fx_frm (Frm.mono (frm_upd (a := r.1)) fun c e => e ▸ .inr ⟨k, r, hk1, List.mem_cons_self⟩)
      refine ⟨by rw [upd_same]; simp only [List.map_append, List.map_take, List.map_drop, List.map_cons, List.map_nil], fun x m => ?_⟩
      have old : ∀ x ∈ r.2, ItOk K (MG W (Rs ++ [(p, its)])) (upd H r.1 (.lst ((r.2.map (·.1)).take j ++ [.ref p] ++ (r.2.map (·.1)).drop j))) x := fun x m =>
        ((S.ok k r hk1).i x m).bth (Bth.frm fx) fun c ec => upd_ne fun z => (List.nodup_cons.mp nr).1 (List.mem_filterMap.mpr ⟨x, m, ec.trans (congrArg some z)⟩)
      rcases List.mem_append.mp m with m | m
      · rcases List.mem_append.mp m with m | m
        · exact old x (List.mem_of_mem_take m)
        · rw [List.mem_singleton.mp m]
          have q := S.ok _ _ hp1
          have w := its_dw (N := MG W (Rs ++ [(p, its)])) (fun c u m _ => m) q.i fun x m z ez => by rw [nn x m] at ez; cases ez
          exact ⟨its.map (·.1), its.map (·.2.1), rfl, by rw [upd_ne (show p ≠ r.1 from fun z => npr (by rw [z]; exact List.mem_cons_self))]; exact q.l, rfl, w.frm fx⟩
      · exact old x (List.mem_of_mem_drop m)
    · exact S.other hk1 List.mem_cons_self ni (by rw [List.getElem?_append_left (List.getElem?_eq_some_iff.mp e).1]; exact e)
end
section
variable {X : Cx} {e : Expr} {st : Stmt} {ss : List Stmt} {o : Option TSet}
theorem atI_natM {α : Type} {xs : List α} {j : Nat} {x : α} (h : xs[j]? = some x) : atI xs ((j : Nat) : Int) = some x := by
  have l := (List.getElem?_eq_some_iff.mp h).1
  unfold atI ixN
  rw [if_pos (by omega), if_pos (by omega)]
  exact h
theorem ixN_nat {n j : Nat} (h : j < n) : ixN n ((j : Nat) : Int) = some j := by
  unfold ixN
  rw [if_pos (by omega), if_pos (by omega)]
  rfl
/-- x[a][b] = e -/
def qSto2 (i : Nat) (t a b : TD) : TDSO := fun h ρ n Rn _ => ∃ k ds, rootN h ρ i k ds ∧ t (ρ.map (bor h)) n fun d n1 => atomD d = true ∧ a (ρ.map (bor h)) n1 fun da n2 => ∃ (x : Nat) (es : List PyData), da = .int (x : Nat) ∧ ds[x]? = some (.list es) ∧ b (ρ.map (bor h)) n2 fun db n3 =>
  ∃ y : Nat, db = .int (y : Nat) ∧ y < es.length ∧ Rn (h.set k (.n (ds.set x (.list (es.set y d))))) ρ n3
theorem os_sto2 {i : Nat} {t a b : TD} (h : PS X st (tAsg (tD X.K o t) (gSub (tOp (rIxU X.K) (tVar i) (tD X.K o a)) (tD X.K o b) rSetL))) : PS X st (tDsO X.K o (qSto2 i t a b)) := PS.imp h fun D σ H ⟨W, H0, Rs, h, ρ, n, Rn, Rr, S, hr, ⟨k, ds, ⟨hi, hk⟩, t⟩, k1, k2⟩ => by
  obtain ⟨r, hkr, ed, en⟩ := hr.at hk
  refine ⟨W, _, n, _, S.bor hr, S.g, t, fun d n1 ⟨at1, ra⟩ v H1 F1 g1 w1 => ?_⟩
  have S1 := S.frm F1 g1
  refine ⟨.ref r.1, S.at hi hkr, W, _, n1, _, S1.bor hr, g1, ra, fun da n2 ⟨x, es, ea, ex, rb⟩ va H2 F2 g2 w2 => ?_⟩
  subst ea
  cases w2
  have S2 := S1.frm F2 g2
  rw [← ed, List.getElem?_map] at ex
  cases q : r.2[x]? with
  | none => rw [q] at ex; cases ex
  | some it =>
    rw [q] at ex
    obtain ⟨v0, d0, a0⟩ := it
    have ex : d0 = .list es := Option.some.inj ex
    subst ex
    cases a0 with
    | none => exact (en _ (List.mem_of_getElem? q) rfl).elim
    | some q0 =>
      obtain ⟨ys0, ds0, h1, h2, h3, h4⟩ := (S2.ok k r hkr).i _ (List.mem_of_getElem? q)
      have h1 : v0 = .ref q0 := h1
      subst h1
      refine .inl ⟨r.1, r.2.map (·.1), (x : Nat), .ref q0, rfl, rfl, .inl (SqL.of (S2.ok k r hkr).l), atI_natM (by rw [List.getElem?_map, q]; rfl), ?_⟩
      refine ⟨W, _, n2, _, S2.bor hr, g2, rb, fun db n3 ⟨y, eb, ly, rr⟩ vb H3 F3 g3 w3 => ?_⟩
      subst eb
      cases w3
      have S3 := S2.frm F3 g3
      obtain ⟨ys, ds1, _, k2, k3, k4⟩ := (S3.ok k r hkr).i _ (List.mem_of_getElem? q)
      have k3 : PyData.list es = .list ds1 := k3
      cases k3
      refine ⟨q0, ys, (y : Nat), y, rfl, rfl, k2, ixN_nat (by rw [k4.length]; exact ly), ?_⟩
      have S4 := S3.inner (b := y) hkr q k2 k4 (atom_dw (H' := H3) w1 at1)
      refine k1 _ _ ρ n3 (hr.set k (x := .n (ds.set x (.list (es.set y d)))) (r := (r.1, r.2.set x (V.ref q0, PyData.list (es.set y d), some q0))) ⟨?_, fun z m => ?_⟩) rr σ _ ((Bth.frm (mg_fx (W.frm (W.trans F1 (W.trans F2 F3))))).trans S4.2) S4.1
      · show (r.2.set x (V.ref q0, PyData.list (es.set y d), some q0)).map (fun z : Itm => z.2.1) = _
        rw [List.map_set, ed]
      · rcases List.mem_or_eq_of_mem_set m with m | m
        · exact en z m
        · rw [m]
          exact fun z => by cases z
/-- x.insert(e, list(..)) -/
abbrev rIns : V → List V → Hp → VK → Prop := fun x vs H Q => ∃ (l : Addr) (xs : List V) (i : Int) (y : V), x = .ref l ∧ vs = [.int i, y] ∧ H l = some (.lst xs) ∧ xs.length < sizeLine ∧ 0 ≤ i ∧ i < 2 ^ 63 ∧
    Q .non (upd H l (.lst (xs.take i.toNat ++ [y] ++ xs.drop i.toNat)))
def qInsL (i : Nat) (a : TD) (t : TDA) : TDSO := fun h ρ n Rn _ => ∃ k ds, rootN h ρ i k ds ∧ owLt h.length ρ = true ∧ ds.length < 10000000 ∧ a (ρ.map (bor h)) n fun da n1 => ∃ j : Nat, da = .int (j : Nat) ∧ j < 2 ^ 62 ∧ t (ρ.map (bor h)) n1 fun es n2 =>
  (∀ e ∈ es, atomD e = true) ∧ Rn (h.set k (.n (ds.take j ++ [.list es] ++ ds.drop j))) ρ n2
theorem os_insL {i : Nat} {a : TD} {t : TDA} (h : PS X st (tDrop (tBM X.K "list" rIns (tVar i) (tCons (tD X.K o a) (tCons (tDF X.K o t) tNil))))) : PS X st (tDsO X.K o (qInsL i a t)) := PS.imp h fun D σ H ⟨W, H0, Rs, h, ρ, n, Rn, Rr, S, hr, ⟨k, ds, ⟨hi, hk⟩, lt, ll, t⟩, k1, k2⟩ => by
  obtain ⟨r, hkr, ed, en⟩ := hr.at hk
  refine ⟨.ref r.1, S.at hi hkr, .inl ⟨rfl, _, SqL.of (S.ok k r hkr).l⟩, ?_⟩
  refine ⟨W, _, n, _, S.bor hr, S.g, t, fun da n1 ⟨j, ea, lj, rt⟩ va H1 F1 g1 w1 => ?_⟩
  subst ea
  cases w1
  have S1 := S.frm F1 g1
  refine ⟨W, _, n1, _, S1.bor hr, g1, rt, fun es n2 ⟨ats, rr⟩ p xs m Hb H2 Fb gb eb F2 g2 hp da => ?_⟩
  obtain ⟨its, rfl, rfl, i3, i4⟩ := its_mk da
  have adp : adr (p, its) = [p] := by unfold adr; rw [fm_none i3]
  have sm : ∀ c ∈ adr (p, its), ∃ m Hb, W.Rel H1 Hb ∧ S1.F.G m Hb ∧ Hb c = none := fun c mc => by
    rw [adp] at mc
    rw [List.mem_singleton.mp mc]
    exact ⟨m, Hb, Fb, ⟨gb, S1.kept (W.frm Fb)⟩, eb⟩
  obtain ⟨S2, B2⟩ := S1.bornR (r := (p, its)) (H1 := H2) (n' := n2) (W.trans Fb F2) ⟨g2, S1.kept (W.frm (W.trans Fb F2))⟩ sm (by rw [adp]; simp) ⟨hp, fun x mx => it_none (i3 x mx) (atom_dw (i4 x mx) (ats _ (List.mem_map_of_mem mx)))⟩ (by rw [← hr.1]; exact lt)
  have hl : H2 r.1 = some (.lst (r.2.map (·.1))) := (S2.ok k r (by rw [List.getElem?_append_left (List.getElem?_eq_some_iff.mp hkr).1]; exact hkr)).l
  have ln : r.2.length = ds.length := by rw [← ed, List.length_map]
  refine ⟨r.1, r.2.map (·.1), (j : Nat), .ref p, rfl, rfl, hl, by rw [List.length_map, ln]; exact lt_line ll, by omega, by omega, ?_⟩
  obtain ⟨S3, B3⟩ := S2.putIn (j := j) i3 hkr (by rw [← hr.1]; exact lt)
  refine k1 _ _ ρ n2 (hr.set k (x := .n (ds.take j ++ [.list (its.map (·.2.1))] ++ ds.drop j)) (r := (r.1, r.2.take j ++ [((V.ref p, PyData.list (its.map (·.2.1)), some p) : Itm)] ++ r.2.drop j)) ⟨?_, fun z mz => ?_⟩) rr σ _ ((Bth.frm (mg_fx (W.frm F1))).trans (B2.trans B3)) S3
  · show (r.2.take j ++ [((V.ref p, PyData.list (its.map (·.2.1)), some p) : Itm)] ++ r.2.drop j).map (fun z : Itm => z.2.1) = _
    rw [List.map_append, List.map_append, List.map_take, List.map_drop, ed]
    rfl
  · rcases List.mem_append.mp mz with mz | mz
    · rcases List.mem_append.mp mz with mz | mz
      · exact en z (List.mem_of_mem_take mz)
      · rw [List.mem_singleton.mp mz]
        exact fun z => by cases z
    · exact en z (List.mem_of_mem_drop mz)
/-- a new list of new lists -/
def tDN (K : PySem.W.Frag) (o : Option TSet) (t : TDA) : TE := fun σ H Q => ∃ (W : Fld) (ρ : List DS) (n : Nat) (R : List PyData → Nat → Prop), EnvD K o W.M (W.a, W.ts, W.ov) ρ σ H ∧ W.G n H ∧ t ρ n R ∧
  ∀ ds n', R ds n' → ∀ (r : Rt) H', r.2.map (·.2.1) = ds → (∀ x ∈ r.2, x.2.2 ≠ none) → W.Rel H H' → W.G n' H' → (∀ c ∈ adr r, ∃ m Hb, W.Rel H Hb ∧ W.G m Hb ∧ Hb c = none) → (adr r).Nodup → RtOk K (fun c => W.M c ∨ c ∈ adr r) H' r → Q (.ref r.1) H'
/-- [list(..) for ..] -/
def qLcN (vs : List Nat) (f : PyData → List DS → (List DS → Prop) → Prop) (src : TDI) (tt : TDB) (te : TDA) : TDA := fun ρ n R => src ρ n fun ds n1 => ds.length ≤ 10000000 ∧ ∃ A : Nat → List PyData → Nat → Prop, A 0 [] n1 ∧
  (∀ i x acc m, ds[i]? = some x → A i acc m → f x (wipeD ρ vs) fun ρ' => tt ρ' m fun b m' => if b = true then te ρ' m' fun es m'' => A (i + 1) (acc ++ [.list es]) m'' else A (i + 1) acc m') ∧
  ∀ acc m, A ds.length acc m → acc.length ≤ ds.length → R acc m
theorem dn_lc {vs0 : List Nat} {g : TG} {f} {src : TDI} {tt : TDB} {te : TDA} (hf : GFit X.K vs0 g f) (h : PE X e (tLc (tDI X.K o src) g (tDB X.K o tt) (tDF X.K o te) vs0)) : PE X e (tDN X.K o (qLcN vs0 f src tt te)) := PE.imp h fun σ H Q ⟨W, ρ, n, R, E, gg, t, k⟩ =>
  ⟨W, ρ, n, _, E, gg, t, fun ds n1 ⟨hlen, A, h0, hs, hd⟩ J H1 F1 g1 ⟨P, vs, wk, da, hP⟩ D hD => by
    have ln := da.length
    have E1 := E.frm (W.frm F1)
    refine ⟨fun i m H' => m = ds.length - i ∧ i ≤ ds.length ∧ ∃ (l : List Itm) (c : Nat), A i (l.map (·.2.1)) c ∧ (∀ x ∈ l, x.2.2 ≠ none) ∧ l.length ≤ i ∧ W.G c H' ∧ W.Rel H1 H' ∧ (∀ q ∈ adr (D, l), ∃ m Hb, W.Rel H1 Hb ∧ W.G m Hb ∧ Hb q = none) ∧ (adr (D, l)).Nodup ∧ RtOk X.K (fun c => W.M c ∨ c ∈ adr (D, l)) H' (D, l),
      ⟨_, rfl, Nat.zero_le _, [], n1, h0, (fun x m => by cases m), Nat.le_refl _, W.updG g1 hD g1 (fun u e => by rw [hD] at e; cases e), W.updR W.refl hD, (fun q mq => by rw [List.mem_singleton.mp mq]; exact ⟨n1, H1, W.refl, g1, hD⟩), (by unfold adr; simp), ⟨upd_same, fun x m => by cases m⟩⟩, ?_⟩
    rintro i m H' ⟨rfl, hi, l, c, inv, en, ll, g', F', bn, nd, ok⟩
    have w := wk i H' (hP _ (W.frm F'))
    have nM : ∀ q ∈ adr (D, l), ¬ W.M q := fun q mq z => by
      obtain ⟨m, Hb, Fb, gb, eb⟩ := bn q mq
      obtain ⟨u, e, _⟩ := W.al gb z
      rw [e] at eb
      cases eb
    have B1 : Bth X.K W.M (fun c => W.M c ∨ c ∈ adr (D, l)) H1 H' := bth_of (W.frm F') fun c u m e t => m.elim id fun mq => by
      obtain ⟨m, Hb, Fb, gb, eb⟩ := bn c mq
      rw [W.frm Fb c u (nM c mq) e t] at eb
      cases eb
    by_cases hlt : i < ds.length
    · refine .inr ⟨w.1 (by omega), fun H2 => i + 1 ≤ ds.length ∧ ∃ (l : List Itm) (c : Nat), A (i + 1) (l.map (·.2.1)) c ∧ (∀ x ∈ l, x.2.2 ≠ none) ∧ l.length ≤ i + 1 ∧ W.G c H2 ∧ W.Rel H1 H2 ∧ (∀ q ∈ adr (D, l), ∃ m Hb, W.Rel H1 Hb ∧ W.G m Hb ∧ Hb q = none) ∧ (adr (D, l)).Nodup ∧ RtOk X.K (fun c => W.M c ∨ c ∈ adr (D, l)) H2 (D, l), fun H2 q => ⟨_, by omega, rfl, q⟩, fun x H2 y => ?_⟩
      obtain ⟨e2, y2⟩ := w.2.2 x H2 y
      subst e2
      obtain ⟨d, hd1, hd2⟩ := da.get (y2 (by omega))
      have hp : ∀ c, c ∈ adr (D, l) → ∃ xs, H2 c = some (.lst xs) := fun c m => ok.pl m
      refine hf o _ (W.a, W.ts, W.ov) _ x d (wipeD ρ vs0) (wipe σ vs0) _ _ (Dw.bthR B1 _ _ hd2) ((E1.bth B1).wipe vs0) (hs i d _ c hd1 inv) fun ρ2 r2 σ2 E2 ew => ⟨by rw [ew]; exact wipe_wipe σ vs0, ?_⟩
      refine ⟨ownF W (· ∈ adr (D, l)) H2 W.ov hp nM, ρ2, c, _, E2, ⟨g', fun _ _ => rfl⟩, r2, fun b m3 r3 H3 F3 g3 => ?_⟩
      have fr : ∀ {Ha Hb}, W.Rel Ha Hb → Fx (fun c => W.M c ∨ c ∈ adr (D, l)) Ha Hb := fun F => (W.frm F).mono fun c m => .inl m
      cases b with
      | false => exact ⟨hlt, l, m3, r3, en, Nat.le_succ_of_le ll, g3.1, W.trans F' F3, bn, nd, ok.bth (Bth.frm (fr F3)) g3.2⟩
      | true =>
        refine ⟨ownF W (· ∈ adr (D, l)) H2 W.ov hp nM, ρ2, m3, _, E2.frm (fr F3), g3, r3, fun es m4 r4 p xs mb Hb H4 Fb gb eb F4 g4 hpl dl => ?_⟩
        have kD : H4 D = some (.lst (l.map (·.1))) := by rw [g4.2 D List.mem_cons_self]; exact ok.l
        refine ⟨l.map (·.1), kD, by rw [List.length_map, sizeLine_eq]; omega, hlt, l ++ [(.ref p, .list es, some p)], m4, ?_, fun x mx => ?_, by rw [List.length_append]; exact Nat.succ_le_succ ll, ?_, ?_, fun q mq => ?_, ?_, ?_⟩
        · rw [List.map_append]; exact r4
        · rcases List.mem_append.mp mx with mx | mx
          · exact en x mx
          · rw [List.mem_singleton.mp mx]; exact fun z => by cases z
        · exact W.updG g1 hD g4.1 (fun u e => by rw [kD] at e; cases e; trivial)
        · exact W.updR (W.trans F' (W.trans F3 (W.trans Fb F4))) hD
        all_goals have ad : adr (D, l ++ [((V.ref p, PyData.list es, some p) : Itm)]) = adr (D, l) ++ [p] := by
                    unfold adr
                    rw [List.filterMap_append]
                    rfl
        · rw [ad] at mq
          rcases List.mem_append.mp mq with mq | mq
          · exact bn q mq
          · rw [List.mem_singleton.mp mq]
            exact ⟨mb, Hb, W.trans F' (W.trans F3 Fb), gb.1, eb⟩
        · have np : p ∉ adr (D, l) := fun mq => by
            obtain ⟨zs, ez⟩ := hp p mq
            rw [gb.2 p mq, ez] at eb
            cases eb
          rw [ad]
          exact List.nodup_append.mpr ⟨nd, by simp, fun a ma b mb z => np (by rw [← List.mem_singleton.mp mb, ← z]; exact ma)⟩
        · have np : p ∉ adr (D, l) := fun mq => by
            obtain ⟨zs, ez⟩ := hp p mq
            rw [gb.2 p mq, ez] at eb
            cases eb
          have npM : ¬ W.M p := fun z => by
            obtain ⟨u, e, _⟩ := W.al gb.1 z
            rw [e] at eb
            cases eb
          rw [ad]
          have B4 : Bth X.K (fun c => W.M c ∨ c ∈ adr (D, l)) (fun c => W.M c ∨ c ∈ adr (D, l) ++ [p]) H2 H4 := bth_of (fr (W.trans F3 (W.trans Fb F4))) fun c u m e t => m.elim .inl fun mq => (List.mem_append.mp mq).elim .inr fun mq => by
            have e0 := List.mem_singleton.mp mq
            rw [e0] at e
            rw [fr (W.trans F3 Fb) p u (fun z => z.elim npM np) e t] at eb
            cases eb
          have fD : Fx (fun c => W.M c ∨ c ∈ adr (D, l) ++ [p]) H4 (upd H4 D (.lst (l.map (·.1) ++ [V.ref p]))) := fx_frm (Frm.mono (frm_upd (a := D)) fun c e => e ▸ .inr (List.mem_append_left _ List.mem_cons_self))
          have nD := List.nodup_cons.mp nd
          refine ⟨by rw [upd_same, List.map_append]; rfl, fun x mx => ?_⟩
          rcases List.mem_append.mp mx with mx | mx
          · exact ((ok.i x mx).bth B4 fun q e => g4.2 q (it_mem (r := (D, l)) mx e)).bth (Bth.frm fD) fun q e => upd_ne fun z => nD.1 (z ▸ List.mem_filterMap.mpr ⟨x, mx, e⟩)
          · rw [List.mem_singleton.mp mx]
            refine ⟨xs, es, rfl, by rw [upd_ne (show p ≠ D from fun z => np (by rw [z]; exact List.mem_cons_self))]; exact hpl, rfl, (dl.more fun c u m _ => ?_).frm fD⟩
            rcases m with m | m
            · exact .inl (.inl m)
            · rcases List.mem_append.mp m with m | m
              · exact .inl (.inr m)
              · exact .inr (List.mem_singleton.mp m)
    · have e : i = ds.length := by omega
      subst e
      exact .inl ⟨w.2.1 (by omega), k _ c (hd _ c inv (by rw [List.length_map]; omega)) (D, l) H' rfl en (W.trans F1 F') g' (fun q mq => (bn q mq).imp fun m ⟨Hb, Fb, z⟩ => ⟨Hb, W.trans F1 Fb, z⟩) nd ok⟩⟩
/-- x, y, z = a new list, e, e -/
def qPar3R (own : Bool) (i j l : Nat) (t : TDA) (u w : TD) : TDSO := fun h ρ n Rn _ => owLt h.length ρ = true ∧ t ρ n fun ds n1 => u ρ n1 fun d n2 => w ρ n2 fun e n3 => Rn (h ++ [if own = true then .n ds else .f ds]) (((ρ.set i (.ow h.length)).set j (.d d)).set l (.d e)) n3
theorem os_par3R {i j l : Nat} {t : TDA} {u w : TD} (h : PS X st (tPar3 i j l (tCons (tDR X.K o t) (tCons (tD X.K o u) (tCons (tD X.K o w) tNil))))) : PS X st (tDsO X.K o (qPar3R false i j l t u w)) := PS.imp h fun D σ H ⟨W, H0, Rs, h, ρ, n, Rn, Rr, S, hr, ⟨lt, t⟩, k1, k2⟩ => by
  refine ⟨S.F, ρ, n, _, S.env, S.G, t, fun ds n1 r1 r H1 ed F1 g1 b nd ok => ?_⟩
  rw [hr.1] at lt
  obtain ⟨S1, B1⟩ := S.bornR F1 g1 b nd ok lt
  refine ⟨S1.F, ρ, n1, _, S1.env, S1.G, r1, fun d n2 r2 v2 H2 F2 g2 w2 => ?_⟩
  have S2 := S1.step F2 g2 (S1.env.frm (mg_fx (W.frm F2)))
  refine ⟨S2.F, ρ, n2, _, S2.env, S2.G, r2, fun e n3 r3 v3 H3 F3 g3 w3 => ?_⟩
  have S3 := S2.step F3 g3 (S2.env.frm (mg_fx (W.frm F3)))
  refine ⟨_, _, _, rfl, ?_⟩
  have E := ((S3.env.put i (s := .ow Rs.length) (u := some (.ref r.1)) (by
    show some (V.ref r.1) = some (ovR (Rs ++ [r]) Rs.length)
    rw [ov_last])).set j (w2.frm (mg_fx (W.frm F3)))).set l w3
  rw [hr.1] at r3
  exact k1 (Rs ++ [r]) _ _ n3 (hr.app (show HR (.f ds) r from ed)) r3 _ H3 (B1.trans (Bth.frm (mg_fx (W.frm (W.trans F2 F3))))) ⟨E, S3.g, S3.rel, S3.nd, S3.out, S3.ok⟩
theorem os_par3N {i j l : Nat} {t : TDA} {u w : TD} (h : PS X st (tPar3 i j l (tCons (tDN X.K o t) (tCons (tD X.K o u) (tCons (tD X.K o w) tNil))))) : PS X st (tDsO X.K o (qPar3R true i j l t u w)) := PS.imp h fun D σ H ⟨W, H0, Rs, h, ρ, n, Rn, Rr, S, hr, ⟨lt, t⟩, k1, k2⟩ => by
  refine ⟨S.F, ρ, n, _, S.env, S.G, t, fun ds n1 r1 r H1 ed en F1 g1 b nd ok => ?_⟩
  rw [hr.1] at lt
  obtain ⟨S1, B1⟩ := S.bornR F1 g1 b nd ok lt
  refine ⟨S1.F, ρ, n1, _, S1.env, S1.G, r1, fun d n2 r2 v2 H2 F2 g2 w2 => ?_⟩
  have S2 := S1.step F2 g2 (S1.env.frm (mg_fx (W.frm F2)))
  refine ⟨S2.F, ρ, n2, _, S2.env, S2.G, r2, fun e n3 r3 v3 H3 F3 g3 w3 => ?_⟩
  have S3 := S2.step F3 g3 (S2.env.frm (mg_fx (W.frm F3)))
  refine ⟨_, _, _, rfl, ?_⟩
  have E := ((S3.env.put i (s := .ow Rs.length) (u := some (.ref r.1)) (by
    show some (V.ref r.1) = some (ovR (Rs ++ [r]) Rs.length)
    rw [ov_last])).set j (w2.frm (mg_fx (W.frm F3)))).set l w3
  rw [hr.1] at r3
  exact k1 (Rs ++ [r]) _ _ n3 (hr.app (show HR (.n ds) r from ⟨ed, en⟩)) r3 _ H3 (B1.trans (Bth.frm (mg_fx (W.frm (W.trans F2 F3))))) ⟨E, S3.g, S3.rel, S3.nd, S3.out, S3.ok⟩
end
end MT
set_option maxHeartbeats 1000000
/-! quotients, four targets, any of integers, a loop over enumerate, a comprehension with two fors -/
namespace MT
open PySem L2
section
variable {K : PySem.W.Frag}
def fDiv : PyData → PyData → (PyData → Prop) → Prop
  | .int i, .int j, R => CDiv i j ∧ R (.int (i / j))
  | _, _, _ => False
theorem fit_fdiv : FitR K (rI CDiv fun i j => .int (i / j)) fDiv := by
  intro dx dy R M H x y Q al wx wy f k
  cases wx <;> first | exact f.elim | skip
  cases wy <;> first | exact f.elim | skip
  exact ⟨_, _, rfl, rfl, f.1, k _ f.2 _ _ (Same.refl _) (.int _)⟩
theorem fit_quad {i j k l : Nat} : GFit K [i, j, k, l] (gTup K 4 (gCons (gName i) (gCons (gName j) (gCons (gName k) (gCons (gName l) gNil))))) (fun d ρ R => ∃ x y z w, d = .tuple [x, y, z, w] ∧ R ((((ρ.set i (DS.d x)).set j (DS.d y)).set k (DS.d z)).set l (DS.d w))) := fun o M a H v d ρ σ R Q w E ⟨x, y, z, u, e, r⟩ k' => by
  subst e
  cases w with
  | tup s w =>
    cases w with
    | cons wa wb =>
      cases wb with
      | cons wc wd =>
        cases wd with
        | cons we wf =>
          cases wf with
          | cons wg wh =>
            cases wh
            exact ⟨_, _, rfl, s.at, rfl, _, _, rfl, _, _, rfl, _, _, rfl, _, _, rfl, rfl, k' _ r _ ((((E.set i wa).set j wc).set k we).set l wg) (by rw [wipe_set (by simp), wipe_set (by simp), wipe_set (by simp), wipe_set (by simp)])⟩
theorem fit_nameW {i : Nat} {vs : List Nat} (h : i ∈ vs) : GFit K vs (gName i) (fName i) := fun o M a H v d ρ σ R Q w E f k => k _ f _ (E.set i w) (wipe_set h)
theorem ints_dw {M : Addr → Prop} {H : Hp} : ∀ {vs : List V} {ns : List Int}, DwAll K M H vs (ns.map PyData.int) → vs = ns.map V.int
  | _, [], h => by cases h; rfl
  | _, n :: ns, h => by
    cases h with
    | cons a r => cases a; rw [ints_dw r]; rfl
def fAnyI (ds : List PyData) (R : PyData → Prop) : Prop := ∃ ns : List Int, ds = [.list (ns.map PyData.int)] ∧ R (.bool (ns.any (· != 0)))
theorem fit_anyI : FitC K (fun vs H Q => ∃ (a : Addr) (ns : List Int), vs = [.ref a] ∧ SqL K H a (ns.map V.int) ∧ Q (.bl (ns.any (· != 0))) H) fAnyI := by
  intro ds R M H vs Q al w f k
  obtain ⟨ns, rfl, r⟩ := f
  cases w with
  | cons a b =>
    cases b
    cases a with
    | lst s a =>
      have e := ints_dw a
      subst e
      exact ⟨_, ns, rfl, s.at, k _ r _ _ (Same.refl _) (.bl _)⟩
end
section
variable {X : Cx} {e : Expr} {st : Stmt} {o : Option TSet}
/-- for i, x in enumerate(e) -/
def qForE (f : PyData → List DS → (List DS → Prop) → Prop) (t : TD) (tb : TDS) : TDS := fun ρ n Rn Rr => t ρ n fun d n1 => ∃ ds, seqD d = some ds ∧ ∃ I : Nat → List DS → Nat → Prop, I 0 ρ n1 ∧
  (∀ i x ρ' m, ds[i]? = some x → I i ρ' m → f (.tuple [.int (i : Nat), x]) ρ' fun ρ2 => tb ρ2 m (fun ρ'' m' => I (i + 1) ρ'' m') Rr) ∧ ∀ ρ' m, I ds.length ρ' m → Rn ρ' m
theorem forE_core {vs0 : List Nat} {g : TG} {f} {tb : TDS} (hf : GFit X.K vs0 g f) {D : Ends} {σ : L2.St} {H H1 : Hp} {W : Fld} {ρ : List DS} {n1 : Nat} {Rn : List DS → Nat → Prop} {Rr : QD} {ds : List PyData} {J : It} {P : Hp → Prop} {vs : List V}
    (E : EnvD X.K o W.M (W.a, W.ts, W.ov) ρ σ H1) (g1 : W.G n1 H1) (F1 : W.Rel H H1) {I : Nat → List DS → Nat → Prop} (h0 : I 0 ρ n1)
    (hs : ∀ i x ρ' m, ds[i]? = some x → I i ρ' m → f (.tuple [.int (i : Nat), x]) ρ' fun ρ2 => tb ρ2 m (fun ρ'' m' => I (i + 1) ρ'' m') Rr) (hd : ∀ ρ' m, I ds.length ρ' m → Rn ρ' m)
    (k1 : ∀ ρ' n', Rn ρ' n' → ∀ σ' H', W.Rel H H' → W.G n' H' → EnvD X.K o W.M (W.a, W.ts, W.ov) ρ' σ' H' → D.nx σ' H') (k2 : ∀ d n', Rr d n' → ∀ v H', W.Rel H H' → W.G n' H' → Dw X.K W.M H' v d → D.rt v H')
    (wk : WlkE J P vs) (da : DwAll X.K W.M H1 vs ds) (hP : ∀ H'', Fx W.M H1 H'' → P H'') :
    ∃ Wn : Nat → Nat → L2.St → Hp → Prop, (∃ m, Wn 0 m σ H1) ∧ ∀ i m σ' H', Wn i m σ' H' → (J.stop i H' ∧ D.nx σ' H') ∨ (J.go i H' ∧ ∃ Nx : L2.St → Hp → Prop, (∀ σ2 H2, Nx σ2 H2 → ∃ m', m' < m ∧ Wn (i + 1) m' σ2 H2) ∧ ∀ x H2, J.yld i H' x H2 → g x σ' H2 fun σ2 H3 => (tDs X.K o tb) { nx := Nx, rt := D.rt } σ2 H3) := by
  have ln := da.length
  refine ⟨fun i m σ' H' => m = ds.length - i ∧ i ≤ ds.length ∧ ∃ ρ' c, I i ρ' c ∧ EnvD X.K o W.M (W.a, W.ts, W.ov) ρ' σ' H' ∧ W.G c H' ∧ W.Rel H1 H', ⟨_, rfl, Nat.zero_le _, ρ, n1, h0, E, g1, W.refl⟩, ?_⟩
  rintro i m σ' H' ⟨rfl, hi, ρ', c, inv, E', g', F'⟩
  have w := wk i H' (hP _ (W.frm F'))
  by_cases hlt : i < ds.length
  · refine .inr ⟨w.1 (by omega), fun σ2 H2 => i + 1 ≤ ds.length ∧ ∃ ρ' c, I (i + 1) ρ' c ∧ EnvD X.K o W.M (W.a, W.ts, W.ov) ρ' σ2 H2 ∧ W.G c H2 ∧ W.Rel H1 H2, fun σ2 H2 q => ⟨_, by omega, rfl, q⟩, fun x H2 y => ?_⟩
    obtain ⟨T, xv, rfl, hT, rfl, y2⟩ := w.2.2 x H2 y
    obtain ⟨d, hd1, hd2⟩ := da.get (y2 (by omega))
    have nT := New.mk' (o := .tup [.int (i : Nat), xv]) hT
    have sT := nT.1
    have F2 := W.trans F' (W.of sT)
    have wT : Dw X.K W.M (upd H' T (.tup [.int (i : Nat), xv])) (.ref T) (.tuple [.int (i : Nat), d]) := .tup (.inl ⟨W.new g' nT, nT.2.1⟩) (.cons (.int _) (.cons ((hd2.frm (W.frm F')).same sT) .nil))
    refine hf o W.M (W.a, W.ts, W.ov) _ _ _ ρ' σ' _ _ wT (E'.frm (fx_same sT)) (hs i d ρ' c hd1 inv) fun ρ2 r2 σ2 E2 _ => ?_
    exact ⟨W, ρ2, c, _, Rr, E2, W.same g' sT, r2, fun ρ3 m3 r3 σ3 H3 F3 g3 E3 => ⟨hlt, ρ3, m3, r3, E3, g3, W.trans F2 F3⟩, fun d3 m3 r3 v3 H3 F3 g3 w3 => k2 d3 m3 r3 v3 H3 (W.trans F1 (W.trans F2 F3)) g3 w3⟩
  · have e : i = ds.length := by omega
    subst e
    exact .inl ⟨w.2.1 (by omega), k1 ρ' c (hd ρ' c inv) σ' H' (W.trans F1 F') g' E'⟩
theorem ds_forE {vs0 : List Nat} {g : TG} {f} {t : TD} {tb : TDS} (hf : GFit X.K vs0 g f) (h : PS X st (tFor (iEnumU X.K (tD X.K o t)) g (tDs X.K o tb))) : PS X st (tDs X.K o (qForE f t tb)) := PS.imp h fun D σ H ⟨W, ρ, n, Rn, Rr, E, gg, t, k1, k2⟩ =>
  ⟨W, ρ, n, _, E, gg, t, fun d n1 ⟨ds, ed, I, h0, hs, hd⟩ v H1 F1 g1 w => by
    cases w with
    | lst s a =>
      cases ed
      exact .inl ⟨_, _, rfl, s.at, forE_core hf (E.frm (W.frm F1)) g1 F1 h0 hs hd k1 k2 wlkE_list a fun H2 F2 => (s.frm F2).at⟩
    | tup s a =>
      cases ed
      exact .inr ⟨_, _, rfl, s.at, forE_core hf (E.frm (W.frm F1)) g1 F1 h0 hs hd k1 k2 wlkE_tup a fun H2 F2 => (s.frm F2).at⟩
    | _ => cases ed⟩
theorem oss_old {ss : List Stmt} {t : TDS} (h : PSs X ss (tDs X.K o t)) : PSs X ss (tDsO X.K o (qOld t)) := PSs.imp h fun D σ H ⟨W, H0, Rs, h, ρ, n, Rn, Rr, S, hr, t, k1, k2⟩ =>
  ⟨S.F, ρ, n, Rn h, Rr, S.env, S.G, t, fun ρ' n' r σ' H' F g E => k1 Rs h ρ' n' hr r σ' H' (Bth.frm (mg_fx (W.frm F))) (S.step F g E), fun d n' r v H' F g w => k2 d n' r v H' (W.trans S.rel F) g.1 (w.more fun c u m _ => .inl m)⟩
/-! ### [.. for .. for ..] -/
def qLc2 (vs vs1 : List Nat) (f f1 : PyData → List DS → (List DS → Prop) → Prop) (src src1 : TDI) (te : TD) : TD := fun ρ n R => src ρ n fun ds n1 => ∃ A : Nat → List PyData → Nat → Prop, A 0 [] n1 ∧
  (∀ i x acc m, ds[i]? = some x → A i acc m → f x (wipeD ρ vs) fun ρ' => src1 ρ' m fun es m1 => ∃ B : Nat → List PyData → Nat → Prop, B 0 acc m1 ∧
    (∀ j y acc' m', es[j]? = some y → B j acc' m' → acc'.length < 10000000 ∧ f1 y (wipeD ρ' vs1) fun ρ'' => te ρ'' m' fun z m'' => B (j + 1) (acc' ++ [z]) m'') ∧ ∀ acc' m', B es.length acc' m' → A (i + 1) acc' m') ∧
  ∀ acc m, A ds.length acc m → R (.list acc) m
theorem lc2_over {K : PySem.W.Frag} {vs0 vs1 : List Nat} {g g1 : TG} {f f1} {src src1 : TDI} {te : TD} (hf : GFit K vs0 g f) (hf1 : GFit K vs1 g1 f1) {σ : L2.St} {H : Hp} {Q : VK} : tD K o (qLc2 vs0 vs1 f f1 src src1 te) σ H Q →
    tLc2 (tDI K o src) g (tDB K o qYes) (tDI K o src1) g1 (tDB K o qYes) (tD K o te) vs0 vs1 σ H Q := fun ⟨W, ρ, n, R, E, gg, t, k⟩ =>
  ⟨W, ρ, n, _, E, gg, t, fun ds n1 ⟨A, h0, hs, hd⟩ J H1 F1 g1' ⟨P, vs, wk, da, hP⟩ D hD => by
    have ln := da.length
    have nD : ¬ W.M D := fun m => by
      obtain ⟨ob, q, _⟩ := W.al g1' m
      rw [hD] at q
      cases q
    have EM : EnvD K o (fun c => W.M c ∨ c = D) (W.a, W.ts, W.ov) ρ σ H1 := (E.frm (W.frm F1)).more fun c o m q => m.elim id fun e => by rw [e, hD] at q; cases q
    have DM : DwAll K (fun c => W.M c ∨ c = D) H1 vs ds := da.more fun c o m q => m.elim id fun e => by rw [e, hD] at q; cases q
    refine ⟨fun i m H' => m = ds.length - i ∧ i ≤ ds.length ∧ ∃ acc av c, A i acc c ∧ H' D = some (.lst av) ∧ DwAll K (fun c => W.M c ∨ c = D) H' av acc ∧ W.G c H' ∧ W.Rel H1 H',
      ⟨_, rfl, Nat.zero_le _, [], [], n1, h0, upd_same, .nil, W.updG g1' hD g1' (fun u e => by rw [hD] at e; cases e), W.updR W.refl hD⟩, ?_⟩
    rintro i m H' ⟨rfl, hi, acc, av, c, inv, hDa, hav, g', F'⟩
    have w := wk i H' (hP _ (W.frm F'))
    have FM : Fx (fun c => W.M c ∨ c = D) H1 H' := (W.frm F').mono fun c e => .inl e
    by_cases hlt : i < ds.length
    · refine .inr ⟨w.1 (by omega), fun H2 => i + 1 ≤ ds.length ∧ ∃ acc av c, A (i + 1) acc c ∧ H2 D = some (.lst av) ∧ DwAll K (fun c => W.M c ∨ c = D) H2 av acc ∧ W.G c H2 ∧ W.Rel H1 H2, fun H2 q => ⟨_, by omega, rfl, q⟩, fun x H2 y => ?_⟩
      obtain ⟨e2, y2⟩ := w.2.2 x H2 y
      subst e2
      obtain ⟨d, hd1, hd2⟩ := DM.get (y2 (by omega))
      refine hf o _ (W.a, W.ts, W.ov) _ x d (wipeD ρ vs0) (wipe σ vs0) _ _ (hd2.frm FM) ((EM.frm FM).wipe vs0) (hs i d acc c hd1 inv) fun ρ2 r2 σ2 E2 ew => ⟨by rw [ew]; exact wipe_wipe σ vs0, ?_⟩
      refine ⟨W.plus D (.lst av) (fun _ z => by cases z) nD, ρ2, c, fun b m => b = true ∧ m = c, E2, ⟨g', hDa⟩, ⟨rfl, rfl⟩, fun b m3 ⟨eb, em⟩ H3 F3 g3 => ?_⟩
      subst eb em
      rw [if_pos rfl]
      have E3 := E2.frm ((W.plus D (.lst av) (fun _ z => by cases z) nD).frm F3)
      have hav3 := hav.frm ((W.plus D (.lst av) (fun _ z => by cases z) nD).frm F3)
      refine ⟨W.plus D (.lst av) (fun _ z => by cases z) nD, ρ2, _, _, E3, g3, r2, fun es n4 ⟨B, b0, bs, bd⟩ J1 H4 F4 g4 ⟨P1, vs4, wk1, da1, hP1⟩ => ?_⟩
      have ln1 := da1.length
      have E4 := E3.frm ((W.plus D (.lst av) (fun _ z => by cases z) nD).frm F4)
      have hav4 := hav3.frm ((W.plus D (.lst av) (fun _ z => by cases z) nD).frm F4)
      have F14 := W.trans F' (W.trans F3 F4)
      refine ⟨fun j m H5 => m = es.length - j ∧ j ≤ es.length ∧ ∃ acc av c, B j acc c ∧ H5 D = some (.lst av) ∧ DwAll K (fun c => W.M c ∨ c = D) H5 av acc ∧ W.G c H5 ∧ W.Rel H1 H5 ∧ Fx (fun c => W.M c ∨ c = D) H4 H5, ⟨_, rfl, Nat.zero_le _, acc, av, n4, b0, g4.2, hav4, g4.1, F14, Fx.refl⟩, ?_⟩
      rintro j m H5 ⟨rfl, hj, acc5, av5, c5, inv5, hD5, hav5, g5, F5, X5⟩
      have w1 := wk1 j H5 (hP1 _ X5)
      by_cases hlt1 : j < es.length
      · refine .inr ⟨w1.1 (by omega), fun H6 => j + 1 ≤ es.length ∧ ∃ acc av c, B (j + 1) acc c ∧ H6 D = some (.lst av) ∧ DwAll K (fun c => W.M c ∨ c = D) H6 av acc ∧ W.G c H6 ∧ W.Rel H1 H6 ∧ Fx (fun c => W.M c ∨ c = D) H4 H6, fun H6 q => ⟨_, by omega, rfl, q⟩, fun x1 H6 y1 => ?_⟩
        obtain ⟨e6, y6⟩ := w1.2.2 x1 H6 y1
        subst e6
        obtain ⟨d6, hd6, hdd6⟩ := da1.get (y6 (by omega))
        obtain ⟨la, r6⟩ := bs j d6 acc5 c5 hd6 inv5
        refine hf1 o _ (W.a, W.ts, W.ov) _ x1 d6 (wipeD ρ2 vs1) (wipe σ2 vs1) _ _ (hdd6.frm X5) ((E4.frm X5).wipe vs1) r6 fun ρ7 r7 σ7 E7 ew7 => ⟨by rw [ew7]; exact wipe_wipe σ2 vs1, ?_⟩
        refine ⟨W.plus D (.lst av5) (fun _ z => by cases z) nD, ρ7, c5, fun b m => b = true ∧ m = c5, E7, ⟨g5, hD5⟩, ⟨rfl, rfl⟩, fun b m8 ⟨eb8, em8⟩ H8 F8 g8 => ?_⟩
        subst eb8 em8
        rw [if_pos rfl]
        have fr : ∀ {Ha Hb}, W.Rel Ha Hb → Fx (fun c => W.M c ∨ c = D) Ha Hb := fun F => (W.frm F).mono fun c m => .inl m
        refine ⟨W.plus D (.lst av5) (fun _ z => by cases z) nD, ρ7, _, _, E7.frm (fr F8), g8, r7, fun z m9 r9 v9 H9 F9 g9 w9 => ⟨av5, g9.2, ?_, hlt1, acc5 ++ [z], av5 ++ [v9], m9, r9, upd_same, ?_, W.updG g1' hD g9.1 (fun u e => by rw [g9.2] at e; cases e; trivial), W.updR (W.trans F5 (W.trans F8 F9)) hD, ?_⟩⟩
        · rw [hav5.length]; exact lt_line la
        · exact ((hav5.frm (fr (W.trans F8 F9))).append (.cons w9 .nil)).frm (fx_frm (Frm.mono (frm_upd (a := D)) fun c e => .inr e))
        · exact (X5.trans (fr (W.trans F8 F9))).trans (fx_frm (Frm.mono (frm_upd (a := D)) fun c e => .inr e))
      · have e : j = es.length := by omega
        subst e
        exact .inl ⟨w1.2.1 (by omega), hlt, acc5, av5, c5, bd acc5 c5 inv5, hD5, hav5, g5, F5⟩
    · have e : i = ds.length := by omega
      subst e
      exact .inl ⟨w.2.1 (by omega), k _ c (hd acc c inv) _ H' (W.trans F1 F') g' (.lst ⟨nD, hDa⟩ (hav.more fun c o m _ => .inl m))⟩⟩
theorem de_lc2 {vs0 vs1 : List Nat} {g g1 : TG} {f f1} {src src1 : TDI} {te : TD} (hf : GFit X.K vs0 g f) (hf1 : GFit X.K vs1 g1 f1) (h : PE X e (tLc2 (tDI X.K o src) g (tDB X.K o qYes) (tDI X.K o src1) g1 (tDB X.K o qYes) (tD X.K o te) vs0 vs1)) : PE X e (tD X.K o (qLc2 vs0 vs1 f f1 src src1 te)) := PE.imp h fun _ _ _ => lc2_over hf hf1
theorem ds_setLc2 {vs0 vs1 : List Nat} {g g1 : TG} {f f1} {src src1 : TDI} {te : TD} {i : Nat} (hf : GFit X.K vs0 g f) (hf1 : GFit X.K vs1 g1 f1) (h : PS X st (tAsg (tLc2 (tDI X.K o src) g (tDB X.K o qYes) (tDI X.K o src1) g1 (tDB X.K o qYes) (tD X.K o te) vs0 vs1) (gName i))) : PS X st (tDs X.K o (qSet i (qLc2 vs0 vs1 f f1 src src1 te))) := PS.imp h fun D σ H ⟨W, ρ, n, Rn, Rr, E, g, t, k1, k2⟩ =>
  lc2_over hf hf1 ⟨W, ρ, n, _, E, g, t, fun d n1 r v H1 F1 g1 w => k1 _ n1 r _ H1 F1 g1 ((E.frm (W.frm F1)).set i w)⟩
end
end MT
set_option maxHeartbeats 1000000
/-! a def that draws and makes lambdas; powers; what a caught error's class is asked for -/
namespace MT
open PySem L2 LamX
section
variable {K : PySem.W.Frag}
def fPow : PyData → PyData → (PyData → Prop) → Prop
  | .int i, .int j, R => CPow i j ∧ R (.int (i ^ j.toNat))
  | _, _, _ => False
theorem fit_pow : FitR K (fun x y H Q => ∃ i j, x = .int i ∧ y = .int j ∧ CPow i j ∧ ∀ z, z = i ^ j.toNat → Q (.int z) H) fPow := by
  intro dx dy R M H x y Q al wx wy f k
  cases wx <;> first | exact f.elim | skip
  cases wy <;> first | exact f.elim | skip
  exact ⟨_, _, rfl, rfl, f.1, fun z e => k _ f.2 _ _ (Same.refl _) (by rw [e]; exact .int _)⟩
/-- draws from a, makes lambdas in the tables of TS -/
def lawFM (M : Addr → Prop) (a b : Addr) (cs : List Int) (TS : TSet) (hM : M a) : Fld where
  M := M
  G := fun n H => (Sx a b cs n H ∧ Tabs TS H) ∧ Al M H
  Rel := Fx (· = a)
  a := some a
  ts := some TS
  ov := noV
  born := fun x g e H' u x' b w n q z => by
    rename_i H0 H D
    rw [upd_ne (fun c => by rw [c] at q n; rw [x _ _ n q z] at e; cases e)]
    exact x' b w n q z
  trans := Fx.trans
  of := fx_same
  frm := fun F => F.mono fun c e => e ▸ hM
  same := fun g s => ⟨⟨g.1.1.same s, g.1.2.ext fun b o e => s _ _ e⟩, g.2.same s⟩
  al := fun g m => g.2 _ m
  updR := fun x h b u n e t => by rw [upd_ne (ne_of_none e h)]; exact x b u n e t
  updG := fun g h q hp => ⟨⟨Sx.updD g.1.1 h q.1.1, tabs_upd g.1.2 h q.1.2 hp⟩, g.2.upd h q.2⟩
  dr := fun x e => by
    cases e
    exact ⟨hM, b, cs, fun n H g => g.1.1, fun n n' H H' g F S => ⟨⟨⟨S, tabs_draw g.1.2 F g.1.1⟩, g.2.frm F S.atl⟩, fx_frm F⟩⟩
  lm := fun T e => by
    cases e
    exact ⟨fun n H g => g.1.2, fun n H H' g x t => ⟨⟨⟨g.1.1.ext x, t⟩, g.2.ext x⟩, fx_ext x⟩⟩
def spDL (K : PySem.W.Frag) (TS : TSet) (c : Nat) (P : FD) : Sp := fun vs H Q _ => ∃ (M : Addr → Prop) (a b : Addr) (cs : List Int) (n : Nat) (us : List V) (ds : List PyData) (R : PyData → Prop), vs = .ref a :: us ∧ M a ∧ Al M H ∧ Sx a b cs n H ∧ Tabs TS H ∧ n + c ≤ 1000000 ∧ DwAll K M H us ds ∧ P ds R ∧
  ∀ d, R d → ∀ v H', Fx (· = a) H H' → Sx a b cs (n + c) H' → Tabs TS H' → Dw K M H' v d → Q v H'
/-- between what was and what is stands a heap where only the drawer has changed -/
theorem mid_draw {a b : Addr} {cs : List Int} {n n' : Nat} {H H' : Hp} (F : Fx (· = a) H H') (S : Sx a b cs n H) (S' : Sx a b cs n' H') : ∃ H1, Frm (· = a) H H1 ∧ Sx a b cs n' H1 ∧ ExtN H1 H' := by
  obtain ⟨t, r, s, hl⟩ := S
  obtain ⟨t', r', s', hl'⟩ := S'
  obtain ⟨o, ho⟩ : ∃ o, H' a = some o := ⟨_, s'.ha⟩
  have hb := s.hb
  have ne : b ≠ a := s.ne
  refine ⟨upd H a o, fun c u n e => by rw [upd_ne n]; exact e, ⟨t', r', ?_, hl'⟩, fun c u e nt => ?_⟩
  · exact { s' with ha := by rw [upd_same, ← ho]; exact s'.ha, hb := by rw [upd_ne ne]; exact hb }
  · by_cases q : c = a
    · subst q
      rw [upd_same] at e
      cases e
      exact ho
    · rw [upd_ne q] at e
      exact F c u q e nt
section
variable {X : Cx} {e : Expr} {E : XK} {TS : TSet}
theorem de_drawL {c i : Nat} {P : FD} {u : TDA} (h : PE X e (tCall (spDL X.K TS c P) [] E (tCons (tVar i) (tDA X.K (some TS) u)))) : PE X e (tD X.K (some TS) (qDr c i P u)) := PE.imp h fun σ H Q ⟨W, ρ, n, R, E, g, ⟨hi, t⟩, k⟩ => by
  obtain ⟨a, ea, hσ⟩ := E.drw i hi
  obtain ⟨m, b, cs, h1, h2⟩ := W.dr a ea
  obtain ⟨l1, l2⟩ := W.lm TS E.tse
  exact ⟨_, hσ, W, ρ, n, _, E, g, t, fun ds n1 ⟨l, t1⟩ vs H1 F1 g1 w => ⟨W.M, a, b, cs, n1, vs, ds, _, by rw [List.append_nil], m, fun c m => W.al g1 m, h1 _ _ g1, l1 _ _ g1, l, w, t1, fun d r v H' F' S' T' w' => by
    obtain ⟨Hm, Fm, Sm, x⟩ := mid_draw F' (h1 _ _ g1) S'
    have q := h2 _ _ _ _ g1 Fm Sm
    have q2 := l2 _ _ _ q.1 x T'
    exact k d _ r v H' (W.trans F1 (W.trans q.2 q2.2)) q2.1 w'⟩⟩
end
section
variable {t : TDS} {N : List Str} {vs : List V} {H : Hp} {Q : VK} {E : XK} {TS : TSet} {c : Nat}
theorem lamDG {P : FD} (h : spDL K TS c P vs H Q E) (q : ∀ n ds R, n + c ≤ 1000000 → P ds R → t (DS.dr :: (ds.map DS.d ++ List.replicate (N.length - (ds.length + 1)) DS.no)) n (fun _ _ => False) (fun y m => m ≤ n + c ∧ R y)) : tDs K (some TS) t { nx := fun _ H' => Q .non H', rt := Q } (start N vs) H := by
  obtain ⟨M, a, b, cs, n, us, ds, R, rfl, hM, al, S, tb, hn, w, p, k⟩ := h
  have e := env_of (o := some TS) (a := some a) (N.length - (ds.length + 1)) w
  refine ⟨lawFM M a b cs TS hM, _, n, _, _, ?_, ⟨⟨S, tb⟩, al⟩, q n ds R hn p, fun _ _ z => z.elim, fun d n r v H' x g w => k d r.2 v H' x (g.1.1.le r.1) g.1.2 w⟩
  unfold L2.start
  rw [List.length_cons, w.length, List.map_cons, List.cons_append]
  exact .cons (s := .dr) ⟨_, rfl, rfl⟩ e
theorem dllenG {P : FD} {n : Nat} (h : spDL K TS c P vs H Q E) (l : ∀ ds R, P ds R → ds.length + 1 = n) : vs.length = n := by
  obtain ⟨M, a, b, cs, n', us, ds, R, rfl, hM, al, S, tb, hn, w, p, k⟩ := h
  exact (congrArg Nat.succ w.length).trans (l ds R p)
end
end
end MT
set_option maxHeartbeats 4000000
/-! errors made as values, by place and by name; asked as data -/
namespace MT
section
open PySem PySem.W PySem.Calls PyProof.Rows PySem.HandSPX
variable {prog : Program} {w : World} {A : Around} {E : Value → Shared → Prop} {R : Result → Shared → Prop} {h : Heap} {g : Array GenState} {d : Drawn} {t : Nat} {os : OsState}
variable {nm q : Str} {C N : Addr} {bs bm bmB : List Value} {hdct : Bool} {sn : List Str} {sub : List Value} {ab : Bool} {col : Option Bool} {dd : Option Addr} {k0 k1 k2 k3 k5 : Option Value} {B newId initId : String}
theorem xk_check {M : Model} (F : ExcBaseFacts B newId initId bmB) (same : ∀ X : String, bm.contains (.type X) = bmB.contains (.type X)) {us : List Value} {kw : List (Str × Value)} {Q : Unit → Shared → Prop}
    (onC : h.get? C = some (excClassObj nm q C N bs bm hdct sn sub ab col dd k0 k1 k2 k3 k5 newId)) (done : Q () ⟨h, g, d, t, os⟩) : wpAny M A (checkBuiltinCall newId ⟨.ref C :: us, kw⟩) Q E ⟨h, g, d, t, os⟩ := by
  have inB : (Value.ref C :: bm).contains (.type B) = true := by rw [List.contains_cons, same B, F.hasB, Bool.or_true]
  have star := F.noStar
  simp only [checkBuiltinCall, F.newKind, F.newRow, F.newSplit]
  repeat (first | refine wpAny_loadPart_at onC ?_ | (refine wpAny_isSubtype_exc onC ?_; rw [inB]) | refine wpAny_staticBase_exc onC ?_ | refine wpAny_madeBy_exc onC ?_ | simp only [bne_self_eq_false, if_false, Bool.false_eq_true] | wp_step)
  exact done
theorem xk_new (F : ExcBaseFacts B newId initId bmB) (same : ∀ X : String, bm.contains (.type X) = bmB.contains (.type X)) {us : List Value} {kw : List (Str × Value)}
    (onC : h.get? C = some (excClassObj nm q C N bs bm hdct sn sub ab col dd k0 k1 k2 k3 k5 newId))
    (done : R (.ok (.ret (.ref (h.objs.size + 1)))) ⟨(h.push (W.kdv_tup us)).push (excO C h.objs.size), g, d, t, os⟩) (short : us.length ≤ sizeLine) :
    codeAny (model prog w) A (.builtin newId ⟨.ref C :: us, kw⟩) R ⟨h, g, d, t, os⟩ := by
  have ends := F.ends
  have inB : (Value.ref C :: bm).contains (.type B) = true := by rw [List.contains_cons, same B, F.hasB, Bool.or_true]
  have inA : (Value.ref C :: bm).contains (.type "AttributeError") = false := by rw [List.contains_cons, same, F.noAttr] <;> rfl
  have inN : (Value.ref C :: bm).contains (.type "NameError") = false := by rw [List.contains_cons, same, F.noName] <;> rfl
  refine codeAny_builtinAt F.entry ?_
  unfold PySem.Builtin.«BaseException.__new__»
  refine PySem.wpAt_bind ?_; show PySem.wpAt _ _ _ (stack >>= _) _ _ _
  refine PySem.wpAt_bind (PySem.wpAt_stack fun p low => PySem.wpAt_of_wpAny ?_)
  wp_walk
  refine PySem.wpAt_of_wpAny ?_
  rw [F.owner]
  repeat (first | with_reducible refine wpAny_madeHere_exc F.canon onC ?_ | with_reducible refine wpAny_loadPart_at onC ?_ | (with_reducible refine wpAny_isSubtype_exc onC ?_; first | rw [inA] | rw [inN] | rw [inB]) | wp_step)
  show R _ _
  rw [Heap.size_push]
  exact done
theorem xk_type (F : ExcBaseFacts B newId initId bmB) (same : ∀ X : String, bm.contains (.type X) = bmB.contains (.type X)) {us : List Value} {kw : List (Str × Value)} {fI : Addr} {Q : Fin → Shared → Prop}
    (onC : h.get? C = some (excClassObj nm q C N bs bm hdct sn sub ab col dd k0 k1 k2 k3 k5 newId))
    (li : W.Looks (model prog w) h (typeLookup (.ref C) "__init__") (some (.ref fI))) (lb : ∀ self, W.Looks (model prog w) h (bindSpecial (.ref fI) self) (.ref fI, [self])) (short : us.length ≤ sizeLine)
    (done : codeAny (model prog w) A (.call (.ref fI) ⟨.ref (h.objs.size + 1) :: us, kw⟩)
      (fun r s' => match r with | .ok (.ret v) => v = .none ∧ Q (.done (.ret (.ref (h.objs.size + 1)))) s' | .ok _ => False | .error e => E e s')
      ⟨(h.push (W.kdv_tup us)).push (excO C h.objs.size), g, d, t, os⟩) :
    wpAny (model prog w) A (Builtin.«type.__call__» ⟨.ref C :: us, kw⟩) Q E ⟨h, g, d, t, os⟩ := by
  repeat (first | with_reducible refine wpAny_loadPart_at onC ?_ | with_reducible refine wpAny_madeBy_exc onC ?_ | wp_step)
  refine codeAny_call_builtin_code (Code.quiet_builtin _ F.quiet) (xk_check F same onC ?_)
  refine xk_new F same onC ?_ short
  show wpAny _ _ _ _ _ _
  have keep : ∀ b o, h.get? b = some o → ((h.push (W.kdv_tup us)).push (excO C h.objs.size)).get? b = some o := fun b o e => Heap.get?_push_of_some _ (Heap.get?_push_of_some _ e)
  have onK := keep _ _ onC
  have made : ((h.push (W.kdv_tup us)).push (excO C h.objs.size)).get? (h.objs.size + 1) = some (excO C h.objs.size) := by heap_get
  have inC : (Value.ref C :: bm).contains (.ref C) = true := by simp
  have i2 := li.keeps keep
  have b2 := (lb (.ref (h.objs.size + 1))).keeps keep
  unfold isInstance
  repeat (first | with_reducible refine wpAny_loadPart_at made ?_ | (with_reducible refine wpAny_isSubtype_exc onK ?_; rw [inC]) | wp_step)
  show wpAny _ _ (typeLookup (.ref C) _) _ _ _
  refine i2.at ?_
  refine wpAny_holding (wpAny_bind (b2.at ?_))
  refine wpAny_bind (wpAny_call (codeAny_mono done fun r s' y => ?_))
  rcases r with e | (v | _ | _ | _) <;> first | exact y | exact y.elim | skip
  obtain ⟨rfl, y⟩ := y
  first
    | exact wpAny_pure (wpAny_pure y)
    | (wp_walk; exact y)
theorem xk_call (F : ExcBaseFacts B newId initId bmB) (same : ∀ X : String, bm.contains (.type X) = bmB.contains (.type X)) {us : List Value} {kw : List (Str × Value)} {fI : Addr}
    (onC : h.get? C = some (excClassObj nm q C N bs bm hdct sn sub ab col dd k0 k1 k2 k3 k5 newId))
    (li : W.Looks (model prog w) h (typeLookup (.ref C) "__init__") (some (.ref fI))) (lb : ∀ self, W.Looks (model prog w) h (bindSpecial (.ref fI) self) (.ref fI, [self])) (short : us.length ≤ sizeLine)
    (done : codeAny (model prog w) (A.under (.builtin "type.__call__" ⟨.ref C :: us, kw⟩)) (.call (.ref fI) ⟨.ref (h.objs.size + 1) :: us, kw⟩) (W.InitBack (h.objs.size + 1) R)
      ⟨(h.push (W.kdv_tup us)).push (excO C h.objs.size), g, d, t, os⟩) : codeAny (model prog w) A (.call (.ref C) ⟨us, kw⟩) R ⟨h, g, d, t, os⟩ := by
  have x1 := tc_lookup
  have x2 := tc_bind (.ref C)
  have xT : (⟨h, g, d, t, os⟩ : Shared).TypeIs (.ref C) "type" := ⟨_, onC, rfl⟩
  refine codeAny_of_tree ?_
  show wpAny _ _ (callAny (.ref C) ⟨us, kw⟩) _ _ _
  repeat (any_goals (first | assumption | with_reducible refine wpAny_loadPart_at onC ?_ | wp_step))
  refine ⟨rfl, ?_⟩
  refine codeAny_call_builtin_at (Code.quiet_builtin _ (by decide +kernel)) entry_typeCall (wpAny_check_type_call_sub onC (xk_type F same onC li lb short ?_))
  refine codeAny_mono done fun r s' y => ?_
  rcases r with e | (v | _ | _ | _) <;> exact y
end
section
open PySem PySem.Spec PyProof.Rows L2
variable {X : Cx} {pins : List (Addr × Obj)} {σ : L2.St} {C fI : Addr} {k : Nat} {fd : FuncData} {ps : List Str} {sp : Sp} {CX : CXT}
theorem mkv_end {H1 H2 : Hp} {hp hp2 h2 : Heap} {g1 g2 : Array GenState} {d1 d2 : Drawn} {t1 t2 : Nat} {os1 os2 : OsState} {a d : Addr} {fs : List (Str × V)} (I1 : Inv X pins σ H1 ⟨hp, g1, d1, t1, os1⟩)
    (ha : hp.objs.size ≤ a) (kk : ∀ b o, hp.get? b = some o → hp2.get? b = some o) (un : Un (frs X.stack) [] (upd H1 a (exo a C none)) H2 hp2 h2) (hok : HOk X.prog X.w H2 h2) (ho : os2 = os1) (hb : AllBare g2)
    (ea : H2 a = some (exo a C (some d))) (ed : H2 d = some (exd d fs)) (hd1 : H1 d = none) : Inv X pins σ (upd (upd H2 a (keptO a (.ref C) (some d))) d (.xd fs)) ⟨h2, g2, d2, t2, os2⟩ := by
  obtain ⟨t0, hoe⟩ := exo_at hok ea
  obtain ⟨mA, hns, rel⟩ := exd_at hok ed
  have hn : H1 a = none := I1.hok.fresh ha
  have nha : ∀ {b : Addr} {o : Obj}, hp.get? b = some o → b ≠ a := fun {b o} z => Nat.ne_of_lt (Nat.lt_of_lt_of_le (Heap.lt_size z) ha)
  have up : ∀ {b : Addr}, b ≠ a → H1 b = none → upd H1 a (exo a C none) b = none := fun {b} hb n => (upd_ne hb).trans n
  have nd : ∀ {b : Addr} {o : Obj}, hp.get? b = some o → H1 b = none → b ≠ d := fun {b o} z n e => by
    have y := un.free b o (kk b o z) (up (nha z) n) (by simp)
    rw [e, ed] at y
    cases y
  have U : Un (frs X.stack) [] H1 (upd (upd H2 a (keptO a (.ref C) (some d))) d (.xd fs)) hp h2 := {
    keep := fun b o z n hf hx => un.keep b o (kk b o z) (up (nha z) n) hf hx
    slot := fun b o z n hf hx => un.slot b o (kk b o z) (up (nha z) n) hf hx
    free := fun b o z n hx => by
      rw [upd_ne (nd z n), upd_ne (nha z)]
      exact un.free b o (kk b o z) (up (nha z) n) hx
    there := fun b o z hx => un.there b o (kk b o z) hx
    tups := fun b xs z => by
      rw [upd_ne (ne_of_none z hd1), upd_ne (ne_of_none z hn)]
      exact un.tups b xs ((upd_ne (ne_of_none z hn)).trans z)
    frzs := fun b o v z => by
      rw [upd_ne (ne_of_none z hd1), upd_ne (ne_of_none z hn)]
      exact un.frzs b o v ((upd_ne (ne_of_none z hn)).trans z)
    tbls := fun b q z => by
      rw [upd_ne (ne_of_none z hd1), upd_ne (ne_of_none z hn)]
      exact un.tbls b q ((upd_ne (ne_of_none z hn)).trans z) }
  have hok3 : HOk X.prog X.w (upd (upd H2 a (keptO a (.ref C) (some d))) d (.xd fs)) h2 := fun b o z => by
    by_cases hbd : b = d
    · subst hbd
      rw [upd_same] at z
      cases z
      exact ⟨mA, hns, rel⟩
    · rw [upd_ne hbd] at z
      by_cases hba : b = a
      · subst hba
        rw [upd_same] at z
        cases z
        exact keptO_ok hoe ⟨rfl, rfl⟩ rfl
      · rw [upd_ne hba] at z
        exact (hok b o z).stay (fun c v hc y => y) (fun c hc => by rw [upd_ne (at_ne ed hc exd_own), upd_ne (at_ne ea hc exo_own)]; exact hc) (fun c xs hc => by rw [upd_ne (at_ne ed hc exd_tup), upd_ne (at_ne ea hc exo_tup)]; exact hc)
  exact I1.call' (ch := []) ho U hok3 hb (fun b z => absurd z (by simp))
theorem mkv_run {H1 : Hp} {s1 : Shared} {us rest : List Value} {vs : List V} {kw : List (Str × Value)} {Q : VK} (T : OexC X.K C) (iC : PySem.W.findIn X.K (.ref C) "__init__" = some (some (.ref fI))) (tI : PySem.W.typeIn X.K (.ref fI) = some (.type "function"))
    (F1 : FnOk X.prog X.w X.K X.mg X.base CX k fI fd ps sp) (hr : Room (k + 1) X.A) (hx : Passes CX X (fun _ _ _ => False)) (I1 : Inv X pins σ H1 s1) (rv : Vals vs rest) (hu : us.length ≤ sizeLine)
    (hbt : ∀ (a : Addr) (s : Shared), X.K.In s.heap → BindsTo s fd ⟨.ref a :: us, kw⟩ (ps.zip (.ref a :: rest)))
    (q1 : ∀ a, H1 a = none → sp (.ref a :: vs) (upd H1 a (exo a C none)) (fun v H2 => v = .non ∧ ∃ (d : Addr) (fs : List (Str × V)), H2 a = some (exo a C (some d)) ∧ H2 d = some (exd d fs) ∧ H1 d = none ∧ Q (.ref a) (upd (upd H2 a (keptO a (.ref C) (some d))) d (.xd fs))) (fun _ _ _ => False)) :
    wpAny (model X.prog X.w) X.A (call (.ref C) us kw) (EP X pins σ Q) X.xe s1 := by
  obtain ⟨nm, q, N, bs, bm, sn, sub, ab, col, dd, k0, k1, k2, k3, k5, onC, hbm⟩ := T.cls
  obtain ⟨hp, g, dr, tk, os⟩ := s1
  have hsz : hp.objs.size ≤ hp.objs.size + 1 := Nat.le_succ _
  have hn : H1 (hp.objs.size + 1) = none := I1.hok.fresh hsz
  have hq := q1 (hp.objs.size + 1) hn
  have kk : ∀ b o, hp.get? b = some o → ((hp.push (PySem.W.kdv_tup us)).push (PySem.HandSPX.excO C hp.objs.size)).get? b = some o := fun b o e => Heap.get?_push_of_some _ (Heap.get?_push_of_some _ e)
  have at2 : ((hp.push (PySem.W.kdv_tup us)).push (PySem.HandSPX.excO C hp.objs.size)).get? (hp.objs.size + 1) = some (PySem.HandSPX.excO C hp.objs.size) := by heap_get
  have I2 : Inv X pins σ (upd H1 (hp.objs.size + 1) (exo (hp.objs.size + 1) C none)) ⟨(hp.push (PySem.W.kdv_tup us)).push (PySem.HandSPX.excO C hp.objs.size), g, dr, tk, os⟩ := I1.laid (t' := tk) kk hsz (exo_ok at2)
  refine wpAny_call (xk_call PySem.F.excBase_ValueError (fun Y => PySem.HandSPX.refsVE_contains Y bm hbm) (I1.kIn _ _ onC) (PySem.W.looks_findIn I1.kIn iC) (fun self => PySem.W.bind_fn I1.kIn self tI) hu
    (codeAny_mono (F1.run _ X.stack _ _ ⟨Value.ref (hp.objs.size + 1) :: us, kw⟩ (Value.ref (hp.objs.size + 1) :: rest) (V.ref (hp.objs.size + 1) :: vs) _ (fun _ _ _ => False) (hr.make C us kw) (I2.env0.make C us kw) (hbt _ _ I2.kIn) (.cons rfl rv) hq) fun r s' hq' => ?_))
  cases r with
  | error er => exact hx pins σ _ _ er s' I2 hq'
  | ok fl =>
    cases fl with
    | ret u =>
      obtain ⟨v, H2, os2, bare2, un2, hok2, rv2, ev, d, fs, ea, ed, hd1, q2⟩ := hq'
      subst ev
      obtain ⟨h2, g2, d2, t2, os'⟩ := s'
      exact ⟨rv2, .ref _, _, mkv_end (d2 := d2) (t2 := t2) I1 hsz kk un2 hok2 os2 bare2 ea ed hd1, rfl, q2⟩
    | _ => exact False.elim hq'
/-- C(..) made: the error at a, its dict at d, both new -/
def Mkv (C : Addr) (fs : List (Str × V)) (H1 : Hp) (Q : VK) : Prop := ∀ a d H3, Same H1 H3 → H1 a = none → H1 d = none → H3 a = some (keptO a (.ref C) (some d)) → H3 d = some (.xd fs) → Q (.ref a) H3
def tMk1 (C : Addr) (f : Str) (ta : TA) : TE := fun σ H Q => ta σ H fun vs H1 => ∃ p, vs = [p] ∧ Mkv C [(f, p)] H1 Q
def tMk2 (C : Addr) (f g : Str) (ta : TA) : TE := fun σ H Q => ta σ H fun vs H1 => ∃ p q, vs = [p, q] ∧ Mkv C [(g, q), (f, p)] H1 Q
def tMk2r (C : Addr) (f g : Str) (ta : TA) : TE := fun σ H Q => ta σ H fun vs H1 => ∃ p q, vs = [q, p] ∧ Mkv C [(g, q), (f, p)] H1 Q
def tMk0 (C : Addr) : TE := fun _ H Q => ∀ a H3, Same H H3 → H a = none → H3 a = some (keptO a (.ref C) none) → Q (.ref a) H3
theorem init_one {f : Str} {p : V} {H1 : Hp} {a : Addr} {Q : VK} (T : OexC X.K C) (no : PySem.W.findIn X.K (.ref C) f = some none) (na : H1 a = none) (q : Mkv C [(f, p)] H1 Q) :
    spInit X.K f [.ref a, p] (upd H1 a (exo a C none)) (fun v H2 => v = .non ∧ ∃ (d : Addr) (fs : List (Str × V)), H2 a = some (exo a C (some d)) ∧ H2 d = some (exd d fs) ∧ H1 d = none ∧ Q (.ref a) (upd (upd H2 a (keptO a (.ref C) (some d))) d (.xd fs))) (fun _ _ _ => False) := by
  refine ⟨a, C, p, rfl, T, no, upd_same, fun dx nx ne => ?_⟩
  rw [upd_ne ne] at nx
  refine ⟨rfl, dx, _, upd_same, by rw [upd_ne ne, upd_same], nx, q a dx _ (fun c o e => ?_) na nx (by rw [upd_ne (Ne.symm ne), upd_same]) upd_same⟩
  have h1 : c ≠ a := ne_of_none e na
  have h2 : c ≠ dx := ne_of_none e nx
  rw [upd_ne h2, upd_ne h1, upd_ne h1, upd_ne h2, upd_ne h1]
  exact e
theorem init_two {f g : Str} {p y : V} {H1 : Hp} {a : Addr} {Q : VK} (T : OexC X.K C) (no : PySem.W.findIn X.K (.ref C) f = some none) (no2 : PySem.W.findIn X.K (.ref C) g = some none) (na : H1 a = none) (q : Mkv C [(g, y), (f, p)] H1 Q) :
    spInit2 X.K f g [.ref a, p, y] (upd H1 a (exo a C none)) (fun v H2 => v = .non ∧ ∃ (d : Addr) (fs : List (Str × V)), H2 a = some (exo a C (some d)) ∧ H2 d = some (exd d fs) ∧ H1 d = none ∧ Q (.ref a) (upd (upd H2 a (keptO a (.ref C) (some d))) d (.xd fs))) (fun _ _ _ => False) := by
  refine ⟨a, C, p, y, rfl, T, no, no2, upd_same, fun dx nx ne => ?_⟩
  rw [upd_ne ne] at nx
  refine ⟨rfl, dx, _, by rw [upd_ne (Ne.symm ne), upd_same], upd_same, nx, q a dx _ (fun c o e => ?_) na nx (by rw [upd_ne (Ne.symm ne), upd_same]) upd_same⟩
  have h1 : c ≠ a := ne_of_none e na
  have h2 : c ≠ dx := ne_of_none e nx
  rw [upd_ne h2, upd_ne h1, upd_ne h2, upd_ne h1, upd_ne h2, upd_ne h1]
  exact e
section
variable {x f g' : Str} {e : Expr} {es : List Expr} {kws : List Keyword} {ta : TA} {p pos : Pos}
theorem pe_mk1 (T : ErrC X.K X.mg x C fI f) (F : FnOk X.prog X.w X.K X.mg X.base CX k fI fd ["self", f] (spInit X.K f)) (hr : Room (k + 1) X.A) (hb : Binds X.K fd ["self", f] []) (hx : Passes CX X (fun _ _ _ => False)) (hg : Gl X x) (ha : PA X (e :: es) ta)
    (hdb : (x == ("__debug__" : Str)) = false := by decide) (he : starEach (e :: es) X.env = (false, eval e X.env) :: starEach es X.env := by rfl) (hpl : (backTo pos (starEach es X.env)).any (·.1) = false := by rfl) :
    PE X (.Call (.Name x p) (e :: es) [] pos) (tMk1 C f ta) := by
  refine ⟨fun pins s σ H Q I h => wpAny_Call_Name_kw (ld_glob I hg T.gC ?_ hdb)⟩
  refine PySem.W.callWith_K (h₀ := X.base) I.ok.mod.kin T.oex.kC (thn (ha.run pos pins s σ H _ I h) fun us s1 ⟨vs, H1, I1, r1, y, ev, q1⟩ => ⟨I1.kIn, ?_⟩) he hpl
  subst ev
  have l1 : us.length = 1 := Paired.length r1 ▸ rfl
  exact mkv_run (rest := us) T.oex T.iC T.tI F hr hx I1 r1 (by show us.length ≤ sizeLine; rw [l1, sizeLine_eq]; decide) (fun a s X => by
    have b := hb s (.ref a :: us) X (by rw [List.append_nil, List.length_cons, l1] <;> rfl)
    rwa [List.append_nil] at b) fun a na => init_one T.oex T.noF na q1
theorem pe_mk2 (T : ErrC2 X.K X.mg x C fI f g') (F : FnOk X.prog X.w X.K X.mg X.base CX k fI fd ["self", f, g'] (spInit2 X.K f g')) (hr : Room (k + 1) X.A) (hb : Binds X.K fd ["self", f, g'] []) (hx : Passes CX X (fun _ _ _ => False)) (hg : Gl X x) (ha : PA X (e :: es) ta)
    (hdb : (x == ("__debug__" : Str)) = false := by decide) (he : starEach (e :: es) X.env = (false, eval e X.env) :: starEach es X.env := by rfl) (hpl : (backTo pos (starEach es X.env)).any (·.1) = false := by rfl) :
    PE X (.Call (.Name x p) (e :: es) [] pos) (tMk2 C f g' ta) := by
  refine ⟨fun pins s σ H Q I h => wpAny_Call_Name_kw (ld_glob I hg T.one.gC ?_ hdb)⟩
  refine PySem.W.callWith_K (h₀ := X.base) I.ok.mod.kin T.one.oex.kC (thn (ha.run pos pins s σ H _ I h) fun us s1 ⟨vs, H1, I1, r1, y, z, ev, q1⟩ => ⟨I1.kIn, ?_⟩) he hpl
  subst ev
  have l1 : us.length = 2 := Paired.length r1 ▸ rfl
  exact mkv_run (rest := us) T.one.oex T.one.iC T.one.tI F hr hx I1 r1 (by show us.length ≤ sizeLine; rw [l1, sizeLine_eq]; decide) (fun a s X => by
    have b := hb s (.ref a :: us) X (by rw [List.append_nil, List.length_cons, l1] <;> rfl)
    rwa [List.append_nil] at b) fun a na => init_two T.one.oex T.one.noF T.noG na q1
def kOne {α : Type} (us ws : List α) : List α := us ++ ws
def kTwo {α : Type} (us ws : List α) : List α := us ++ ws.reverse
theorem pe_mk1k (T : ErrC X.K X.mg x C fI f) (F : FnOk X.prog X.w X.K X.mg X.base CX k fI fd ["self", f] (spInit X.K f)) (hr : Room (k + 1) X.A) (hb : KBn X.K fd ["self", f] 1 [f] kOne kOne) (hx : Passes CX X (fun _ _ _ => False)) (hg : Gl X x) (hkw : PK X kws ta)
    (hall : (backToKw pos (keywordEach kws X.env)).all (·.1.isSome) = true := by rfl) (hks : (backToKw pos (keywordEach kws X.env)).filterMap (·.1) = [f] := by rfl)
    (hpl : ((backTo pos (starEach [] X.env)).any (·.1) || (backToKw pos (keywordEach kws X.env)).any (·.1.isNone)) = false := by rfl) (hdb : (x == ("__debug__" : Str)) = false := by decide) :
    PE X (.Call (.Name x p) [] kws pos) (tMk1 C f ta) := by
  refine ⟨fun pins s σ H Q I h => wpAny_Call_Name_kw (ld_glob I hg T.gC ?_ hdb)⟩
  refine PySem.W.callWith_KW0 (h₀ := X.base) I.ok.mod.kin T.oex.kC hall (thn (hkw.run pos pins s σ H _ I h) fun us s1 ⟨vs, H1, I1, r1, y, ev, q1⟩ => ⟨I1.kIn, ?_⟩) hpl
  rw [hks]
  subst ev
  have l1 : us.length = 1 := Paired.length r1 ▸ rfl
  exact mkv_run (us := []) (rest := us) T.oex T.iC T.tI F hr hx I1 r1 (by decide) (fun a s X => hb.to s [.ref a] us X rfl l1) fun a na => init_one T.oex T.noF na q1
theorem pe_mk2k (T : ErrC2 X.K X.mg x C fI f g') (F : FnOk X.prog X.w X.K X.mg X.base CX k fI fd ["self", f, g'] (spInit2 X.K f g')) (hr : Room (k + 1) X.A) (hb : KBn X.K fd ["self", f, g'] 1 [g', f] kTwo kTwo) (hx : Passes CX X (fun _ _ _ => False)) (hg : Gl X x) (hkw : PK X kws ta)
    (hall : (backToKw pos (keywordEach kws X.env)).all (·.1.isSome) = true := by rfl) (hks : (backToKw pos (keywordEach kws X.env)).filterMap (·.1) = [g', f] := by rfl)
    (hpl : ((backTo pos (starEach [] X.env)).any (·.1) || (backToKw pos (keywordEach kws X.env)).any (·.1.isNone)) = false := by rfl) (hdb : (x == ("__debug__" : Str)) = false := by decide) :
    PE X (.Call (.Name x p) [] kws pos) (tMk2r C f g' ta) := by
  refine ⟨fun pins s σ H Q I h => wpAny_Call_Name_kw (ld_glob I hg T.one.gC ?_ hdb)⟩
  refine PySem.W.callWith_KW0 (h₀ := X.base) I.ok.mod.kin T.one.oex.kC hall (thn (hkw.run pos pins s σ H _ I h) fun us s1 ⟨vs, H1, I1, r1, y, z, ev, q1⟩ => ⟨I1.kIn, ?_⟩) hpl
  rw [hks]
  subst ev
  obtain ⟨u1, u2, rfl, r2, r3⟩ := Vals.two r1
  exact mkv_run (us := []) (rest := [u2, u1]) T.one.oex T.one.iC T.one.tI F hr hx I1 (.cons r3 (.cons r2 .nil)) (by decide) (fun a s X => hb.to s [.ref a] [u1, u2] X rfl rfl) fun a na => init_two T.one.oex T.one.noF T.noG na q1
/-- a class without an own __init__, and nothing is told -/
theorem pe_mk0 {B newId initId : String} {bmB : List Value} (F : ExcBaseFacts B newId initId bmB) (q : PySem.W.excIn X.K C bmB newId = true) (gC : X.mg x = some (.ref C)) (kC : PySem.W.keepIn X.K (.ref C) = true) (hg : Gl X x) (hdb : (x == ("__debug__" : Str)) = false := by decide) :
    PE X (.Call (.Name x p) [] [] pos) (tMk0 C) := by
  refine ⟨fun pins s σ H Q I h => wpAny_Call_Name_kw (ld_glob I hg gC (PySem.W.callWith_K0 I.kIn kC ?_) hdb)⟩
  obtain ⟨bm, N, nm, qn, bs, hdct, sn, sub, ab, col, dd, k0, k1, k2, k3, k5, mN, hC, hN, hni, T⟩ := exc_obj I.kIn q
  refine wpAny_call_exc_subT F T hC hN hni (fun h' a hm => ?_) (by show 0 ≤ sizeLine; exact Nat.zero_le _)
  have na : H a = none := I.hok.gone hm.new
  obtain ⟨t, ht, _, _⟩ := hm.there
  exact ⟨.ref a, upd H a (keptO a (.ref C) none), I.laidN hm.keeps hm.new na (keptO_ok ht ⟨rfl, rfl⟩ rfl), rfl, h a _ (same_new na) na upd_same⟩
end
end
end MT
set_option maxHeartbeats 4000000
/-! != of two lists whose parts are equal, dicts among them -/
namespace MT
section
open PySem PySem.SeqAt
open AutoSeq1 (wpAny_loadPart')
open MeetsSeq MeetsSeq2 MeetsSeq3 SeqRoads2
variable {prog : Program} {w : World}
theorem ne_same_loop (l b : Addr) (xs ys : Array Value) (m m2 : Nat) (dl db : Option Addr) (sl sb : Array (Option Value)) (same : xs.size = ys.size) (k : Nat) :
    ∀ i : Nat, xs.size - i = k → MeetsIn prog w (Builtin.«list.__eq__.loop» ⟨[.ref l, .ref b, rawInt i, rawInt 3], []⟩)
      (fun A R s => s.heap.get? l = some { cls := .type "list", dict := dl, data := .seq xs m, slots := sl } ∧ s.heap.get? b = some { cls := .type "list", dict := db, data := .seq ys m2, slots := sb } ∧
        (∀ j (h1 : j < xs.size) (h2 : j < ys.size), EqP prog w A.in1 s xs[j] ys[j] true) ∧ R (.ok (.ret (.bool false))) s) := by
  induction k with
  | zero =>
    intro i hk A R s told
    obtain ⟨hp, g, d, tk, os⟩ := s; obtain ⟨gl, gb, he, fin⟩ := told
    wp_walk using wpAny_loadPart' gl, wpAny_loadPart' gb
    have z1 : xs[((i : Nat) : Int).toNat]? = none := by simp; omega
    have z2 : ys[((i : Nat) : Int).toNat]? = none := by simp; omega
    rw [z1, z2]
    wp_walk using wpAny_loadPart' gl, wpAny_loadPart' gb
    show R (.ok (.ret (.bool (xs.size != ys.size)))) _
    rw [same]
    simpa using fin
  | succ k ih =>
    intro i hk A R s told
    obtain ⟨hp, g, d, tk, os⟩ := s; obtain ⟨gl, gb, he, fin⟩ := told
    wp_walk using wpAny_loadPart' gl, wpAny_loadPart' gb
    have i1 : i < xs.size := by omega
    have i2 : i < ys.size := by omega
    have z1 : xs[((i : Nat) : Int).toNat]? = some xs[i] := by simp [i1]
    have z2 : ys[((i : Nat) : Int).toNat]? = some ys[i] := by simp [i2]
    have step : ((i : Int) + 1) = ((i + 1 : Nat) : Int) := by push_cast; rfl
    rw [z1, z2]
    refine wpAny_bind (he i i1 i2 _ _ ?_)
    wp_walk
    rw [step]
    exact ⟨plainId_quiet plain_eq_loop _, codeAny_builtin entry_eq_loop (by
      rw [Around.under_plainId plain_eq_loop]
      exact ih (i + 1) (by omega) A R _ ⟨gl, gb, he, fin⟩)⟩
theorem ne_same_list (l b : Addr) (xs ys : Array Value) (m m2 : Nat) (dl db : Option Addr) (sl sb : Array (Option Value)) (same : xs.size = ys.size) : MeetsIn prog w (Builtin.«list.__ne__» ⟨[.ref l, .ref b], []⟩)
      (fun A R s => s.heap.get? l = some { cls := .type "list", dict := dl, data := .seq xs m, slots := sl } ∧ s.heap.get? b = some { cls := .type "list", dict := db, data := .seq ys m2, slots := sb } ∧
        (∀ j (h1 : j < xs.size) (h2 : j < ys.size), EqP prog w A.in1 s xs[j] ys[j] true) ∧ R (.ok (.ret (.bool false))) s) := by
  intro A R s told
  obtain ⟨hp, g, d, tk, os⟩ := s; obtain ⟨gl, gb, he, fin⟩ := told
  have sub := AutoSeq1.sub_list_list
  have alike : ¬ (xs.size != ys.size) = true := by simp [same]
  wp_walk using wpAny_loadPart' gl, wpAny_loadPart' gb
  exact ⟨plainId_quiet plain_eq_loop _, codeAny_builtin entry_eq_loop (by
    rw [Around.under_plainId plain_eq_loop]
    exact ne_same_loop l b xs ys m m2 dl db sl sb same _ 0 rfl A R _ ⟨gl, gb, he, fin⟩)⟩
theorem ne_same {A : Around} {s : Shared} {l b : Addr} {xs ys : Array Value} (gl : s.heap.IsList l xs) (gb : s.heap.IsList b ys) (same : xs.size = ys.size) (hu : A.units < cLine)
    (he : ∀ j (h1 : j < xs.size) (h2 : j < ys.size), EqP prog w A.in1 s xs[j] ys[j] true) (E Q : Value → Shared → Prop) (fin : Q (.bool false) s) : wpAny (model prog w) A (richCompare .NotEq (.ref l) (.ref b)) Q E s := by
  obtain ⟨⟨c1, d1, t1, s1⟩, o1, e1, n1, f1⟩ := id gl
  obtain ⟨⟨c2, d2, t2, s2⟩, o2, e2, n2, f2⟩ := id gb
  simp only at e1 f1 e2 f2
  subst e1 f1 e2 f2
  have y1 : s.TypeIs (.ref l) "list" := ⟨_, o1, rfl⟩
  have y2 : s.TypeIs (.ref b) "list" := ⟨_, o2, rfl⟩
  exact wpAny_richCompare_same_room (op := .NotEq) y1 y2 PySem.F.slot_list_ne (call_meetsIn PySem.F.slot_list_ne y1 PySem.F.entry_list_ne (PySem.F.args_list_ne_2 _ _) (ne_same_list l b xs ys n1 n2 d1 d2 s1 s2 same)
    ⟨o1, o2, he, show Value.bool false ≠ Value.notImplemented ∧ Q (.bool false) s from ⟨(fun x => nomatch x), fin⟩⟩) hu
end
section
open PySem PySem.Spec PyProof.Rows L2
/-- equal, as data or as dicts -/
def ItemS (K : PySem.W.Frag) (H : Hp) (v u : V) : Prop := (∃ d, Dp K H v d ∧ Dp K H u d ∧ d.canLay0 = true ∧ d.depth ≤ 20) ∨ EqV K H 20 v u
/-- two lists of equal parts -/
def rNeS (K : PySem.W.Frag) : R2 := fun x y H Q => ∃ a b xs ys, x = .ref a ∧ y = .ref b ∧ SqL K H a xs ∧ SqL K H b ys ∧ Paired (ItemS K H) xs ys ∧ Q (.bl false) H
theorem op_neS {X : Cx} (hu : X.A.units + 64 < cLine) : OpR X (compareOp .NotEq) (rNeS X.K) := by
  intro pins s σ H x y v u Q I rx ry h
  obtain ⟨a, b, xs, ys, rfl, rfl, ha, hb, hp, q⟩ := h
  cases (show v = Value.ref a from rx)
  cases (show u = Value.ref b from ry)
  obtain ⟨us, r1, p1, _⟩ := I.list ha
  obtain ⟨ws, r2, p2, _⟩ := I.list hb
  have hsz : us.toArray.size = ws.toArray.size := by
    rw [List.size_toArray, List.size_toArray, ← r1.length, ← r2.length]
    exact Paired.length hp
  refine ne_same p1.isList p2.isList hsz (by omega) (fun j h1 h2 => ?_) _ _ ⟨.bl false, H, I, rfl, q⟩
  have k := items_run (P := X.prog) (w := X.w) (A := X.A.in1) (s := s) (F := ItemS X.K H) (fun x y v u f r3 r4 => ?_) hp r1 r2 j (by simpa using h1) (by simpa using h2)
  · simpa using k
  · rcases f with ⟨d, w1, w2, cl, dp⟩ | f
    · obtain ⟨as, z1⟩ := Dp.reads I d x v w1 r3
      obtain ⟨bs, z2⟩ := Dp.reads I d y u w2 r4
      have e := SeqAt.eqAt_reads d d X.A.in1 s v u as bs z1 z2 cl cl (by show X.A.units + 1 + min d.depth d.depth < cLine; omega)
      rw [SeqAt.eqv_refl d cl] at e
      exact e.eqP
    · exact eqV_run I 20 X.A.in1 (by show X.A.units + 1 + 20 < cLine; omega) x y v u f r3 r4
end
end MT
set_option maxHeartbeats 2000000
/-! errors as data: made, asked, their parts read; dicts with an integer; texts of integers; != of what is alike -/
namespace MT
open PySem L2
section
variable {K : PySem.W.Frag} {M : Addr → Prop} {H : Hp}
theorem int_nat_inj {a b : Addr} (h : PyData.int (a : Nat) = .int (b : Nat)) : a = b := by
  injection h with h
  exact Int.ofNat.inj h
theorem kyw_not : ∀ {k : Key} {l : List PyData}, KyW k (.list l) → False
  | .inl _, _, h => h
  | .inr _, _, h => h
theorem exn_inv {v : V} {C : Addr} {ks : List (PyData × PyData)} (w : Dw K M H v (excD C ks)) : ECls K C ∧ ((∃ p dd fv, v = .ref p ∧ H p = some (keptO p (.ref C) (some dd)) ∧ H dd = some (.xd fv) ∧ DwFs K M H fv ks) ∨ ∃ p, v = .ref p ∧ H p = some (keptO p (.ref C) none) ∧ ks = []) := by
  generalize e : excD C ks = x at w
  unfold excD at e
  cases w with
  | dct n h c =>
    injection e with e
    subst e
    rename_i kvs
    match kvs, c with
    | (.inl _, _) :: _, c => exact False.elim c.1
    | (.inr _, _) :: _, c => exact False.elim c.1
  | dk n h c =>
    injection e with e
    subst e
    cases c with
    | cons k _ _ => exact (kyw_not k).elim
  | dt n h c =>
    injection e with e
    subst e
    cases c with
    | cons k _ _ => exact False.elim k
  | obj n h c f =>
    injection e with e
    injection e with e1 e2
    injection e1 with e1 e3
    injection e1 with e1
    injection e1 with e1 e4
    cases e4
  | exn n h n2 h2 c f =>
    injection e with e
    injection e with e1 e2
    injection e1 with e1 e3
    injection e1 with e1
    injection e1 with e1 e4
    cases int_nat_inj e1
    subst e2
    exact ⟨c, .inl ⟨_, _, _, rfl, h, h2, f⟩⟩
  | exn0 n h c =>
    injection e with e
    injection e with e1 e2
    injection e1 with e1 e3
    injection e1 with e1
    injection e1 with e1 e4
    cases int_nat_inj e1
    subst e2
    exact ⟨c, .inr ⟨_, rfl, h, rfl⟩⟩
  | _ => cases e
def lookD (f : Str) : List (PyData × PyData) → Option PyData
  | [] => none
  | (.str g, y) :: r => if f = g then some y else lookD f r
  | _ :: r => lookD f r
theorem look_fs {f : Str} {y : PyData} : ∀ {fv : List (Str × V)} {ks : List (PyData × PyData)}, DwFs K M H fv ks → lookD f ks = some y → ∃ v, fv.lookup f = some v ∧ Dw K M H v y
  | _, _, .nil, e => by cases e
  | _, _, @DwFs.cons _ _ _ g v r d s w t, e => by
    have e : (if f = g then some d else lookD f s) = some y := e
    rw [lookup_put]
    by_cases h : f = g
    · rw [if_pos h] at e ⊢
      cases e
      exact ⟨v, rfl, w⟩
    · rw [if_neg h] at e ⊢
      exact look_fs t e
end
section
variable {X : Cx} {e : Expr} {o : Option TSet}
def qMk1 (C : Addr) (f : Str) (u : TDA) : TD := fun ρ n R => u ρ n fun ds n1 => ∃ x, ds = [x] ∧ R (excD C [(.str f, x)]) n1
def qMk2 (C : Addr) (f g : Str) (u : TDA) : TD := fun ρ n R => u ρ n fun ds n1 => ∃ x y, ds = [x, y] ∧ R (excD C [(.str g, y), (.str f, x)]) n1
def qMk2r (C : Addr) (f g : Str) (u : TDA) : TD := fun ρ n R => u ρ n fun ds n1 => ∃ x y, ds = [y, x] ∧ R (excD C [(.str g, y), (.str f, x)]) n1
theorem nM {W : Fld} {n : Nat} {H : Hp} {a : Addr} (g : W.G n H) (na : H a = none) : ¬ W.M a := fun m => by
  obtain ⟨u, e, _⟩ := W.al g m
  rw [na] at e
  cases e
theorem de_mk1 {C : Addr} {f : Str} {u : TDA} (c : ECls X.K C) (h : PE X e (tMk1 C f (tDA X.K o u))) : PE X e (tD X.K o (qMk1 C f u)) := PE.imp h fun σ H Q ⟨W, ρ, n, R, E, g, t, k⟩ =>
  ⟨W, ρ, n, _, E, g, t, fun ds n1 ⟨x, ed, r⟩ vs H1 F1 g1 w => by
    subst ed
    cases w with
    | cons wa wb =>
      cases wb
      exact ⟨_, rfl, fun a d H3 s na nd ha hd => k _ n1 r _ H3 (W.trans F1 (W.of s)) (W.same g1 s) (.exn (nM g1 na) ha (nM g1 nd) hd c (.cons (wa.same s) .nil))⟩⟩
theorem de_mk2 {C : Addr} {f g' : Str} {u : TDA} (c : ECls X.K C) (h : PE X e (tMk2 C f g' (tDA X.K o u))) : PE X e (tD X.K o (qMk2 C f g' u)) := PE.imp h fun σ H Q ⟨W, ρ, n, R, E, g, t, k⟩ =>
  ⟨W, ρ, n, _, E, g, t, fun ds n1 ⟨x, y, ed, r⟩ vs H1 F1 g1 w => by
    subst ed
    cases w with
    | cons wa wb =>
      cases wb with
      | cons wc wd =>
        cases wd
        exact ⟨_, _, rfl, fun a d H3 s na nd ha hd => k _ n1 r _ H3 (W.trans F1 (W.of s)) (W.same g1 s) (.exn (nM g1 na) ha (nM g1 nd) hd c (.cons (wc.same s) (.cons (wa.same s) .nil)))⟩⟩
theorem de_mk2r {C : Addr} {f g' : Str} {u : TDA} (c : ECls X.K C) (h : PE X e (tMk2r C f g' (tDA X.K o u))) : PE X e (tD X.K o (qMk2r C f g' u)) := PE.imp h fun σ H Q ⟨W, ρ, n, R, E, g, t, k⟩ =>
  ⟨W, ρ, n, _, E, g, t, fun ds n1 ⟨x, y, ed, r⟩ vs H1 F1 g1 w => by
    subst ed
    cases w with
    | cons wa wb =>
      cases wb with
      | cons wc wd =>
        cases wd
        exact ⟨_, _, rfl, fun a d H3 s na nd ha hd => k _ n1 r _ H3 (W.trans F1 (W.of s)) (W.same g1 s) (.exn (nM g1 na) ha (nM g1 nd) hd c (.cons (wa.same s) (.cons (wc.same s) .nil)))⟩⟩
theorem de_mk0 {C : Addr} (c : ECls X.K C) (h : PE X e (tMk0 C)) : PE X e (tD X.K o (qC (excD C []))) := PE.imp h fun σ H Q ⟨W, ρ, n, R, E, g, r, k⟩ a H3 s na ha => k _ n r _ H3 (W.of s) (W.same g s) (.exn0 (nM g na) ha c)
/-- a part of an error -/
def qXf (K : PySem.W.Frag) (f : Str) (t : TD) : TD := fun ρ n R => t ρ n fun d n1 => ∃ C ks y, d = excD C ks ∧ PySem.W.findIn K (.ref C) f = some none ∧ lookD f ks = some y ∧ R y n1
theorem de_xf {f : Str} {t : TD} (h : PE X e (fun σ H Q => tD X.K o t σ H fun x H1 => ∃ (a C dd : Addr) (fs : List (Str × V)) (v : V), x = .ref a ∧ H1 a = some (keptO a (.ref C) (some dd)) ∧ XfC X.K C ∧ PySem.W.findIn X.K (.ref C) f = some none ∧ H1 dd = some (.xd fs) ∧ fs.lookup f = some v ∧ Q v H1)) :
    PE X e (tD X.K o (qXf X.K f t)) := PE.imp h fun σ H Q ⟨W, ρ, n, R, E, g, t, k⟩ => ⟨W, ρ, n, _, E, g, t, fun d n1 ⟨C, ks, y, ed, no, lk, r⟩ v H1 F1 g1 w => by
  subst ed
  obtain ⟨c, ⟨p, dd, fv, rfl, h1, h2, f⟩ | ⟨p, rfl, h1, ek⟩⟩ := exn_inv w
  · obtain ⟨u, l, wu⟩ := look_fs f lk
    exact ⟨p, C, dd, fv, u, rfl, h1, c.xf, no, h2, l, k y n1 r u H1 F1 g1 wu⟩
  · subst ek
    cases lk⟩
theorem exn_ty {K : PySem.W.Frag} {M : Addr → Prop} {H : Hp} {v : V} {C : Addr} {ks : List (PyData × PyData)} (w : Dw K M H v (excD C ks)) : TyY K H v (.ref C) := by
  obtain ⟨c, ⟨p, dd, fv, rfl, h1, h2, f⟩ | ⟨p, rfl, h1, ek⟩⟩ := exn_inv w
  · exact .e h1 (fun d e => by cases e; exact ⟨_, h2⟩) c.ex
  · exact .e h1 (fun d e => by cases e) c.ex
/-- an error asked for a class -/
def qIsX (K : PySem.W.Frag) (u : Value) (t : TD) : TD := fun ρ n R => t ρ n fun d n1 => ∃ C ks b, d = excD C ks ∧ PySem.W.kitOne K (.ref C) u = some b ∧ R (.bool b) n1
theorem de_isX {c : V} {u : Value} {t : TD} (hc : ClsV c u) (h : PE X e (tCB (rIsiY X.K) (tCons (tD X.K o t) (tCons (tC c) tNil)))) : PE X e (tD X.K o (qIsX X.K u t)) := PE.imp h fun σ H Q ⟨W, ρ, n, R, E, g, t, k⟩ =>
  ⟨W, ρ, n, _, E, g, t, fun d n1 ⟨C, ks, b, ed, q, r⟩ v H1 F1 g1 w => by
    subst ed
    exact ⟨v, c, .ref C, u, b, rfl, hc, exn_ty w, q, k _ n1 r _ H1 F1 g1 (.bl _)⟩⟩
def qIsXs (K : PySem.W.Frag) (us : List Value) (t : TD) : TD := fun ρ n R => t ρ n fun d n1 => ∃ C ks b, d = excD C ks ∧ PySem.W.kitAny K (.ref C) us = some b ∧ R (.bool b) n1
theorem de_isX5 {a b c d' e' : String} {t : TD} (h : PE X e (tCB (rIsiTY X.K) (tCons (tD X.K o t) (tCons (tTupN (tCons (tC (.ty a)) (tCons (tC (.ty b)) (tCons (tC (.ty c)) (tCons (tC (.ty d')) (tCons (tC (.ty e')) tNil)))))) tNil)))) :
    PE X e (tD X.K o (qIsXs X.K [.type a, .type b, .type c, .type d', .type e'] t)) := PE.imp h fun σ H Q ⟨W, ρ, n, R, E, g, t, k⟩ =>
  ⟨W, ρ, n, _, E, g, t, fun d n1 ⟨C, ks, b, ed, q, r⟩ v H1 F1 g1 w => ⟨small_line (by simp), fun p H2 n2 => by
    subst ed
    exact ⟨v, p, _, .ref C, _, b, rfl, n2.2.1, .cons (.ty _) (.cons (.ty _) (.cons (.ty _) (.cons (.ty _) (.cons (.ty _) .nil)))), exn_ty (w.same n2.1), q, k _ n1 r _ H2 (W.trans F1 (W.of n2.1)) (W.same g1 n2.1) (.bl _)⟩⟩⟩
/-- {integer: ..} -/
def qDki (t u : TD) : TD := fun ρ n R => t ρ n fun d n1 => (∃ z, d = .int z) ∧ u ρ n1 fun e n2 => R (.dict [(d, e)]) n2
theorem de_dki {t u : TD} (h : PE X e (fun σ H Q => ∀ p H0, New H H0 p (.dK []) → tD X.K o t σ H0 fun x H1 => tD X.K o u σ H1 fun y H2 =>
    H2 p = some (.dK []) ∧ ∃ key : Key, x = kV key ∧ ∀ H3, (∀ c, c ≠ p → H3 c = H2 c) → H3 p = some (.dK [(key, y)]) → Q (.ref p) H3)) : PE X e (tD X.K o (qDki t u)) := PE.imp h fun σ H Q ⟨W, ρ, n, R, E, g, t, k⟩ => fun p H0 n0 => by
  have pM := W.new g n0
  have g0 := W.same g n0.1
  have E0 : EnvD X.K o (fun c => W.M c ∨ c = p) (W.a, W.ts, W.ov) ρ σ H0 := ((E.more (N := fun c => W.M c ∨ c = p) fun c o m q => m.elim id fun e => by rw [e, n0.2.2] at q; cases q).frm (fx_same n0.1))
  refine ⟨W.plus p (.dK []) (fun _ z => by cases z) pM, ρ, n, _, E0, ⟨g0, n0.2.1⟩, t, fun d n1 ⟨⟨z, ez⟩, u1⟩ v H1 F1 g1 w1 => ⟨W.plus p (.dK []) (fun _ z => by cases z) pM, ρ, n1, _, E0.frm ((W.plus p (.dK []) (fun _ z => by cases z) pM).frm F1), g1, u1, fun y n2 r v2 H2 F2 g2 w2 => ⟨g2.2, .inl z, ?_, fun H3 hc h3 => ?_⟩⟩⟩
  · subst ez
    cases w1
    rfl
  · have e3 : H3 = upd H2 p (.dK [(.inl z, v2)]) := by
      funext c
      by_cases ec : c = p
      · rw [ec, h3, upd_same]
      · rw [hc c ec, upd_ne ec]
    subst e3
    have w3 : Dw X.K W.M (upd H2 p (.dK [(.inl z, v2)])) v2 y := (w2.frm (fx_frm (Frm.mono (frm_upd (a := p)) fun c e => .inr e))).more fun c o m _ => .inl m
    exact k _ n2 r _ _ (W.updR (W.trans (W.of n0.1) (W.trans F1 F2)) n0.2.2) (W.updG g n0.2.2 g2.1 (fun u e => by rw [g2.2] at e; cases e; trivial)) (by rw [ez]; exact .dk pM upd_same (.cons rfl w3 .nil))
/-- the text of an integer -/
def fStrI (ds : List PyData) (R : PyData → Prop) : Prop := ∃ i, ds = [.int i] ∧ i.natAbs.log2 < 1920 ∧ R (.str (toString i))
theorem fit_strI {K : PySem.W.Frag} : FitC K (fun xs H Q => ∃ i, xs = [.int i] ∧ i.natAbs.log2 < 1920 ∧ Q (.str (toString i)) H) fStrI := by
  intro ds R M H vs Q al w f k
  obtain ⟨i, rfl, l, r⟩ := f
  cases w with
  | cons a b =>
    cases b
    cases a
    exact ⟨i, rfl, l, k _ r _ _ (Same.refl _) (.str _)⟩
/-- what != finds alike -/
def fineE (d : PyData) : Bool := (d.canLay0 && decide (d.depth ≤ 20)) || match d with | .dict [(.int _, .list [.int _])] => true | _ => false
theorem itemS_of {K : PySem.W.Frag} {M : Addr → Prop} {H : Hp} {v u : V} {d : PyData} (f : fineE d = true) (w1 : Dw K M H v d) (w2 : Dw K M H u d) : ItemS K H v u := by
  unfold fineE at f
  rcases Bool.or_eq_true _ _ ▸ f with f | f
  · rw [Bool.and_eq_true] at f
    exact .inl ⟨d, w1.dp f.1, w2.dp f.1, f.1, of_decide_eq_true f.2⟩
  · split at f
    · rename_i i j _
      have key : ∀ v, Dw K M H v (.dict [(.int i, .list [.int j])]) → ∃ p q, v = .ref p ∧ H p = some (.dK [(.inl i, .ref q)]) ∧ SqL K H q [.int j] := fun v w => by
        cases w with
        | dct n h c =>
          rename_i kvs
          match kvs, c with
          | (k, u) :: r, c => exact (match u, c.2.1 with | .non, q => False.elim q | .bl _, q => False.elim q | .int _, q => False.elim q | .str _, q => False.elim q | .ref _, q => False.elim q | .flt _, q => False.elim q)
        | dk n h c =>
          cases c with
          | cons kk wv t =>
            cases t
            rename_i k v
            cases k with
            | inr _ => exact kk.elim
            | inl z =>
              cases (show z = i from kk)
              cases wv with
              | lst s a =>
                cases a with
                | cons x y =>
                  cases y
                  cases x
                  exact ⟨_, _, rfl, h, s.at⟩
        | dt n h c =>
          cases c with
          | cons kk _ _ => exact False.elim kk
      obtain ⟨p, q, rfl, h1, h2⟩ := key v w1
      obtain ⟨p', q', rfl, h3, h4⟩ := key u w2
      refine .inr (.inr (.inr (.inr ⟨p, p', _, _, rfl, rfl, h1, h3, rfl, fun x hx => ?_⟩)))
      rw [List.mem_singleton.mp hx]
      refine ⟨.ref q', by unfold valV; simp, .inr (.inr (.inl ⟨q, q', _, _, rfl, rfl, h2, h4, .cons (.inl ⟨rfl, rfl⟩) .nil⟩))⟩
    · cases f
def fNeE (d e : PyData) (R : PyData → Prop) : Prop := ∃ ds, d = .list ds ∧ e = .list ds ∧ ds.all fineE = true ∧ R (.bool false)
theorem items_of {K : PySem.W.Frag} {M : Addr → Prop} {H : Hp} : ∀ {ds : List PyData} {vs us : List V}, ds.all fineE = true → DwAll K M H vs ds → DwAll K M H us ds → Paired (ItemS K H) vs us
  | [], _, _, _, .nil, .nil => .nil
  | d :: ds, _, _, f, .cons a b, .cons c e => by
    rw [List.all_cons, Bool.and_eq_true] at f
    exact .cons (itemS_of f.1 a c) (items_of f.2 b e)
theorem fit_neSame {K : PySem.W.Frag} : FitR K (rNeS K) fNeE := by
  intro dx dy R M H x y Q al wx wy f k
  obtain ⟨ds, rfl, rfl, f, r⟩ := f
  cases wx with
  | lst s a =>
    cases wy with
    | lst s2 b => exact ⟨_, _, _, _, rfl, rfl, s.at, s2.at, items_of f a b, k _ r _ _ (Same.refl _) (.bl _)⟩
end
end MT
set_option maxHeartbeats 4000000
namespace K00
open PySem L2 MT RZ StX


local macro_rules | `(tactic| walk_at "sm") => `(tactic| first | exact Same.refl _ | assumption | exact New.same (by assumption) | exact Same.trans (by assumption) (by walk_at "sm") | exact Same.trans (New.same (by assumption)) (by walk_at "sm"))
local macro_rules | `(tactic| walk_at "fr") => `(tactic| first | exact Frm.refl | assumption | exact frm_same (New.same (by assumption)) | exact frm_same (by assumption) | exact Frm.trans (by assumption) (by walk_at "fr") | exact Frm.trans (frm_same (New.same (by assumption))) (by walk_at "fr") | exact Frm.trans (frm_same (by assumption)) (by walk_at "fr"))
local macro_rules | `(tactic| walk_at "dv") => `(tactic| first | exact Dv.int _ | exact Dv.bl _ | exact Dv.non | exact Dv.str _ | assumption | exact Dv.same (by assumption) (by walk_at "sm") | exact Dv.mono (by assumption) (by walk_at "fr"))
local macro_rules | `(tactic| walk_at "dvs") => `(tactic| first | exact DvAll.nil | exact DvAll.ints _ | (refine DvAll.cons ?_ ?_; walk_at "dv"; walk_at "dvs"))

def top (i : Nat) : Stmt := PySem.Challenge.pw_meettrees_k00_errors_keep_their_fields.main.body.getD i (.Pass ⟨0, 0, 0, 0⟩)
abbrev s__law_satchel : Stmt := top 32
abbrev sl__law_satchel : List Str := ["script", "cell"]
theorem sc__law_satchel : FnScope sl__law_satchel ["script"] (defScope s__law_satchel) := ⟨rfl, rfl, rfl, by decide +kernel, rfl, by decide +kernel, by decide +kernel⟩
abbrev s__law_reach : Stmt := top 33
abbrev sl__law_reach : List Str := ["satchel", "many", "rest", "turn", "cell", "mixed"]
theorem sc__law_reach : FnScope sl__law_reach ["satchel", "many"] (defScope s__law_reach) := ⟨rfl, rfl, rfl, by decide +kernel, rfl, by decide +kernel, by decide +kernel⟩
abbrev s__law_gather : Stmt := top 34
abbrev sl__law_gather : List Str := ["satchel", "some"]
theorem sc__law_gather : FnScope sl__law_gather ["satchel", "some"] (defScope s__law_gather) := ⟨rfl, rfl, rfl, by decide +kernel, rfl, by decide +kernel, by decide +kernel⟩
abbrev s__law_value : Stmt := top 35
abbrev sl__law_value : List Str := ["satchel", "number", "some"]
theorem sc__law_value : FnScope sl__law_value ["satchel"] (defScope s__law_value) := ⟨rfl, rfl, rfl, by decide +kernel, rfl, by decide +kernel, by decide +kernel⟩
abbrev s__law_by_place : Stmt := top 36
abbrev sl__law_by_place : List Str := ["at", "one", "other", "made"]
theorem sc__law_by_place : FnScope sl__law_by_place ["at", "one", "other"] (defScope s__law_by_place) := ⟨rfl, rfl, rfl, by decide +kernel, rfl, by decide +kernel, by decide +kernel⟩
abbrev s__law_by_name : Stmt := top 37
abbrev sl__law_by_name : List Str := ["at", "one", "other", "made"]
theorem sc__law_by_name : FnScope sl__law_by_name ["at", "one", "other"] (defScope s__law_by_name) := ⟨rfl, rfl, rfl, by decide +kernel, rfl, by decide +kernel, by decide +kernel⟩
abbrev s__law_fields : Stmt := top 38
abbrev sl__law_fields : List Str := ["at", "error"]
theorem sc__law_fields : FnScope sl__law_fields ["at", "error"] (defScope s__law_fields) := ⟨rfl, rfl, rfl, by decide +kernel, rfl, by decide +kernel, by decide +kernel⟩
abbrev s__law_flags : Stmt := top 39
abbrev sl__law_flags : List Str := ["error", "own"]
theorem sc__law_flags : FnScope sl__law_flags ["error"] (defScope s__law_flags) := ⟨rfl, rfl, rfl, by decide +kernel, rfl, by decide +kernel, by decide +kernel⟩
abbrev s__law_is_far : Stmt := top 40
abbrev sl__law_is_far : List Str := ["error"]
theorem sc__law_is_far : FnScope sl__law_is_far ["error"] (defScope s__law_is_far) := ⟨rfl, rfl, rfl, by decide +kernel, rfl, by decide +kernel, by decide +kernel⟩
abbrev s_law : Stmt := top 41
abbrev sl_law : List Str := ["script", "satchel", "at", "one", "other", "due", "error", "told", "place"]
theorem sc_law : FnScope sl_law ["script"] (defScope s_law) := ⟨rfl, rfl, rfl, by decide +kernel, rfl, by decide +kernel, by decide +kernel⟩
abbrev s_BadNumber : Stmt := (clsBody (top 2)).getD 0 (.Pass ⟨0, 0, 0, 0⟩)
theorem sc_BadNumber : FnScope ["self", "part"] ["self", "part"] (defScope s_BadNumber) := ⟨rfl, rfl, rfl, by decide +kernel, rfl, by decide +kernel, by decide +kernel⟩
abbrev s_BadBlock : Stmt := (clsBody (top 3)).getD 0 (.Pass ⟨0, 0, 0, 0⟩)
theorem sc_BadBlock : FnScope ["self", "part"] ["self", "part"] (defScope s_BadBlock) := ⟨rfl, rfl, rfl, by decide +kernel, rfl, by decide +kernel, by decide +kernel⟩
abbrev s_BadRow : Stmt := (clsBody (top 4)).getD 0 (.Pass ⟨0, 0, 0, 0⟩)
theorem sc_BadRow : FnScope ["self", "part"] ["self", "part"] (defScope s_BadRow) := ⟨rfl, rfl, rfl, by decide +kernel, rfl, by decide +kernel, by decide +kernel⟩
abbrev s_BadPath : Stmt := (clsBody (top 5)).getD 0 (.Pass ⟨0, 0, 0, 0⟩)
theorem sc_BadPath : FnScope ["self", "part"] ["self", "part"] (defScope s_BadPath) := ⟨rfl, rfl, rfl, by decide +kernel, rfl, by decide +kernel, by decide +kernel⟩
abbrev s_BadValue : Stmt := (clsBody (top 6)).getD 0 (.Pass ⟨0, 0, 0, 0⟩)
theorem sc_BadValue : FnScope ["self", "part"] ["self", "part"] (defScope s_BadValue) := ⟨rfl, rfl, rfl, by decide +kernel, rfl, by decide +kernel, by decide +kernel⟩
abbrev s_BadTree : Stmt := (clsBody (top 7)).getD 0 (.Pass ⟨0, 0, 0, 0⟩)
theorem sc_BadTree : FnScope ["self", "part"] ["self", "part"] (defScope s_BadTree) := ⟨rfl, rfl, rfl, by decide +kernel, rfl, by decide +kernel, by decide +kernel⟩
abbrev s_BadDeed : Stmt := (clsBody (top 8)).getD 0 (.Pass ⟨0, 0, 0, 0⟩)
theorem sc_BadDeed : FnScope ["self", "part"] ["self", "part"] (defScope s_BadDeed) := ⟨rfl, rfl, rfl, by decide +kernel, rfl, by decide +kernel, by decide +kernel⟩
abbrev s_BadEvent : Stmt := (clsBody (top 9)).getD 0 (.Pass ⟨0, 0, 0, 0⟩)
theorem sc_BadEvent : FnScope ["self", "part"] ["self", "part"] (defScope s_BadEvent) := ⟨rfl, rfl, rfl, by decide +kernel, rfl, by decide +kernel, by decide +kernel⟩
abbrev s_BadHeard : Stmt := (clsBody (top 10)).getD 0 (.Pass ⟨0, 0, 0, 0⟩)
theorem sc_BadHeard : FnScope ["self", "part"] ["self", "part"] (defScope s_BadHeard) := ⟨rfl, rfl, rfl, by decide +kernel, rfl, by decide +kernel, by decide +kernel⟩
abbrev s_BadLot : Stmt := (clsBody (top 11)).getD 0 (.Pass ⟨0, 0, 0, 0⟩)
theorem sc_BadLot : FnScope ["self", "part"] ["self", "part"] (defScope s_BadLot) := ⟨rfl, rfl, rfl, by decide +kernel, rfl, by decide +kernel, by decide +kernel⟩
abbrev s_BadLetter : Stmt := (clsBody (top 12)).getD 0 (.Pass ⟨0, 0, 0, 0⟩)
theorem sc_BadLetter : FnScope ["self", "part"] ["self", "part"] (defScope s_BadLetter) := ⟨rfl, rfl, rfl, by decide +kernel, rfl, by decide +kernel, by decide +kernel⟩
abbrev s_BadMachine : Stmt := (clsBody (top 13)).getD 0 (.Pass ⟨0, 0, 0, 0⟩)
theorem sc_BadMachine : FnScope ["self", "part"] ["self", "part"] (defScope s_BadMachine) := ⟨rfl, rfl, rfl, by decide +kernel, rfl, by decide +kernel, by decide +kernel⟩
abbrev s_BadDisk : Stmt := (clsBody (top 14)).getD 0 (.Pass ⟨0, 0, 0, 0⟩)
theorem sc_BadDisk : FnScope ["self", "part"] ["self", "part"] (defScope s_BadDisk) := ⟨rfl, rfl, rfl, by decide +kernel, rfl, by decide +kernel, by decide +kernel⟩
abbrev s_BadWorld : Stmt := (clsBody (top 15)).getD 0 (.Pass ⟨0, 0, 0, 0⟩)
theorem sc_BadWorld : FnScope ["self", "part"] ["self", "part"] (defScope s_BadWorld) := ⟨rfl, rfl, rfl, by decide +kernel, rfl, by decide +kernel, by decide +kernel⟩
abbrev s_BadStep : Stmt := (clsBody (top 16)).getD 0 (.Pass ⟨0, 0, 0, 0⟩)
theorem sc_BadStep : FnScope ["self", "part"] ["self", "part"] (defScope s_BadStep) := ⟨rfl, rfl, rfl, by decide +kernel, rfl, by decide +kernel, by decide +kernel⟩
abbrev s_BadPaper : Stmt := (clsBody (top 17)).getD 0 (.Pass ⟨0, 0, 0, 0⟩)
theorem sc_BadPaper : FnScope ["self", "part"] ["self", "part"] (defScope s_BadPaper) := ⟨rfl, rfl, rfl, by decide +kernel, rfl, by decide +kernel, by decide +kernel⟩
abbrev s_Misfit : Stmt := (clsBody (top 18)).getD 0 (.Pass ⟨0, 0, 0, 0⟩)
theorem sc_Misfit : FnScope ["self", "part"] ["self", "part"] (defScope s_Misfit) := ⟨rfl, rfl, rfl, by decide +kernel, rfl, by decide +kernel, by decide +kernel⟩
abbrev s_Missing : Stmt := (clsBody (top 19)).getD 0 (.Pass ⟨0, 0, 0, 0⟩)
theorem sc_Missing : FnScope ["self", "value"] ["self", "value"] (defScope s_Missing) := ⟨rfl, rfl, rfl, by decide +kernel, rfl, by decide +kernel, by decide +kernel⟩
abbrev s_Refused : Stmt := (clsBody (top 23)).getD 0 (.Pass ⟨0, 0, 0, 0⟩)
theorem sc_Refused : FnScope ["self", "why", "path"] ["self", "why", "path"] (defScope s_Refused) := ⟨rfl, rfl, rfl, by decide +kernel, rfl, by decide +kernel, by decide +kernel⟩
abbrev s_TooMany : Stmt := (clsBody (top 24)).getD 0 (.Pass ⟨0, 0, 0, 0⟩)
theorem sc_TooMany : FnScope ["self", "what", "most"] ["self", "what", "most"] (defScope s_TooMany) := ⟨rfl, rfl, rfl, by decide +kernel, rfl, by decide +kernel, by decide +kernel⟩
abbrev s_BadText : Stmt := (clsBody (top 29)).getD 0 (.Pass ⟨0, 0, 0, 0⟩)
theorem sc_BadText : FnScope ["self", "line", "item"] ["self", "line", "item"] (defScope s_BadText) := ⟨rfl, rfl, rfl, by decide +kernel, rfl, by decide +kernel, by decide +kernel⟩
abbrev s_BadLine : Stmt := (clsBody (top 30)).getD 0 (.Pass ⟨0, 0, 0, 0⟩)
theorem sc_BadLine : FnScope ["self", "line", "error"] ["self", "line", "error"] (defScope s_BadLine) := ⟨rfl, rfl, rfl, by decide +kernel, rfl, by decide +kernel, by decide +kernel⟩
structure Txt (K : PySem.W.Frag) (mg : Str → Option Value) (fa : Nat → Addr) (fd : Nat → FuncData) : Prop where
  F__law_satchel : Fun K "_law_satchel" "_law_satchel" s__law_satchel (fa 32) (fd 32)
  g__law_satchel : mg "_law_satchel" = some (.ref (fa 32))
  b__law_satchel : Binds K (fd 32) ["script"] []
  F__law_reach : Fun K "_law_reach" "_law_reach" s__law_reach (fa 33) (fd 33)
  g__law_reach : mg "_law_reach" = some (.ref (fa 33))
  b__law_reach : Binds K (fd 33) ["satchel", "many"] []
  F__law_gather : Fun K "_law_gather" "_law_gather" s__law_gather (fa 34) (fd 34)
  g__law_gather : mg "_law_gather" = some (.ref (fa 34))
  b__law_gather : Binds K (fd 34) ["satchel", "some"] []
  F__law_value : Fun K "_law_value" "_law_value" s__law_value (fa 35) (fd 35)
  g__law_value : mg "_law_value" = some (.ref (fa 35))
  b__law_value : Binds K (fd 35) ["satchel"] []
  F__law_by_place : Fun K "_law_by_place" "_law_by_place" s__law_by_place (fa 36) (fd 36)
  g__law_by_place : mg "_law_by_place" = some (.ref (fa 36))
  b__law_by_place : Binds K (fd 36) ["at", "one", "other"] []
  F__law_by_name : Fun K "_law_by_name" "_law_by_name" s__law_by_name (fa 37) (fd 37)
  g__law_by_name : mg "_law_by_name" = some (.ref (fa 37))
  b__law_by_name : Binds K (fd 37) ["at", "one", "other"] []
  F__law_fields : Fun K "_law_fields" "_law_fields" s__law_fields (fa 38) (fd 38)
  g__law_fields : mg "_law_fields" = some (.ref (fa 38))
  b__law_fields : Binds K (fd 38) ["at", "error"] []
  F__law_flags : Fun K "_law_flags" "_law_flags" s__law_flags (fa 39) (fd 39)
  g__law_flags : mg "_law_flags" = some (.ref (fa 39))
  b__law_flags : Binds K (fd 39) ["error"] []
  F__law_is_far : Fun K "_law_is_far" "_law_is_far" s__law_is_far (fa 40) (fd 40)
  g__law_is_far : mg "_law_is_far" = some (.ref (fa 40))
  b__law_is_far : Binds K (fd 40) ["error"] []
  F_law : Fun K "law" "law" s_law (fa 41) (fd 41)
  g_law : mg "law" = some (.ref (fa 41))
  b_law : Binds K (fd 41) ["script"] []
  n_ArithmeticError : mg "ArithmeticError" = none
  n_AttributeError : mg "AttributeError" = none
  n_LookupError : mg "LookupError" = none
  n_RuntimeError : mg "RuntimeError" = none
  n_TypeError : mg "TypeError" = none
  n_ValueError : mg "ValueError" = none
  n_abs : mg "abs" = none
  n_int : mg "int" = none
  n_isinstance : mg "isinstance" = none
  n_len : mg "len" = none
  n_range : mg "range" = none
  n_repr : mg "repr" = none
  n_str : mg "str" = none
  F_BadNumber : Fun K "__init__" "BadNumber.__init__" s_BadNumber (fa 400) (fd 400)
  b_BadNumber : Binds K (fd 400) ["self", "part"] []
  kb_BadNumber : KBn K (fd 400) ["self", "part"] 1 ["part"] kOne kOne
  F_BadBlock : Fun K "__init__" "BadBlock.__init__" s_BadBlock (fa 401) (fd 401)
  b_BadBlock : Binds K (fd 401) ["self", "part"] []
  kb_BadBlock : KBn K (fd 401) ["self", "part"] 1 ["part"] kOne kOne
  F_BadRow : Fun K "__init__" "BadRow.__init__" s_BadRow (fa 402) (fd 402)
  b_BadRow : Binds K (fd 402) ["self", "part"] []
  kb_BadRow : KBn K (fd 402) ["self", "part"] 1 ["part"] kOne kOne
  F_BadPath : Fun K "__init__" "BadPath.__init__" s_BadPath (fa 403) (fd 403)
  b_BadPath : Binds K (fd 403) ["self", "part"] []
  kb_BadPath : KBn K (fd 403) ["self", "part"] 1 ["part"] kOne kOne
  F_BadValue : Fun K "__init__" "BadValue.__init__" s_BadValue (fa 404) (fd 404)
  b_BadValue : Binds K (fd 404) ["self", "part"] []
  kb_BadValue : KBn K (fd 404) ["self", "part"] 1 ["part"] kOne kOne
  F_BadTree : Fun K "__init__" "BadTree.__init__" s_BadTree (fa 405) (fd 405)
  b_BadTree : Binds K (fd 405) ["self", "part"] []
  kb_BadTree : KBn K (fd 405) ["self", "part"] 1 ["part"] kOne kOne
  F_BadDeed : Fun K "__init__" "BadDeed.__init__" s_BadDeed (fa 406) (fd 406)
  b_BadDeed : Binds K (fd 406) ["self", "part"] []
  kb_BadDeed : KBn K (fd 406) ["self", "part"] 1 ["part"] kOne kOne
  F_BadEvent : Fun K "__init__" "BadEvent.__init__" s_BadEvent (fa 407) (fd 407)
  b_BadEvent : Binds K (fd 407) ["self", "part"] []
  kb_BadEvent : KBn K (fd 407) ["self", "part"] 1 ["part"] kOne kOne
  F_BadHeard : Fun K "__init__" "BadHeard.__init__" s_BadHeard (fa 408) (fd 408)
  b_BadHeard : Binds K (fd 408) ["self", "part"] []
  kb_BadHeard : KBn K (fd 408) ["self", "part"] 1 ["part"] kOne kOne
  F_BadLot : Fun K "__init__" "BadLot.__init__" s_BadLot (fa 409) (fd 409)
  b_BadLot : Binds K (fd 409) ["self", "part"] []
  kb_BadLot : KBn K (fd 409) ["self", "part"] 1 ["part"] kOne kOne
  F_BadLetter : Fun K "__init__" "BadLetter.__init__" s_BadLetter (fa 410) (fd 410)
  b_BadLetter : Binds K (fd 410) ["self", "part"] []
  kb_BadLetter : KBn K (fd 410) ["self", "part"] 1 ["part"] kOne kOne
  F_BadMachine : Fun K "__init__" "BadMachine.__init__" s_BadMachine (fa 411) (fd 411)
  b_BadMachine : Binds K (fd 411) ["self", "part"] []
  kb_BadMachine : KBn K (fd 411) ["self", "part"] 1 ["part"] kOne kOne
  F_BadDisk : Fun K "__init__" "BadDisk.__init__" s_BadDisk (fa 412) (fd 412)
  b_BadDisk : Binds K (fd 412) ["self", "part"] []
  kb_BadDisk : KBn K (fd 412) ["self", "part"] 1 ["part"] kOne kOne
  F_BadWorld : Fun K "__init__" "BadWorld.__init__" s_BadWorld (fa 413) (fd 413)
  b_BadWorld : Binds K (fd 413) ["self", "part"] []
  kb_BadWorld : KBn K (fd 413) ["self", "part"] 1 ["part"] kOne kOne
  F_BadStep : Fun K "__init__" "BadStep.__init__" s_BadStep (fa 414) (fd 414)
  b_BadStep : Binds K (fd 414) ["self", "part"] []
  kb_BadStep : KBn K (fd 414) ["self", "part"] 1 ["part"] kOne kOne
  F_BadPaper : Fun K "__init__" "BadPaper.__init__" s_BadPaper (fa 415) (fd 415)
  b_BadPaper : Binds K (fd 415) ["self", "part"] []
  kb_BadPaper : KBn K (fd 415) ["self", "part"] 1 ["part"] kOne kOne
  F_Misfit : Fun K "__init__" "Misfit.__init__" s_Misfit (fa 416) (fd 416)
  b_Misfit : Binds K (fd 416) ["self", "part"] []
  kb_Misfit : KBn K (fd 416) ["self", "part"] 1 ["part"] kOne kOne
  F_Missing : Fun K "__init__" "Missing.__init__" s_Missing (fa 428) (fd 428)
  b_Missing : Binds K (fd 428) ["self", "value"] []
  kb_Missing : KBn K (fd 428) ["self", "value"] 1 ["value"] kOne kOne
  F_Refused : Fun K "__init__" "Refused.__init__" s_Refused (fa 420) (fd 420)
  b_Refused : Binds K (fd 420) ["self", "why", "path"] []
  kb_Refused : KBn K (fd 420) ["self", "why", "path"] 1 ["path", "why"] kTwo kTwo
  F_TooMany : Fun K "__init__" "TooMany.__init__" s_TooMany (fa 421) (fd 421)
  b_TooMany : Binds K (fd 421) ["self", "what", "most"] []
  kb_TooMany : KBn K (fd 421) ["self", "what", "most"] 1 ["most", "what"] kTwo kTwo
  F_BadText : Fun K "__init__" "BadText.__init__" s_BadText (fa 422) (fd 422)
  b_BadText : Binds K (fd 422) ["self", "line", "item"] []
  kb_BadText : KBn K (fd 422) ["self", "line", "item"] 1 ["item", "line"] kTwo kTwo
  F_BadLine : Fun K "__init__" "BadLine.__init__" s_BadLine (fa 423) (fd 423)
  b_BadLine : Binds K (fd 423) ["self", "line", "error"] []
  kb_BadLine : KBn K (fd 423) ["self", "line", "error"] 1 ["error", "line"] kTwo kTwo
  E_BadNumber : ErrC K mg "BadNumber" (fa 300) (fa 400) "part"
  EC_BadNumber : ECls K (fa 300)
  E_BadBlock : ErrC K mg "BadBlock" (fa 301) (fa 401) "part"
  EC_BadBlock : ECls K (fa 301)
  E_BadRow : ErrC K mg "BadRow" (fa 302) (fa 402) "part"
  EC_BadRow : ECls K (fa 302)
  E_BadPath : ErrC K mg "BadPath" (fa 303) (fa 403) "part"
  EC_BadPath : ECls K (fa 303)
  E_BadValue : ErrC K mg "BadValue" (fa 304) (fa 404) "part"
  EC_BadValue : ECls K (fa 304)
  E_BadTree : ErrC K mg "BadTree" (fa 305) (fa 405) "part"
  EC_BadTree : ECls K (fa 305)
  E_BadDeed : ErrC K mg "BadDeed" (fa 306) (fa 406) "part"
  EC_BadDeed : ECls K (fa 306)
  E_BadEvent : ErrC K mg "BadEvent" (fa 307) (fa 407) "part"
  EC_BadEvent : ECls K (fa 307)
  E_BadHeard : ErrC K mg "BadHeard" (fa 308) (fa 408) "part"
  EC_BadHeard : ECls K (fa 308)
  E_BadLot : ErrC K mg "BadLot" (fa 309) (fa 409) "part"
  EC_BadLot : ECls K (fa 309)
  E_BadLetter : ErrC K mg "BadLetter" (fa 310) (fa 410) "part"
  EC_BadLetter : ECls K (fa 310)
  E_BadMachine : ErrC K mg "BadMachine" (fa 311) (fa 411) "part"
  EC_BadMachine : ECls K (fa 311)
  E_BadDisk : ErrC K mg "BadDisk" (fa 312) (fa 412) "part"
  EC_BadDisk : ECls K (fa 312)
  E_BadWorld : ErrC K mg "BadWorld" (fa 313) (fa 413) "part"
  EC_BadWorld : ECls K (fa 313)
  E_BadStep : ErrC K mg "BadStep" (fa 314) (fa 414) "part"
  EC_BadStep : ECls K (fa 314)
  E_BadPaper : ErrC K mg "BadPaper" (fa 315) (fa 415) "part"
  EC_BadPaper : ECls K (fa 315)
  E_Misfit : ErrC K mg "Misfit" (fa 316) (fa 416) "part"
  EC_Misfit : ECls K (fa 316)
  E_NoEvent : ErrC K mg "NoEvent" (fa 317) (fa 428) "value"
  EC_NoEvent : ECls K (fa 317)
  E_NoChange : ErrC K mg "NoChange" (fa 318) (fa 428) "value"
  EC_NoChange : ECls K (fa 318)
  E_NoMachine : ErrC K mg "NoMachine" (fa 319) (fa 428) "value"
  EC_NoMachine : ECls K (fa 319)
  E_Refused : ErrC2 K mg "Refused" (fa 320) (fa 420) "why" "path"
  EC_Refused : ECls K (fa 320)
  E_TooMany : ErrC2 K mg "TooMany" (fa 321) (fa 421) "what" "most"
  EC_TooMany : ECls K (fa 321)
  E_BadText : ErrC2 K mg "BadText" (fa 322) (fa 422) "line" "item"
  EC_BadText : ECls K (fa 322)
  E_BadLine : ErrC2 K mg "BadLine" (fa 323) (fa 423) "line" "error"
  EC_BadLine : ECls K (fa 323)
  G_Full : mg "Full" = some (.ref (fa 324))
  K_Full : PySem.W.keepIn K (.ref (fa 324)) = true
  Q_Full : PySem.W.excIn K (fa 324) [.type "ValueError", .type "Exception", .type "BaseException", .type "object"] "ValueError.__new__" = true
  EC_Full : ECls K (fa 324)
  G_Off : mg "Off" = some (.ref (fa 325))
  K_Off : PySem.W.keepIn K (.ref (fa 325)) = true
  Q_Off : PySem.W.excIn K (fa 325) [.type "ValueError", .type "Exception", .type "BaseException", .type "object"] "ValueError.__new__" = true
  EC_Off : ECls K (fa 325)
  G_On : mg "On" = some (.ref (fa 326))
  K_On : PySem.W.keepIn K (.ref (fa 326)) = true
  Q_On : PySem.W.excIn K (fa 326) [.type "ValueError", .type "Exception", .type "BaseException", .type "object"] "ValueError.__new__" = true
  EC_On : ECls K (fa 326)
  G_Nothing : mg "Nothing" = some (.ref (fa 327))
  K_Nothing : PySem.W.keepIn K (.ref (fa 327)) = true
  Q_Nothing : PySem.W.excIn K (fa 327) [.type "ValueError", .type "Exception", .type "BaseException", .type "object"] "ValueError.__new__" = true
  EC_Nothing : ECls K (fa 327)
  E_Missing : ErrC K mg "Missing" (fa 328) (fa 428) "value"
  EC_Missing : ECls K (fa 328)
  M_MeetError : mg "MeetError" = some (.ref (fa 1))
  kits : ∀ i j, i < 29 → j < 28 → PySem.W.kitOne K (.ref (fa (300 + i))) (.ref (fa (300 + j))) = some (decide (i = j))
  kitM : ∀ i, i < 28 → PySem.W.kitOne K (.ref (fa (300 + i))) (.ref (fa 328)) = some (decide (i = 17) || (decide (i = 18) || decide (i = 19)))
  kitT : ∀ i, i < 29 → PySem.W.kitOne K (.ref (fa (300 + i))) (.ref (fa 1)) = some true
  kitV : ∀ i, i < 28 → PySem.W.kitOne K (.ref (fa (300 + i))) (.type "ValueError") = some true
  kitF : ∀ i, i < 28 → PySem.W.kitAny K (.ref (fa (300 + i))) [.type "LookupError", .type "TypeError", .type "ArithmeticError", .type "AttributeError", .type "RuntimeError"] = some false
theorem ok_BadNumber {P : Program} {w : World} {K : PySem.W.Frag} {mg : Str → Option Value} {base : Heap} {fa : Nat → Addr} {fd : Nat → FuncData} (T : Txt K mg fa fd) : FnOk P w K mg base CX0 1 (fa 400) (fd 400) ["self", "part"] (spInit K "part") := by
  have nd := sc_BadNumber.nd
  refine T.F_BadNumber.ok sc_BadNumber (fun vs H Q E h => ?_) (fun cdv A outer s H vs Q E hr h => ?_)
  · obtain ⟨a, C, p, rfl, _⟩ := h; rfl
  · obtain ⟨a, C, p, rfl, hC, hf, ha, k⟩ := h
    exact ⟨_, pss_one (ps_ost (pv 0) (pv 1)), _, rfl, _, rfl, _, _, rfl, hC, hf, .inl ⟨ha, k⟩⟩
theorem ok_BadBlock {P : Program} {w : World} {K : PySem.W.Frag} {mg : Str → Option Value} {base : Heap} {fa : Nat → Addr} {fd : Nat → FuncData} (T : Txt K mg fa fd) : FnOk P w K mg base CX0 1 (fa 401) (fd 401) ["self", "part"] (spInit K "part") := by
  have nd := sc_BadBlock.nd
  refine T.F_BadBlock.ok sc_BadBlock (fun vs H Q E h => ?_) (fun cdv A outer s H vs Q E hr h => ?_)
  · obtain ⟨a, C, p, rfl, _⟩ := h; rfl
  · obtain ⟨a, C, p, rfl, hC, hf, ha, k⟩ := h
    exact ⟨_, pss_one (ps_ost (pv 0) (pv 1)), _, rfl, _, rfl, _, _, rfl, hC, hf, .inl ⟨ha, k⟩⟩
theorem ok_BadRow {P : Program} {w : World} {K : PySem.W.Frag} {mg : Str → Option Value} {base : Heap} {fa : Nat → Addr} {fd : Nat → FuncData} (T : Txt K mg fa fd) : FnOk P w K mg base CX0 1 (fa 402) (fd 402) ["self", "part"] (spInit K "part") := by
  have nd := sc_BadRow.nd
  refine T.F_BadRow.ok sc_BadRow (fun vs H Q E h => ?_) (fun cdv A outer s H vs Q E hr h => ?_)
  · obtain ⟨a, C, p, rfl, _⟩ := h; rfl
  · obtain ⟨a, C, p, rfl, hC, hf, ha, k⟩ := h
    exact ⟨_, pss_one (ps_ost (pv 0) (pv 1)), _, rfl, _, rfl, _, _, rfl, hC, hf, .inl ⟨ha, k⟩⟩
theorem ok_BadPath {P : Program} {w : World} {K : PySem.W.Frag} {mg : Str → Option Value} {base : Heap} {fa : Nat → Addr} {fd : Nat → FuncData} (T : Txt K mg fa fd) : FnOk P w K mg base CX0 1 (fa 403) (fd 403) ["self", "part"] (spInit K "part") := by
  have nd := sc_BadPath.nd
  refine T.F_BadPath.ok sc_BadPath (fun vs H Q E h => ?_) (fun cdv A outer s H vs Q E hr h => ?_)
  · obtain ⟨a, C, p, rfl, _⟩ := h; rfl
  · obtain ⟨a, C, p, rfl, hC, hf, ha, k⟩ := h
    exact ⟨_, pss_one (ps_ost (pv 0) (pv 1)), _, rfl, _, rfl, _, _, rfl, hC, hf, .inl ⟨ha, k⟩⟩
theorem ok_BadValue {P : Program} {w : World} {K : PySem.W.Frag} {mg : Str → Option Value} {base : Heap} {fa : Nat → Addr} {fd : Nat → FuncData} (T : Txt K mg fa fd) : FnOk P w K mg base CX0 1 (fa 404) (fd 404) ["self", "part"] (spInit K "part") := by
  have nd := sc_BadValue.nd
  refine T.F_BadValue.ok sc_BadValue (fun vs H Q E h => ?_) (fun cdv A outer s H vs Q E hr h => ?_)
  · obtain ⟨a, C, p, rfl, _⟩ := h; rfl
  · obtain ⟨a, C, p, rfl, hC, hf, ha, k⟩ := h
    exact ⟨_, pss_one (ps_ost (pv 0) (pv 1)), _, rfl, _, rfl, _, _, rfl, hC, hf, .inl ⟨ha, k⟩⟩
theorem ok_BadTree {P : Program} {w : World} {K : PySem.W.Frag} {mg : Str → Option Value} {base : Heap} {fa : Nat → Addr} {fd : Nat → FuncData} (T : Txt K mg fa fd) : FnOk P w K mg base CX0 1 (fa 405) (fd 405) ["self", "part"] (spInit K "part") := by
  have nd := sc_BadTree.nd
  refine T.F_BadTree.ok sc_BadTree (fun vs H Q E h => ?_) (fun cdv A outer s H vs Q E hr h => ?_)
  · obtain ⟨a, C, p, rfl, _⟩ := h; rfl
  · obtain ⟨a, C, p, rfl, hC, hf, ha, k⟩ := h
    exact ⟨_, pss_one (ps_ost (pv 0) (pv 1)), _, rfl, _, rfl, _, _, rfl, hC, hf, .inl ⟨ha, k⟩⟩
theorem ok_BadDeed {P : Program} {w : World} {K : PySem.W.Frag} {mg : Str → Option Value} {base : Heap} {fa : Nat → Addr} {fd : Nat → FuncData} (T : Txt K mg fa fd) : FnOk P w K mg base CX0 1 (fa 406) (fd 406) ["self", "part"] (spInit K "part") := by
  have nd := sc_BadDeed.nd
  refine T.F_BadDeed.ok sc_BadDeed (fun vs H Q E h => ?_) (fun cdv A outer s H vs Q E hr h => ?_)
  · obtain ⟨a, C, p, rfl, _⟩ := h; rfl
  · obtain ⟨a, C, p, rfl, hC, hf, ha, k⟩ := h
    exact ⟨_, pss_one (ps_ost (pv 0) (pv 1)), _, rfl, _, rfl, _, _, rfl, hC, hf, .inl ⟨ha, k⟩⟩
theorem ok_BadEvent {P : Program} {w : World} {K : PySem.W.Frag} {mg : Str → Option Value} {base : Heap} {fa : Nat → Addr} {fd : Nat → FuncData} (T : Txt K mg fa fd) : FnOk P w K mg base CX0 1 (fa 407) (fd 407) ["self", "part"] (spInit K "part") := by
  have nd := sc_BadEvent.nd
  refine T.F_BadEvent.ok sc_BadEvent (fun vs H Q E h => ?_) (fun cdv A outer s H vs Q E hr h => ?_)
  · obtain ⟨a, C, p, rfl, _⟩ := h; rfl
  · obtain ⟨a, C, p, rfl, hC, hf, ha, k⟩ := h
    exact ⟨_, pss_one (ps_ost (pv 0) (pv 1)), _, rfl, _, rfl, _, _, rfl, hC, hf, .inl ⟨ha, k⟩⟩
theorem ok_BadHeard {P : Program} {w : World} {K : PySem.W.Frag} {mg : Str → Option Value} {base : Heap} {fa : Nat → Addr} {fd : Nat → FuncData} (T : Txt K mg fa fd) : FnOk P w K mg base CX0 1 (fa 408) (fd 408) ["self", "part"] (spInit K "part") := by
  have nd := sc_BadHeard.nd
  refine T.F_BadHeard.ok sc_BadHeard (fun vs H Q E h => ?_) (fun cdv A outer s H vs Q E hr h => ?_)
  · obtain ⟨a, C, p, rfl, _⟩ := h; rfl
  · obtain ⟨a, C, p, rfl, hC, hf, ha, k⟩ := h
    exact ⟨_, pss_one (ps_ost (pv 0) (pv 1)), _, rfl, _, rfl, _, _, rfl, hC, hf, .inl ⟨ha, k⟩⟩
theorem ok_BadLot {P : Program} {w : World} {K : PySem.W.Frag} {mg : Str → Option Value} {base : Heap} {fa : Nat → Addr} {fd : Nat → FuncData} (T : Txt K mg fa fd) : FnOk P w K mg base CX0 1 (fa 409) (fd 409) ["self", "part"] (spInit K "part") := by
  have nd := sc_BadLot.nd
  refine T.F_BadLot.ok sc_BadLot (fun vs H Q E h => ?_) (fun cdv A outer s H vs Q E hr h => ?_)
  · obtain ⟨a, C, p, rfl, _⟩ := h; rfl
  · obtain ⟨a, C, p, rfl, hC, hf, ha, k⟩ := h
    exact ⟨_, pss_one (ps_ost (pv 0) (pv 1)), _, rfl, _, rfl, _, _, rfl, hC, hf, .inl ⟨ha, k⟩⟩
theorem ok_BadLetter {P : Program} {w : World} {K : PySem.W.Frag} {mg : Str → Option Value} {base : Heap} {fa : Nat → Addr} {fd : Nat → FuncData} (T : Txt K mg fa fd) : FnOk P w K mg base CX0 1 (fa 410) (fd 410) ["self", "part"] (spInit K "part") := by
  have nd := sc_BadLetter.nd
  refine T.F_BadLetter.ok sc_BadLetter (fun vs H Q E h => ?_) (fun cdv A outer s H vs Q E hr h => ?_)
  · obtain ⟨a, C, p, rfl, _⟩ := h; rfl
  · obtain ⟨a, C, p, rfl, hC, hf, ha, k⟩ := h
    exact ⟨_, pss_one (ps_ost (pv 0) (pv 1)), _, rfl, _, rfl, _, _, rfl, hC, hf, .inl ⟨ha, k⟩⟩
theorem ok_BadMachine {P : Program} {w : World} {K : PySem.W.Frag} {mg : Str → Option Value} {base : Heap} {fa : Nat → Addr} {fd : Nat → FuncData} (T : Txt K mg fa fd) : FnOk P w K mg base CX0 1 (fa 411) (fd 411) ["self", "part"] (spInit K "part") := by
  have nd := sc_BadMachine.nd
  refine T.F_BadMachine.ok sc_BadMachine (fun vs H Q E h => ?_) (fun cdv A outer s H vs Q E hr h => ?_)
  · obtain ⟨a, C, p, rfl, _⟩ := h; rfl
  · obtain ⟨a, C, p, rfl, hC, hf, ha, k⟩ := h
    exact ⟨_, pss_one (ps_ost (pv 0) (pv 1)), _, rfl, _, rfl, _, _, rfl, hC, hf, .inl ⟨ha, k⟩⟩
theorem ok_BadDisk {P : Program} {w : World} {K : PySem.W.Frag} {mg : Str → Option Value} {base : Heap} {fa : Nat → Addr} {fd : Nat → FuncData} (T : Txt K mg fa fd) : FnOk P w K mg base CX0 1 (fa 412) (fd 412) ["self", "part"] (spInit K "part") := by
  have nd := sc_BadDisk.nd
  refine T.F_BadDisk.ok sc_BadDisk (fun vs H Q E h => ?_) (fun cdv A outer s H vs Q E hr h => ?_)
  · obtain ⟨a, C, p, rfl, _⟩ := h; rfl
  · obtain ⟨a, C, p, rfl, hC, hf, ha, k⟩ := h
    exact ⟨_, pss_one (ps_ost (pv 0) (pv 1)), _, rfl, _, rfl, _, _, rfl, hC, hf, .inl ⟨ha, k⟩⟩
theorem ok_BadWorld {P : Program} {w : World} {K : PySem.W.Frag} {mg : Str → Option Value} {base : Heap} {fa : Nat → Addr} {fd : Nat → FuncData} (T : Txt K mg fa fd) : FnOk P w K mg base CX0 1 (fa 413) (fd 413) ["self", "part"] (spInit K "part") := by
  have nd := sc_BadWorld.nd
  refine T.F_BadWorld.ok sc_BadWorld (fun vs H Q E h => ?_) (fun cdv A outer s H vs Q E hr h => ?_)
  · obtain ⟨a, C, p, rfl, _⟩ := h; rfl
  · obtain ⟨a, C, p, rfl, hC, hf, ha, k⟩ := h
    exact ⟨_, pss_one (ps_ost (pv 0) (pv 1)), _, rfl, _, rfl, _, _, rfl, hC, hf, .inl ⟨ha, k⟩⟩
theorem ok_BadStep {P : Program} {w : World} {K : PySem.W.Frag} {mg : Str → Option Value} {base : Heap} {fa : Nat → Addr} {fd : Nat → FuncData} (T : Txt K mg fa fd) : FnOk P w K mg base CX0 1 (fa 414) (fd 414) ["self", "part"] (spInit K "part") := by
  have nd := sc_BadStep.nd
  refine T.F_BadStep.ok sc_BadStep (fun vs H Q E h => ?_) (fun cdv A outer s H vs Q E hr h => ?_)
  · obtain ⟨a, C, p, rfl, _⟩ := h; rfl
  · obtain ⟨a, C, p, rfl, hC, hf, ha, k⟩ := h
    exact ⟨_, pss_one (ps_ost (pv 0) (pv 1)), _, rfl, _, rfl, _, _, rfl, hC, hf, .inl ⟨ha, k⟩⟩
theorem ok_BadPaper {P : Program} {w : World} {K : PySem.W.Frag} {mg : Str → Option Value} {base : Heap} {fa : Nat → Addr} {fd : Nat → FuncData} (T : Txt K mg fa fd) : FnOk P w K mg base CX0 1 (fa 415) (fd 415) ["self", "part"] (spInit K "part") := by
  have nd := sc_BadPaper.nd
  refine T.F_BadPaper.ok sc_BadPaper (fun vs H Q E h => ?_) (fun cdv A outer s H vs Q E hr h => ?_)
  · obtain ⟨a, C, p, rfl, _⟩ := h; rfl
  · obtain ⟨a, C, p, rfl, hC, hf, ha, k⟩ := h
    exact ⟨_, pss_one (ps_ost (pv 0) (pv 1)), _, rfl, _, rfl, _, _, rfl, hC, hf, .inl ⟨ha, k⟩⟩
theorem ok_Misfit {P : Program} {w : World} {K : PySem.W.Frag} {mg : Str → Option Value} {base : Heap} {fa : Nat → Addr} {fd : Nat → FuncData} (T : Txt K mg fa fd) : FnOk P w K mg base CX0 1 (fa 416) (fd 416) ["self", "part"] (spInit K "part") := by
  have nd := sc_Misfit.nd
  refine T.F_Misfit.ok sc_Misfit (fun vs H Q E h => ?_) (fun cdv A outer s H vs Q E hr h => ?_)
  · obtain ⟨a, C, p, rfl, _⟩ := h; rfl
  · obtain ⟨a, C, p, rfl, hC, hf, ha, k⟩ := h
    exact ⟨_, pss_one (ps_ost (pv 0) (pv 1)), _, rfl, _, rfl, _, _, rfl, hC, hf, .inl ⟨ha, k⟩⟩
theorem ok_Missing {P : Program} {w : World} {K : PySem.W.Frag} {mg : Str → Option Value} {base : Heap} {fa : Nat → Addr} {fd : Nat → FuncData} (T : Txt K mg fa fd) : FnOk P w K mg base CX0 1 (fa 428) (fd 428) ["self", "value"] (spInit K "value") := by
  have nd := sc_Missing.nd
  refine T.F_Missing.ok sc_Missing (fun vs H Q E h => ?_) (fun cdv A outer s H vs Q E hr h => ?_)
  · obtain ⟨a, C, p, rfl, _⟩ := h; rfl
  · obtain ⟨a, C, p, rfl, hC, hf, ha, k⟩ := h
    exact ⟨_, pss_one (ps_ost (pv 0) (pv 1)), _, rfl, _, rfl, _, _, rfl, hC, hf, .inl ⟨ha, k⟩⟩
theorem ok_Refused {P : Program} {w : World} {K : PySem.W.Frag} {mg : Str → Option Value} {base : Heap} {fa : Nat → Addr} {fd : Nat → FuncData} (T : Txt K mg fa fd) : FnOk P w K mg base CX0 1 (fa 420) (fd 420) ["self", "why", "path"] (spInit2 K "why" "path") := by
  have nd := sc_Refused.nd
  refine T.F_Refused.ok sc_Refused (fun vs H Q E h => ?_) (fun cdv A outer s H vs Q E hr h => ?_)
  · obtain ⟨a, C, p, q, rfl, _⟩ := h; rfl
  · obtain ⟨a, C, p, q, rfl, hC, hf, hg, ha, k⟩ := h
    exact ⟨_, pss_cons (ps_ost (pv 0) (pv 1)) (pss_one (ps_ost (pv 0) (pv 2))), _, rfl, _, rfl, _, _, rfl, hC, hf, .inl ⟨ha, fun dx nx ne => ⟨_, rfl, _, rfl, _, _, rfl, hC, hg, .inr ⟨dx, _, upd_same, (upd_ne ne).trans upd_same, (by show 1 ≤ 900; decide), k dx nx ne⟩⟩⟩⟩
theorem ok_TooMany {P : Program} {w : World} {K : PySem.W.Frag} {mg : Str → Option Value} {base : Heap} {fa : Nat → Addr} {fd : Nat → FuncData} (T : Txt K mg fa fd) : FnOk P w K mg base CX0 1 (fa 421) (fd 421) ["self", "what", "most"] (spInit2 K "what" "most") := by
  have nd := sc_TooMany.nd
  refine T.F_TooMany.ok sc_TooMany (fun vs H Q E h => ?_) (fun cdv A outer s H vs Q E hr h => ?_)
  · obtain ⟨a, C, p, q, rfl, _⟩ := h; rfl
  · obtain ⟨a, C, p, q, rfl, hC, hf, hg, ha, k⟩ := h
    exact ⟨_, pss_cons (ps_ost (pv 0) (pv 1)) (pss_one (ps_ost (pv 0) (pv 2))), _, rfl, _, rfl, _, _, rfl, hC, hf, .inl ⟨ha, fun dx nx ne => ⟨_, rfl, _, rfl, _, _, rfl, hC, hg, .inr ⟨dx, _, upd_same, (upd_ne ne).trans upd_same, (by show 1 ≤ 900; decide), k dx nx ne⟩⟩⟩⟩
theorem ok_BadText {P : Program} {w : World} {K : PySem.W.Frag} {mg : Str → Option Value} {base : Heap} {fa : Nat → Addr} {fd : Nat → FuncData} (T : Txt K mg fa fd) : FnOk P w K mg base CX0 1 (fa 422) (fd 422) ["self", "line", "item"] (spInit2 K "line" "item") := by
  have nd := sc_BadText.nd
  refine T.F_BadText.ok sc_BadText (fun vs H Q E h => ?_) (fun cdv A outer s H vs Q E hr h => ?_)
  · obtain ⟨a, C, p, q, rfl, _⟩ := h; rfl
  · obtain ⟨a, C, p, q, rfl, hC, hf, hg, ha, k⟩ := h
    exact ⟨_, pss_cons (ps_ost (pv 0) (pv 1)) (pss_one (ps_ost (pv 0) (pv 2))), _, rfl, _, rfl, _, _, rfl, hC, hf, .inl ⟨ha, fun dx nx ne => ⟨_, rfl, _, rfl, _, _, rfl, hC, hg, .inr ⟨dx, _, upd_same, (upd_ne ne).trans upd_same, (by show 1 ≤ 900; decide), k dx nx ne⟩⟩⟩⟩
theorem ok_BadLine {P : Program} {w : World} {K : PySem.W.Frag} {mg : Str → Option Value} {base : Heap} {fa : Nat → Addr} {fd : Nat → FuncData} (T : Txt K mg fa fd) : FnOk P w K mg base CX0 1 (fa 423) (fd 423) ["self", "line", "error"] (spInit2 K "line" "error") := by
  have nd := sc_BadLine.nd
  refine T.F_BadLine.ok sc_BadLine (fun vs H Q E h => ?_) (fun cdv A outer s H vs Q E hr h => ?_)
  · obtain ⟨a, C, p, q, rfl, _⟩ := h; rfl
  · obtain ⟨a, C, p, q, rfl, hC, hf, hg, ha, k⟩ := h
    exact ⟨_, pss_cons (ps_ost (pv 0) (pv 1)) (pss_one (ps_ost (pv 0) (pv 2))), _, rfl, _, rfl, _, _, rfl, hC, hf, .inl ⟨ha, fun dx nx ne => ⟨_, rfl, _, rfl, _, _, rfl, hC, hg, .inr ⟨dx, _, upd_same, (upd_ne ne).trans upd_same, (by show 1 ≤ 900; decide), k dx nx ne⟩⟩⟩⟩
theorem ok__law_satchel {P : Program} {w : World} {K : PySem.W.Frag} {mg : Str → Option Value} {base : Heap} {fa : Nat → Addr} {fd : Nat → FuncData} (T : Txt K mg fa fd) : FnOk P w K mg base CX0 1 (fa 32) (fd 32) ["script"] (spStart K) := by
  have nd := sc__law_satchel.nd
  refine T.F__law_satchel.ok sc__law_satchel (fun vs H Q E h => ?_) (fun cdv A outer s H vs Q E hr h => ?_)
  · obtain ⟨a, ns, rfl, _⟩ := h; rfl
  · obtain ⟨a, ns, rfl, hS, hlen, k⟩ := h
    refine ⟨_, (pss_one (ps_ret (pe_lstN (pa_cons (pe_lc (own := [("cell", 1)]) (g := (gName 1)) (by rfl) nd (pi_list (pe_slice sl_listN (pv 0) po_none (po_some pe_int))) (blkOk_by (N := sl__law_satchel) (sc := defScope s__law_satchel) (by decide +kernel)) (fun _ _ _ _ _ => (pg_name (i := 1) nd rfl (Or.inl rfl))) (fun _ _ _ _ _ => pts_nil) (fun _ _ _ _ _ => (pe_callTy call_int1 (by rfl) T.n_int (by decide +kernel) (pa_cons (pv 1) pa_nil)))) (pa_cons pe_int (pa_cons pe_int pa_nil)))))), ?_⟩
    refine ⟨_, rfl, _, rfl, a, _, rfl, hS, fun p H1 n1 => ?_⟩
    have ec : cutV (ns.map V.int) none (some 60) = (ns.take 60).map V.int := (cutN (ns.map V.int) 60).trans (List.map_take ..).symm
    have hl : ((ns.take 60).map V.int).length ≤ 10000000 := by rw [List.length_map, List.length_take]; omega
    rw [ec] at n1
    refine ⟨p, rfl, ⟨_, SqL.of n1.2.1⟩, fun D hD => lcg_list (fun _ => False) (fun _ _ => True) (fun i acc _ => acc = ((ns.take 60).map V.int).take i) hD (fun H F => (same_frm F).seq (SqL.of n1.2.1)) hl (fun _ _ _ _ z => z) (fun _ _ _ _ _ z => z) trivial rfl ?_ ?_⟩
    · intro i x acc H2 hx F hDa _ hA Ky Kn ky kn
      obtain ⟨z, rfl⟩ := int_at hx
      refine ⟨rfl, _, rfl, .inl ⟨_, rfl, ky _ H2 F hDa trivial ?_⟩⟩
      rw [hA, take_next hx]
    · intro H2 acc F hDa _ hA _
      rw [hA, List.take_of_length_le (Nat.le_refl _)] at hDa
      refine ⟨(by show 3 ≤ sizeLine; decide), fun l H3 n3 => k l D (ns.take 60) H3 ((n1.1.trans (same_frm F)).trans n3.1) ⟨0, 0, ⟨n3.2.1, n3.1 _ _ hDa, Int.le_refl _, Int.le_refl _⟩, Int.le_refl _⟩ ?_⟩
      exact (n1.1.trans (same_frm F)).free n3.2.2
theorem ok__law_reach {P : Program} {w : World} {K : PySem.W.Frag} {mg : Str → Option Value} {base : Heap} {fa : Nat → Addr} {fd : Nat → FuncData} (T : Txt K mg fa fd) : FnOk P w K mg base CX0 1 (fa 33) (fd 33) ["satchel", "many"] spDraw := by
  have nd := sc__law_reach.nd
  refine T.F__law_reach.ok sc__law_reach (fun vs H Q E h => ?_) (fun cdv A outer s H vs Q E hr h => ?_)
  · obtain ⟨a, b, cs, n, m, rfl, _⟩ := h; rfl
  · obtain ⟨a, b, cs, n, m, rfl, ⟨t, r, S, htn⟩, hn, hm, hm2, k⟩ := h
    obtain ⟨ha, hb, ht, hr0⟩ := id S
    refine ⟨_, (pss_cons (ps_if (pt_cmpR op_gt (pe_ix ix_list (pv 0) pe_int (fun _ _ => rfl)) pe_int (nomark _))
          (pss_cons (ps_set (i := 2) nd rfl (Or.inl rfl) (pe_callTy call_int1 (by rfl) T.n_int (by decide +kernel) (pa_cons (pe_ix ix_list (pv 0) pe_int (fun _ _ => rfl)) pa_nil)))
        (pss_cons (ps_asg (pe_op op_fdivL (pv 2) (pv 1)) (pg_sub (pv 0) pe_int set_list))
        (pss_one (ps_ret (pe_op op_modL (pe_callTy call_int1 (by rfl) T.n_int (by decide +kernel) (pa_cons (pv 2) pa_nil)) (pv 1))))))
          pss_nil)
        (pss_cons (ps_set (i := 3) nd rfl (Or.inl rfl) (pe_ix ix_list (pv 0) pe_int (fun _ _ => rfl)))
        (pss_cons (ps_asg (pe_op op_add (pv 3) pe_int) (pg_sub (pv 0) pe_int set_list))
        (pss_cons (ps_set (i := 4) nd rfl (Or.inl rfl) (pe_op op_add (pe_op op_mulL pe_int (pv 3)) pe_int))
        (pss_cons (ps_if (pt_cmpR (op_neD hr.units) (pe_ix ix_list (pv 0) pe_int (fun _ _ => rfl)) (pe_lst pa_nil) (nomark _))
          (pss_one (ps_set (i := 4) nd rfl (Or.inl rfl) (pe_ix ix_list (pe_ix ix_list (pv 0) pe_int (fun _ _ => rfl)) (pe_op op_modL (pe_callTy call_int1 (by rfl) T.n_int (by decide +kernel) (pa_cons (pv 3) pa_nil)) (pe_callB call_len_seq (by rfl) T.n_len (by decide +kernel) (pa_cons (pe_ix ix_list (pv 0) pe_int (fun _ _ => rfl)) pa_nil))) (fun _ _ => rfl))))
          pss_nil)
        (pss_cons (ps_if (PW.pt (pw_and (pt_cmpR op_lt (pv 3) (pe_callB call_len_seq (by rfl) T.n_len (by decide +kernel) (pa_cons (pe_ix ix_list (pv 0) pe_int (fun _ _ => rfl)) pa_nil)) (nomark _)) (pw_and1 (pt_cmpR op_ge (pe_callB call_abs (by rfl) T.n_abs (by decide +kernel) (pa_cons (pv 4) pa_nil)) (pe_op op_powL pe_int pe_int) (nomark _)))))
          (pss_cons (ps_set (i := 2) nd rfl (Or.inl rfl) (pe_op op_add (pe_op op_mulL pe_int (pe_op op_sub (pe_callB call_abs (by rfl) T.n_abs (by decide +kernel) (pa_cons (pv 4) pa_nil)) (pe_op op_powL pe_int pe_int))) (pe_callTy call_int1 (by rfl) T.n_int (by decide +kernel) (pa_cons (pe_cmpR op_lt (pv 4) pe_int (nomark _)) pa_nil))))
        (pss_cons (ps_asg (pe_op op_fdivL (pv 2) (pv 1)) (pg_sub (pv 0) pe_int set_list))
        (pss_one (ps_ret (pe_op op_modL (pe_callTy call_int1 (by rfl) T.n_int (by decide +kernel) (pa_cons (pv 2) pa_nil)) (pv 1))))))
          pss_nil)
        (pss_cons (ps_set (i := 5) nd rfl (Or.inl rfl) (pe_op op_modL (pe_callTy call_int1 (by rfl) T.n_int (by decide +kernel) (pa_cons (pe_op op_powL (pe_op op_add (pe_op op_add (pe_op op_modL (pe_callTy call_int1 (by rfl) T.n_int (by decide +kernel) (pa_cons (pv 4) pa_nil)) pe_int) (pe_op op_mulL pe_int (pv 3))) pe_int) pe_int) pa_nil)) pe_int))
        (pss_cons (ps_set (i := 5) nd rfl (Or.inl rfl) (pe_op op_modL (pe_callTy call_int1 (by rfl) T.n_int (by decide +kernel) (pa_cons (pe_op op_powL (pe_op op_add (pe_op op_add (pe_op op_mulL (pv 5) (pe_op op_add (pe_op op_mulL pe_int (pv 3)) pe_int)) (pe_op op_mulL (pe_op op_mulL pe_int (pv 3)) (pv 3))) pe_int) pe_int) pa_nil)) pe_int))
        (pss_one (ps_ret (pe_op op_modL (pe_callTy call_int1 (by rfl) T.n_int (by decide +kernel) (pa_cons (pe_op op_fdivL (pv 5) pe_int) pa_nil)) (pv 1)))))))))))), ?_⟩
    refine ⟨_, rfl, a, _, 2, _, rfl, rfl, SqL.of ha, rfl, _, _, rfl, rfl, _, rfl, ?_⟩
    refine ite2 (fun h1 => ?_) (fun h1 => ?_)
    · have h1 : 0 < r := of_decide_eq_true h1
      refine ⟨_, rfl, a, _, 2, _, rfl, rfl, SqL.of ha, rfl, .inl ⟨_, rfl, ?_⟩⟩
      refine ⟨_, rfl, _, rfl, _, _, rfl, rfl, draw_div hm hm2, fun r1 er1 => ?_⟩
      refine ⟨_, rfl, a, _, 2, 2, rfl, rfl, ha, rfl, ?_⟩
      refine ⟨_, rfl, .inl ⟨_, rfl, _, rfl, _, _, rfl, rfl, hm, fun d _ d0 d1 => ?_⟩⟩
      exact k _ _ frm_upd ⟨t, r1, S.upd ht (by rw [er1]; exact Int.ediv_nonneg hr0 (Int.le_of_lt hm)), by omega⟩ d0 d1
    · refine ⟨_, rfl, a, _, 1, _, rfl, rfl, SqL.of ha, rfl, ?_⟩
      refine ⟨_, rfl, _, _, rfl, rfl, ?_⟩
      refine ⟨_, rfl, a, _, 1, 1, rfl, rfl, ha, rfl, ?_⟩
      refine ⟨_, rfl, _, _, rfl, rfl, .inl (by decide), fun c0 _ => ⟨_, _, rfl, rfl, ?_⟩⟩
      have S1 : Sat a b cs (t + 1) r (upd H a (.lst ([V.ref b, V.int t, V.int r].set 1 (.int (t + 1))))) := S.upd (by omega) hr0
      refine ⟨_, rfl, a, _, 0, _, rfl, rfl, SqL.of S1.ha, rfl, Nat.zero_le _, fun l hl => ?_⟩
      have E1 := same_new (o := .lst []) hl
      have S2 := S1.same E1
      have F2 : Frm (· = a) H _ := frm_upd.trans (frm_same E1)
      refine ints_ne (SqL.of S2.hb) (SqL.of upd_same) ⟨_, rfl, ?_⟩
      clear E1 hl
      revert S1 S2 F2
      generalize upd (upd H a (.lst ([V.ref b, V.int t, V.int r].set 1 (.int (t + 1))))) l (.lst []) = H2
      intro S1 S2 F2
      clear S1
      refine ite2 (fun h2 => ?_) (fun h2 => ?_)
      · have h3 : cs ≠ [] := by intro e; subst e; exact absurd h2 (by decide)
        have l0 : 0 < ((cs.map V.int).length : Int) := by
          cases cs with
          | nil => exact absurd rfl h3
          | cons c cs => exact Int.natCast_pos.mpr (Nat.succ_pos _)
        obtain ⟨c, hc⟩ := cell_at h3 t
        refine ⟨_, rfl, a, _, 0, _, rfl, rfl, SqL.of S2.ha, rfl, _, rfl, .inl ⟨_, rfl, _, rfl, a, _, 0, _, rfl, rfl, SqL.of S2.ha, rfl, b, _, rfl, .inl (SqL.of S2.hb), _, _, rfl, rfl, l0, fun z ez _ _ => ?_⟩⟩
        rw [← ez] at hc
        refine ⟨b, _, _, .int c, rfl, rfl, SqL.of S2.hb, hc, ?_⟩
        -- if turn < len(satchel[0]) and abs(cell) >= 10 ** 18
        refine ⟨_, rfl, _, rfl, a, _, 0, _, rfl, rfl, SqL.of S2.ha, rfl, b, _, rfl, .inl (SqL.of S2.hb), _, _, rfl, rfl, _, rfl, ?_⟩
        refine ite2 (fun h4 => ?_) (fun h4 => ?_)
        · refine ⟨_, rfl, _, rfl, _, _, rfl, rfl, ⟨by decide, by decide, by decide⟩, fun big hbig => ⟨_, _, rfl, rfl, _, rfl, ?_⟩⟩
          refine ite2 (fun h5 => ?_) (fun h5 => ?_)
          · have h5 := of_decide_eq_true h5
            refine ⟨_, rfl, _, rfl, _, _, rfl, rfl, ⟨by decide, by decide, by decide⟩, fun big2 hbig2 => ⟨_, _, rfl, rfl, _, _, rfl, rfl, .inl (by decide), fun y ey => ?_⟩⟩
            refine ⟨_, rfl, _, _, rfl, rfl, .inr ⟨_, rfl, _, _, rfl, rfl, ?_⟩⟩
            rw [← hbig2] at hbig
            refine ⟨_, rfl, _, rfl, _, _, rfl, rfl, draw_div hm hm2, fun r1 er1 => ?_⟩
            refine ⟨_, rfl, a, _, 2, 2, rfl, rfl, S2.ha, rfl, ?_⟩
            refine ⟨_, rfl, .inl ⟨_, rfl, _, rfl, _, _, rfl, rfl, hm, fun d _ d0 d1 => ?_⟩⟩
            refine k _ _ (F2.trans frm_upd) ⟨t + 1, r1, S2.upd S2.ht (by rw [er1]; exact Int.ediv_nonneg (draw_rest ey (by rw [← hbig]; exact h5)) (Int.le_of_lt hm)), by omega⟩ d0 d1
          · -- mixed = int((int(cell) % p + q * turn + k) ** 5) % p
            refine ⟨_, rfl, .inl ⟨_, rfl, _, _, rfl, rfl, by decide, fun z0 _ z1 z2 => ?_⟩⟩
            refine ⟨_, rfl, _, _, rfl, rfl, .inl (by decide), fun z3 z4 => ⟨_, _, rfl, rfl, _, _, rfl, rfl, _, _, rfl, rfl, ⟨by decide, by decide, ?_⟩, fun z5 _ => ?_⟩⟩
            · omega
            refine .inl ⟨_, rfl, _, _, rfl, rfl, by decide, fun mx _ m0 m1 => ?_⟩
            -- mixed = int((mixed * (2 * turn + k) + q * turn * turn + l) ** 3) % p
            refine ⟨_, rfl, _, rfl, _, _, rfl, rfl, .inl (by decide), fun y0 y1 => ⟨_, _, rfl, rfl, _, _, rfl, rfl, .inl ⟨by omega, by omega⟩, fun y2 y3 => ?_⟩⟩
            refine ⟨_, rfl, _, _, rfl, rfl, .inl (by decide), fun y4 y5 => ⟨_, rfl, _, _, rfl, rfl, .inl ⟨by omega, by omega⟩, fun y6 y7 => ?_⟩⟩
            have b1 := mul_bd (x := mx) (y := y0 + 5639) (A := 2147483648) (B := 3000000) m0 (by omega) (by omega) (by omega)
            have b2 := mul_bd (x := y4) (y := t) (A := 1000000000000) (B := 1000000) (by omega) (by omega) ht (by omega)
            rw [← y3] at b1
            rw [← y7] at b2
            refine ⟨_, _, rfl, rfl, _, _, rfl, rfl, _, _, rfl, rfl, ⟨by decide, by decide, ?_⟩, fun y8 _ => ?_⟩
            · clear y3 y7 y5 y1
              omega
            refine .inl ⟨_, rfl, _, _, rfl, rfl, by decide, fun my _ n0 n1 => ?_⟩
            -- return int(mixed // 64) % many
            refine ⟨_, rfl, _, _, rfl, rfl, ⟨by decide, by decide⟩, fun w0 _ => .inl ⟨_, rfl, _, rfl, _, _, rfl, rfl, hm, fun d _ d0 d1 => ?_⟩⟩
            exact k _ _ F2 ⟨_, _, S2, by omega⟩ d0 d1
        · refine iteF ?_
          -- mixed = int((int(cell) % p + q * turn + k) ** 5) % p
          refine ⟨_, rfl, .inl ⟨_, rfl, _, _, rfl, rfl, by decide, fun z0 _ z1 z2 => ?_⟩⟩
          refine ⟨_, rfl, _, _, rfl, rfl, .inl (by decide), fun z3 z4 => ⟨_, _, rfl, rfl, _, _, rfl, rfl, _, _, rfl, rfl, ⟨by decide, by decide, ?_⟩, fun z5 _ => ?_⟩⟩
          · omega
          refine .inl ⟨_, rfl, _, _, rfl, rfl, by decide, fun mx _ m0 m1 => ?_⟩
          -- mixed = int((mixed * (2 * turn + k) + q * turn * turn + l) ** 3) % p
          refine ⟨_, rfl, _, rfl, _, _, rfl, rfl, .inl (by decide), fun y0 y1 => ⟨_, _, rfl, rfl, _, _, rfl, rfl, .inl ⟨by omega, by omega⟩, fun y2 y3 => ?_⟩⟩
          refine ⟨_, rfl, _, _, rfl, rfl, .inl (by decide), fun y4 y5 => ⟨_, rfl, _, _, rfl, rfl, .inl ⟨by omega, by omega⟩, fun y6 y7 => ?_⟩⟩
          have b1 := mul_bd (x := mx) (y := y0 + 5639) (A := 2147483648) (B := 3000000) m0 (by omega) (by omega) (by omega)
          have b2 := mul_bd (x := y4) (y := t) (A := 1000000000000) (B := 1000000) (by omega) (by omega) ht (by omega)
          rw [← y3] at b1
          rw [← y7] at b2
          refine ⟨_, _, rfl, rfl, _, _, rfl, rfl, _, _, rfl, rfl, ⟨by decide, by decide, ?_⟩, fun y8 _ => ?_⟩
          · clear y3 y7 y5 y1
            omega
          refine .inl ⟨_, rfl, _, _, rfl, rfl, by decide, fun my _ n0 n1 => ?_⟩
          -- return int(mixed // 64) % many
          refine ⟨_, rfl, _, _, rfl, rfl, ⟨by decide, by decide⟩, fun w0 _ => .inl ⟨_, rfl, _, rfl, _, _, rfl, rfl, hm, fun d _ d0 d1 => ?_⟩⟩
          exact k _ _ F2 ⟨_, _, S2, by omega⟩ d0 d1
      · -- if turn < len(satchel[0]) and abs(cell) >= 10 ** 18
        refine ⟨_, rfl, _, rfl, a, _, 0, _, rfl, rfl, SqL.of S2.ha, rfl, b, _, rfl, .inl (SqL.of S2.hb), _, _, rfl, rfl, _, rfl, ?_⟩
        refine ite2 (fun h4 => ?_) (fun h4 => ?_)
        · refine ⟨_, rfl, _, rfl, _, _, rfl, rfl, ⟨by decide, by decide, by decide⟩, fun big hbig => ⟨_, _, rfl, rfl, _, rfl, ?_⟩⟩
          refine ite2 (fun h5 => ?_) (fun h5 => ?_)
          · have h5 := of_decide_eq_true h5
            refine ⟨_, rfl, _, rfl, _, _, rfl, rfl, ⟨by decide, by decide, by decide⟩, fun big2 hbig2 => ⟨_, _, rfl, rfl, _, _, rfl, rfl, .inl (by decide), fun y ey => ?_⟩⟩
            refine ⟨_, rfl, _, _, rfl, rfl, .inr ⟨_, rfl, _, _, rfl, rfl, ?_⟩⟩
            rw [← hbig2] at hbig
            refine ⟨_, rfl, _, rfl, _, _, rfl, rfl, draw_div hm hm2, fun r1 er1 => ?_⟩
            refine ⟨_, rfl, a, _, 2, 2, rfl, rfl, S2.ha, rfl, ?_⟩
            refine ⟨_, rfl, .inl ⟨_, rfl, _, rfl, _, _, rfl, rfl, hm, fun d _ d0 d1 => ?_⟩⟩
            refine k _ _ (F2.trans frm_upd) ⟨t + 1, r1, S2.upd S2.ht (by rw [er1]; exact Int.ediv_nonneg (draw_rest ey (by rw [← hbig]; exact h5)) (Int.le_of_lt hm)), by omega⟩ d0 d1
          · -- mixed = int((int(cell) % p + q * turn + k) ** 5) % p
            refine ⟨_, rfl, .inl ⟨_, rfl, _, _, rfl, rfl, by decide, fun z0 _ z1 z2 => ?_⟩⟩
            refine ⟨_, rfl, _, _, rfl, rfl, .inl (by decide), fun z3 z4 => ⟨_, _, rfl, rfl, _, _, rfl, rfl, _, _, rfl, rfl, ⟨by decide, by decide, ?_⟩, fun z5 _ => ?_⟩⟩
            · omega
            refine .inl ⟨_, rfl, _, _, rfl, rfl, by decide, fun mx _ m0 m1 => ?_⟩
            -- mixed = int((mixed * (2 * turn + k) + q * turn * turn + l) ** 3) % p
            refine ⟨_, rfl, _, rfl, _, _, rfl, rfl, .inl (by decide), fun y0 y1 => ⟨_, _, rfl, rfl, _, _, rfl, rfl, .inl ⟨by omega, by omega⟩, fun y2 y3 => ?_⟩⟩
            refine ⟨_, rfl, _, _, rfl, rfl, .inl (by decide), fun y4 y5 => ⟨_, rfl, _, _, rfl, rfl, .inl ⟨by omega, by omega⟩, fun y6 y7 => ?_⟩⟩
            have b1 := mul_bd (x := mx) (y := y0 + 5639) (A := 2147483648) (B := 3000000) m0 (by omega) (by omega) (by omega)
            have b2 := mul_bd (x := y4) (y := t) (A := 1000000000000) (B := 1000000) (by omega) (by omega) ht (by omega)
            rw [← y3] at b1
            rw [← y7] at b2
            refine ⟨_, _, rfl, rfl, _, _, rfl, rfl, _, _, rfl, rfl, ⟨by decide, by decide, ?_⟩, fun y8 _ => ?_⟩
            · clear y3 y7 y5 y1
              omega
            refine .inl ⟨_, rfl, _, _, rfl, rfl, by decide, fun my _ n0 n1 => ?_⟩
            -- return int(mixed // 64) % many
            refine ⟨_, rfl, _, _, rfl, rfl, ⟨by decide, by decide⟩, fun w0 _ => .inl ⟨_, rfl, _, rfl, _, _, rfl, rfl, hm, fun d _ d0 d1 => ?_⟩⟩
            exact k _ _ F2 ⟨_, _, S2, by omega⟩ d0 d1
        · refine iteF ?_
          -- mixed = int((int(cell) % p + q * turn + k) ** 5) % p
          refine ⟨_, rfl, .inl ⟨_, rfl, _, _, rfl, rfl, by decide, fun z0 _ z1 z2 => ?_⟩⟩
          refine ⟨_, rfl, _, _, rfl, rfl, .inl (by decide), fun z3 z4 => ⟨_, _, rfl, rfl, _, _, rfl, rfl, _, _, rfl, rfl, ⟨by decide, by decide, ?_⟩, fun z5 _ => ?_⟩⟩
          · omega
          refine .inl ⟨_, rfl, _, _, rfl, rfl, by decide, fun mx _ m0 m1 => ?_⟩
          -- mixed = int((mixed * (2 * turn + k) + q * turn * turn + l) ** 3) % p
          refine ⟨_, rfl, _, rfl, _, _, rfl, rfl, .inl (by decide), fun y0 y1 => ⟨_, _, rfl, rfl, _, _, rfl, rfl, .inl ⟨by omega, by omega⟩, fun y2 y3 => ?_⟩⟩
          refine ⟨_, rfl, _, _, rfl, rfl, .inl (by decide), fun y4 y5 => ⟨_, rfl, _, _, rfl, rfl, .inl ⟨by omega, by omega⟩, fun y6 y7 => ?_⟩⟩
          have b1 := mul_bd (x := mx) (y := y0 + 5639) (A := 2147483648) (B := 3000000) m0 (by omega) (by omega) (by omega)
          have b2 := mul_bd (x := y4) (y := t) (A := 1000000000000) (B := 1000000) (by omega) (by omega) ht (by omega)
          rw [← y3] at b1
          rw [← y7] at b2
          refine ⟨_, _, rfl, rfl, _, _, rfl, rfl, _, _, rfl, rfl, ⟨by decide, by decide, ?_⟩, fun y8 _ => ?_⟩
          · clear y3 y7 y5 y1
            omega
          refine .inl ⟨_, rfl, _, _, rfl, rfl, by decide, fun my _ n0 n1 => ?_⟩
          -- return int(mixed // 64) % many
          refine ⟨_, rfl, _, _, rfl, rfl, ⟨by decide, by decide⟩, fun w0 _ => .inl ⟨_, rfl, _, rfl, _, _, rfl, rfl, hm, fun d _ d0 d1 => ?_⟩⟩
          exact k _ _ F2 ⟨_, _, S2, by omega⟩ d0 d1
end K00
set_option maxHeartbeats 4000000
namespace K00
open PySem L2 MT RZ StX


local macro_rules | `(tactic| walk_at "sm") => `(tactic| first | exact Same.refl _ | assumption | exact New.same (by assumption) | exact Same.trans (by assumption) (by walk_at "sm") | exact Same.trans (New.same (by assumption)) (by walk_at "sm"))
local macro_rules | `(tactic| walk_at "fr") => `(tactic| first | exact Frm.refl | assumption | exact frm_same (New.same (by assumption)) | exact frm_same (by assumption) | exact Frm.trans (by assumption) (by walk_at "fr") | exact Frm.trans (frm_same (New.same (by assumption))) (by walk_at "fr") | exact Frm.trans (frm_same (by assumption)) (by walk_at "fr"))
local macro_rules | `(tactic| walk_at "dv") => `(tactic| first | exact Dv.int _ | exact Dv.bl _ | exact Dv.non | exact Dv.str _ | assumption | exact Dv.same (by assumption) (by walk_at "sm") | exact Dv.mono (by assumption) (by walk_at "fr"))
local macro_rules | `(tactic| walk_at "dvs") => `(tactic| first | exact DvAll.nil | exact DvAll.ints _ | (refine DvAll.cons ?_ ?_; walk_at "dv"; walk_at "dvs"))



theorem pss0 {X : Cx} {ss : List Stmt} {t : TDS} (h : PSs X ss (tDs X.K none t)) : PSs X ss (tDs X.K none t) := h
theorem pss1 {X : Cx} {ss : List Stmt} {t : TDS} {TS : MT.TSet} (h : PSs X ss (tDs X.K (some TS) t)) : PSs X ss (tDs X.K (some TS) t) := h
def okM1 (d : PyData) : Prop := ∃ m : Int, d = .int m ∧ 0 < m ∧ m < 2 ^ 62
def below (d y : PyData) : Prop := ∃ m i : Int, d = .int m ∧ y = .int i ∧ 0 ≤ i ∧ i < m
def okSome (d : PyData) : Prop := ∃ xs, d = .list xs ∧ xs ≠ [] ∧ xs.length < 2 ^ 62
def oneOf (d y : PyData) : Prop := ∃ xs, d = .list xs ∧ y ∈ xs
theorem atI_mem {α : Type} {xs : List α} {i : Int} (h0 : 0 ≤ i) (h1 : i < (xs.length : Int)) : ∃ x, atI xs i = some x ∧ x ∈ xs := by
  obtain ⟨j, rfl⟩ : ∃ j : Nat, i = j := ⟨_, (Int.toNat_of_nonneg h0).symm⟩
  have hj : j < xs.length := by omega
  exact ⟨xs[j], atI_nat (List.getElem?_eq_getElem hj), List.getElem_mem hj⟩

theorem one_b {p : PyData → Bool} {xs : List PyData} {y : PyData} (h : oneOf (.list xs) y) (a : xs.all p = true) : p y = true := by
  obtain ⟨zs, e, m⟩ := h
  cases e
  exact List.all_eq_true.mp a y m
theorem one_p {p : PyData → Prop} {xs : List PyData} {y : PyData} (h : oneOf (.list xs) y) (a : ∀ z ∈ xs, p z) : p y := by
  obtain ⟨zs, e, m⟩ := h
  cases e
  exact a y m
theorem some_ok {xs : List PyData} (h : xs ≠ []) (h2 : xs.length < 2 ^ 62) : okSome (.list xs) := ⟨xs, rfl, h, h2⟩
def intIn (lo hi : Int) : PyData → Bool
  | .int w => decide (lo ≤ w) && decide (w ≤ hi)
  | _ => false
theorem int_in {lo hi : Int} {d : PyData} (h : intIn lo hi d = true) : ∃ w, d = .int w ∧ lo ≤ w ∧ w ≤ hi := by
  cases d with
  | int w =>
    have h : (decide (lo ≤ w) && decide (w ≤ hi)) = true := h
    rw [Bool.and_eq_true] at h
    exact ⟨w, rfl, of_decide_eq_true h.1, of_decide_eq_true h.2⟩
  | _ => cases h
def strIs (p : Str → Bool) : PyData → Bool
  | .str z => p z
  | _ => false
theorem str_is {p : Str → Bool} {d : PyData} (h : strIs p d = true) : ∃ z, d = .str z ∧ p z = true := by
  cases d with
  | str z => exact ⟨z, rfl, h⟩
  | _ => cases h
theorem rng_at {n i : Nat} {x : PyData} {lo : Int} (h : ((List.range n).map fun i => PyData.int (lo + (i : Nat)))[i]? = some x) : i < n ∧ x = .int (lo + (i : Nat)) := by
  have l := (List.getElem?_eq_some_iff.mp h).1
  rw [List.length_map, List.length_range] at l
  rw [List.getElem?_map, List.getElem?_range l] at h
  exact ⟨l, (Option.some.inj h).symm⟩
theorem q_yes {ρ : List DS} {n : Nat} {f g : Nat → Prop} (h : f n) : qYes ρ n (fun b m => if b = true then f m else g m) := by
  show if true = true then f n else g n
  rw [if_pos rfl]
  exact h
theorem rng_len {n : Nat} {lo : Int} : ((List.range n).map fun i => PyData.int (lo + (i : Nat))).length = n := by rw [List.length_map, List.length_range]

theorem tame_s {z : Str} (h : PyData.strOk z = true) : tame (.str z) = true := by simp [tame, PyData.canLay0, PyData.depth, h]
theorem eqv_s (a b : Str) : PyData.eqv (.str a) (.str b) = decide (a = b) := by
  rw [PyData.eqv]
  by_cases e : a = b
  · rw [e]; simp
  · rw [decide_eq_false e]; simpa using e
theorem cutD_to (ds : List PyData) (k : Nat) : cutD ds none (some (k : Int)) = ds.take k := by
  unfold cutD
  rw [HT.sIx_nat, HT.sIx_none, List.drop_zero, Nat.sub_zero]
  by_cases h : k ≤ ds.length
  · rw [Nat.min_eq_left h]
  · rw [Nat.min_eq_right (by omega), List.take_of_length_le (Nat.le_refl _), List.take_of_length_le (by omega)]
theorem cutD_from (ds : List PyData) (k : Nat) : cutD ds (some (k : Int)) none = ds.drop k := by
  unfold cutD
  rw [HT.sIx_nat, HT.sIx_none]
  by_cases h : k ≤ ds.length
  · rw [Nat.min_eq_left h, List.take_of_length_le (by rw [List.length_drop]; omega)]
  · rw [Nat.min_eq_right (by omega), List.drop_of_length_le (Nat.le_refl _), List.drop_of_length_le (by omega), List.take_nil]
theorem cutD_last (ds : List PyData) : cutD ds none (some (-1)) = ds.dropLast := by
  unfold cutD
  rw [HT.sIx_none, List.drop_zero, Nat.sub_zero, List.dropLast_eq_take]
  have e : HT.sIx ds.length ds.length (some (-1)) = ds.length - 1 := by
    show (if (-1 : Int) < 0 then (-1 + (ds.length : Int)).toNat else min (-1 : Int).toNat ds.length) = ds.length - 1
    rw [if_pos (by decide)]
    omega
  rw [e]
theorem at_last {α : Type} {xs : List α} {x : α} (h : xs.getLast? = some x) : atI xs (-1) = some x := by
  unfold atI ixN
  rw [if_neg (by decide)]
  have l : xs ≠ [] := fun e => by rw [e] at h; cases h
  have l2 := List.length_pos_iff.mpr l
  rw [if_pos (by omega)]
  show xs[(-1 + (xs.length : Int)).toNat]? = some x
  rw [List.getLast?_eq_getElem?] at h
  rw [← h]
  congr 1
  omega
theorem at_0 {α : Type} {xs : List α} {x : α} : atI (x :: xs) 0 = some x := atI_nat (j := 0) rfl
theorem at_1 {α : Type} {xs : List α} {x y : α} : atI (y :: x :: xs) 1 = some x := atI_nat (j := 1) rfl

def lenOf : PyData → Option Nat
  | .list ds => some ds.length
  | .tuple ds => some ds.length
  | .str z => if z.length ≤ 10000000 then some z.length else none
  | _ => none
theorem f_len {d : PyData} {k : Nat} {R : PyData → Prop} (hl : lenOf d = some k) (r : R (.int k)) : fLen [d] R := by
  cases d with
  | list ds => cases hl; exact r
  | tuple ds => cases hl; exact r
  | str z =>
    by_cases h : z.length ≤ 10000000
    · rw [lenOf, if_pos h] at hl
      cases hl
      exact ⟨h, r⟩
    · rw [lenOf, if_neg h] at hl
      cases hl
  | _ => cases hl
theorem len_seqD {d : PyData} {ds : List PyData} (h : seqD d = some ds) : lenOf d = some ds.length := by
  cases d <;> cases h <;> rfl
theorem len_str {z : Str} (h : z.length ≤ 10000000) : lenOf (.str z) = some z.length := if_pos h
theorem items_seqD {d : PyData} {ds : List PyData} (h : seqD d = some ds) : itemsD d = some ds := by
  cases d <;> cases h <;> rfl
theorem f_ix {d e x : PyData} {ds : List PyData} {R : PyData → Prop} {i : Int} (h : seqD d = some ds) (he : e = .int i) (a : atI ds i = some x) (r : R x) : fIx d e R := by
  refine ⟨i, he, ?_⟩
  cases d <;> cases h <;> exact ⟨x, a, r⟩
theorem q_len_btw {g g' : Int → Int → Bool} {h h' : Str → Str → Bool} {lo hi : Int} {i n k : Nat} {ρ : List DS} {R : QD} {d : PyData} (hv : ρ[i]? = some (DS.d d)) (hl : lenOf d = some k) (r : R (.bool (g lo k && g' k hi)) n) :
    qChain (fOrd g h) (fOrd g' h') (qC (.int lo)) (qCB fLen (qCons (qVar i) qNil)) (qC (.int hi)) ρ n R := by
  unfold qChain qCB qCons qVar qNil qC
  refine ⟨d, hv, f_len hl ⟨g lo k, rfl, ?_⟩⟩
  cases e : g lo k with
  | true => rw [e] at r; exact r
  | false => rw [e] at r; exact r
theorem q_len_ord {g : Int → Int → Bool} {h : Str → Str → Bool} {hi : Int} {i n k : Nat} {ρ : List DS} {R : QD} {d : PyData} (hv : ρ[i]? = some (DS.d d)) (hl : lenOf d = some k) (r : R (.bool (g k hi)) n) :
    qOp (fOrd g h) (qCB fLen (qCons (qVar i) qNil)) (qC (.int hi)) ρ n R := by
  unfold qOp qCB qCons qVar qNil qC
  exact ⟨d, hv, f_len hl r⟩
theorem q_len_eq {hi : Int} {i n k : Nat} {ρ : List DS} {R : QD} {d : PyData} (hv : ρ[i]? = some (DS.d d)) (hl : lenOf d = some k) (r : R (.bool (decide ((k : Int) = hi))) n) :
    qOp fEq (qCB fLen (qCons (qVar i) qNil)) (qC (.int hi)) ρ n R := by
  unfold qOp qCB qCons qVar qNil qC
  exact ⟨d, hv, f_len hl ⟨rfl, rfl, r⟩⟩
def tm (n : Nat) (e : PyData) : Bool := e.canLay0 && decide (e.depth ≤ n)
theorem tm_tame {n : Nat} {e : PyData} (h : tm n e = true) (l : n ≤ 5) : tame e = true := by
  unfold tm at h
  rw [Bool.and_eq_true, decide_eq_true_iff] at h
  unfold tame
  rw [h.1, decide_eq_true (by omega)]
  rfl
theorem tm_all {n : Nat} : ∀ {ds : List PyData}, (∀ y ∈ ds, tm n y = true) → PyData.canLayAll0 ds = true ∧ PyData.depthAll ds ≤ n
  | [], _ => ⟨by simp [PyData.canLayAll0], by simp [PyData.depthAll]⟩
  | d :: ds, h => by
    obtain ⟨h1, h2⟩ := tm_all fun y hy => h y (List.mem_cons_of_mem _ hy)
    have h0 := h d List.mem_cons_self
    unfold tm at h0
    rw [Bool.and_eq_true, decide_eq_true_iff] at h0
    exact ⟨by simp only [PyData.canLayAll0, h0.1, h1, Bool.and_self], by simp only [PyData.depthAll]; omega⟩
theorem tm_seq {n : Nat} {d : PyData} {ds : List PyData} (e : seqD d = some ds) (h : ∀ y ∈ ds, tm n y = true) : tm (n + 1) d = true := by
  obtain ⟨h1, h2⟩ := tm_all h
  unfold tm
  rw [Bool.and_eq_true, decide_eq_true_iff]
  cases d <;> cases e <;> exact ⟨by simp only [PyData.canLay0, h1], by simp only [PyData.depth]; omega⟩
theorem tm_str {n : Nat} {z : Str} (h : PyData.strOk z = true) : tm n (.str z) = true := by simp [tm, PyData.canLay0, PyData.depth, h]
theorem str_of_tm {n : Nat} {z : Str} (h : tm n (.str z) = true) : PyData.strOk z = true := by
  unfold tm at h
  rw [Bool.and_eq_true] at h
  simpa [PyData.canLay0] using h.1
/-- no item of it is long, none odd -/
def okB2 (d : PyData) : Bool := match seqD d with
  | none => true
  | some es => decide (es.length ≤ 10000000) && es.all fun y => tm 3 y && match y with | .str z => decide (z.length ≤ 1000000) | _ => true
def okB1 (d : PyData) : Bool := match seqD d with
  | none => true
  | some ds => decide (ds.length ≤ 10000000) && ds.all okB2
theorem ok2_of {d : PyData} {es : List PyData} (h : okB2 d = true) (e : seqD d = some es) : es.length ≤ 10000000 ∧ ∀ y ∈ es, tm 3 y = true ∧ ∀ z, y = .str z → z.length ≤ 1000000 := by
  unfold okB2 at h
  rw [e] at h
  have h : (decide (es.length ≤ 10000000) && es.all fun y => tm 3 y && match y with | .str z => decide (z.length ≤ 1000000) | _ => true) = true := h
  rw [Bool.and_eq_true] at h
  refine ⟨of_decide_eq_true h.1, fun y hy => ?_⟩
  have q := List.all_eq_true.mp h.2 y hy
  rw [Bool.and_eq_true] at q
  exact ⟨q.1, fun z ez => by subst ez; exact of_decide_eq_true q.2⟩
theorem ok1_of {d : PyData} {ds : List PyData} (h : okB1 d = true) (e : seqD d = some ds) : ds.length ≤ 10000000 ∧ ∀ x ∈ ds, okB2 x = true := by
  unfold okB1 at h
  rw [e] at h
  have h : (decide (ds.length ≤ 10000000) && ds.all okB2) = true := h
  rw [Bool.and_eq_true] at h
  exact ⟨of_decide_eq_true h.1, List.all_eq_true.mp h.2⟩
theorem signs_ok {z : Str} (h : PyData.strOk z = true) : ∀ c ∈ z.cps.toList, PyData.strOk ⟨#[c]⟩ = true := fun c hc => by
  have q : z.cps.all (· < 0x110000) = true := h
  rw [← Array.all_toList, List.all_eq_true] at q
  show (#[c] : Array Nat).all (· < 0x110000) = true
  simpa using q c hc
theorem sign_mem {z : Str} {x : PyData} (h : x ∈ signsD z) : ∃ c, c ∈ z.cps.toList ∧ x = .str ⟨#[c]⟩ := by
  obtain ⟨c, hc, e⟩ := List.mem_map.mp h
  exact ⟨c, hc, e.symm⟩
theorem signs_len (z : Str) : (signsD z).length = z.length := by
  unfold signsD
  rw [List.length_map, Array.length_toList]
  rfl
/-- a text's signs that p keeps: are there some -/
theorem signs_keep (p : Nat → Bool) (q : PyData → Bool) (hq : ∀ c, q (.str ⟨#[c]⟩) = p c) (z : Str) : ((signsD z).filter q) = ((z.cps.toList.filter p).map fun c => PyData.str ⟨#[c]⟩) := by
  unfold signsD
  rw [List.filter_map]
  congr 1
  exact List.filter_congr fun c _ => hq c
theorem tame_signs {z : Str} (h : PyData.strOk z = true) (p : Nat → Bool) : tame (.list ((z.cps.toList.filter p).map fun c => PyData.str ⟨#[c]⟩)) = true := by
  have a : ∀ y ∈ ((z.cps.toList.filter p).map fun c => (⟨#[c]⟩ : Str)), PyData.strOk y = true := fun y hy => by
    obtain ⟨c, hc, rfl⟩ := List.mem_map.mp hy
    exact signs_ok h c (List.mem_filter.mp hc).1
  have e : ((z.cps.toList.filter p).map fun c => PyData.str ⟨#[c]⟩) = (((z.cps.toList.filter p).map fun c => (⟨#[c]⟩ : Str)).map PyData.str) := by
    rw [List.map_map]
    rfl
  rw [e]
  have ta := tame_strs a
  obtain ⟨c1, c2⟩ := tame_seq ta
  have c3 : PyData.depthAll (((z.cps.toList.filter p).map fun c => (⟨#[c]⟩ : Str)).map PyData.str) = 0 := by
    generalize ((z.cps.toList.filter p).map fun c => (⟨#[c]⟩ : Str)) = l
    induction l with
    | nil => simp [PyData.depthAll]
    | cons x l ih => simp [PyData.depthAll, PyData.depth, ih]
  unfold tame
  simp only [PyData.canLay0, c1, PyData.depth, c3]
  rfl
theorem eqv_nil (l : List PyData) : PyData.eqv (.list l) (.list []) = l.isEmpty := by
  cases l <;> simp [PyData.eqv, PyData.eqvAll]
theorem keep_none (p : Nat → Bool) (z : Str) : ((z.cps.toList.filter p).map fun c => PyData.str ⟨#[c]⟩).isEmpty = z.cps.toList.all fun c => !p c := by
  rw [List.isEmpty_map]
  induction z.cps.toList with
  | nil => rfl
  | cons c l ih =>
    rw [List.filter_cons, List.all_cons]
    cases p c <;> simp [ih]
theorem q_btw_s {lo hi s : Str} {i n : Nat} {ρ : List DS} {R : QD} (hv : ρ[i]? = some (DS.d (.str s))) (r : R (.bool (!ltS s lo && !ltS hi s)) n) :
    qChain (fOrd (fun i j => decide (i ≤ j)) fun a b => !ltS b a) (fOrd (fun i j => decide (i ≤ j)) fun a b => !ltS b a) (qC (.str lo)) (qVar i) (qC (.str hi)) ρ n R := by
  refine ⟨_, hv, ⟨!ltS s lo, rfl, ?_⟩⟩
  cases e : ltS s lo with
  | true => rw [e] at r; exact r
  | false => rw [e] at r; exact r
theorem q_ix {i n : Nat} {k : Int} {ρ : List DS} {R : QD} {d x : PyData} {es : List PyData} (hv : ρ[i]? = some (DS.d d)) (he : seqD d = some es) (a : atI es k = some x) (r : R x n) : qOp fIx (qVar i) (qC (.int k)) ρ n R := by
  unfold qOp qVar qC
  exact ⟨d, hv, f_ix he rfl a r⟩
theorem q_it_eq {i n : Nat} {k : Int} {ρ : List DS} {R : QD} {d x : PyData} {es : List PyData} {w : Str} (hv : ρ[i]? = some (DS.d d)) (he : seqD d = some es) (a : atI es k = some x) (tx : tame x = true) (tw : PyData.strOk w = true) (r : R (.bool (PyData.eqv x (.str w))) n) :
    qOp fEq (qOp fIx (qVar i) (qC (.int k))) (qC (.str w)) ρ n R := by
  unfold qOp qVar qC
  exact ⟨d, hv, f_ix he rfl a ⟨tx, tame_s tw, r⟩⟩
theorem q_it_ne {i n : Nat} {k : Int} {ρ : List DS} {R : QD} {d x : PyData} {es : List PyData} {w : Str} (hv : ρ[i]? = some (DS.d d)) (he : seqD d = some es) (a : atI es k = some x) (tx : tame x = true) (tw : PyData.strOk w = true) (r : R (.bool (!PyData.eqv x (.str w))) n) :
    qOp fNe (qOp fIx (qVar i) (qC (.int k))) (qC (.str w)) ρ n R := by
  unfold qOp qVar qC
  exact ⟨d, hv, f_ix he rfl a ⟨tx, tame_s tw, r⟩⟩
theorem q_it_is {i n : Nat} {k : Int} {ρ : List DS} {R : QD} {d x : PyData} {es : List PyData} {p : PyData → Bool} (hv : ρ[i]? = some (DS.d d)) (he : seqD d = some es) (a : atI es k = some x) (r : R (.bool (p x)) n) : qIs p (qOp fIx (qVar i) (qC (.int k))) ρ n R := by
  unfold qIs qOp qVar qC
  exact ⟨d, hv, f_ix he rfl a r⟩
theorem q_it_in {i n : Nat} {k : Int} {ρ : List DS} {R : QD} {d x : PyData} {es : List PyData} {neg : Bool} {w1 w2 : Str} (hv : ρ[i]? = some (DS.d d)) (he : seqD d = some es) (a : atI es k = some x) (tx : tame x = true) (t1 : PyData.strOk w1 = true) (t2 : PyData.strOk w2 = true)
    (r : R (.bool (if neg then !inD x [.str w1, .str w2] else inD x [.str w1, .str w2])) n) : qOp (fInV neg) (qOp fIx (qVar i) (qC (.int k))) (qTup (qCons (qC (.str w1)) (qCons (qC (.str w2)) qNil))) ρ n R := by
  unfold qOp qVar qTup qCons qNil qC
  refine ⟨d, hv, f_ix he rfl a ⟨by simp, ?_⟩⟩
  have q : tame x = true ∧ [PyData.str w1, .str w2].all tame = true ∧ R (.bool (if neg then !inD x [.str w1, .str w2] else inD x [.str w1, .str w2])) n := ⟨tx, by simp [tame_s t1, tame_s t2], r⟩
  cases x <;> exact q
theorem q_ord_btw {g g' : Int → Int → Bool} {h h' : Str → Str → Bool} {lo hi : Int} {i n c : Nat} {ρ : List DS} {R : QD} (hv : ρ[i]? = some (DS.d (.str ⟨#[c]⟩))) (r : R (.bool (g lo c && g' c hi)) n) :
    qChain (fOrd g h) (fOrd g' h') (qC (.int lo)) (qCB fOrdS (qCons (qVar i) qNil)) (qC (.int hi)) ρ n R := by
  refine ⟨_, hv, rfl, ⟨g lo c, rfl, ?_⟩⟩
  cases e : g lo c with
  | true => rw [e] at r; exact r
  | false => rw [e] at r; exact r
theorem q_ord_eq {k : Int} {i n c : Nat} {ρ : List DS} {R : QD} (hv : ρ[i]? = some (DS.d (.str ⟨#[c]⟩))) (r : R (.bool (decide ((c : Int) = k))) n) :
    qOp fEq (qCB fOrdS (qCons (qVar i) qNil)) (qC (.int k)) ρ n R := ⟨_, hv, rfl, rfl, rfl, r⟩
theorem eqv_emptyT {d : PyData} {es : List PyData} (h : PyData.eqv d (.tuple []) = true) (e : seqD d = some es) : es = [] := by
  cases d <;> cases e
  · simp [PyData.eqv] at h
  · cases es with
    | nil => rfl
    | cons a b => simp [PyData.eqv, PyData.eqvAll] at h
theorem eqv_emptyL {d : PyData} {es : List PyData} (h : PyData.eqv d (.list []) = true) (e : seqD d = some es) : es = [] := by
  cases d <;> cases e
  · cases es with
    | nil => rfl
    | cons a b => simp [PyData.eqv, PyData.eqvAll] at h
  · simp [PyData.eqv] at h
theorem not_empty {d : PyData} {es : List PyData} (h : ¬ PyData.eqv d (.tuple []) = true) (h2 : ¬ PyData.eqv d (.list []) = true) (e : seqD d = some es) : es ≠ [] := fun q => by
  subst q
  cases d <;> cases e
  · exact h2 (by simp [PyData.eqv, PyData.eqvAll])
  · exact h (by simp [PyData.eqv, PyData.eqvAll])
theorem eqv_str_not {x : PyData} {w : Str} (h : isStrD x = false) : PyData.eqv x (.str w) = false := by
  cases x <;> first | (simp [PyData.eqv]; done) | cases h
theorem in_strs {x : PyData} {w1 w2 : Str} : inD x [.str w1, .str w2] = match x with | .str z => (decide (z = w1) || decide (z = w2)) | _ => false := by
  unfold inD
  cases x with
  | str z =>
    simp only [List.any_cons, List.any_nil, Bool.or_false, eqv_s]
    congr 1
    · exact decide_eq_decide.mpr ⟨Eq.symm, Eq.symm⟩
    · exact decide_eq_decide.mpr ⟨Eq.symm, Eq.symm⟩
  | _ => simp [PyData.eqv]

theorem okB1_of {d : PyData} {ds : List PyData} (e : seqD d = some ds) (l : ds.length ≤ 10000000) (h : ∀ x ∈ ds, okB2 x = true) : okB1 d = true := by
  unfold okB1
  rw [e]
  show (decide (ds.length ≤ 10000000) && ds.all okB2) = true
  rw [decide_eq_true l, Bool.true_and]
  exact List.all_eq_true.mpr h
theorem okB1_atom {d : PyData} (e : seqD d = none) : okB1 d = true := by
  unfold okB1
  rw [e]
theorem okB2_atom {d : PyData} (e : seqD d = none) : okB2 d = true := by
  unfold okB2
  rw [e]
theorem okB2_strs {d : PyData} {ns : List Str} (e : seqD d = some (ns.map PyData.str)) (l : ns.length ≤ 10000000) (h : ∀ z ∈ ns, PyData.strOk z = true ∧ z.length ≤ 1000000) : okB2 d = true := by
  unfold okB2
  rw [e]
  show (decide _ && List.all _ _) = true
  rw [decide_eq_true (by rw [List.length_map]; exact l), Bool.true_and, List.all_map, List.all_eq_true]
  intro z hz
  show (tm 3 (.str z) && decide (z.length ≤ 1000000)) = true
  rw [tm_str (h z hz).1, decide_eq_true (h z hz).2]
  rfl

theorem law_data {K : PySem.W.Frag} {t : TDS} {a0 p b : Addr} {cs : List Int} {H1 : Hp} {Q : VK} {m : Nat} (S1 : Sx p b cs 0 H1) (k : ∀ H', Q (.bl true) H') (q : t (.no :: .dr :: List.replicate m DS.no) 0 (fun _ _ => False) (fun y _ => y = .bool true)) :
    tDs K none t { nx := fun _ H' => Q .non H', rt := Q } (some (.ref a0) :: some (.ref p) :: List.replicate m none) H1 :=
  ⟨drawF (· = p) p b cs rfl, _, 0, _, _, .cons (s := .no) trivial (.cons (s := .dr) ⟨p, rfl, rfl⟩ (no_env m)), ⟨S1, fun c e => by subst e; exact S1.atl⟩, q, fun _ _ z => z.elim, fun d n e v H' _ _ w => by subst e; cases w; exact k H'⟩
theorem okr_bool (b : Bool) : okRepr (.bool b) := by cases b <;> exact ⟨by decide +kernel, by decide +kernel, by decide +kernel, by decide +kernel, by decide +kernel⟩
theorem okr_two (a b : Bool) : okRepr (.list [.bool a, .bool b]) := by cases a <;> cases b <;> exact ⟨by decide +kernel, by decide +kernel, by decide +kernel, by decide +kernel, by decide +kernel⟩
theorem okr_three (a : Bool) : okRepr (.list [.bool a, .bool a, .bool a]) := by cases a <;> exact ⟨by decide +kernel, by decide +kernel, by decide +kernel, by decide +kernel, by decide +kernel⟩
theorem tm_bool (b : Bool) : tame (.str (PyData.bool b).shown) = true := by cases b <;> decide +kernel
theorem tm_two (a b : Bool) : tame (.str (PyData.list [.bool a, .bool b]).shown) = true := by cases a <;> cases b <;> decide +kernel
theorem tm_three (a : Bool) : tame (.str (PyData.list [.bool a, .bool a, .bool a]).shown) = true := by cases a <;> decide +kernel
theorem ne_self {z : Str} : (!PyData.eqv (.str z) (.str z)) = false := by rw [eqv_s, decide_eq_true rfl]; rfl

theorem okd__law_reach {P : Program} {w : World} {K : PySem.W.Frag} {mg : Str → Option Value} {base : Heap} {fa : Nat → Addr} {fd : Nat → FuncData} (T : Txt K mg fa fd) : FnOk P w K mg base CX0 1 (fa 33) (fd 33) ["satchel", "many"] (spDr K 1 (Dr1 okM1 below)) := (ok__law_reach T).imp fun _ _ _ _ h => sp_draw h
theorem ok__law_gather {P : Program} {w : World} {K : PySem.W.Frag} {mg : Str → Option Value} {base : Heap} {fa : Nat → Addr} {fd : Nat → FuncData} (T : Txt K mg fa fd) : FnOk P w K mg base CX0 2 (fa 34) (fd 34) ["satchel", "some"] (spDr K 1 (Dr1 okSome oneOf)) := by
  have nd := sc__law_gather.nd
  refine T.F__law_gather.ok sc__law_gather (fun vs H Q E h => dlen1 h) (fun cdv A outer s H vs Q E hr h => ⟨_, (pss0 (pss_one (ds_ret (ps_ret (de_ix (pe_ix ix_U (de_var (pv 1)) (de_draw (pe_call (okd__law_reach T) (hr.mono (by decide)) rfl T.g__law_reach T.F__law_reach.kp T.b__law_reach .nil pass0 (pa_cons (pv 0) (da_cons (pa_cons (de_cb fit_len (pe_callB call_lenU (by rfl) T.n_len (by decide +kernel) (da_cons (pa_cons (de_var (pv 1)) (da_nil pa_nil))))) (da_nil pa_nil)))))) (fun _ _ => rfl))))))), ?_⟩)
  refine draw1 (m := 0) h (fun _ _ => rfl) ?_
  rintro n d hn ⟨xs, rfl, hne, hl⟩
  have l0 : 0 < xs.length := List.length_pos_iff.mpr hne
  refine ⟨_, rfl, rfl, _, rfl, hn, _, rfl, ⟨(xs.length : Int), rfl, by omega, by omega⟩, fun y hy => ?_⟩
  obtain ⟨m, i, em, rfl, h0, h1⟩ := hy
  cases em
  obtain ⟨x, hx, hm⟩ := atI_mem h0 h1
  exact ⟨i, rfl, x, hx, Nat.le_refl _, xs, rfl, hm⟩

theorem strI_ok (i : Int) : PyData.strOk (Str.ofString (toString i)) = true := by
  unfold PyData.strOk
  rw [Str.ofString_eq_toList]
  rw [Array.all_eq_true]
  intro j hj
  have hm := Array.getElem_mem hj
  obtain ⟨c, _, e⟩ := List.mem_map.mp (Array.mem_toList_iff.mpr hm : _ ∈ ((toString i).toList.map Char.toNat))
  show decide (_ < 0x110000) = true
  refine decide_eq_true ?_
  rw [← e]
  rcases c.valid with h | ⟨_, h⟩
  · exact Nat.lt_trans h (by decide)
  · exact h
theorem strI_size {i : Int} (h : i.natAbs < 10 ^ 21) : (Str.ofString (toString i)).cps.size ≤ 22 := by
  have e := int_text_length_le10 (k := 21) (by decide) h
  have e2 : (Str.ofString (toString i)).cps.size = (toString i).length := ofString_length _
  omega
theorem showI {i : Int} (h : i.natAbs < 10 ^ 21) : (PyData.shown (.int i)).length ≤ 22 := strI_size h
theorem logI {i : Int} (h : i.natAbs < 10 ^ 21) : i.natAbs.log2 < 70 := by
  by_cases z : i.natAbs = 0
  · rw [z]; decide
  · exact (Nat.log2_lt z).mpr (Nat.lt_trans h (by decide))
theorem weighI {i : Int} (h : i.natAbs < 10 ^ 21) : PyData.weight (.int i) ≤ 70 := by
  have := logI h
  rw [PyData.weight]
  split <;> omega
/-- what a value is good for: told alike, and shown -/
def valB (d : PyData) : Bool := fineE d && (toldD d && (d.showable && (decide (d.depth ≤ 5) && (PyData.leavesShort 40 d && decide (PyData.weight d ≤ 1000)))))
def isVal (d : PyData) : Prop := valB d = true
theorem valB_mk {d : PyData} (h1 : fineE d = true) (h2 : toldD d = true) (h3 : d.showable = true) (h4 : d.depth ≤ 5) (h5 : PyData.leavesShort 40 d = true) (h6 : PyData.weight d ≤ 1000) : valB d = true := by
  unfold valB
  rw [h1, h2, h3, h5, decide_eq_true h4, decide_eq_true h6]
  rfl
def someV (i : Int) : List PyData := [.int i, .str (toString i), .none, .bool true, .bool false, .list [.int i], .tuple [.int i, .int 2], .dict [(.int i, .list [.int i])], .str "", .list [], .tuple [], .list [.list [.int i], .tuple [.int 1, .list [.int 2]]], .list [.bool true, .int 0], .str "[1]"]
theorem someV_ok {i : Int} (h : i.natAbs < 10 ^ 21) : ∀ d ∈ someV i, valB d = true := by
  have lg := logI h
  have sh := showI h
  have wt := weighI h
  have g1 : i.natAbs.log2 < 1920 := by omega
  have s1 : (PyData.shown (.int 1)).length ≤ 40 := by decide +kernel
  have s2 : (PyData.shown (.int 2)).length ≤ 40 := by decide +kernel
  have sh : (PyData.shown (.int i)).length ≤ 40 := by omega
  have w1 : PyData.weight (.int 1) ≤ 70 := by decide +kernel
  have w2 : PyData.weight (.int 2) ≤ 70 := by decide +kernel
  intro d hd
  unfold someV at hd
  simp only [List.mem_cons, List.not_mem_nil, or_false] at hd
  rcases hd with rfl | rfl | rfl | rfl | rfl | rfl | rfl | rfl | rfl | rfl | rfl | rfl | rfl | rfl
  · exact valB_mk (by simp [fineE, PyData.canLay0, PyData.depth]) (by simp [toldD]) (by simp [PyData.showable, g1]) (by simp [PyData.depth]) (by simp [PyData.leavesShort, sh]) (by omega)
  · have z := strI_ok i
    have y := strI_size h
    refine valB_mk (by unfold fineE; rw [PyData.canLay0, z, PyData.depth]; rfl) (by simp [toldD]) (by simp [PyData.showable]) (by simp [PyData.depth]) ?_ (by simp only [PyData.weight]; omega)
    simp only [PyData.leavesShort]
    rw [List.all_eq_true]
    intro c hc
    unfold PyData.strOk at z
    rw [← Array.all_toList] at z
    have q := List.all_eq_true.mp z c hc
    exact decide_eq_true (Nat.lt_trans (of_decide_eq_true q) (by decide))
  · decide +kernel
  · decide +kernel
  · decide +kernel
  · exact valB_mk (by simp [fineE, PyData.canLay0, PyData.canLayAll0, PyData.depth, PyData.depthAll]) (by simp [toldD, toldAll]) (by simp [PyData.showable, PyData.showableAll, g1]) (by simp [PyData.depth, PyData.depthAll]) (by simp [PyData.leavesShort, PyData.leavesShortAll, sh]) (by simp only [PyData.weight, PyData.weightAll] at wt ⊢; omega)
  · exact valB_mk (by simp [fineE, PyData.canLay0, PyData.canLayAll0, PyData.depth, PyData.depthAll]) (by simp [toldD, toldAll]) (by simp [PyData.showable, PyData.showableAll, g1]; decide) (by simp [PyData.depth, PyData.depthAll]) (by simp [PyData.leavesShort, PyData.leavesShortAll, sh, s2]) (by simp only [PyData.weight, PyData.weightAll] at wt w2 ⊢; omega)
  · exact valB_mk (by simp [fineE]) (by simp [toldD, toldAll, toldKv]) (by simp [PyData.showable, PyData.showableAll, PyData.showableKv, g1]) (by simp [PyData.depth, PyData.depthAll, PyData.depthKv]) (by simp [PyData.leavesShort, PyData.leavesShortAll, PyData.leavesShortKv, sh]) (by simp only [PyData.weight, PyData.weightAll, PyData.weightKv] at wt ⊢; omega)
  · decide +kernel
  · decide +kernel
  · decide +kernel
  · exact valB_mk (by simp [fineE, PyData.canLay0, PyData.canLayAll0, PyData.depth, PyData.depthAll]) (by simp [toldD, toldAll]) (by simp [PyData.showable, PyData.showableAll, g1]; decide) (by simp [PyData.depth, PyData.depthAll]) (by simp [PyData.leavesShort, PyData.leavesShortAll, sh, s1, s2]) (by simp only [PyData.weight, PyData.weightAll] at wt w1 w2 ⊢; omega)
  · decide +kernel
  · decide +kernel
theorem rep_val {ds : List PyData} (h : ∀ d ∈ ds, valB d = true) (l : ds.length ≤ 2) : okRepW (.list ds) ∧ ds.all fineE = true := by
  have un : ∀ d ∈ ds, fineE d = true ∧ toldD d = true ∧ d.showable = true ∧ d.depth ≤ 5 ∧ PyData.leavesShort 40 d = true ∧ PyData.weight d ≤ 1000 := fun d m => by
    have q := h d m
    unfold valB at q
    simpa only [Bool.and_eq_true, decide_eq_true_eq] using q
  have key : ∀ es : List PyData, (∀ d ∈ es, fineE d = true ∧ toldD d = true ∧ d.showable = true ∧ d.depth ≤ 5 ∧ PyData.leavesShort 40 d = true ∧ PyData.weight d ≤ 1000) → toldAll es = true ∧ PyData.showableAll es = true ∧ PyData.depthAll es ≤ 5 ∧ PyData.leavesShortAll 40 es = true ∧ PyData.weightAll es ≤ 1001 * es.length := by
    intro es
    induction es with
    | nil => intro _; exact ⟨rfl, rfl, Nat.zero_le _, rfl, Nat.le_refl _⟩
    | cons e r ih =>
      intro q
      obtain ⟨a1, a2, a3, a4, a5⟩ := ih fun d m => q d (List.mem_cons_of_mem _ m)
      obtain ⟨_, b1, b2, b3, b4, b5⟩ := q e List.mem_cons_self
      refine ⟨by rw [toldAll, a1, b1]; rfl, by rw [PyData.showableAll, a2, b2]; rfl, by rw [PyData.depthAll]; omega, by rw [PyData.leavesShortAll, a4, b4]; rfl, by rw [PyData.weightAll, List.length_cons]; omega⟩
  obtain ⟨a1, a2, a3, a4, a5⟩ := key ds un
  refine ⟨⟨by rw [toldD]; exact a1, by rw [PyData.showable]; exact a2, by rw [PyData.depth]; omega, ?_⟩, List.all_eq_true.mpr fun d m => (un d m).1⟩
  have e := PyData.shown_le 40 (by decide) (.list ds) (by rw [PyData.leavesShort]; exact a4)
  have w : PyData.weight (.list ds) ≤ 2002 := by rw [PyData.weight]; omega
  have := Nat.mul_le_mul_left 42 w
  rw [sizeLine_eq]
  omega

theorem ok__law_value {P : Program} {w : World} {K : PySem.W.Frag} {mg : Str → Option Value} {base : Heap} {fa : Nat → Addr} {fd : Nat → FuncData} (T : Txt K mg fa fd) : FnOk P w K mg base CX0 3 (fa 35) (fd 35) ["satchel"] (spDr K 5 (Dr0 isVal)) := by
  have nd := sc__law_value.nd
  refine T.F__law_value.ok sc__law_value (fun vs H Q E h => dlen0 h) (fun cdv A outer s H vs Q E hr h => ⟨_, (pss0 (dss_cons (pss_cons (ds_set (ps_set (i := 1) nd rfl (Or.inl rfl) (de_draw (pe_call (ok__law_gather T) (hr.mono (by decide)) rfl T.g__law_gather T.F__law_gather.kp T.b__law_gather .nil pass0 (pa_cons (pv 0) (da_cons (pa_cons (de_lst (pe_lstN (da_cons (pa_cons (de_op fit_sub (pe_op op_sub (de_draw (pe_call (okd__law_reach T) (hr.mono (by decide)) rfl T.g__law_reach T.F__law_reach.kp T.b__law_reach .nil pass0 (pa_cons (pv 0) (da_cons (pa_cons (de_int pe_int) (da_nil pa_nil)))))) (de_int pe_int))) (da_cons (pa_cons (de_op fit_add (pe_op op_addU (de_op fit_pow (pe_op op_powL (de_int pe_int) (de_int pe_int))) (de_draw (pe_call (okd__law_reach T) (hr.mono (by decide)) rfl T.g__law_reach T.F__law_reach.kp T.b__law_reach .nil pass0 (pa_cons (pv 0) (da_cons (pa_cons (de_int pe_int) (da_nil pa_nil)))))))) (da_cons (pa_cons (de_neg (pe_un un_neg (de_draw (pe_call (okd__law_reach T) (hr.mono (by decide)) rfl T.g__law_reach T.F__law_reach.kp T.b__law_reach .nil pass0 (pa_cons (pv 0) (da_cons (pa_cons (de_int pe_int) (da_nil pa_nil)))))))) (da_nil pa_nil))))))))) (da_nil pa_nil))))))))
        (dss_cons (pss_cons (ds_set (ps_set (i := 2) nd rfl (Or.inl rfl) (de_lst (pe_lstN (da_cons (pa_cons (de_var (pv 1)) (da_cons (pa_cons (de_cb fit_strI (pe_callTy call_str_int (by rfl) T.n_str (by decide +kernel) (da_cons (pa_cons (de_var (pv 1)) (da_nil pa_nil))))) (da_cons (pa_cons (de_non pe_non) (da_cons (pa_cons (de_bl pe_bl) (da_cons (pa_cons (de_bl pe_bl) (da_cons (pa_cons (de_lst (pe_lstN (da_cons (pa_cons (de_var (pv 1)) (da_nil pa_nil))))) (da_cons (pa_cons (de_tup (pe_tupN (da_cons (pa_cons (de_var (pv 1)) (da_cons (pa_cons (de_int pe_int) (da_nil pa_nil))))))) (da_cons (pa_cons (de_dki (pe_disp1N (de_var (pv 1)) (de_lst (pe_lstN (da_cons (pa_cons (de_var (pv 1)) (da_nil pa_nil))))))) (da_cons (pa_cons (de_str pe_str) (da_cons (pa_cons (de_lst (pe_lstN (da_nil pa_nil))) (da_cons (pa_cons (de_tup (pe_tupN (da_nil pa_nil))) (da_cons (pa_cons (de_lst (pe_lstN (da_cons (pa_cons (de_lst (pe_lstN (da_cons (pa_cons (de_var (pv 1)) (da_nil pa_nil))))) (da_cons (pa_cons (de_tup (pe_tupN (da_cons (pa_cons (de_int pe_int) (da_cons (pa_cons (de_lst (pe_lstN (da_cons (pa_cons (de_int pe_int) (da_nil pa_nil))))) (da_nil pa_nil))))))) (da_nil pa_nil))))))) (da_cons (pa_cons (de_lst (pe_lstN (da_cons (pa_cons (de_bl pe_bl) (da_cons (pa_cons (de_int pe_int) (da_nil pa_nil))))))) (da_cons (pa_cons (de_str pe_str) (da_nil pa_nil)))))))))))))))))))))))))))))))))
        (pss_one (ds_ret (ps_ret (de_draw (pe_call (ok__law_gather T) (hr.mono (by decide)) rfl T.g__law_gather T.F__law_gather.kp T.b__law_gather .nil pass0 (pa_cons (pv 0) (da_cons (pa_cons (de_var (pv 2)) (da_nil pa_nil)))))))))))))), ?_⟩)
  refine draw0 (m := 2) h (fun _ => rfl) ?_
  intro n hn
  refine ⟨rfl, rfl, by omega, _, rfl, ⟨9, rfl, by decide, by decide⟩, fun y1 h1 => ?_⟩
  obtain ⟨m1, a, e1, rfl, a0, a1⟩ := h1
  cases e1
  refine ⟨⟨by decide, by decide, by decide⟩, rfl, by omega, _, rfl, ⟨9, rfl, by decide, by decide⟩, fun y2 h2 => ?_⟩
  obtain ⟨m2, b, e2, rfl, b0, b1⟩ := h2
  cases e2
  refine ⟨rfl, by omega, _, rfl, ⟨1000, rfl, by decide, by decide⟩, fun y3 h3 => ?_⟩
  obtain ⟨m3, c, e3, rfl, c0, c1⟩ := h3
  cases e3
  refine ⟨_, rfl, by simp, by omega, _, rfl, some_ok (by simp) (by simp), fun y hy => ?_⟩
  obtain ⟨i, rfl, hi⟩ : ∃ i : Int, y = .int i ∧ i.natAbs < 10 ^ 21 := one_p (p := fun y => ∃ i : Int, y = .int i ∧ i.natAbs < 10 ^ 21) hy fun z hz => by
    have t : ((10 : Int) ^ (20 : Int).toNat) = 100000000000000000000 := by decide
    rw [t] at hz
    simp only [List.mem_cons, List.not_mem_nil, or_false] at hz
    rcases hz with rfl | rfl | rfl <;> exact ⟨_, rfl, by omega⟩
  refine ⟨_, rfl, _, rfl, ⟨i, rfl, by have := logI hi; omega, ?_⟩⟩
  refine ⟨_, rfl, by simp, _, rfl, by simp, _, rfl, ⟨i, rfl⟩, _, rfl, by simp, by simp, by simp, _, rfl, by simp, by simp, by simp, by simp, by simp, by simp, ?_⟩
  refine ⟨rfl, _, rfl, by omega, _, rfl, some_ok (by simp) (by simp), fun y hy => ⟨by omega, ?_⟩⟩
  obtain ⟨zs, e, m⟩ := hy
  cases e
  exact someV_ok hi _ m
/-- what the class of the number k makes of x and y -/
def errK (fa : Nat → Addr) (k : Nat) (x y : PyData) : PyData := if k < 17 then excD (fa (300 + k)) [(.str "part", x)] else if k < 20 then excD (fa (300 + k)) [(.str "value", x)] else if k = 20 then excD (fa (300 + k)) [(.str "path", y), (.str "why", x)] else if k = 21 then excD (fa (300 + k)) [(.str "most", y), (.str "what", x)] else if k = 22 then excD (fa (300 + k)) [(.str "item", y), (.str "line", x)] else if k = 23 then excD (fa (300 + k)) [(.str "error", y), (.str "line", x)] else excD (fa (300 + k)) []
theorem at_k (fa : Nat → Addr) (x y : PyData) : ∀ k, k < 28 → ([excD (fa 300) [(.str "part", x)], excD (fa 301) [(.str "part", x)], excD (fa 302) [(.str "part", x)], excD (fa 303) [(.str "part", x)], excD (fa 304) [(.str "part", x)], excD (fa 305) [(.str "part", x)], excD (fa 306) [(.str "part", x)], excD (fa 307) [(.str "part", x)], excD (fa 308) [(.str "part", x)], excD (fa 309) [(.str "part", x)], excD (fa 310) [(.str "part", x)], excD (fa 311) [(.str "part", x)], excD (fa 312) [(.str "part", x)], excD (fa 313) [(.str "part", x)], excD (fa 314) [(.str "part", x)], excD (fa 315) [(.str "part", x)], excD (fa 316) [(.str "part", x)], excD (fa 317) [(.str "value", x)], excD (fa 318) [(.str "value", x)], excD (fa 319) [(.str "value", x)], excD (fa 320) [(.str "path", y), (.str "why", x)], excD (fa 321) [(.str "most", y), (.str "what", x)], excD (fa 322) [(.str "item", y), (.str "line", x)], excD (fa 323) [(.str "error", y), (.str "line", x)], excD (fa 324) [], excD (fa 325) [], excD (fa 326) [], excD (fa 327) []] : List PyData)[k]? = some (errK fa k x y)
  | 0, _ => rfl
  | 1, _ => rfl
  | 2, _ => rfl
  | 3, _ => rfl
  | 4, _ => rfl
  | 5, _ => rfl
  | 6, _ => rfl
  | 7, _ => rfl
  | 8, _ => rfl
  | 9, _ => rfl
  | 10, _ => rfl
  | 11, _ => rfl
  | 12, _ => rfl
  | 13, _ => rfl
  | 14, _ => rfl
  | 15, _ => rfl
  | 16, _ => rfl
  | 17, _ => rfl
  | 18, _ => rfl
  | 19, _ => rfl
  | 20, _ => rfl
  | 21, _ => rfl
  | 22, _ => rfl
  | 23, _ => rfl
  | 24, _ => rfl
  | 25, _ => rfl
  | 26, _ => rfl
  | 27, _ => rfl
  | k + 28, h => absurd h (by omega)
def isAt (d x y : PyData) : Prop := ∃ k : Nat, d = .int (k : Nat) ∧ k < 28
def natOf : PyData → Nat
  | .int i => i.toNat
  | _ => 0
theorem ok__law_by_place {P : Program} {w : World} {K : PySem.W.Frag} {mg : Str → Option Value} {base : Heap} {fa : Nat → Addr} {fd : Nat → FuncData} (T : Txt K mg fa fd) : FnOk P w K mg base CX0 4 (fa 36) (fd 36) ["at", "one", "other"] (spPure K (Fn3 isAt fun d x y => errK fa (natOf d) x y)) := by
  have nd := sc__law_by_place.nd
  refine T.F__law_by_place.ok sc__law_by_place (fun vs H Q E h => len3 h) (fun cdv A outer s H vs Q E hr h => ⟨_, (pss0 (dss_cons (pss_cons (ds_set (ps_set (i := 3) nd rfl (Or.inl rfl) (de_lst (pe_lstN (da_cons (pa_cons (de_mk1 T.EC_BadNumber (pe_mk1 T.E_BadNumber (ok_BadNumber T) (hr.mono (by decide)) T.b_BadNumber pass0 rfl (da_cons (pa_cons (de_var (pv 1)) (da_nil pa_nil))))) (da_cons (pa_cons (de_mk1 T.EC_BadBlock (pe_mk1 T.E_BadBlock (ok_BadBlock T) (hr.mono (by decide)) T.b_BadBlock pass0 rfl (da_cons (pa_cons (de_var (pv 1)) (da_nil pa_nil))))) (da_cons (pa_cons (de_mk1 T.EC_BadRow (pe_mk1 T.E_BadRow (ok_BadRow T) (hr.mono (by decide)) T.b_BadRow pass0 rfl (da_cons (pa_cons (de_var (pv 1)) (da_nil pa_nil))))) (da_cons (pa_cons (de_mk1 T.EC_BadPath (pe_mk1 T.E_BadPath (ok_BadPath T) (hr.mono (by decide)) T.b_BadPath pass0 rfl (da_cons (pa_cons (de_var (pv 1)) (da_nil pa_nil))))) (da_cons (pa_cons (de_mk1 T.EC_BadValue (pe_mk1 T.E_BadValue (ok_BadValue T) (hr.mono (by decide)) T.b_BadValue pass0 rfl (da_cons (pa_cons (de_var (pv 1)) (da_nil pa_nil))))) (da_cons (pa_cons (de_mk1 T.EC_BadTree (pe_mk1 T.E_BadTree (ok_BadTree T) (hr.mono (by decide)) T.b_BadTree pass0 rfl (da_cons (pa_cons (de_var (pv 1)) (da_nil pa_nil))))) (da_cons (pa_cons (de_mk1 T.EC_BadDeed (pe_mk1 T.E_BadDeed (ok_BadDeed T) (hr.mono (by decide)) T.b_BadDeed pass0 rfl (da_cons (pa_cons (de_var (pv 1)) (da_nil pa_nil))))) (da_cons (pa_cons (de_mk1 T.EC_BadEvent (pe_mk1 T.E_BadEvent (ok_BadEvent T) (hr.mono (by decide)) T.b_BadEvent pass0 rfl (da_cons (pa_cons (de_var (pv 1)) (da_nil pa_nil))))) (da_cons (pa_cons (de_mk1 T.EC_BadHeard (pe_mk1 T.E_BadHeard (ok_BadHeard T) (hr.mono (by decide)) T.b_BadHeard pass0 rfl (da_cons (pa_cons (de_var (pv 1)) (da_nil pa_nil))))) (da_nil pa_nil)))))))))))))))))))))))
        (dss_cons (pss_cons (ds_set (ps_set (i := 3) nd rfl (Or.inl rfl) (de_op fit_add (pe_op op_addU (de_var (pv 3)) (de_lst (pe_lstN (da_cons (pa_cons (de_mk1 T.EC_BadLot (pe_mk1 T.E_BadLot (ok_BadLot T) (hr.mono (by decide)) T.b_BadLot pass0 rfl (da_cons (pa_cons (de_var (pv 1)) (da_nil pa_nil))))) (da_cons (pa_cons (de_mk1 T.EC_BadLetter (pe_mk1 T.E_BadLetter (ok_BadLetter T) (hr.mono (by decide)) T.b_BadLetter pass0 rfl (da_cons (pa_cons (de_var (pv 1)) (da_nil pa_nil))))) (da_cons (pa_cons (de_mk1 T.EC_BadMachine (pe_mk1 T.E_BadMachine (ok_BadMachine T) (hr.mono (by decide)) T.b_BadMachine pass0 rfl (da_cons (pa_cons (de_var (pv 1)) (da_nil pa_nil))))) (da_cons (pa_cons (de_mk1 T.EC_BadDisk (pe_mk1 T.E_BadDisk (ok_BadDisk T) (hr.mono (by decide)) T.b_BadDisk pass0 rfl (da_cons (pa_cons (de_var (pv 1)) (da_nil pa_nil))))) (da_cons (pa_cons (de_mk1 T.EC_BadWorld (pe_mk1 T.E_BadWorld (ok_BadWorld T) (hr.mono (by decide)) T.b_BadWorld pass0 rfl (da_cons (pa_cons (de_var (pv 1)) (da_nil pa_nil))))) (da_cons (pa_cons (de_mk1 T.EC_BadStep (pe_mk1 T.E_BadStep (ok_BadStep T) (hr.mono (by decide)) T.b_BadStep pass0 rfl (da_cons (pa_cons (de_var (pv 1)) (da_nil pa_nil))))) (da_cons (pa_cons (de_mk1 T.EC_BadPaper (pe_mk1 T.E_BadPaper (ok_BadPaper T) (hr.mono (by decide)) T.b_BadPaper pass0 rfl (da_cons (pa_cons (de_var (pv 1)) (da_nil pa_nil))))) (da_cons (pa_cons (de_mk1 T.EC_Misfit (pe_mk1 T.E_Misfit (ok_Misfit T) (hr.mono (by decide)) T.b_Misfit pass0 rfl (da_cons (pa_cons (de_var (pv 1)) (da_nil pa_nil))))) (da_nil pa_nil)))))))))))))))))))))))
        (dss_cons (pss_cons (ds_set (ps_set (i := 3) nd rfl (Or.inl rfl) (de_op fit_add (pe_op op_addU (de_var (pv 3)) (de_lst (pe_lstN (da_cons (pa_cons (de_mk1 T.EC_NoEvent (pe_mk1 T.E_NoEvent (ok_Missing T) (hr.mono (by decide)) T.b_Missing pass0 rfl (da_cons (pa_cons (de_var (pv 1)) (da_nil pa_nil))))) (da_cons (pa_cons (de_mk1 T.EC_NoChange (pe_mk1 T.E_NoChange (ok_Missing T) (hr.mono (by decide)) T.b_Missing pass0 rfl (da_cons (pa_cons (de_var (pv 1)) (da_nil pa_nil))))) (da_cons (pa_cons (de_mk1 T.EC_NoMachine (pe_mk1 T.E_NoMachine (ok_Missing T) (hr.mono (by decide)) T.b_Missing pass0 rfl (da_cons (pa_cons (de_var (pv 1)) (da_nil pa_nil))))) (da_cons (pa_cons (de_mk2 T.EC_Refused (pe_mk2 T.E_Refused (ok_Refused T) (hr.mono (by decide)) T.b_Refused pass0 rfl (da_cons (pa_cons (de_var (pv 1)) (da_cons (pa_cons (de_var (pv 2)) (da_nil pa_nil))))))) (da_cons (pa_cons (de_mk2 T.EC_TooMany (pe_mk2 T.E_TooMany (ok_TooMany T) (hr.mono (by decide)) T.b_TooMany pass0 rfl (da_cons (pa_cons (de_var (pv 1)) (da_cons (pa_cons (de_var (pv 2)) (da_nil pa_nil))))))) (da_cons (pa_cons (de_mk2 T.EC_BadText (pe_mk2 T.E_BadText (ok_BadText T) (hr.mono (by decide)) T.b_BadText pass0 rfl (da_cons (pa_cons (de_var (pv 1)) (da_cons (pa_cons (de_var (pv 2)) (da_nil pa_nil))))))) (da_cons (pa_cons (de_mk2 T.EC_BadLine (pe_mk2 T.E_BadLine (ok_BadLine T) (hr.mono (by decide)) T.b_BadLine pass0 rfl (da_cons (pa_cons (de_var (pv 1)) (da_cons (pa_cons (de_var (pv 2)) (da_nil pa_nil))))))) (da_nil pa_nil)))))))))))))))))))))
        (pss_one (ds_ret (ps_ret (de_ix (pe_ix ix_U (de_op fit_add (pe_op op_addU (de_var (pv 3)) (de_lst (pe_lstN (da_cons (pa_cons (de_mk0 T.EC_Full (pe_mk0 PySem.F.excBase_ValueError T.Q_Full T.G_Full T.K_Full rfl)) (da_cons (pa_cons (de_mk0 T.EC_Off (pe_mk0 PySem.F.excBase_ValueError T.Q_Off T.G_Off T.K_Off rfl)) (da_cons (pa_cons (de_mk0 T.EC_On (pe_mk0 PySem.F.excBase_ValueError T.Q_On T.G_On T.K_On rfl)) (da_cons (pa_cons (de_mk0 T.EC_Nothing (pe_mk0 PySem.F.excBase_ValueError T.Q_Nothing T.G_Nothing T.K_Nothing rfl)) (da_nil pa_nil))))))))))))) (de_var (pv 0)) (fun _ _ => rfl))))))))))))), ?_⟩)
  refine pure3 (m := 1) h (fun _ _ _ => rfl) ?_
  rintro d x y ⟨k, rfl, hk⟩
  refine ⟨_, rfl, _, rfl, _, rfl, _, rfl, _, rfl, _, rfl, _, rfl, _, rfl, _, rfl, _, rfl, _, rfl, _, rfl, _, rfl, _, rfl, _, rfl, _, rfl, _, rfl, _, rfl, by simp, ?_⟩
  refine ⟨_, rfl, _, rfl, _, rfl, _, rfl, _, rfl, _, rfl, _, rfl, _, rfl, _, rfl, _, rfl, _, rfl, _, rfl, _, rfl, _, rfl, _, rfl, _, rfl, _, rfl, by simp, by simp, ?_⟩
  refine ⟨_, rfl, _, rfl, _, rfl, _, rfl, _, rfl, _, rfl, _, rfl, _, rfl, _, rfl, _, _, rfl, _, rfl, _, rfl, _, _, rfl, _, rfl, _, rfl, _, _, rfl, _, rfl, _, rfl, _, _, rfl, by simp, by simp, ?_⟩
  refine ⟨_, rfl, by simp, by simp, _, rfl, (k : Int), rfl, errK fa k x y, atI_nat ?_, rfl⟩
  exact at_k fa x y k hk
theorem ok__law_by_name {P : Program} {w : World} {K : PySem.W.Frag} {mg : Str → Option Value} {base : Heap} {fa : Nat → Addr} {fd : Nat → FuncData} (T : Txt K mg fa fd) : FnOk P w K mg base CX0 4 (fa 37) (fd 37) ["at", "one", "other"] (spPure K (Fn3 isAt fun d x y => errK fa (natOf d) x y)) := by
  have nd := sc__law_by_name.nd
  refine T.F__law_by_name.ok sc__law_by_name (fun vs H Q E h => len3 h) (fun cdv A outer s H vs Q E hr h => ⟨_, (pss0 (dss_cons (pss_cons (ds_set (ps_set (i := 3) nd rfl (Or.inl rfl) (de_lst (pe_lstN (da_cons (pa_cons (de_mk1 T.EC_BadNumber (pe_mk1k T.E_BadNumber (ok_BadNumber T) (hr.mono (by decide)) T.kb_BadNumber pass0 rfl (dk_cons (pk_cons (de_var (pv 1)) (dk_nil pk_nil))))) (da_cons (pa_cons (de_mk1 T.EC_BadBlock (pe_mk1k T.E_BadBlock (ok_BadBlock T) (hr.mono (by decide)) T.kb_BadBlock pass0 rfl (dk_cons (pk_cons (de_var (pv 1)) (dk_nil pk_nil))))) (da_cons (pa_cons (de_mk1 T.EC_BadRow (pe_mk1k T.E_BadRow (ok_BadRow T) (hr.mono (by decide)) T.kb_BadRow pass0 rfl (dk_cons (pk_cons (de_var (pv 1)) (dk_nil pk_nil))))) (da_cons (pa_cons (de_mk1 T.EC_BadPath (pe_mk1k T.E_BadPath (ok_BadPath T) (hr.mono (by decide)) T.kb_BadPath pass0 rfl (dk_cons (pk_cons (de_var (pv 1)) (dk_nil pk_nil))))) (da_cons (pa_cons (de_mk1 T.EC_BadValue (pe_mk1k T.E_BadValue (ok_BadValue T) (hr.mono (by decide)) T.kb_BadValue pass0 rfl (dk_cons (pk_cons (de_var (pv 1)) (dk_nil pk_nil))))) (da_cons (pa_cons (de_mk1 T.EC_BadTree (pe_mk1k T.E_BadTree (ok_BadTree T) (hr.mono (by decide)) T.kb_BadTree pass0 rfl (dk_cons (pk_cons (de_var (pv 1)) (dk_nil pk_nil))))) (da_nil pa_nil)))))))))))))))))
        (dss_cons (pss_cons (ds_set (ps_set (i := 3) nd rfl (Or.inl rfl) (de_op fit_add (pe_op op_addU (de_var (pv 3)) (de_lst (pe_lstN (da_cons (pa_cons (de_mk1 T.EC_BadDeed (pe_mk1k T.E_BadDeed (ok_BadDeed T) (hr.mono (by decide)) T.kb_BadDeed pass0 rfl (dk_cons (pk_cons (de_var (pv 1)) (dk_nil pk_nil))))) (da_cons (pa_cons (de_mk1 T.EC_BadEvent (pe_mk1k T.E_BadEvent (ok_BadEvent T) (hr.mono (by decide)) T.kb_BadEvent pass0 rfl (dk_cons (pk_cons (de_var (pv 1)) (dk_nil pk_nil))))) (da_cons (pa_cons (de_mk1 T.EC_BadHeard (pe_mk1k T.E_BadHeard (ok_BadHeard T) (hr.mono (by decide)) T.kb_BadHeard pass0 rfl (dk_cons (pk_cons (de_var (pv 1)) (dk_nil pk_nil))))) (da_cons (pa_cons (de_mk1 T.EC_BadLot (pe_mk1k T.E_BadLot (ok_BadLot T) (hr.mono (by decide)) T.kb_BadLot pass0 rfl (dk_cons (pk_cons (de_var (pv 1)) (dk_nil pk_nil))))) (da_cons (pa_cons (de_mk1 T.EC_BadLetter (pe_mk1k T.E_BadLetter (ok_BadLetter T) (hr.mono (by decide)) T.kb_BadLetter pass0 rfl (dk_cons (pk_cons (de_var (pv 1)) (dk_nil pk_nil))))) (da_cons (pa_cons (de_mk1 T.EC_BadMachine (pe_mk1k T.E_BadMachine (ok_BadMachine T) (hr.mono (by decide)) T.kb_BadMachine pass0 rfl (dk_cons (pk_cons (de_var (pv 1)) (dk_nil pk_nil))))) (da_nil pa_nil)))))))))))))))))))
        (dss_cons (pss_cons (ds_set (ps_set (i := 3) nd rfl (Or.inl rfl) (de_op fit_add (pe_op op_addU (de_var (pv 3)) (de_lst (pe_lstN (da_cons (pa_cons (de_mk1 T.EC_BadDisk (pe_mk1k T.E_BadDisk (ok_BadDisk T) (hr.mono (by decide)) T.kb_BadDisk pass0 rfl (dk_cons (pk_cons (de_var (pv 1)) (dk_nil pk_nil))))) (da_cons (pa_cons (de_mk1 T.EC_BadWorld (pe_mk1k T.E_BadWorld (ok_BadWorld T) (hr.mono (by decide)) T.kb_BadWorld pass0 rfl (dk_cons (pk_cons (de_var (pv 1)) (dk_nil pk_nil))))) (da_cons (pa_cons (de_mk1 T.EC_BadStep (pe_mk1k T.E_BadStep (ok_BadStep T) (hr.mono (by decide)) T.kb_BadStep pass0 rfl (dk_cons (pk_cons (de_var (pv 1)) (dk_nil pk_nil))))) (da_cons (pa_cons (de_mk1 T.EC_BadPaper (pe_mk1k T.E_BadPaper (ok_BadPaper T) (hr.mono (by decide)) T.kb_BadPaper pass0 rfl (dk_cons (pk_cons (de_var (pv 1)) (dk_nil pk_nil))))) (da_cons (pa_cons (de_mk1 T.EC_Misfit (pe_mk1k T.E_Misfit (ok_Misfit T) (hr.mono (by decide)) T.kb_Misfit pass0 rfl (dk_cons (pk_cons (de_var (pv 1)) (dk_nil pk_nil))))) (da_nil pa_nil)))))))))))))))))
        (dss_cons (pss_cons (ds_set (ps_set (i := 3) nd rfl (Or.inl rfl) (de_op fit_add (pe_op op_addU (de_var (pv 3)) (de_lst (pe_lstN (da_cons (pa_cons (de_mk1 T.EC_NoEvent (pe_mk1k T.E_NoEvent (ok_Missing T) (hr.mono (by decide)) T.kb_Missing pass0 rfl (dk_cons (pk_cons (de_var (pv 1)) (dk_nil pk_nil))))) (da_cons (pa_cons (de_mk1 T.EC_NoChange (pe_mk1k T.E_NoChange (ok_Missing T) (hr.mono (by decide)) T.kb_Missing pass0 rfl (dk_cons (pk_cons (de_var (pv 1)) (dk_nil pk_nil))))) (da_cons (pa_cons (de_mk1 T.EC_NoMachine (pe_mk1k T.E_NoMachine (ok_Missing T) (hr.mono (by decide)) T.kb_Missing pass0 rfl (dk_cons (pk_cons (de_var (pv 1)) (dk_nil pk_nil))))) (da_cons (pa_cons (de_mk2r T.EC_Refused (pe_mk2k T.E_Refused (ok_Refused T) (hr.mono (by decide)) T.kb_Refused pass0 rfl (dk_cons (pk_cons (de_var (pv 2)) (dk_cons (pk_cons (de_var (pv 1)) (dk_nil pk_nil))))))) (da_cons (pa_cons (de_mk2r T.EC_TooMany (pe_mk2k T.E_TooMany (ok_TooMany T) (hr.mono (by decide)) T.kb_TooMany pass0 rfl (dk_cons (pk_cons (de_var (pv 2)) (dk_cons (pk_cons (de_var (pv 1)) (dk_nil pk_nil))))))) (da_nil pa_nil)))))))))))))))))
        (pss_one (ds_ret (ps_ret (de_ix (pe_ix ix_U (de_op fit_add (pe_op op_addU (de_var (pv 3)) (de_lst (pe_lstN (da_cons (pa_cons (de_mk2r T.EC_BadText (pe_mk2k T.E_BadText (ok_BadText T) (hr.mono (by decide)) T.kb_BadText pass0 rfl (dk_cons (pk_cons (de_var (pv 2)) (dk_cons (pk_cons (de_var (pv 1)) (dk_nil pk_nil))))))) (da_cons (pa_cons (de_mk2r T.EC_BadLine (pe_mk2k T.E_BadLine (ok_BadLine T) (hr.mono (by decide)) T.kb_BadLine pass0 rfl (dk_cons (pk_cons (de_var (pv 2)) (dk_cons (pk_cons (de_var (pv 1)) (dk_nil pk_nil))))))) (da_cons (pa_cons (de_mk0 T.EC_Full (pe_mk0 PySem.F.excBase_ValueError T.Q_Full T.G_Full T.K_Full rfl)) (da_cons (pa_cons (de_mk0 T.EC_Off (pe_mk0 PySem.F.excBase_ValueError T.Q_Off T.G_Off T.K_Off rfl)) (da_cons (pa_cons (de_mk0 T.EC_On (pe_mk0 PySem.F.excBase_ValueError T.Q_On T.G_On T.K_On rfl)) (da_cons (pa_cons (de_mk0 T.EC_Nothing (pe_mk0 PySem.F.excBase_ValueError T.Q_Nothing T.G_Nothing T.K_Nothing rfl)) (da_nil pa_nil))))))))))))))))) (de_var (pv 0)) (fun _ _ => rfl))))))))))))))), ?_⟩)
  refine pure3 (m := 1) h (fun _ _ _ => rfl) ?_
  rintro d x y ⟨k, rfl, hk⟩
  refine ⟨_, rfl, _, rfl, _, rfl, _, rfl, _, rfl, _, rfl, _, rfl, _, rfl, _, rfl, _, rfl, _, rfl, _, rfl, by simp, ?_⟩
  refine ⟨_, rfl, _, rfl, _, rfl, _, rfl, _, rfl, _, rfl, _, rfl, _, rfl, _, rfl, _, rfl, _, rfl, _, rfl, _, rfl, by simp, by simp, ?_⟩
  refine ⟨_, rfl, _, rfl, _, rfl, _, rfl, _, rfl, _, rfl, _, rfl, _, rfl, _, rfl, _, rfl, _, rfl, by simp, by simp, ?_⟩
  refine ⟨_, rfl, _, rfl, _, rfl, _, rfl, _, rfl, _, rfl, _, rfl, _, rfl, _, rfl, _, _, rfl, _, rfl, _, rfl, _, _, rfl, by simp, by simp, ?_⟩
  refine ⟨_, rfl, _, rfl, _, rfl, _, _, rfl, _, rfl, _, rfl, _, _, rfl, by simp, by simp, _, rfl, (k : Int), rfl, errK fa k x y, atI_nat ?_, rfl⟩
  exact at_k fa x y k hk
end K00
set_option maxHeartbeats 4000000
namespace K00
open PySem L2 MT RZ StX

local macro_rules | `(tactic| walk_at "sm") => `(tactic| first | exact Same.refl _ | assumption | exact New.same (by assumption) | exact Same.trans (by assumption) (by walk_at "sm") | exact Same.trans (New.same (by assumption)) (by walk_at "sm"))
local macro_rules | `(tactic| walk_at "fr") => `(tactic| first | exact Frm.refl | assumption | exact frm_same (New.same (by assumption)) | exact frm_same (by assumption) | exact Frm.trans (by assumption) (by walk_at "fr") | exact Frm.trans (frm_same (New.same (by assumption))) (by walk_at "fr") | exact Frm.trans (frm_same (by assumption)) (by walk_at "fr"))
local macro_rules | `(tactic| walk_at "dv") => `(tactic| first | exact Dv.int _ | exact Dv.bl _ | exact Dv.non | exact Dv.str _ | assumption | exact Dv.same (by assumption) (by walk_at "sm") | exact Dv.mono (by assumption) (by walk_at "fr"))
local macro_rules | `(tactic| walk_at "dvs") => `(tactic| first | exact DvAll.nil | exact DvAll.ints _ | (refine DvAll.cons ?_ ?_; walk_at "dv"; walk_at "dvs"))
theorem no_part {K : PySem.W.Frag} {mg : Str → Option Value} {fa : Nat → Addr} {fd : Nat → FuncData} (T : Txt K mg fa fd) : ∀ k, k < 17 → PySem.W.findIn K (.ref (fa (300 + k))) "part" = some none
  | 0, _ => T.E_BadNumber.noF
  | 1, _ => T.E_BadBlock.noF
  | 2, _ => T.E_BadRow.noF
  | 3, _ => T.E_BadPath.noF
  | 4, _ => T.E_BadValue.noF
  | 5, _ => T.E_BadTree.noF
  | 6, _ => T.E_BadDeed.noF
  | 7, _ => T.E_BadEvent.noF
  | 8, _ => T.E_BadHeard.noF
  | 9, _ => T.E_BadLot.noF
  | 10, _ => T.E_BadLetter.noF
  | 11, _ => T.E_BadMachine.noF
  | 12, _ => T.E_BadDisk.noF
  | 13, _ => T.E_BadWorld.noF
  | 14, _ => T.E_BadStep.noF
  | 15, _ => T.E_BadPaper.noF
  | 16, _ => T.E_Misfit.noF
  | k + 17, h => absurd h (by omega)
theorem no_value {K : PySem.W.Frag} {mg : Str → Option Value} {fa : Nat → Addr} {fd : Nat → FuncData} (T : Txt K mg fa fd) : ∀ k, 17 ≤ k → k < 20 → PySem.W.findIn K (.ref (fa (300 + k))) "value" = some none
  | 17, _, _ => T.E_NoEvent.noF
  | 18, _, _ => T.E_NoChange.noF
  | 19, _, _ => T.E_NoMachine.noF
  | k + 20, _, h => absurd h (by omega)
  | 0, h, _ => absurd h (by omega)
  | 1, h, _ => absurd h (by omega)
  | 2, h, _ => absurd h (by omega)
  | 3, h, _ => absurd h (by omega)
  | 4, h, _ => absurd h (by omega)
  | 5, h, _ => absurd h (by omega)
  | 6, h, _ => absurd h (by omega)
  | 7, h, _ => absurd h (by omega)
  | 8, h, _ => absurd h (by omega)
  | 9, h, _ => absurd h (by omega)
  | 10, h, _ => absurd h (by omega)
  | 11, h, _ => absurd h (by omega)
  | 12, h, _ => absurd h (by omega)
  | 13, h, _ => absurd h (by omega)
  | 14, h, _ => absurd h (by omega)
  | 15, h, _ => absurd h (by omega)
  | 16, h, _ => absurd h (by omega)
def fieldsK (k : Nat) (x y : PyData) : List PyData := if k < 20 then [x] else if k < 24 then [x, y] else []
def flagsD (k : Nat) : PyData := .list ((List.range 28).map fun j => .bool (decide (k = j)))
def PFld (fa : Nat → Addr) : FD := fun ds R => ∃ (k : Nat) (x y : PyData), ds = [.int (k : Nat), errK fa k x y] ∧ k < 28 ∧ R (.list (fieldsK k x y))
def PFlg (fa : Nat → Addr) : FD := fun ds R => ∃ (k : Nat) (ks : List (PyData × PyData)), ds = [excD (fa (300 + k)) ks] ∧ k < 29 ∧ R (flagsD k)
def PFar (fa : Nat → Addr) : FD := fun ds R => ∃ (k : Nat) (ks : List (PyData × PyData)), ds = [excD (fa (300 + k)) ks] ∧ k < 28 ∧ R (.bool false)
theorem ok__law_fields {P : Program} {w : World} {K : PySem.W.Frag} {mg : Str → Option Value} {base : Heap} {fa : Nat → Addr} {fd : Nat → FuncData} (T : Txt K mg fa fd) : FnOk P w K mg base CX0 1 (fa 38) (fd 38) ["at", "error"] (spPure K (PFld fa)) := by
  have nd := sc__law_fields.nd
  refine T.F__law_fields.ok sc__law_fields (fun vs H Q E h => lenG h fun ds R p => by obtain ⟨k, x, y, rfl, hk, r⟩ := p; rfl) (fun cdv A outer s H vs Q E hr h => ⟨_, (pss0 (dss_cons (pss_cons (ds_if (ps_if (dt_cmp fit_ord (pt_cmpR op_ltU (de_var (pv 0)) (de_int pe_int) (nomark _)))
          (pss_one (ds_ret (ps_ret (de_lst (pe_lstN (da_cons (pa_cons (de_xf (pe_xfK (de_var (pv 1)))) (da_nil pa_nil))))))))
          (dss_nil pss_nil)))
        (dss_cons (pss_cons (ds_if (ps_if (dt_cmp fit_ord (pt_cmpR op_ltU (de_var (pv 0)) (de_int pe_int) (nomark _)))
          (pss_one (ds_ret (ps_ret (de_lst (pe_lstN (da_cons (pa_cons (de_xf (pe_xfK (de_var (pv 1)))) (da_nil pa_nil))))))))
          (dss_nil pss_nil)))
        (dss_cons (pss_cons (ds_if (ps_if (dt_cmp fit_ord (pt_cmpR op_gtU (de_var (pv 0)) (de_int pe_int) (nomark _)))
          (pss_one (ds_ret (ps_ret (de_lst (pe_lstN (da_nil pa_nil))))))
          (dss_nil pss_nil)))
        (pss_one (ds_ret (ps_ret (de_ix (pe_ix ix_U (de_lst (pe_lstN (da_cons (pa_cons (de_if (pe_ifExp (dt_cmp fit_eq (pt_cmpR (op_eqD hr.units) (de_var (pv 0)) (de_int pe_int) (nomark _))) (de_lst (pe_lstN (da_cons (pa_cons (de_xf (pe_xfK (de_var (pv 1)))) (da_cons (pa_cons (de_xf (pe_xfK (de_var (pv 1)))) (da_nil pa_nil))))))) (de_if (pe_ifExp (dt_cmp fit_eq (pt_cmpR (op_eqD hr.units) (de_var (pv 0)) (de_int pe_int) (nomark _))) (de_lst (pe_lstN (da_cons (pa_cons (de_xf (pe_xfK (de_var (pv 1)))) (da_cons (pa_cons (de_xf (pe_xfK (de_var (pv 1)))) (da_nil pa_nil))))))) (de_if (pe_ifExp (dt_cmp fit_eq (pt_cmpR (op_eqD hr.units) (de_var (pv 0)) (de_int pe_int) (nomark _))) (de_lst (pe_lstN (da_cons (pa_cons (de_xf (pe_xfK (de_var (pv 1)))) (da_cons (pa_cons (de_xf (pe_xfK (de_var (pv 1)))) (da_nil pa_nil))))))) (de_lst (pe_lstN (da_cons (pa_cons (de_xf (pe_xfK (de_var (pv 1)))) (da_cons (pa_cons (de_xf (pe_xfK (de_var (pv 1)))) (da_nil pa_nil))))))))))))) (da_nil pa_nil))))) (de_int pe_int) (fun _ _ => rfl))))))))))))), ?_⟩)
  refine pureG h ?_
  rintro ds R ⟨k, x, y, rfl, hk, r⟩
  refine ⟨_, rfl, _, rfl, ite2 (fun h => ?_) (fun h => ?_)⟩
  · have h : ((k : Nat) : Int) < 17 := of_decide_eq_true h
    have f : fieldsK k x y = [x] := if_pos (by omega)
    rw [f] at r
    exact ⟨_, rfl, fa (300 + k), _, x, if_pos (by omega), no_part T k (by omega), if_pos rfl, by simp, r⟩
  have h1 : ¬ ((k : Nat) : Int) < 17 := fun q => h (decide_eq_true q)
  refine ⟨_, rfl, _, rfl, ite2 (fun h => ?_) (fun h => ?_)⟩
  · have h : ((k : Nat) : Int) < 20 := of_decide_eq_true h
    have f : fieldsK k x y = [x] := if_pos (by omega)
    rw [f] at r
    exact ⟨_, rfl, fa (300 + k), _, x, (if_neg (by omega)).trans (if_pos (by omega)), no_value T k (by omega) (by omega), if_pos rfl, by simp, r⟩
  have h2 : ¬ ((k : Nat) : Int) < 20 := fun q => h (decide_eq_true q)
  refine ⟨_, rfl, _, rfl, ite2 (fun h => ?_) (fun h => ?_)⟩
  · have h : (23 : Int) < ((k : Nat) : Int) := of_decide_eq_true h
    have f : fieldsK k x y = [] := (if_neg (by omega)).trans (if_neg (by omega))
    rw [f] at r
    exact ⟨by simp, r⟩
  have h3 : ¬ (23 : Int) < ((k : Nat) : Int) := fun q => h (decide_eq_true q)
  have c : k = 20 ∨ k = 21 ∨ k = 22 ∨ k = 23 := by omega
  rcases c with rfl | rfl | rfl | rfl
  · exact ⟨_, rfl, by decide +kernel, by decide +kernel, _, rfl, iteT' (by decide +kernel) ⟨_, rfl, fa 320, _, x, rfl, T.E_Refused.one.noF, rfl, _, rfl, fa 320, _, y, rfl, T.E_Refused.noG, rfl, by simp, by simp, 0, rfl, _, rfl, r⟩⟩
  · exact ⟨_, rfl, by decide +kernel, by decide +kernel, _, rfl, iteF' (by decide +kernel) ⟨_, rfl, by decide +kernel, by decide +kernel, _, rfl, iteT' (by decide +kernel) ⟨_, rfl, fa 321, _, x, rfl, T.E_TooMany.one.noF, rfl, _, rfl, fa 321, _, y, rfl, T.E_TooMany.noG, rfl, by simp, by simp, 0, rfl, _, rfl, r⟩⟩⟩
  · exact ⟨_, rfl, by decide +kernel, by decide +kernel, _, rfl, iteF' (by decide +kernel) ⟨_, rfl, by decide +kernel, by decide +kernel, _, rfl, iteF' (by decide +kernel) ⟨_, rfl, by decide +kernel, by decide +kernel, _, rfl, iteT' (by decide +kernel) ⟨_, rfl, fa 322, _, x, rfl, T.E_BadText.one.noF, rfl, _, rfl, fa 322, _, y, rfl, T.E_BadText.noG, rfl, by simp, by simp, 0, rfl, _, rfl, r⟩⟩⟩⟩
  · exact ⟨_, rfl, by decide +kernel, by decide +kernel, _, rfl, iteF' (by decide +kernel) ⟨_, rfl, by decide +kernel, by decide +kernel, _, rfl, iteF' (by decide +kernel) ⟨_, rfl, by decide +kernel, by decide +kernel, _, rfl, iteF' (by decide +kernel) ⟨_, rfl, fa 323, _, x, rfl, T.E_BadLine.one.noF, rfl, _, rfl, fa 323, _, y, rfl, T.E_BadLine.noG, rfl, by simp, by simp, 0, rfl, _, rfl, r⟩⟩⟩⟩
theorem ok__law_flags {P : Program} {w : World} {K : PySem.W.Frag} {mg : Str → Option Value} {base : Heap} {fa : Nat → Addr} {fd : Nat → FuncData} (T : Txt K mg fa fd) : FnOk P w K mg base CX0 1 (fa 39) (fd 39) ["error"] (spPure K (PFlg fa)) := by
  have nd := sc__law_flags.nd
  refine T.F__law_flags.ok sc__law_flags (fun vs H Q E h => lenG h fun ds R p => by obtain ⟨k, ks, rfl, hk, r⟩ := p; rfl) (fun cdv A outer s H vs Q E hr h => ⟨_, (pss0 (dss_cons (pss_cons (ds_set (ps_set (i := 1) nd rfl (Or.inl rfl) (de_lst (pe_lstN (da_cons (pa_cons (de_isX (.own _) (pe_callB call_isiY (by rfl) T.n_isinstance (by decide +kernel) (pa_cons (de_var (pv 0)) (pa_cons (pe_glob (v := .ref _) rfl T.E_BadNumber.gC rfl) pa_nil)))) (da_cons (pa_cons (de_isX (.own _) (pe_callB call_isiY (by rfl) T.n_isinstance (by decide +kernel) (pa_cons (de_var (pv 0)) (pa_cons (pe_glob (v := .ref _) rfl T.E_BadBlock.gC rfl) pa_nil)))) (da_cons (pa_cons (de_isX (.own _) (pe_callB call_isiY (by rfl) T.n_isinstance (by decide +kernel) (pa_cons (de_var (pv 0)) (pa_cons (pe_glob (v := .ref _) rfl T.E_BadRow.gC rfl) pa_nil)))) (da_cons (pa_cons (de_isX (.own _) (pe_callB call_isiY (by rfl) T.n_isinstance (by decide +kernel) (pa_cons (de_var (pv 0)) (pa_cons (pe_glob (v := .ref _) rfl T.E_BadPath.gC rfl) pa_nil)))) (da_cons (pa_cons (de_isX (.own _) (pe_callB call_isiY (by rfl) T.n_isinstance (by decide +kernel) (pa_cons (de_var (pv 0)) (pa_cons (pe_glob (v := .ref _) rfl T.E_BadValue.gC rfl) pa_nil)))) (da_cons (pa_cons (de_isX (.own _) (pe_callB call_isiY (by rfl) T.n_isinstance (by decide +kernel) (pa_cons (de_var (pv 0)) (pa_cons (pe_glob (v := .ref _) rfl T.E_BadTree.gC rfl) pa_nil)))) (da_nil pa_nil)))))))))))))))))
        (dss_cons (pss_cons (ds_set (ps_set (i := 1) nd rfl (Or.inl rfl) (de_op fit_add (pe_op op_addU (de_var (pv 1)) (de_lst (pe_lstN (da_cons (pa_cons (de_isX (.own _) (pe_callB call_isiY (by rfl) T.n_isinstance (by decide +kernel) (pa_cons (de_var (pv 0)) (pa_cons (pe_glob (v := .ref _) rfl T.E_BadDeed.gC rfl) pa_nil)))) (da_cons (pa_cons (de_isX (.own _) (pe_callB call_isiY (by rfl) T.n_isinstance (by decide +kernel) (pa_cons (de_var (pv 0)) (pa_cons (pe_glob (v := .ref _) rfl T.E_BadEvent.gC rfl) pa_nil)))) (da_cons (pa_cons (de_isX (.own _) (pe_callB call_isiY (by rfl) T.n_isinstance (by decide +kernel) (pa_cons (de_var (pv 0)) (pa_cons (pe_glob (v := .ref _) rfl T.E_BadHeard.gC rfl) pa_nil)))) (da_cons (pa_cons (de_isX (.own _) (pe_callB call_isiY (by rfl) T.n_isinstance (by decide +kernel) (pa_cons (de_var (pv 0)) (pa_cons (pe_glob (v := .ref _) rfl T.E_BadLot.gC rfl) pa_nil)))) (da_cons (pa_cons (de_isX (.own _) (pe_callB call_isiY (by rfl) T.n_isinstance (by decide +kernel) (pa_cons (de_var (pv 0)) (pa_cons (pe_glob (v := .ref _) rfl T.E_BadLetter.gC rfl) pa_nil)))) (da_cons (pa_cons (de_isX (.own _) (pe_callB call_isiY (by rfl) T.n_isinstance (by decide +kernel) (pa_cons (de_var (pv 0)) (pa_cons (pe_glob (v := .ref _) rfl T.E_BadMachine.gC rfl) pa_nil)))) (da_nil pa_nil)))))))))))))))))))
        (dss_cons (pss_cons (ds_set (ps_set (i := 1) nd rfl (Or.inl rfl) (de_op fit_add (pe_op op_addU (de_var (pv 1)) (de_lst (pe_lstN (da_cons (pa_cons (de_isX (.own _) (pe_callB call_isiY (by rfl) T.n_isinstance (by decide +kernel) (pa_cons (de_var (pv 0)) (pa_cons (pe_glob (v := .ref _) rfl T.E_BadDisk.gC rfl) pa_nil)))) (da_cons (pa_cons (de_isX (.own _) (pe_callB call_isiY (by rfl) T.n_isinstance (by decide +kernel) (pa_cons (de_var (pv 0)) (pa_cons (pe_glob (v := .ref _) rfl T.E_BadWorld.gC rfl) pa_nil)))) (da_cons (pa_cons (de_isX (.own _) (pe_callB call_isiY (by rfl) T.n_isinstance (by decide +kernel) (pa_cons (de_var (pv 0)) (pa_cons (pe_glob (v := .ref _) rfl T.E_BadStep.gC rfl) pa_nil)))) (da_cons (pa_cons (de_isX (.own _) (pe_callB call_isiY (by rfl) T.n_isinstance (by decide +kernel) (pa_cons (de_var (pv 0)) (pa_cons (pe_glob (v := .ref _) rfl T.E_BadPaper.gC rfl) pa_nil)))) (da_cons (pa_cons (de_isX (.own _) (pe_callB call_isiY (by rfl) T.n_isinstance (by decide +kernel) (pa_cons (de_var (pv 0)) (pa_cons (pe_glob (v := .ref _) rfl T.E_Misfit.gC rfl) pa_nil)))) (da_nil pa_nil)))))))))))))))))
        (dss_cons (pss_cons (ds_set (ps_set (i := 1) nd rfl (Or.inl rfl) (de_op fit_add (pe_op op_addU (de_var (pv 1)) (de_lst (pe_lstN (da_cons (pa_cons (de_isX (.own _) (pe_callB call_isiY (by rfl) T.n_isinstance (by decide +kernel) (pa_cons (de_var (pv 0)) (pa_cons (pe_glob (v := .ref _) rfl T.E_NoEvent.gC rfl) pa_nil)))) (da_cons (pa_cons (de_isX (.own _) (pe_callB call_isiY (by rfl) T.n_isinstance (by decide +kernel) (pa_cons (de_var (pv 0)) (pa_cons (pe_glob (v := .ref _) rfl T.E_NoChange.gC rfl) pa_nil)))) (da_cons (pa_cons (de_isX (.own _) (pe_callB call_isiY (by rfl) T.n_isinstance (by decide +kernel) (pa_cons (de_var (pv 0)) (pa_cons (pe_glob (v := .ref _) rfl T.E_NoMachine.gC rfl) pa_nil)))) (da_cons (pa_cons (de_isX (.own _) (pe_callB call_isiY (by rfl) T.n_isinstance (by decide +kernel) (pa_cons (de_var (pv 0)) (pa_cons (pe_glob (v := .ref _) rfl T.E_Refused.one.gC rfl) pa_nil)))) (da_nil pa_nil)))))))))))))))
        (dss_cons (pss_cons (ds_set (ps_set (i := 1) nd rfl (Or.inl rfl) (de_op fit_add (pe_op op_addU (de_var (pv 1)) (de_lst (pe_lstN (da_cons (pa_cons (de_isX (.own _) (pe_callB call_isiY (by rfl) T.n_isinstance (by decide +kernel) (pa_cons (de_var (pv 0)) (pa_cons (pe_glob (v := .ref _) rfl T.E_TooMany.one.gC rfl) pa_nil)))) (da_cons (pa_cons (de_isX (.own _) (pe_callB call_isiY (by rfl) T.n_isinstance (by decide +kernel) (pa_cons (de_var (pv 0)) (pa_cons (pe_glob (v := .ref _) rfl T.E_BadText.one.gC rfl) pa_nil)))) (da_cons (pa_cons (de_isX (.own _) (pe_callB call_isiY (by rfl) T.n_isinstance (by decide +kernel) (pa_cons (de_var (pv 0)) (pa_cons (pe_glob (v := .ref _) rfl T.E_BadLine.one.gC rfl) pa_nil)))) (da_cons (pa_cons (de_isX (.own _) (pe_callB call_isiY (by rfl) T.n_isinstance (by decide +kernel) (pa_cons (de_var (pv 0)) (pa_cons (pe_glob (v := .ref _) rfl T.G_Full rfl) pa_nil)))) (da_nil pa_nil)))))))))))))))
        (pss_one (ds_ret (ps_ret (de_op fit_add (pe_op op_addU (de_var (pv 1)) (de_lst (pe_lstN (da_cons (pa_cons (de_isX (.own _) (pe_callB call_isiY (by rfl) T.n_isinstance (by decide +kernel) (pa_cons (de_var (pv 0)) (pa_cons (pe_glob (v := .ref _) rfl T.G_Off rfl) pa_nil)))) (da_cons (pa_cons (de_isX (.own _) (pe_callB call_isiY (by rfl) T.n_isinstance (by decide +kernel) (pa_cons (de_var (pv 0)) (pa_cons (pe_glob (v := .ref _) rfl T.G_On rfl) pa_nil)))) (da_cons (pa_cons (de_isX (.own _) (pe_callB call_isiY (by rfl) T.n_isinstance (by decide +kernel) (pa_cons (de_var (pv 0)) (pa_cons (pe_glob (v := .ref _) rfl T.G_Nothing rfl) pa_nil)))) (da_nil pa_nil))))))))))))))))))))))))), ?_⟩)
  refine pureG h ?_
  rintro ds R ⟨k, ks, rfl, hk, r⟩
  refine ⟨_, rfl, _, _, _, rfl, T.kits k 0 hk (by decide), _, rfl, _, _, _, rfl, T.kits k 1 hk (by decide), _, rfl, _, _, _, rfl, T.kits k 2 hk (by decide), _, rfl, _, _, _, rfl, T.kits k 3 hk (by decide), _, rfl, _, _, _, rfl, T.kits k 4 hk (by decide), _, rfl, _, _, _, rfl, T.kits k 5 hk (by decide), by simp, ?_⟩
  refine ⟨_, rfl, _, rfl, _, _, _, rfl, T.kits k 6 hk (by decide), _, rfl, _, _, _, rfl, T.kits k 7 hk (by decide), _, rfl, _, _, _, rfl, T.kits k 8 hk (by decide), _, rfl, _, _, _, rfl, T.kits k 9 hk (by decide), _, rfl, _, _, _, rfl, T.kits k 10 hk (by decide), _, rfl, _, _, _, rfl, T.kits k 11 hk (by decide), by simp, by simp, ?_⟩
  refine ⟨_, rfl, _, rfl, _, _, _, rfl, T.kits k 12 hk (by decide), _, rfl, _, _, _, rfl, T.kits k 13 hk (by decide), _, rfl, _, _, _, rfl, T.kits k 14 hk (by decide), _, rfl, _, _, _, rfl, T.kits k 15 hk (by decide), _, rfl, _, _, _, rfl, T.kits k 16 hk (by decide), by simp, by simp, ?_⟩
  refine ⟨_, rfl, _, rfl, _, _, _, rfl, T.kits k 17 hk (by decide), _, rfl, _, _, _, rfl, T.kits k 18 hk (by decide), _, rfl, _, _, _, rfl, T.kits k 19 hk (by decide), _, rfl, _, _, _, rfl, T.kits k 20 hk (by decide), by simp, by simp, ?_⟩
  refine ⟨_, rfl, _, rfl, _, _, _, rfl, T.kits k 21 hk (by decide), _, rfl, _, _, _, rfl, T.kits k 22 hk (by decide), _, rfl, _, _, _, rfl, T.kits k 23 hk (by decide), _, rfl, _, _, _, rfl, T.kits k 24 hk (by decide), by simp, by simp, ?_⟩
  refine ⟨_, rfl, _, rfl, _, _, _, rfl, T.kits k 25 hk (by decide), _, rfl, _, _, _, rfl, T.kits k 26 hk (by decide), _, rfl, _, _, _, rfl, T.kits k 27 hk (by decide), by simp, by simp, ?_⟩
  exact r
theorem ok__law_is_far {P : Program} {w : World} {K : PySem.W.Frag} {mg : Str → Option Value} {base : Heap} {fa : Nat → Addr} {fd : Nat → FuncData} (T : Txt K mg fa fd) : FnOk P w K mg base CX0 1 (fa 40) (fd 40) ["error"] (spPure K (PFar fa)) := by
  have nd := sc__law_is_far.nd
  refine T.F__law_is_far.ok sc__law_is_far (fun vs H Q E h => lenG h fun ds R p => by obtain ⟨k, ks, rfl, hk, r⟩ := p; rfl) (fun cdv A outer s H vs Q E hr h => ⟨_, (pss0 (pss_one (ds_ret (ps_ret (de_isX5 (pe_callB call_isiTY (by rfl) T.n_isinstance (by decide +kernel) (pa_cons (de_var (pv 0)) (pa_cons (pe_tupN (pa_cons (pe_bltn (v := .ty "LookupError") (u := .type "LookupError") (by rfl) T.n_LookupError (by decide +kernel) rfl) (pa_cons (pe_bltn (v := .ty "TypeError") (u := .type "TypeError") (by rfl) T.n_TypeError (by decide +kernel) rfl) (pa_cons (pe_bltn (v := .ty "ArithmeticError") (u := .type "ArithmeticError") (by rfl) T.n_ArithmeticError (by decide +kernel) rfl) (pa_cons (pe_bltn (v := .ty "AttributeError") (u := .type "AttributeError") (by rfl) T.n_AttributeError (by decide +kernel) rfl) (pa_cons (pe_bltn (v := .ty "RuntimeError") (u := .type "RuntimeError") (by rfl) T.n_RuntimeError (by decide +kernel) rfl) pa_nil)))))) pa_nil)))))))), ?_⟩)
  refine pureG h ?_
  rintro ds R ⟨k, ks, rfl, hk, r⟩
  exact ⟨_, rfl, _, _, _, rfl, T.kitF k hk, r⟩
end K00
set_option maxHeartbeats 4000000
namespace K00
open PySem L2 MT RZ StX

local macro_rules | `(tactic| walk_at "sm") => `(tactic| first | exact Same.refl _ | assumption | exact New.same (by assumption) | exact Same.trans (by assumption) (by walk_at "sm") | exact Same.trans (New.same (by assumption)) (by walk_at "sm"))
local macro_rules | `(tactic| walk_at "fr") => `(tactic| first | exact Frm.refl | assumption | exact frm_same (New.same (by assumption)) | exact frm_same (by assumption) | exact Frm.trans (by assumption) (by walk_at "fr") | exact Frm.trans (frm_same (New.same (by assumption))) (by walk_at "fr") | exact Frm.trans (frm_same (by assumption)) (by walk_at "fr"))
local macro_rules | `(tactic| walk_at "dv") => `(tactic| first | exact Dv.int _ | exact Dv.bl _ | exact Dv.non | exact Dv.str _ | assumption | exact Dv.same (by assumption) (by walk_at "sm") | exact Dv.mono (by assumption) (by walk_at "fr"))
local macro_rules | `(tactic| walk_at "dvs") => `(tactic| first | exact DvAll.nil | exact DvAll.ints _ | (refine DvAll.cons ?_ ?_; walk_at "dv"; walk_at "dvs"))

theorem seq_set {S U : TDS} {ρ : List DS} {n : Nat} {Rn : List DS → Nat → Prop} {Rr : QD} (P : List DS → Prop) (a : ∀ J : List DS → Nat → Prop, (∀ ρ', P ρ' → J ρ' n) → S ρ n J Rr) (b : ∀ ρ', P ρ' → U ρ' n Rn Rr) : qSeq S U ρ n Rn Rr :=
  a (fun ρ2 n2 => U ρ2 n2 Rn Rr) b
theorem nn_self (a : Str) : (!decide (a = a)) = false := by rw [decide_eq_true rfl]; rfl
theorem errK_exc (fa : Nat → Addr) (k : Nat) (x y : PyData) : ∃ ks, errK fa k x y = excD (fa (300 + k)) ks := by
  unfold errK
  split
  · exact ⟨_, rfl⟩
  split
  · exact ⟨_, rfl⟩
  split
  · exact ⟨_, rfl⟩
  split
  · exact ⟨_, rfl⟩
  split
  · exact ⟨_, rfl⟩
  split
  · exact ⟨_, rfl⟩
  · exact ⟨_, rfl⟩
theorem rep_one {d : PyData} (h : valB d = true) : okRepW d := by
  unfold valB at h
  simp only [Bool.and_eq_true, decide_eq_true_eq] at h
  obtain ⟨_, b1, b2, b3, b4, b5⟩ := h
  refine ⟨b1, b2, by omega, ?_⟩
  have e := PyData.shown_le 40 (by decide) d b4
  have := Nat.mul_le_mul_left 42 b5
  rw [sizeLine_eq]
  omega

def spLaw0 (K : PySem.W.Frag) : Sp := fun vs H Q _ => ∃ (a : Addr) (ns : List Int), vs = [.ref a] ∧ SqL K H a (ns.map V.int) ∧ ns.length ≤ 63 ∧ ∀ H', Q (.bl true) H'
theorem ok_law {P : Program} {w : World} {K : PySem.W.Frag} {mg : Str → Option Value} {base : Heap} {fa : Nat → Addr} {fd : Nat → FuncData} (T : Txt K mg fa fd) : FnG P w K mg base CX0 12 (fa 41) (fd 41) ["script"] (spLaw0 K) := by
  have nd := sc_law.nd
  refine okGn T.F_law sc_law (fun vs H Q E h => by obtain ⟨a, ns, rfl, _⟩ := h; rfl) fun cdv A outer s H vs Q E hq hr h => ?_
  obtain ⟨a0, ns0, rfl, hS, hlen, k⟩ := h
  refine ⟨_, pss_cons (ps_set (i := 1) nd rfl (Or.inl rfl) (pe_call (ok__law_satchel T) (hr.mono (by decide)) rfl T.g__law_satchel T.F__law_satchel.kp T.b__law_satchel .nil pass0 (pa_cons (pv 0) pa_nil))) (pss0 (dss_cons (pss_cons (ds_for fit_name (ps_for PassesOwn.never rfl (di_1 (pi_range1 rfl T.n_range (da_cons (pa_cons (de_int pe_int) (da_nil pa_nil))))) (pg_name (i := 2) nd rfl (Or.inr rfl))
          (dss_cons (pss_cons (ds_par (ps_par (i := 3) (j := 4) (by rfl) nd rfl rfl (by decide) rfl rfl (da_cons (pa_cons (de_draw (pe_call (ok__law_value T) (hr.mono (by decide)) rfl T.g__law_value T.F__law_value.kp T.b__law_value .nil pass0 (pa_cons (pv 1) (da_nil pa_nil)))) (da_cons (pa_cons (de_draw (pe_call (ok__law_value T) (hr.mono (by decide)) rfl T.g__law_value T.F__law_value.kp T.b__law_value .nil pass0 (pa_cons (pv 1) (da_nil pa_nil)))) (da_nil pa_nil))))) (by rfl)))
        (dss_cons (pss_cons (ds_set (ps_set (i := 5) nd rfl (Or.inl rfl) (de_if (pe_ifExp (dt_cmp fit_ord (pt_cmpR op_ltU (de_var (pv 2)) (de_int pe_int) (nomark _))) (de_lst (pe_lstN (da_cons (pa_cons (de_var (pv 3)) (da_nil pa_nil))))) (de_if (pe_ifExp (dt_cmp fit_ord (pt_cmpR op_ltU (de_var (pv 2)) (de_int pe_int) (nomark _))) (de_lst (pe_lstN (da_cons (pa_cons (de_var (pv 3)) (da_cons (pa_cons (de_var (pv 4)) (da_nil pa_nil))))))) (de_lst (pe_lstN (da_nil pa_nil)))))))))
        (pss_one (ds_for fit_name (ps_for PassesOwn.never rfl (di_U (pi_U (de_tup (pe_tupN (da_cons (pa_cons (de_call (pe_call (ok__law_by_place T) (hr.mono (by decide)) rfl T.g__law_by_place T.F__law_by_place.kp T.b__law_by_place .nil pass0 (da_cons (pa_cons (de_var (pv 2)) (da_cons (pa_cons (de_var (pv 3)) (da_cons (pa_cons (de_var (pv 4)) (da_nil pa_nil))))))))) (da_cons (pa_cons (de_call (pe_call (ok__law_by_name T) (hr.mono (by decide)) rfl T.g__law_by_name T.F__law_by_name.kp T.b__law_by_name .nil pass0 (da_cons (pa_cons (de_var (pv 2)) (da_cons (pa_cons (de_var (pv 3)) (da_cons (pa_cons (de_var (pv 4)) (da_nil pa_nil))))))))) (da_nil pa_nil))))))))) (pg_name (i := 6) nd rfl (Or.inl rfl))
          (dss_cons (pss_cons (ds_set (ps_set (i := 7) nd rfl (Or.inl rfl) (de_call (pe_call (ok__law_fields T) (hr.mono (by decide)) rfl T.g__law_fields T.F__law_fields.kp T.b__law_fields .nil pass0 (da_cons (pa_cons (de_var (pv 2)) (da_cons (pa_cons (de_var (pv 6)) (da_nil pa_nil)))))))))
        (dss_cons (pss_cons (ds_if (ps_if (PW.pt (dw_or (pw_or (dt_cmp fit_neSame (pt_cmpR (op_neS hr.units) (de_var (pv 7)) (de_var (pv 5)) (nomark _))) (dw_or (pw_or (dt_cmp fit_neS (pt_cmpR op_ne (de_cb fit_reprW (pe_callB (call_reprW hq hr) (by rfl) T.n_repr (by decide +kernel) (da_cons (pa_cons (de_var (pv 7)) (da_nil pa_nil))))) (de_cb fit_reprW (pe_callB (call_reprW hq hr) (by rfl) T.n_repr (by decide +kernel) (da_cons (pa_cons (de_var (pv 5)) (da_nil pa_nil))))) (nomark _))) (pw_or1 (dt_cmp fit_ne (pt_cmpR (op_neD hr.units) (de_call (pe_call (ok__law_flags T) (hr.mono (by decide)) rfl T.g__law_flags T.F__law_flags.kp T.b__law_flags .nil pass0 (da_cons (pa_cons (de_var (pv 6)) (da_nil pa_nil))))) (de_lc fit_name (pe_lc (own := [("place", 8)]) (by rfl) nd (di_1 (pi_range1 rfl T.n_range (da_cons (pa_cons (de_int pe_int) (da_nil pa_nil))))) (blkOk_by (N := sl_law) (sc := defScope s_law) (by decide +kernel)) (fun _ _ _ _ _ => (pg_name (i := 8) nd rfl (Or.inl rfl))) (fun _ _ _ _ _ => (dts_nil pts_nil)) (fun _ _ _ _ _ => (de_op fit_eq (pe_cmpR (op_eqD hr.units) (de_var (pv 8)) (de_var (pv 2)) (nomark _)))))) (nomark _)))))))))
          (pss_one (ds_ret (ps_ret (de_bl pe_bl))))
          (dss_nil pss_nil)))
        (dss_cons (pss_cons (ds_if (ps_if (PW.pt (dw_or (pw_or (dt_cmp fit_ne (pt_cmpR (op_neD hr.units) (de_isX (.own _) (pe_callB call_isiY (by rfl) T.n_isinstance (by decide +kernel) (pa_cons (de_var (pv 6)) (pa_cons (pe_glob (v := .ref _) rfl T.E_Missing.gC rfl) pa_nil)))) (de_op fit_inV (pe_cmpR (op_inV (room65 hr)) (de_var (pv 2)) (de_tup (pe_tupN (da_cons (pa_cons (de_int pe_int) (da_cons (pa_cons (de_int pe_int) (da_cons (pa_cons (de_int pe_int) (da_nil pa_nil))))))))) (by rfl))) (nomark _))) (dw_or (pw_or (dt_val (pt_val (de_call (pe_call (ok__law_is_far T) (hr.mono (by decide)) rfl T.g__law_is_far T.F__law_is_far.kp T.b__law_is_far .nil pass0 (da_cons (pa_cons (de_var (pv 6)) (da_nil pa_nil))))))) (pw_or1 (dt_not (pt_not (dt_val (pt_val (de_isX (.own _) (pe_callB call_isiY (by rfl) T.n_isinstance (by decide +kernel) (pa_cons (de_var (pv 6)) (pa_cons (pe_glob (v := .ref _) rfl T.M_MeetError rfl) pa_nil))))))))))))))
          (pss_one (ds_ret (ps_ret (de_bl pe_bl))))
          (dss_nil pss_nil)))
        (pss_one (ds_if (ps_if (dt_not (pt_not (dt_val (pt_val (de_isX (.ty _) (pe_callB call_isiY (by rfl) T.n_isinstance (by decide +kernel) (pa_cons (de_var (pv 6)) (pa_cons (pe_bltn (v := .ty "ValueError") (u := .type "ValueError") (by rfl) T.n_ValueError (by decide +kernel) rfl) pa_nil))))))))
          (pss_one (ds_ret (ps_ret (de_bl pe_bl))))
          (dss_nil pss_nil)))))))))))))))))))
        (dss_cons (pss_cons (ds_set (ps_set (i := 3) nd rfl (Or.inl rfl) (de_draw (pe_call (ok__law_value T) (hr.mono (by decide)) rfl T.g__law_value T.F__law_value.kp T.b__law_value .nil pass0 (pa_cons (pv 1) (da_nil pa_nil))))))
        (pss_one (ds_ret (ps_ret (de_and (pe_and (de_op fit_eqS (pe_cmpR op_eq (de_cb fit_reprW (pe_callB (call_reprW hq hr) (by rfl) T.n_repr (by decide +kernel) (da_cons (pa_cons (de_xf (pe_xfK (de_mk1 T.EC_Missing (pe_mk1k T.E_Missing (ok_Missing T) (hr.mono (by decide)) T.kb_Missing pass0 rfl (dk_cons (pk_cons (de_var (pv 3)) (dk_nil pk_nil))))))) (da_nil pa_nil))))) (de_cb fit_reprW (pe_callB (call_reprW hq hr) (by rfl) T.n_repr (by decide +kernel) (da_cons (pa_cons (de_var (pv 3)) (da_nil pa_nil))))) (nomark _))) (de_and (pe_and (de_op fit_eq (pe_cmpR (op_eqD hr.units) (de_call (pe_call (ok__law_flags T) (hr.mono (by decide)) rfl T.g__law_flags T.F__law_flags.kp T.b__law_flags .nil pass0 (da_cons (pa_cons (de_mk1 T.EC_Missing (pe_mk1 T.E_Missing (ok_Missing T) (hr.mono (by decide)) T.b_Missing pass0 rfl (da_cons (pa_cons (de_var (pv 3)) (da_nil pa_nil))))) (da_nil pa_nil))))) (de_op fit_mul (pe_op op_mulU (de_lst (pe_lstN (da_cons (pa_cons (de_bl pe_bl) (da_nil pa_nil))))) (de_int pe_int))) (nomark _))) (pe_one (de_isX (.own _) (pe_callB call_isiY (by rfl) T.n_isinstance (by decide +kernel) (pa_cons (de_mk1 T.EC_Missing (pe_mk1 T.E_Missing (ok_Missing T) (hr.mono (by decide)) T.b_Missing pass0 rfl (da_cons (pa_cons (de_var (pv 3)) (da_nil pa_nil))))) (pa_cons (pe_glob (v := .ref _) rfl T.M_MeetError rfl) pa_nil))))))))))))))))), ?_⟩
  refine ⟨_, rfl, a0, ns0, rfl, hS, hlen, fun p b cs H1 s1 S1 hp => ?_⟩
  refine (show tDs K none _ { nx := fun _ H' => Q .non H', rt := Q } (some (.ref a0) :: some (.ref p) :: List.replicate 7 none) H1 from law_data S1 k ?_)
  have tF : ∀ i, i < 29 → tame (flagsD i) = true := by decide +kernel
  have tG : ∀ i, i < 28 → tame (.list (((List.range 28).map fun j => PyData.int (0 + (j : Nat))).map fun z => PyData.bool (PyData.eqv z (.int (i : Nat))))) = true := by decide +kernel
  have eF : ∀ i, i < 28 → PyData.eqv (flagsD i) (.list (((List.range 28).map fun j => PyData.int (0 + (j : Nat))).map fun z => PyData.bool (PyData.eqv z (.int (i : Nat))))) = true := by decide +kernel
  have eI : ∀ i, i < 28 → PyData.eqv (.bool (decide (i = 17) || (decide (i = 18) || decide (i = 19)))) (.bool (inD (.int (i : Nat)) [.int 17, .int 18, .int 19])) = true := by decide +kernel
  have tB : ∀ b, tame (.bool b) = true := by decide +kernel
  have tN : ∀ i : Int, tame (.int i) = true := fun i => rfl
  refine ⟨28, rfl, by decide, by decide, fun i ρ m => (∃ x2 x3 x4 x5 x6 x7 x8, ρ = [.no, .dr, x2, x3, x4, x5, x6, x7, x8]) ∧ m ≤ 10 * i, ⟨⟨_, _, _, _, _, _, _, rfl⟩, by omega⟩, ?_, ?g9⟩
  case g9 =>
    rintro ρ m ⟨⟨x2, x3, x4, x5, x6, x7, x8, rfl⟩, hm⟩
    have hm : m ≤ 10 * 28 := by simpa [rng_len] using hm
    refine ⟨rfl, by omega, rfl, fun y vy => ?_⟩
    have t1 : tame (.list (List.replicate (28 : Int).toNat [PyData.bool false]).flatten) = true := by decide +kernel
    have t2 : PyData.eqv (flagsD 28) (.list (List.replicate (28 : Int).toNat [PyData.bool false]).flatten) = true := by decide +kernel
    refine ⟨_, rfl, _, rfl, _, _, _, rfl, T.E_Missing.noF, rfl, _, rfl, rep_one vy, _, rfl, _, rfl, rep_one vy, _, _, rfl, rfl, _, rfl, iteT' (decide_eq_true rfl) ?_⟩
    refine ⟨_, rfl, _, rfl, 28, _, rfl, by decide, by simp, ⟨by decide, by decide, by decide⟩, tF 28 (by decide), t1, _, rfl, iteT' t2 ?_⟩
    exact ⟨_, rfl, _, rfl, _, _, _, rfl, T.kitT 28 (by decide), rfl⟩
  rintro i x ρ m hx ⟨⟨x2, x3, x4, x5, x6, x7, x8, rfl⟩, hm⟩
  obtain ⟨hi, rfl⟩ := rng_at hx
  have hi : i < 28 := hi
  rw [Int.zero_add]
  refine ⟨rfl, by omega, rfl, fun y1 v1 => ?_⟩
  refine ⟨rfl, by omega, rfl, fun y2 v2 => ?_⟩
  refine ⟨_, _, rfl, ?_⟩
  refine seq_set (fun ρ' => ρ' = [.no, .dr, .d (.int (i : Nat)), .d y1, .d y2, .d (.list (fieldsK i y1 y2)), x6, x7, x8]) ?_ ?_
  · intro J hJ
    refine ⟨_, rfl, _, rfl, ite2 (fun h => ?_) (fun h => ?_)⟩
    · have h : ((i : Nat) : Int) < 20 := of_decide_eq_true h
      have f : fieldsK i y1 y2 = [y1] := if_pos (by omega)
      exact ⟨_, rfl, by simp, hJ _ (by rw [f]; rfl)⟩
    have h1 : ¬ ((i : Nat) : Int) < 20 := fun q => h (decide_eq_true q)
    refine ⟨_, rfl, _, rfl, ite2 (fun h => ?_) (fun h => ?_)⟩
    · have h : ((i : Nat) : Int) < 24 := of_decide_eq_true h
      have f : fieldsK i y1 y2 = [y1, y2] := (if_neg (by omega)).trans (if_pos (by omega))
      exact ⟨_, rfl, _, rfl, by simp, hJ _ (by rw [f]; rfl)⟩
    · have h2 : ¬ ((i : Nat) : Int) < 24 := fun q => h (decide_eq_true q)
      have f : fieldsK i y1 y2 = [] := (if_neg (by omega)).trans (if_neg (by omega))
      exact ⟨by simp, hJ _ (by rw [f]; rfl)⟩
  rintro ρ' rfl
  have vs : ∀ d ∈ fieldsK i y1 y2, valB d = true := fun d hd => by
    unfold fieldsK at hd
    split at hd
    · rw [List.mem_singleton.mp hd]; exact v1
    · split at hd
      · rcases List.mem_cons.mp hd with q | q
        · rw [q]; exact v1
        · rw [List.mem_singleton.mp q]; exact v2
      · cases hd
  have ln : (fieldsK i y1 y2).length ≤ 2 := by
    unfold fieldsK
    split
    · simp
    · split <;> simp
  obtain ⟨rp, fn⟩ := rep_val vs ln
  obtain ⟨ks, ek⟩ := errK_exc fa i y1 y2
  refine ⟨_, rfl, _, rfl, _, rfl, _, _, _, rfl, ⟨i, rfl, hi⟩, _, rfl, _, rfl, _, rfl, _, _, _, rfl, ⟨i, rfl, hi⟩, by simp, _, rfl, fun j ρ q => (∃ x6 x7 x8, ρ = [.no, .dr, .d (.int (i : Nat)), .d y1, .d y2, .d (.list (fieldsK i y1 y2)), x6, x7, x8]) ∧ q = m + 5 + 5, ⟨⟨_, _, _, rfl⟩, rfl⟩, ?_, ?g8⟩
  case g8 =>
    rintro ρ' q ⟨⟨x6, x7, x8, rfl⟩, rfl⟩
    exact ⟨⟨_, _, _, _, _, _, _, rfl⟩, by omega⟩
  rintro j x ρ q hx ⟨⟨x6, x7, x8, rfl⟩, rfl⟩
  have hx : x = errK fa i y1 y2 := by
    match j, hx with
    | 0, hx => exact (Option.some.inj hx).symm
    | 1, hx => exact (Option.some.inj hx).symm
    | j + 2, hx => cases hx
  subst hx
  refine ⟨_, rfl, _, rfl, i, y1, y2, rfl, hi, ?_⟩
  refine ⟨_, rfl, _, rfl, _, rfl, rfl, fn, _, rfl, iteF' rfl ?_⟩
  refine ⟨_, rfl, _, rfl, rp, _, rfl, _, rfl, rp, _, _, rfl, rfl, _, rfl, iteF' (nn_self _) ?_⟩
  refine ⟨_, rfl, i, ks, congrArg (fun z => [z]) ek, by omega, 28, rfl, by decide, by decide, lc_map (fun z => PyData.bool (PyData.eqv z (.int (i : Nat)))) (by simp) (fun z hz Ky ky => ?_) ?_⟩
  · obtain ⟨j, _, rfl⟩ := List.mem_map.mp hz
    exact ⟨_, rfl, _, rfl, tN _, tN _, ky⟩
  refine ⟨tF i (by omega), tG i hi, _, rfl, iteF' (by
    show (!PyData.eqv (flagsD i) (.list (((List.range 28).map fun j => PyData.int (0 + (j : Nat))).map fun z => PyData.bool (PyData.eqv z (.int (i : Nat)))))) = false
    rw [eF i hi]; rfl) ?_⟩
  refine ⟨_, rfl, _, _, _, ek, T.kitM i hi, _, rfl, by simp, tN _, by decide +kernel, tB _, tB _, _, rfl, iteF' (by
    show (!PyData.eqv (.bool (decide (i = 17) || (decide (i = 18) || decide (i = 19)))) (.bool (inD (.int (i : Nat)) [.int 17, .int 18, .int 19]))) = false
    rw [eI i hi]; rfl) ?_⟩
  refine ⟨_, rfl, i, ks, congrArg (fun z => [z]) ek, hi, _, rfl, iteF' rfl ?_⟩
  refine ⟨_, rfl, _, _, true, ek, T.kitT i (by omega), _, rfl, iteF' rfl ?_⟩
  refine ⟨_, rfl, _, _, true, ek, T.kitV i hi, _, rfl, iteF' rfl ?_⟩
  exact ⟨⟨_, _, _, rfl⟩, rfl⟩
end K00
set_option maxHeartbeats 4000000
namespace K00
open PySem L2 MT RZ StX

local macro_rules | `(tactic| walk_at "sm") => `(tactic| first | exact Same.refl _ | assumption | exact New.same (by assumption) | exact Same.trans (by assumption) (by walk_at "sm") | exact Same.trans (New.same (by assumption)) (by walk_at "sm"))
local macro_rules | `(tactic| walk_at "fr") => `(tactic| first | exact Frm.refl | assumption | exact frm_same (New.same (by assumption)) | exact frm_same (by assumption) | exact Frm.trans (by assumption) (by walk_at "fr") | exact Frm.trans (frm_same (New.same (by assumption))) (by walk_at "fr") | exact Frm.trans (frm_same (by assumption)) (by walk_at "fr"))
local macro_rules | `(tactic| walk_at "dv") => `(tactic| first | exact Dv.int _ | exact Dv.bl _ | exact Dv.non | exact Dv.str _ | assumption | exact Dv.same (by assumption) (by walk_at "sm") | exact Dv.mono (by assumption) (by walk_at "fr"))
local macro_rules | `(tactic| walk_at "dvs") => `(tactic| first | exact DvAll.nil | exact DvAll.ints _ | (refine DvAll.cons ?_ ?_; walk_at "dv"; walk_at "dvs"))

/-- a class whose line of classes is known -/
def ClK (K : PySem.W.Frag) (C : Addr) (bm : List Value) : Prop := ∃ nm qn N bs sn sb ab co dd m0 m1 m2 m3 m5, K.lookup C = some (excClassObj nm qn C N bs bm true sn sb ab co dd m0 m1 m2 m3 m5 "ValueError.__new__")
theorem clk_cls {K : PySem.W.Frag} {C : Addr} {bm : List Value} (h : ClK K C bm) : (PySem.W.clsIn K C).isSome = true ∧ PySem.W.typeIn K (.ref C) = some (.type "type") ∧ ∀ b, PySem.W.subIn K (.ref C) b = some ((Value.ref C :: bm).contains b) := by
  obtain ⟨nm, qn, N, bs, sn, sb, ab, co, dd, m0, m1, m2, m3, m5, e⟩ := h
  refine ⟨?_, ?_, fun b => ?_⟩
  · unfold PySem.W.clsIn; rw [e]; rfl
  · show (K.lookup C).map (·.cls) = _
    rw [e]; rfl
  · show PySem.W.mroIn K C b = _
    unfold PySem.W.mroIn PySem.W.clsIn
    rw [e]; rfl
theorem clk_ref {K : PySem.W.Frag} {C b : Addr} {bm bb : List Value} (h : ClK K C bm) (hb : ClK K b bb) : PySem.W.kitOne K (.ref C) (.ref b) = some (decide (C = b) || bm.contains (.ref b)) := by
  obtain ⟨_, _, s⟩ := clk_cls h
  obtain ⟨c1, c2, _⟩ := clk_cls hb
  by_cases z : C = b
  · subst z
    unfold PySem.W.kitOne
    simp
  · have ne : (Value.ref C == Value.ref b) = false := beq_eq_false_iff_ne.mpr fun e => z (Value.ref.inj e)
    have ne2 : (Value.ref b == Value.ref C) = false := beq_eq_false_iff_ne.mpr fun e => z (Value.ref.inj e).symm
    unfold PySem.W.kitOne
    rw [if_neg (by rw [ne]; exact Bool.false_ne_true)]
    show (if ((PySem.W.clsIn K b).isSome && PySem.W.typeIn K (.ref b) == some (.type "type")) = true then PySem.W.subIn K (.ref C) (.ref b) else none) = _
    rw [if_pos (by rw [c1, c2]; rfl), s, List.contains_cons, ne2, decide_eq_false z]
theorem clk_meet {K : PySem.W.Frag} {C b : Addr} {bm : List Value} (h : ClK K C bm) (ne : C ≠ b) (c1 : (PySem.W.clsIn K b).isSome = true) (c2 : PySem.W.typeIn K (.ref b) = some (.type "type")) : PySem.W.kitOne K (.ref C) (.ref b) = some (bm.contains (.ref b)) := by
  obtain ⟨_, _, s⟩ := clk_cls h
  have n1 : (Value.ref C == Value.ref b) = false := beq_eq_false_iff_ne.mpr fun e => ne (Value.ref.inj e)
  have n2 : (Value.ref b == Value.ref C) = false := beq_eq_false_iff_ne.mpr fun e => ne (Value.ref.inj e).symm
  unfold PySem.W.kitOne
  rw [if_neg (by rw [n1]; exact Bool.false_ne_true)]
  show (if ((PySem.W.clsIn K b).isSome && PySem.W.typeIn K (.ref b) == some (.type "type")) = true then PySem.W.subIn K (.ref C) (.ref b) else none) = _
  rw [if_pos (by rw [c1, c2]; rfl), s, List.contains_cons, n2, Bool.false_or]
theorem clk_ty {K : PySem.W.Frag} {C : Addr} {bm : List Value} {T : String} {b : Bool} (h : ClK K C bm) (m : PySem.W.kitMeta T = true) (e : bm.contains (.type T) = b) : PySem.W.kitOne K (.ref C) (.type T) = some b := by
  obtain ⟨_, _, s⟩ := clk_cls h
  have n1 : (Value.ref C == Value.type T) = false := rfl
  have n2 : (Value.type T == Value.ref C) = false := rfl
  unfold PySem.W.kitOne
  rw [if_neg (by rw [n1]; exact Bool.false_ne_true)]
  show (if PySem.W.kitMeta T = true then PySem.W.subIn K (.ref C) (.type T) else none) = _
  rw [if_pos m, s, List.contains_cons, n2, e, Bool.false_or]
def fa3 (A L B : List Addr) (n : Nat) : Addr := if n < 300 then A.getD n 0 else if n < 400 then L.getD (n - 300) 0 else B.getD (n - 400) 0
theorem fa3_L {A L B : List Addr} {i : Nat} (h : i < 100) : fa3 A L B (300 + i) = L.getD i 0 := by
  unfold fa3
  rw [if_neg (by omega), if_pos (by omega), Nat.add_sub_cancel_left]
def fd3 (A B : List FuncData) (d : FuncData) (n : Nat) : FuncData := if n < 300 then A.getD n d else B.getD (n - 400) d
theorem errC_mkB {K : PySem.W.Frag} {mg : Str → Option Value} {h : Heap} {x : Str} {C fI : Addr} {f : Str} {bm : List Value} (X : K.In h) (G : h.Ns mainGlobals mg) (gC : PySem.W.nsIn K mainGlobals x = some (some (.ref C))) (cl : ClK K C bm) (vb : PySem.HandSPX.refsVE bm = true)
    (sa : PySem.W.findIn K (.ref C) "__setattr__" = some (some (.builtin "object.__setattr__"))) (e : ExcC K C) (nf : PySem.W.findIn K (.ref C) f = some none) (ii : PySem.W.findIn K (.ref C) "__init__" = some (some (.ref fI))) (ti : PySem.W.typeIn K (.ref fI) = some (.type "function")) (kC : PySem.W.keepIn K (.ref C) = true) : ErrC K mg x C fI f := by
  have tC := (clk_cls cl).2.1
  obtain ⟨nm, qn, N, bs, sn, sb, ab, co, dd, m0, m1, m2, m3, m5, e1⟩ := cl
  exact ⟨PySem.W.mg_of X G gC, ⟨⟨nm, qn, N, bs, bm, sn, sb, ab, co, dd, m0, m1, m2, m3, m5, e1, vb⟩, sa, e.hs, tC, kC⟩, nf, ii, ti, ⟨e.hg, e.hk, e.hs, e.hd⟩, e.ha, e.hm⟩
theorem ecls_mk {K : PySem.W.Frag} {C : Addr} {bm : List Value} (cl : ClK K C bm) (e : ExcC K C) (n : (["int", "bool", "str", "list", "tuple"].all fun T => PySem.W.kitMeta T && !bm.contains (.type T)) = true) : ECls K C := by
  refine ⟨e, ⟨e.hg, e.hk, e.hs, e.hd⟩, fun T hT => ?_⟩
  have q := List.all_eq_true.mp n T hT
  rw [Bool.and_eq_true] at q
  exact clk_ty cl q.1 (by simpa using q.2)

theorem grel_kOne : ∀ {vs zs : List V} {us ws : List Value}, Vals vs us → Vals zs ws → Vals (kOne vs zs) (kOne us ws) := fun a b => a.append b
theorem vals_rev {vs : List V} {us : List Value} (h : Vals vs us) : Vals vs.reverse us.reverse := by
  induction h with
  | nil => exact .nil
  | cons a b ih =>
    rw [List.reverse_cons, List.reverse_cons]
    exact ih.append (.cons a .nil)
theorem grel_kTwo : ∀ {vs zs : List V} {us ws : List Value}, Vals vs us → Vals zs ws → Vals (kTwo vs zs) (kTwo us ws) := fun a b => a.append (vals_rev b)
theorem nodup_inj {L : List Addr} (h : L.Nodup) {i j : Nat} (hi : i < L.length) (hj : j < L.length) (e : L.getD i 0 = L.getD j 0) : i = j := by
  rw [List.getD_eq_getElem?_getD, List.getD_eq_getElem?_getD, List.getElem?_eq_getElem hi, List.getElem?_eq_getElem hj] at e
  exact (List.getElem_inj h).mp e
theorem kitF_of {K : PySem.W.Frag} {L : List Addr} {c28 fM : Addr} (CLs : ∀ i, i < 29 → ∃ bm, ClK K (L.getD i 0) bm ∧ (bm = [.ref fM, .type "ValueError", .type "Exception", .type "BaseException", .type "object"] ∨ (bm = .ref c28 :: [.ref fM, .type "ValueError", .type "Exception", .type "BaseException", .type "object"] ∧ (i = 17 ∨ i = 18 ∨ i = 19))) ∧ (bm = [.ref fM, .type "ValueError", .type "Exception", .type "BaseException", .type "object"] → i ≠ 17 ∧ i ≠ 18 ∧ i ≠ 19)) {i : Nat} (hi : i < 28) : PySem.W.kitAny K (.ref (L.getD i 0)) [.type "LookupError", .type "TypeError", .type "ArithmeticError", .type "AttributeError", .type "RuntimeError"] = some false := by
  obtain ⟨bm, cl, q, _⟩ := CLs i (by omega)
  have n : ∀ T, PySem.W.kitMeta T = true → bm.contains (.type T) = false → PySem.W.kitOne K (.ref (L.getD i 0)) (.type T) = some false := fun T a b => clk_ty cl a b
  have z : ∀ T ∈ ["LookupError", "TypeError", "ArithmeticError", "AttributeError", "RuntimeError"], PySem.W.kitOne K (.ref (L.getD i 0)) (.type T) = some false := fun T hT => by
    simp only [List.mem_cons, List.not_mem_nil, or_false] at hT
    rcases q with rfl | ⟨rfl, _⟩ <;> rcases hT with rfl | rfl | rfl | rfl | rfl <;> exact n _ rfl rfl
  simp only [PySem.W.kitAny, z "LookupError" (by simp), z "TypeError" (by simp), z "ArithmeticError" (by simp), z "AttributeError" (by simp), z "RuntimeError" (by simp)]
theorem kitV_of {K : PySem.W.Frag} {L : List Addr} {c28 fM : Addr} (CLs : ∀ i, i < 29 → ∃ bm, ClK K (L.getD i 0) bm ∧ (bm = [.ref fM, .type "ValueError", .type "Exception", .type "BaseException", .type "object"] ∨ (bm = .ref c28 :: [.ref fM, .type "ValueError", .type "Exception", .type "BaseException", .type "object"] ∧ (i = 17 ∨ i = 18 ∨ i = 19))) ∧ (bm = [.ref fM, .type "ValueError", .type "Exception", .type "BaseException", .type "object"] → i ≠ 17 ∧ i ≠ 18 ∧ i ≠ 19)) {i : Nat} (hi : i < 28) : PySem.W.kitOne K (.ref (L.getD i 0)) (.type "ValueError") = some true := by
  obtain ⟨bm, cl, q, _⟩ := CLs i (by omega)
  rcases q with rfl | ⟨rfl, _⟩ <;> exact clk_ty cl rfl rfl
theorem kitT_of {K : PySem.W.Frag} {L : List Addr} {c28 fM : Addr} (CLs : ∀ i, i < 29 → ∃ bm, ClK K (L.getD i 0) bm ∧ (bm = [.ref fM, .type "ValueError", .type "Exception", .type "BaseException", .type "object"] ∨ (bm = .ref c28 :: [.ref fM, .type "ValueError", .type "Exception", .type "BaseException", .type "object"] ∧ (i = 17 ∨ i = 18 ∨ i = 19))) ∧ (bm = [.ref fM, .type "ValueError", .type "Exception", .type "BaseException", .type "object"] → i ≠ 17 ∧ i ≠ 18 ∧ i ≠ 19)) {M : List Addr} (up : ∀ i, i < 29 → L.getD i 0 = M.getD i 0) (inj : ∀ i j, i < 30 → j < 30 → M.getD i 0 = M.getD j 0 → i = j) (c1 : (PySem.W.clsIn K fM).isSome = true) (c2 : PySem.W.typeIn K (.ref fM) = some (.type "type")) (m29 : M.getD 29 0 = fM := by rfl) {i : Nat} (hi : i < 29) : PySem.W.kitOne K (.ref (L.getD i 0)) (.ref fM) = some true := by
  obtain ⟨bm, cl, q, _⟩ := CLs i hi
  have ne : L.getD i 0 ≠ fM := fun e => by
    rw [up i hi, ← m29] at e
    have := inj i 29 (by omega) (by omega) e
    omega
  rw [clk_meet cl ne c1 c2]
  rcases q with rfl | ⟨rfl, _⟩ <;> simp
theorem kits_of {K : PySem.W.Frag} {L : List Addr} {c28 fM : Addr} (CLs : ∀ i, i < 29 → ∃ bm, ClK K (L.getD i 0) bm ∧ (bm = [.ref fM, .type "ValueError", .type "Exception", .type "BaseException", .type "object"] ∨ (bm = .ref c28 :: [.ref fM, .type "ValueError", .type "Exception", .type "BaseException", .type "object"] ∧ (i = 17 ∨ i = 18 ∨ i = 19))) ∧ (bm = [.ref fM, .type "ValueError", .type "Exception", .type "BaseException", .type "object"] → i ≠ 17 ∧ i ≠ 18 ∧ i ≠ 19)) {M : List Addr} (up : ∀ i, i < 29 → L.getD i 0 = M.getD i 0) (inj : ∀ i j, i < 30 → j < 30 → M.getD i 0 = M.getD j 0 → i = j) (m29 : M.getD 29 0 = fM := by rfl) (m28 : M.getD 28 0 = c28 := by rfl) {i j : Nat} (hi : i < 29) (hj : j < 28) : PySem.W.kitOne K (.ref (L.getD i 0)) (.ref (L.getD j 0)) = some (decide (i = j)) := by
  obtain ⟨bm, cl, q, _⟩ := CLs i hi
  obtain ⟨bb, clb, _, _⟩ := CLs j (by omega)
  rw [clk_ref cl clb]
  have n1 : L.getD j 0 ≠ fM := fun e => by
    rw [up j (by omega), ← m29] at e
    have := inj j 29 (by omega) (by omega) e
    omega
  have n2 : L.getD j 0 ≠ c28 := fun e => by
    rw [up j (by omega), ← m28] at e
    have := inj j 28 (by omega) (by omega) e
    omega
  have nb : bm.contains (.ref (L.getD j 0)) = false := by
    revert n1 n2
    generalize L.getD j 0 = x
    intro n1 n2
    rcases q with rfl | ⟨rfl, _⟩ <;> simp [n1, n2]
  have ed : decide (L.getD i 0 = L.getD j 0) = decide (i = j) := decide_eq_decide.mpr ⟨fun e => inj i j (by omega) (by omega) (by rw [← up i hi, ← up j (by omega)]; exact e), fun e => by rw [e]⟩
  rw [nb, ed, Bool.or_false]
theorem kitM_of {K : PySem.W.Frag} {L : List Addr} {c28 fM : Addr} (CLs : ∀ i, i < 29 → ∃ bm, ClK K (L.getD i 0) bm ∧ (bm = [.ref fM, .type "ValueError", .type "Exception", .type "BaseException", .type "object"] ∨ (bm = .ref c28 :: [.ref fM, .type "ValueError", .type "Exception", .type "BaseException", .type "object"] ∧ (i = 17 ∨ i = 18 ∨ i = 19))) ∧ (bm = [.ref fM, .type "ValueError", .type "Exception", .type "BaseException", .type "object"] → i ≠ 17 ∧ i ≠ 18 ∧ i ≠ 19)) {M : List Addr} (C28 : ClK K c28 [.ref fM, .type "ValueError", .type "Exception", .type "BaseException", .type "object"]) (up : ∀ i, i < 29 → L.getD i 0 = M.getD i 0) (inj : ∀ i j, i < 30 → j < 30 → M.getD i 0 = M.getD j 0 → i = j) (m29 : M.getD 29 0 = fM := by rfl) (m28 : M.getD 28 0 = c28 := by rfl) {i : Nat} (hi : i < 28) : PySem.W.kitOne K (.ref (L.getD i 0)) (.ref c28) = some (decide (i = 17) || (decide (i = 18) || decide (i = 19))) := by
  obtain ⟨bm, cl, q, r⟩ := CLs i (by omega)
  rw [clk_ref cl C28]
  have n0 : L.getD i 0 ≠ c28 := fun e => by
    rw [up i (by omega), ← m28] at e
    have := inj i 28 (by omega) (by omega) e
    omega
  have n1 : c28 ≠ fM := fun e => by
    rw [← m28, ← m29] at e
    have := inj 28 29 (by omega) (by omega) e
    omega
  rw [decide_eq_false n0]
  rcases q with rfl | ⟨rfl, z⟩
  · obtain ⟨a, b, c⟩ := r rfl
    simp [n1, a, b, c]
  · rcases z with rfl | rfl | rfl <;> simp

end K00
set_option maxHeartbeats 4000000
namespace K00
open PySem L2 MT RZ StX

local macro_rules | `(tactic| walk_at "sm") => `(tactic| first | exact Same.refl _ | assumption | exact New.same (by assumption) | exact Same.trans (by assumption) (by walk_at "sm") | exact Same.trans (New.same (by assumption)) (by walk_at "sm"))
local macro_rules | `(tactic| walk_at "fr") => `(tactic| first | exact Frm.refl | assumption | exact frm_same (New.same (by assumption)) | exact frm_same (by assumption) | exact Frm.trans (by assumption) (by walk_at "fr") | exact Frm.trans (frm_same (New.same (by assumption))) (by walk_at "fr") | exact Frm.trans (frm_same (by assumption)) (by walk_at "fr"))
local macro_rules | `(tactic| walk_at "dv") => `(tactic| first | exact Dv.int _ | exact Dv.bl _ | exact Dv.non | exact Dv.str _ | assumption | exact Dv.same (by assumption) (by walk_at "sm") | exact Dv.mono (by assumption) (by walk_at "fr"))
local macro_rules | `(tactic| walk_at "dvs") => `(tactic| first | exact DvAll.nil | exact DvAll.ints _ | (refine DvAll.cons ?_ ?_; walk_at "dv"; walk_at "dvs"))
def fd0 : FuncData := PySem.W.fnOf "" "" (defArgs s_law) [] (defScope s_law) .none .none .none .none none .none .none
theorem all_mk {l : PySem.W.OpenLaw} {w : World} {K : PySem.W.Frag} {h : Heap} {mg : Str → Option Value} {fL fM f32 f33 f34 f35 f36 f37 f38 f39 f40 f41 c0 N0 c1 N1 c2 N2 c3 N3 c4 N4 c5 N5 c6 N6 c7 N7 c8 N8 c9 N9 c10 N10 c11 N11 c12 N12 c13 N13 c14 N14 c15 N15 c16 N16 c17 N17 c18 N18 c19 N19 c20 N20 c21 N21 c22 N22 c23 N23 c24 N24 c25 N25 c26 N26 c27 N27 c28 N28 i0 i1 i2 i3 i4 i5 i6 i7 i8 i9 i10 i11 i12 i13 i14 i15 i16 i28 i20 i21 i22 i23 : Addr} (X : K.In h) (G : h.Ns mainGlobals mg) (hfa : mg "law" = some (.ref fL))
    {od32 an32 od33 an33 od34 an34 od35 an35 od36 an36 od37 an37 od38 an38 od39 an39 od40 an40 od41 an41 odi0 ani0 odi1 ani1 odi2 ani2 odi3 ani3 odi4 ani4 odi5 ani5 odi6 ani6 odi7 ani7 odi8 ani8 odi9 ani9 odi10 ani10 odi11 ani11 odi12 ani12 odi13 ani13 odi14 ani14 odi15 ani15 odi16 ani16 odi28 ani28 odi20 ani20 odi21 ani21 odi22 ani22 odi23 ani23 : Option Addr} {sl32 sl33 sl34 sl35 sl36 sl37 sl38 sl39 sl40 sl41 sli0 sli1 sli2 sli3 sli4 sli5 sli6 sli7 sli8 sli9 sli10 sli11 sli12 sli13 sli14 sli15 sli16 sli28 sli20 sli21 sli22 sli23 : Array (Option Value)} {oc32 kV32 dc32 pm32 cd32 ct32 oc33 kV33 dc33 pm33 cd33 ct33 oc34 kV34 dc34 pm34 cd34 ct34 oc35 kV35 dc35 pm35 cd35 ct35 oc36 kV36 dc36 pm36 cd36 ct36 oc37 kV37 dc37 pm37 cd37 ct37 oc38 kV38 dc38 pm38 cd38 ct38 oc39 kV39 dc39 pm39 cd39 ct39 oc40 kV40 dc40 pm40 cd40 ct40 oc41 kV41 dc41 pm41 cd41 ct41 oci0 kVi0 dci0 pmi0 cdi0 cti0 oci1 kVi1 dci1 pmi1 cdi1 cti1 oci2 kVi2 dci2 pmi2 cdi2 cti2 oci3 kVi3 dci3 pmi3 cdi3 cti3 oci4 kVi4 dci4 pmi4 cdi4 cti4 oci5 kVi5 dci5 pmi5 cdi5 cti5 oci6 kVi6 dci6 pmi6 cdi6 cti6 oci7 kVi7 dci7 pmi7 cdi7 cti7 oci8 kVi8 dci8 pmi8 cdi8 cti8 oci9 kVi9 dci9 pmi9 cdi9 cti9 oci10 kVi10 dci10 pmi10 cdi10 cti10 oci11 kVi11 dci11 pmi11 cdi11 cti11 oci12 kVi12 dci12 pmi12 cdi12 cti12 oci13 kVi13 dci13 pmi13 cdi13 cti13 oci14 kVi14 dci14 pmi14 cdi14 cti14 oci15 kVi15 dci15 pmi15 cdi15 cti15 oci16 kVi16 dci16 pmi16 cdi16 cti16 oci28 kVi28 dci28 pmi28 cdi28 cti28 oci20 kVi20 dci20 pmi20 cdi20 cti20 oci21 kVi21 dci21 pmi21 cdi21 cti21 oci22 kVi22 dci22 pmi22 cdi22 cti22 oci23 kVi23 dci23 pmi23 cdi23 cti23 : Value}
    {nm0 qn0 : Str} {bs0 : List Value} {sn0 : List Str} {sb0 : List Value} {ab0 : Bool} {co0 : Option Bool} {dd0 : Option Addr} {p0 q0 r0 s0 t0 : Option Value}
    {nm1 qn1 : Str} {bs1 : List Value} {sn1 : List Str} {sb1 : List Value} {ab1 : Bool} {co1 : Option Bool} {dd1 : Option Addr} {p1 q1 r1 s1 t1 : Option Value}
    {nm2 qn2 : Str} {bs2 : List Value} {sn2 : List Str} {sb2 : List Value} {ab2 : Bool} {co2 : Option Bool} {dd2 : Option Addr} {p2 q2 r2 s2 t2 : Option Value}
    {nm3 qn3 : Str} {bs3 : List Value} {sn3 : List Str} {sb3 : List Value} {ab3 : Bool} {co3 : Option Bool} {dd3 : Option Addr} {p3 q3 r3 s3 t3 : Option Value}
    {nm4 qn4 : Str} {bs4 : List Value} {sn4 : List Str} {sb4 : List Value} {ab4 : Bool} {co4 : Option Bool} {dd4 : Option Addr} {p4 q4 r4 s4 t4 : Option Value}
    {nm5 qn5 : Str} {bs5 : List Value} {sn5 : List Str} {sb5 : List Value} {ab5 : Bool} {co5 : Option Bool} {dd5 : Option Addr} {p5 q5 r5 s5 t5 : Option Value}
    {nm6 qn6 : Str} {bs6 : List Value} {sn6 : List Str} {sb6 : List Value} {ab6 : Bool} {co6 : Option Bool} {dd6 : Option Addr} {p6 q6 r6 s6 t6 : Option Value}
    {nm7 qn7 : Str} {bs7 : List Value} {sn7 : List Str} {sb7 : List Value} {ab7 : Bool} {co7 : Option Bool} {dd7 : Option Addr} {p7 q7 r7 s7 t7 : Option Value}
    {nm8 qn8 : Str} {bs8 : List Value} {sn8 : List Str} {sb8 : List Value} {ab8 : Bool} {co8 : Option Bool} {dd8 : Option Addr} {p8 q8 r8 s8 t8 : Option Value}
    {nm9 qn9 : Str} {bs9 : List Value} {sn9 : List Str} {sb9 : List Value} {ab9 : Bool} {co9 : Option Bool} {dd9 : Option Addr} {p9 q9 r9 s9 t9 : Option Value}
    {nm10 qn10 : Str} {bs10 : List Value} {sn10 : List Str} {sb10 : List Value} {ab10 : Bool} {co10 : Option Bool} {dd10 : Option Addr} {p10 q10 r10 s10 t10 : Option Value}
    {nm11 qn11 : Str} {bs11 : List Value} {sn11 : List Str} {sb11 : List Value} {ab11 : Bool} {co11 : Option Bool} {dd11 : Option Addr} {p11 q11 r11 s11 t11 : Option Value}
    {nm12 qn12 : Str} {bs12 : List Value} {sn12 : List Str} {sb12 : List Value} {ab12 : Bool} {co12 : Option Bool} {dd12 : Option Addr} {p12 q12 r12 s12 t12 : Option Value}
    {nm13 qn13 : Str} {bs13 : List Value} {sn13 : List Str} {sb13 : List Value} {ab13 : Bool} {co13 : Option Bool} {dd13 : Option Addr} {p13 q13 r13 s13 t13 : Option Value}
    {nm14 qn14 : Str} {bs14 : List Value} {sn14 : List Str} {sb14 : List Value} {ab14 : Bool} {co14 : Option Bool} {dd14 : Option Addr} {p14 q14 r14 s14 t14 : Option Value}
    {nm15 qn15 : Str} {bs15 : List Value} {sn15 : List Str} {sb15 : List Value} {ab15 : Bool} {co15 : Option Bool} {dd15 : Option Addr} {p15 q15 r15 s15 t15 : Option Value}
    {nm16 qn16 : Str} {bs16 : List Value} {sn16 : List Str} {sb16 : List Value} {ab16 : Bool} {co16 : Option Bool} {dd16 : Option Addr} {p16 q16 r16 s16 t16 : Option Value}
    {nm17 qn17 : Str} {bs17 : List Value} {sn17 : List Str} {sb17 : List Value} {ab17 : Bool} {co17 : Option Bool} {dd17 : Option Addr} {p17 q17 r17 s17 t17 : Option Value}
    {nm18 qn18 : Str} {bs18 : List Value} {sn18 : List Str} {sb18 : List Value} {ab18 : Bool} {co18 : Option Bool} {dd18 : Option Addr} {p18 q18 r18 s18 t18 : Option Value}
    {nm19 qn19 : Str} {bs19 : List Value} {sn19 : List Str} {sb19 : List Value} {ab19 : Bool} {co19 : Option Bool} {dd19 : Option Addr} {p19 q19 r19 s19 t19 : Option Value}
    {nm20 qn20 : Str} {bs20 : List Value} {sn20 : List Str} {sb20 : List Value} {ab20 : Bool} {co20 : Option Bool} {dd20 : Option Addr} {p20 q20 r20 s20 t20 : Option Value}
    {nm21 qn21 : Str} {bs21 : List Value} {sn21 : List Str} {sb21 : List Value} {ab21 : Bool} {co21 : Option Bool} {dd21 : Option Addr} {p21 q21 r21 s21 t21 : Option Value}
    {nm22 qn22 : Str} {bs22 : List Value} {sn22 : List Str} {sb22 : List Value} {ab22 : Bool} {co22 : Option Bool} {dd22 : Option Addr} {p22 q22 r22 s22 t22 : Option Value}
    {nm23 qn23 : Str} {bs23 : List Value} {sn23 : List Str} {sb23 : List Value} {ab23 : Bool} {co23 : Option Bool} {dd23 : Option Addr} {p23 q23 r23 s23 t23 : Option Value}
    {nm24 qn24 : Str} {bs24 : List Value} {sn24 : List Str} {sb24 : List Value} {ab24 : Bool} {co24 : Option Bool} {dd24 : Option Addr} {p24 q24 r24 s24 t24 : Option Value}
    {nm25 qn25 : Str} {bs25 : List Value} {sn25 : List Str} {sb25 : List Value} {ab25 : Bool} {co25 : Option Bool} {dd25 : Option Addr} {p25 q25 r25 s25 t25 : Option Value}
    {nm26 qn26 : Str} {bs26 : List Value} {sn26 : List Str} {sb26 : List Value} {ab26 : Bool} {co26 : Option Bool} {dd26 : Option Addr} {p26 q26 r26 s26 t26 : Option Value}
    {nm27 qn27 : Str} {bs27 : List Value} {sn27 : List Str} {sb27 : List Value} {ab27 : Bool} {co27 : Option Bool} {dd27 : Option Addr} {p27 q27 r27 s27 t27 : Option Value}
    {nm28 qn28 : Str} {bs28 : List Value} {sn28 : List Str} {sb28 : List Value} {ab28 : Bool} {co28 : Option Bool} {dd28 : Option Addr} {p28 q28 r28 s28 t28 : Option Value}
    (a32 : PySem.W.nsIn K mainGlobals "_law_satchel" = some (some (.ref f32)))
    (l32 : K.lookup f32 = some ⟨oc32, od32, .func (PySem.W.fnOf "_law_satchel" "_law_satchel" (defArgs s__law_satchel) (defBody s__law_satchel) (defScope s__law_satchel) .none kV32 dc32 pm32 an32 cd32 ct32), sl32⟩)
    (w32 : PySem.W.codeIn K cd32 "_law_satchel" = true)
    (k32 : PySem.W.keepIn K (.ref f32) = true)
    (a33 : PySem.W.nsIn K mainGlobals "_law_reach" = some (some (.ref f33)))
    (l33 : K.lookup f33 = some ⟨oc33, od33, .func (PySem.W.fnOf "_law_reach" "_law_reach" (defArgs s__law_reach) (defBody s__law_reach) (defScope s__law_reach) .none kV33 dc33 pm33 an33 cd33 ct33), sl33⟩)
    (w33 : PySem.W.codeIn K cd33 "_law_reach" = true)
    (k33 : PySem.W.keepIn K (.ref f33) = true)
    (a34 : PySem.W.nsIn K mainGlobals "_law_gather" = some (some (.ref f34)))
    (l34 : K.lookup f34 = some ⟨oc34, od34, .func (PySem.W.fnOf "_law_gather" "_law_gather" (defArgs s__law_gather) (defBody s__law_gather) (defScope s__law_gather) .none kV34 dc34 pm34 an34 cd34 ct34), sl34⟩)
    (w34 : PySem.W.codeIn K cd34 "_law_gather" = true)
    (k34 : PySem.W.keepIn K (.ref f34) = true)
    (a35 : PySem.W.nsIn K mainGlobals "_law_value" = some (some (.ref f35)))
    (l35 : K.lookup f35 = some ⟨oc35, od35, .func (PySem.W.fnOf "_law_value" "_law_value" (defArgs s__law_value) (defBody s__law_value) (defScope s__law_value) .none kV35 dc35 pm35 an35 cd35 ct35), sl35⟩)
    (w35 : PySem.W.codeIn K cd35 "_law_value" = true)
    (k35 : PySem.W.keepIn K (.ref f35) = true)
    (a36 : PySem.W.nsIn K mainGlobals "_law_by_place" = some (some (.ref f36)))
    (l36 : K.lookup f36 = some ⟨oc36, od36, .func (PySem.W.fnOf "_law_by_place" "_law_by_place" (defArgs s__law_by_place) (defBody s__law_by_place) (defScope s__law_by_place) .none kV36 dc36 pm36 an36 cd36 ct36), sl36⟩)
    (w36 : PySem.W.codeIn K cd36 "_law_by_place" = true)
    (k36 : PySem.W.keepIn K (.ref f36) = true)
    (a37 : PySem.W.nsIn K mainGlobals "_law_by_name" = some (some (.ref f37)))
    (l37 : K.lookup f37 = some ⟨oc37, od37, .func (PySem.W.fnOf "_law_by_name" "_law_by_name" (defArgs s__law_by_name) (defBody s__law_by_name) (defScope s__law_by_name) .none kV37 dc37 pm37 an37 cd37 ct37), sl37⟩)
    (w37 : PySem.W.codeIn K cd37 "_law_by_name" = true)
    (k37 : PySem.W.keepIn K (.ref f37) = true)
    (a38 : PySem.W.nsIn K mainGlobals "_law_fields" = some (some (.ref f38)))
    (l38 : K.lookup f38 = some ⟨oc38, od38, .func (PySem.W.fnOf "_law_fields" "_law_fields" (defArgs s__law_fields) (defBody s__law_fields) (defScope s__law_fields) .none kV38 dc38 pm38 an38 cd38 ct38), sl38⟩)
    (w38 : PySem.W.codeIn K cd38 "_law_fields" = true)
    (k38 : PySem.W.keepIn K (.ref f38) = true)
    (a39 : PySem.W.nsIn K mainGlobals "_law_flags" = some (some (.ref f39)))
    (l39 : K.lookup f39 = some ⟨oc39, od39, .func (PySem.W.fnOf "_law_flags" "_law_flags" (defArgs s__law_flags) (defBody s__law_flags) (defScope s__law_flags) .none kV39 dc39 pm39 an39 cd39 ct39), sl39⟩)
    (w39 : PySem.W.codeIn K cd39 "_law_flags" = true)
    (k39 : PySem.W.keepIn K (.ref f39) = true)
    (a40 : PySem.W.nsIn K mainGlobals "_law_is_far" = some (some (.ref f40)))
    (l40 : K.lookup f40 = some ⟨oc40, od40, .func (PySem.W.fnOf "_law_is_far" "_law_is_far" (defArgs s__law_is_far) (defBody s__law_is_far) (defScope s__law_is_far) .none kV40 dc40 pm40 an40 cd40 ct40), sl40⟩)
    (w40 : PySem.W.codeIn K cd40 "_law_is_far" = true)
    (k40 : PySem.W.keepIn K (.ref f40) = true)
    (a41 : PySem.W.nsIn K mainGlobals "law" = some (some (.ref f41)))
    (l41 : K.lookup f41 = some ⟨oc41, od41, .func (PySem.W.fnOf "law" "law" (defArgs s_law) (defBody s_law) (defScope s_law) .none kV41 dc41 pm41 an41 cd41 ct41), sl41⟩)
    (w41 : PySem.W.codeIn K cd41 "law" = true)
    (k41 : PySem.W.keepIn K (.ref f41) = true)
    (AM : PySem.W.nsIn K mainGlobals "MeetError" = some (some (.ref fM)))
    (AX : PySem.W.nsIn K mainGlobals "Missing" = some (some (.ref c28)))
    (A0 : PySem.W.nsIn K mainGlobals "BadNumber" = some (some (.ref c0)))
    (L0 : K.lookup c0 = some (excClassObj nm0 qn0 c0 N0 bs0 [.ref fM, .type "ValueError", .type "Exception", .type "BaseException", .type "object"] true sn0 sb0 ab0 co0 dd0 p0 q0 r0 s0 t0 "ValueError.__new__"))
    (A1 : PySem.W.nsIn K mainGlobals "BadBlock" = some (some (.ref c1)))
    (L1 : K.lookup c1 = some (excClassObj nm1 qn1 c1 N1 bs1 [.ref fM, .type "ValueError", .type "Exception", .type "BaseException", .type "object"] true sn1 sb1 ab1 co1 dd1 p1 q1 r1 s1 t1 "ValueError.__new__"))
    (A2 : PySem.W.nsIn K mainGlobals "BadRow" = some (some (.ref c2)))
    (L2 : K.lookup c2 = some (excClassObj nm2 qn2 c2 N2 bs2 [.ref fM, .type "ValueError", .type "Exception", .type "BaseException", .type "object"] true sn2 sb2 ab2 co2 dd2 p2 q2 r2 s2 t2 "ValueError.__new__"))
    (A3 : PySem.W.nsIn K mainGlobals "BadPath" = some (some (.ref c3)))
    (L3 : K.lookup c3 = some (excClassObj nm3 qn3 c3 N3 bs3 [.ref fM, .type "ValueError", .type "Exception", .type "BaseException", .type "object"] true sn3 sb3 ab3 co3 dd3 p3 q3 r3 s3 t3 "ValueError.__new__"))
    (A4 : PySem.W.nsIn K mainGlobals "BadValue" = some (some (.ref c4)))
    (L4 : K.lookup c4 = some (excClassObj nm4 qn4 c4 N4 bs4 [.ref fM, .type "ValueError", .type "Exception", .type "BaseException", .type "object"] true sn4 sb4 ab4 co4 dd4 p4 q4 r4 s4 t4 "ValueError.__new__"))
    (A5 : PySem.W.nsIn K mainGlobals "BadTree" = some (some (.ref c5)))
    (L5 : K.lookup c5 = some (excClassObj nm5 qn5 c5 N5 bs5 [.ref fM, .type "ValueError", .type "Exception", .type "BaseException", .type "object"] true sn5 sb5 ab5 co5 dd5 p5 q5 r5 s5 t5 "ValueError.__new__"))
    (A6 : PySem.W.nsIn K mainGlobals "BadDeed" = some (some (.ref c6)))
    (L6 : K.lookup c6 = some (excClassObj nm6 qn6 c6 N6 bs6 [.ref fM, .type "ValueError", .type "Exception", .type "BaseException", .type "object"] true sn6 sb6 ab6 co6 dd6 p6 q6 r6 s6 t6 "ValueError.__new__"))
    (A7 : PySem.W.nsIn K mainGlobals "BadEvent" = some (some (.ref c7)))
    (L7 : K.lookup c7 = some (excClassObj nm7 qn7 c7 N7 bs7 [.ref fM, .type "ValueError", .type "Exception", .type "BaseException", .type "object"] true sn7 sb7 ab7 co7 dd7 p7 q7 r7 s7 t7 "ValueError.__new__"))
    (A8 : PySem.W.nsIn K mainGlobals "BadHeard" = some (some (.ref c8)))
    (L8 : K.lookup c8 = some (excClassObj nm8 qn8 c8 N8 bs8 [.ref fM, .type "ValueError", .type "Exception", .type "BaseException", .type "object"] true sn8 sb8 ab8 co8 dd8 p8 q8 r8 s8 t8 "ValueError.__new__"))
    (A9 : PySem.W.nsIn K mainGlobals "BadLot" = some (some (.ref c9)))
    (L9 : K.lookup c9 = some (excClassObj nm9 qn9 c9 N9 bs9 [.ref fM, .type "ValueError", .type "Exception", .type "BaseException", .type "object"] true sn9 sb9 ab9 co9 dd9 p9 q9 r9 s9 t9 "ValueError.__new__"))
    (A10 : PySem.W.nsIn K mainGlobals "BadLetter" = some (some (.ref c10)))
    (L10 : K.lookup c10 = some (excClassObj nm10 qn10 c10 N10 bs10 [.ref fM, .type "ValueError", .type "Exception", .type "BaseException", .type "object"] true sn10 sb10 ab10 co10 dd10 p10 q10 r10 s10 t10 "ValueError.__new__"))
    (A11 : PySem.W.nsIn K mainGlobals "BadMachine" = some (some (.ref c11)))
    (L11 : K.lookup c11 = some (excClassObj nm11 qn11 c11 N11 bs11 [.ref fM, .type "ValueError", .type "Exception", .type "BaseException", .type "object"] true sn11 sb11 ab11 co11 dd11 p11 q11 r11 s11 t11 "ValueError.__new__"))
    (A12 : PySem.W.nsIn K mainGlobals "BadDisk" = some (some (.ref c12)))
    (L12 : K.lookup c12 = some (excClassObj nm12 qn12 c12 N12 bs12 [.ref fM, .type "ValueError", .type "Exception", .type "BaseException", .type "object"] true sn12 sb12 ab12 co12 dd12 p12 q12 r12 s12 t12 "ValueError.__new__"))
    (A13 : PySem.W.nsIn K mainGlobals "BadWorld" = some (some (.ref c13)))
    (L13 : K.lookup c13 = some (excClassObj nm13 qn13 c13 N13 bs13 [.ref fM, .type "ValueError", .type "Exception", .type "BaseException", .type "object"] true sn13 sb13 ab13 co13 dd13 p13 q13 r13 s13 t13 "ValueError.__new__"))
    (A14 : PySem.W.nsIn K mainGlobals "BadStep" = some (some (.ref c14)))
    (L14 : K.lookup c14 = some (excClassObj nm14 qn14 c14 N14 bs14 [.ref fM, .type "ValueError", .type "Exception", .type "BaseException", .type "object"] true sn14 sb14 ab14 co14 dd14 p14 q14 r14 s14 t14 "ValueError.__new__"))
    (A15 : PySem.W.nsIn K mainGlobals "BadPaper" = some (some (.ref c15)))
    (L15 : K.lookup c15 = some (excClassObj nm15 qn15 c15 N15 bs15 [.ref fM, .type "ValueError", .type "Exception", .type "BaseException", .type "object"] true sn15 sb15 ab15 co15 dd15 p15 q15 r15 s15 t15 "ValueError.__new__"))
    (A16 : PySem.W.nsIn K mainGlobals "Misfit" = some (some (.ref c16)))
    (L16 : K.lookup c16 = some (excClassObj nm16 qn16 c16 N16 bs16 [.ref fM, .type "ValueError", .type "Exception", .type "BaseException", .type "object"] true sn16 sb16 ab16 co16 dd16 p16 q16 r16 s16 t16 "ValueError.__new__"))
    (A17 : PySem.W.nsIn K mainGlobals "NoEvent" = some (some (.ref c17)))
    (L17 : K.lookup c17 = some (excClassObj nm17 qn17 c17 N17 bs17 (.ref c28 :: [.ref fM, .type "ValueError", .type "Exception", .type "BaseException", .type "object"]) true sn17 sb17 ab17 co17 dd17 p17 q17 r17 s17 t17 "ValueError.__new__"))
    (A18 : PySem.W.nsIn K mainGlobals "NoChange" = some (some (.ref c18)))
    (L18 : K.lookup c18 = some (excClassObj nm18 qn18 c18 N18 bs18 (.ref c28 :: [.ref fM, .type "ValueError", .type "Exception", .type "BaseException", .type "object"]) true sn18 sb18 ab18 co18 dd18 p18 q18 r18 s18 t18 "ValueError.__new__"))
    (A19 : PySem.W.nsIn K mainGlobals "NoMachine" = some (some (.ref c19)))
    (L19 : K.lookup c19 = some (excClassObj nm19 qn19 c19 N19 bs19 (.ref c28 :: [.ref fM, .type "ValueError", .type "Exception", .type "BaseException", .type "object"]) true sn19 sb19 ab19 co19 dd19 p19 q19 r19 s19 t19 "ValueError.__new__"))
    (A20 : PySem.W.nsIn K mainGlobals "Refused" = some (some (.ref c20)))
    (L20 : K.lookup c20 = some (excClassObj nm20 qn20 c20 N20 bs20 [.ref fM, .type "ValueError", .type "Exception", .type "BaseException", .type "object"] true sn20 sb20 ab20 co20 dd20 p20 q20 r20 s20 t20 "ValueError.__new__"))
    (A21 : PySem.W.nsIn K mainGlobals "TooMany" = some (some (.ref c21)))
    (L21 : K.lookup c21 = some (excClassObj nm21 qn21 c21 N21 bs21 [.ref fM, .type "ValueError", .type "Exception", .type "BaseException", .type "object"] true sn21 sb21 ab21 co21 dd21 p21 q21 r21 s21 t21 "ValueError.__new__"))
    (A22 : PySem.W.nsIn K mainGlobals "BadText" = some (some (.ref c22)))
    (L22 : K.lookup c22 = some (excClassObj nm22 qn22 c22 N22 bs22 [.ref fM, .type "ValueError", .type "Exception", .type "BaseException", .type "object"] true sn22 sb22 ab22 co22 dd22 p22 q22 r22 s22 t22 "ValueError.__new__"))
    (A23 : PySem.W.nsIn K mainGlobals "BadLine" = some (some (.ref c23)))
    (L23 : K.lookup c23 = some (excClassObj nm23 qn23 c23 N23 bs23 [.ref fM, .type "ValueError", .type "Exception", .type "BaseException", .type "object"] true sn23 sb23 ab23 co23 dd23 p23 q23 r23 s23 t23 "ValueError.__new__"))
    (A24 : PySem.W.nsIn K mainGlobals "Full" = some (some (.ref c24)))
    (L24 : K.lookup c24 = some (excClassObj nm24 qn24 c24 N24 bs24 [.ref fM, .type "ValueError", .type "Exception", .type "BaseException", .type "object"] true sn24 sb24 ab24 co24 dd24 p24 q24 r24 s24 t24 "ValueError.__new__"))
    (A25 : PySem.W.nsIn K mainGlobals "Off" = some (some (.ref c25)))
    (L25 : K.lookup c25 = some (excClassObj nm25 qn25 c25 N25 bs25 [.ref fM, .type "ValueError", .type "Exception", .type "BaseException", .type "object"] true sn25 sb25 ab25 co25 dd25 p25 q25 r25 s25 t25 "ValueError.__new__"))
    (A26 : PySem.W.nsIn K mainGlobals "On" = some (some (.ref c26)))
    (L26 : K.lookup c26 = some (excClassObj nm26 qn26 c26 N26 bs26 [.ref fM, .type "ValueError", .type "Exception", .type "BaseException", .type "object"] true sn26 sb26 ab26 co26 dd26 p26 q26 r26 s26 t26 "ValueError.__new__"))
    (A27 : PySem.W.nsIn K mainGlobals "Nothing" = some (some (.ref c27)))
    (L27 : K.lookup c27 = some (excClassObj nm27 qn27 c27 N27 bs27 [.ref fM, .type "ValueError", .type "Exception", .type "BaseException", .type "object"] true sn27 sb27 ab27 co27 dd27 p27 q27 r27 s27 t27 "ValueError.__new__"))
    (L28 : K.lookup c28 = some (excClassObj nm28 qn28 c28 N28 bs28 [.ref fM, .type "ValueError", .type "Exception", .type "BaseException", .type "object"] true sn28 sb28 ab28 co28 dd28 p28 q28 r28 s28 t28 "ValueError.__new__"))
    (ga0 : PySem.W.findIn K (.ref c0) "__getattribute__" = some (some (.builtin "BaseException.__getattribute__")))
    (gg0 : PySem.W.findIn K (.ref c0) "__getattr__" = some none)
    (eC0 : PySem.W.subIn K (.ref c0) (.type "BaseException") = some true)
    (hC0 : PySem.W.hasDictIn K c0 = true)
    (cc0 : PySem.W.findIn K (.ref c0) "__class__" = some (some (.builtin "object.__class__")))
    (oo0 : PySem.W.mroIn K c0 (.type "object") = some true)
    (kC0 : PySem.W.keepIn K (.ref c0) = true)
    (sa0 : PySem.W.findIn K (.ref c0) "__setattr__" = some (some (.builtin "object.__setattr__")))
    (nf0 : PySem.W.findIn K (.ref c0) "part" = some none)
    (ga1 : PySem.W.findIn K (.ref c1) "__getattribute__" = some (some (.builtin "BaseException.__getattribute__")))
    (gg1 : PySem.W.findIn K (.ref c1) "__getattr__" = some none)
    (eC1 : PySem.W.subIn K (.ref c1) (.type "BaseException") = some true)
    (hC1 : PySem.W.hasDictIn K c1 = true)
    (cc1 : PySem.W.findIn K (.ref c1) "__class__" = some (some (.builtin "object.__class__")))
    (oo1 : PySem.W.mroIn K c1 (.type "object") = some true)
    (kC1 : PySem.W.keepIn K (.ref c1) = true)
    (sa1 : PySem.W.findIn K (.ref c1) "__setattr__" = some (some (.builtin "object.__setattr__")))
    (nf1 : PySem.W.findIn K (.ref c1) "part" = some none)
    (ga2 : PySem.W.findIn K (.ref c2) "__getattribute__" = some (some (.builtin "BaseException.__getattribute__")))
    (gg2 : PySem.W.findIn K (.ref c2) "__getattr__" = some none)
    (eC2 : PySem.W.subIn K (.ref c2) (.type "BaseException") = some true)
    (hC2 : PySem.W.hasDictIn K c2 = true)
    (cc2 : PySem.W.findIn K (.ref c2) "__class__" = some (some (.builtin "object.__class__")))
    (oo2 : PySem.W.mroIn K c2 (.type "object") = some true)
    (kC2 : PySem.W.keepIn K (.ref c2) = true)
    (sa2 : PySem.W.findIn K (.ref c2) "__setattr__" = some (some (.builtin "object.__setattr__")))
    (nf2 : PySem.W.findIn K (.ref c2) "part" = some none)
    (ga3 : PySem.W.findIn K (.ref c3) "__getattribute__" = some (some (.builtin "BaseException.__getattribute__")))
    (gg3 : PySem.W.findIn K (.ref c3) "__getattr__" = some none)
    (eC3 : PySem.W.subIn K (.ref c3) (.type "BaseException") = some true)
    (hC3 : PySem.W.hasDictIn K c3 = true)
    (cc3 : PySem.W.findIn K (.ref c3) "__class__" = some (some (.builtin "object.__class__")))
    (oo3 : PySem.W.mroIn K c3 (.type "object") = some true)
    (kC3 : PySem.W.keepIn K (.ref c3) = true)
    (sa3 : PySem.W.findIn K (.ref c3) "__setattr__" = some (some (.builtin "object.__setattr__")))
    (nf3 : PySem.W.findIn K (.ref c3) "part" = some none)
    (ga4 : PySem.W.findIn K (.ref c4) "__getattribute__" = some (some (.builtin "BaseException.__getattribute__")))
    (gg4 : PySem.W.findIn K (.ref c4) "__getattr__" = some none)
    (eC4 : PySem.W.subIn K (.ref c4) (.type "BaseException") = some true)
    (hC4 : PySem.W.hasDictIn K c4 = true)
    (cc4 : PySem.W.findIn K (.ref c4) "__class__" = some (some (.builtin "object.__class__")))
    (oo4 : PySem.W.mroIn K c4 (.type "object") = some true)
    (kC4 : PySem.W.keepIn K (.ref c4) = true)
    (sa4 : PySem.W.findIn K (.ref c4) "__setattr__" = some (some (.builtin "object.__setattr__")))
    (nf4 : PySem.W.findIn K (.ref c4) "part" = some none)
    (ga5 : PySem.W.findIn K (.ref c5) "__getattribute__" = some (some (.builtin "BaseException.__getattribute__")))
    (gg5 : PySem.W.findIn K (.ref c5) "__getattr__" = some none)
    (eC5 : PySem.W.subIn K (.ref c5) (.type "BaseException") = some true)
    (hC5 : PySem.W.hasDictIn K c5 = true)
    (cc5 : PySem.W.findIn K (.ref c5) "__class__" = some (some (.builtin "object.__class__")))
    (oo5 : PySem.W.mroIn K c5 (.type "object") = some true)
    (kC5 : PySem.W.keepIn K (.ref c5) = true)
    (sa5 : PySem.W.findIn K (.ref c5) "__setattr__" = some (some (.builtin "object.__setattr__")))
    (nf5 : PySem.W.findIn K (.ref c5) "part" = some none)
    (ga6 : PySem.W.findIn K (.ref c6) "__getattribute__" = some (some (.builtin "BaseException.__getattribute__")))
    (gg6 : PySem.W.findIn K (.ref c6) "__getattr__" = some none)
    (eC6 : PySem.W.subIn K (.ref c6) (.type "BaseException") = some true)
    (hC6 : PySem.W.hasDictIn K c6 = true)
    (cc6 : PySem.W.findIn K (.ref c6) "__class__" = some (some (.builtin "object.__class__")))
    (oo6 : PySem.W.mroIn K c6 (.type "object") = some true)
    (kC6 : PySem.W.keepIn K (.ref c6) = true)
    (sa6 : PySem.W.findIn K (.ref c6) "__setattr__" = some (some (.builtin "object.__setattr__")))
    (nf6 : PySem.W.findIn K (.ref c6) "part" = some none)
    (ga7 : PySem.W.findIn K (.ref c7) "__getattribute__" = some (some (.builtin "BaseException.__getattribute__")))
    (gg7 : PySem.W.findIn K (.ref c7) "__getattr__" = some none)
    (eC7 : PySem.W.subIn K (.ref c7) (.type "BaseException") = some true)
    (hC7 : PySem.W.hasDictIn K c7 = true)
    (cc7 : PySem.W.findIn K (.ref c7) "__class__" = some (some (.builtin "object.__class__")))
    (oo7 : PySem.W.mroIn K c7 (.type "object") = some true)
    (kC7 : PySem.W.keepIn K (.ref c7) = true)
    (sa7 : PySem.W.findIn K (.ref c7) "__setattr__" = some (some (.builtin "object.__setattr__")))
    (nf7 : PySem.W.findIn K (.ref c7) "part" = some none)
    (ga8 : PySem.W.findIn K (.ref c8) "__getattribute__" = some (some (.builtin "BaseException.__getattribute__")))
    (gg8 : PySem.W.findIn K (.ref c8) "__getattr__" = some none)
    (eC8 : PySem.W.subIn K (.ref c8) (.type "BaseException") = some true)
    (hC8 : PySem.W.hasDictIn K c8 = true)
    (cc8 : PySem.W.findIn K (.ref c8) "__class__" = some (some (.builtin "object.__class__")))
    (oo8 : PySem.W.mroIn K c8 (.type "object") = some true)
    (kC8 : PySem.W.keepIn K (.ref c8) = true)
    (sa8 : PySem.W.findIn K (.ref c8) "__setattr__" = some (some (.builtin "object.__setattr__")))
    (nf8 : PySem.W.findIn K (.ref c8) "part" = some none)
    (ga9 : PySem.W.findIn K (.ref c9) "__getattribute__" = some (some (.builtin "BaseException.__getattribute__")))
    (gg9 : PySem.W.findIn K (.ref c9) "__getattr__" = some none)
    (eC9 : PySem.W.subIn K (.ref c9) (.type "BaseException") = some true)
    (hC9 : PySem.W.hasDictIn K c9 = true)
    (cc9 : PySem.W.findIn K (.ref c9) "__class__" = some (some (.builtin "object.__class__")))
    (oo9 : PySem.W.mroIn K c9 (.type "object") = some true)
    (kC9 : PySem.W.keepIn K (.ref c9) = true)
    (sa9 : PySem.W.findIn K (.ref c9) "__setattr__" = some (some (.builtin "object.__setattr__")))
    (nf9 : PySem.W.findIn K (.ref c9) "part" = some none)
    (ga10 : PySem.W.findIn K (.ref c10) "__getattribute__" = some (some (.builtin "BaseException.__getattribute__")))
    (gg10 : PySem.W.findIn K (.ref c10) "__getattr__" = some none)
    (eC10 : PySem.W.subIn K (.ref c10) (.type "BaseException") = some true)
    (hC10 : PySem.W.hasDictIn K c10 = true)
    (cc10 : PySem.W.findIn K (.ref c10) "__class__" = some (some (.builtin "object.__class__")))
    (oo10 : PySem.W.mroIn K c10 (.type "object") = some true)
    (kC10 : PySem.W.keepIn K (.ref c10) = true)
    (sa10 : PySem.W.findIn K (.ref c10) "__setattr__" = some (some (.builtin "object.__setattr__")))
    (nf10 : PySem.W.findIn K (.ref c10) "part" = some none)
    (ga11 : PySem.W.findIn K (.ref c11) "__getattribute__" = some (some (.builtin "BaseException.__getattribute__")))
    (gg11 : PySem.W.findIn K (.ref c11) "__getattr__" = some none)
    (eC11 : PySem.W.subIn K (.ref c11) (.type "BaseException") = some true)
    (hC11 : PySem.W.hasDictIn K c11 = true)
    (cc11 : PySem.W.findIn K (.ref c11) "__class__" = some (some (.builtin "object.__class__")))
    (oo11 : PySem.W.mroIn K c11 (.type "object") = some true)
    (kC11 : PySem.W.keepIn K (.ref c11) = true)
    (sa11 : PySem.W.findIn K (.ref c11) "__setattr__" = some (some (.builtin "object.__setattr__")))
    (nf11 : PySem.W.findIn K (.ref c11) "part" = some none)
    (ga12 : PySem.W.findIn K (.ref c12) "__getattribute__" = some (some (.builtin "BaseException.__getattribute__")))
    (gg12 : PySem.W.findIn K (.ref c12) "__getattr__" = some none)
    (eC12 : PySem.W.subIn K (.ref c12) (.type "BaseException") = some true)
    (hC12 : PySem.W.hasDictIn K c12 = true)
    (cc12 : PySem.W.findIn K (.ref c12) "__class__" = some (some (.builtin "object.__class__")))
    (oo12 : PySem.W.mroIn K c12 (.type "object") = some true)
    (kC12 : PySem.W.keepIn K (.ref c12) = true)
    (sa12 : PySem.W.findIn K (.ref c12) "__setattr__" = some (some (.builtin "object.__setattr__")))
    (nf12 : PySem.W.findIn K (.ref c12) "part" = some none)
    (ga13 : PySem.W.findIn K (.ref c13) "__getattribute__" = some (some (.builtin "BaseException.__getattribute__")))
    (gg13 : PySem.W.findIn K (.ref c13) "__getattr__" = some none)
    (eC13 : PySem.W.subIn K (.ref c13) (.type "BaseException") = some true)
    (hC13 : PySem.W.hasDictIn K c13 = true)
    (cc13 : PySem.W.findIn K (.ref c13) "__class__" = some (some (.builtin "object.__class__")))
    (oo13 : PySem.W.mroIn K c13 (.type "object") = some true)
    (kC13 : PySem.W.keepIn K (.ref c13) = true)
    (sa13 : PySem.W.findIn K (.ref c13) "__setattr__" = some (some (.builtin "object.__setattr__")))
    (nf13 : PySem.W.findIn K (.ref c13) "part" = some none)
    (ga14 : PySem.W.findIn K (.ref c14) "__getattribute__" = some (some (.builtin "BaseException.__getattribute__")))
    (gg14 : PySem.W.findIn K (.ref c14) "__getattr__" = some none)
    (eC14 : PySem.W.subIn K (.ref c14) (.type "BaseException") = some true)
    (hC14 : PySem.W.hasDictIn K c14 = true)
    (cc14 : PySem.W.findIn K (.ref c14) "__class__" = some (some (.builtin "object.__class__")))
    (oo14 : PySem.W.mroIn K c14 (.type "object") = some true)
    (kC14 : PySem.W.keepIn K (.ref c14) = true)
    (sa14 : PySem.W.findIn K (.ref c14) "__setattr__" = some (some (.builtin "object.__setattr__")))
    (nf14 : PySem.W.findIn K (.ref c14) "part" = some none)
    (ga15 : PySem.W.findIn K (.ref c15) "__getattribute__" = some (some (.builtin "BaseException.__getattribute__")))
    (gg15 : PySem.W.findIn K (.ref c15) "__getattr__" = some none)
    (eC15 : PySem.W.subIn K (.ref c15) (.type "BaseException") = some true)
    (hC15 : PySem.W.hasDictIn K c15 = true)
    (cc15 : PySem.W.findIn K (.ref c15) "__class__" = some (some (.builtin "object.__class__")))
    (oo15 : PySem.W.mroIn K c15 (.type "object") = some true)
    (kC15 : PySem.W.keepIn K (.ref c15) = true)
    (sa15 : PySem.W.findIn K (.ref c15) "__setattr__" = some (some (.builtin "object.__setattr__")))
    (nf15 : PySem.W.findIn K (.ref c15) "part" = some none)
    (ga16 : PySem.W.findIn K (.ref c16) "__getattribute__" = some (some (.builtin "BaseException.__getattribute__")))
    (gg16 : PySem.W.findIn K (.ref c16) "__getattr__" = some none)
    (eC16 : PySem.W.subIn K (.ref c16) (.type "BaseException") = some true)
    (hC16 : PySem.W.hasDictIn K c16 = true)
    (cc16 : PySem.W.findIn K (.ref c16) "__class__" = some (some (.builtin "object.__class__")))
    (oo16 : PySem.W.mroIn K c16 (.type "object") = some true)
    (kC16 : PySem.W.keepIn K (.ref c16) = true)
    (sa16 : PySem.W.findIn K (.ref c16) "__setattr__" = some (some (.builtin "object.__setattr__")))
    (nf16 : PySem.W.findIn K (.ref c16) "part" = some none)
    (ga17 : PySem.W.findIn K (.ref c17) "__getattribute__" = some (some (.builtin "BaseException.__getattribute__")))
    (gg17 : PySem.W.findIn K (.ref c17) "__getattr__" = some none)
    (eC17 : PySem.W.subIn K (.ref c17) (.type "BaseException") = some true)
    (hC17 : PySem.W.hasDictIn K c17 = true)
    (cc17 : PySem.W.findIn K (.ref c17) "__class__" = some (some (.builtin "object.__class__")))
    (oo17 : PySem.W.mroIn K c17 (.type "object") = some true)
    (kC17 : PySem.W.keepIn K (.ref c17) = true)
    (sa17 : PySem.W.findIn K (.ref c17) "__setattr__" = some (some (.builtin "object.__setattr__")))
    (nf17 : PySem.W.findIn K (.ref c17) "value" = some none)
    (ga18 : PySem.W.findIn K (.ref c18) "__getattribute__" = some (some (.builtin "BaseException.__getattribute__")))
    (gg18 : PySem.W.findIn K (.ref c18) "__getattr__" = some none)
    (eC18 : PySem.W.subIn K (.ref c18) (.type "BaseException") = some true)
    (hC18 : PySem.W.hasDictIn K c18 = true)
    (cc18 : PySem.W.findIn K (.ref c18) "__class__" = some (some (.builtin "object.__class__")))
    (oo18 : PySem.W.mroIn K c18 (.type "object") = some true)
    (kC18 : PySem.W.keepIn K (.ref c18) = true)
    (sa18 : PySem.W.findIn K (.ref c18) "__setattr__" = some (some (.builtin "object.__setattr__")))
    (nf18 : PySem.W.findIn K (.ref c18) "value" = some none)
    (ga19 : PySem.W.findIn K (.ref c19) "__getattribute__" = some (some (.builtin "BaseException.__getattribute__")))
    (gg19 : PySem.W.findIn K (.ref c19) "__getattr__" = some none)
    (eC19 : PySem.W.subIn K (.ref c19) (.type "BaseException") = some true)
    (hC19 : PySem.W.hasDictIn K c19 = true)
    (cc19 : PySem.W.findIn K (.ref c19) "__class__" = some (some (.builtin "object.__class__")))
    (oo19 : PySem.W.mroIn K c19 (.type "object") = some true)
    (kC19 : PySem.W.keepIn K (.ref c19) = true)
    (sa19 : PySem.W.findIn K (.ref c19) "__setattr__" = some (some (.builtin "object.__setattr__")))
    (nf19 : PySem.W.findIn K (.ref c19) "value" = some none)
    (ga20 : PySem.W.findIn K (.ref c20) "__getattribute__" = some (some (.builtin "BaseException.__getattribute__")))
    (gg20 : PySem.W.findIn K (.ref c20) "__getattr__" = some none)
    (eC20 : PySem.W.subIn K (.ref c20) (.type "BaseException") = some true)
    (hC20 : PySem.W.hasDictIn K c20 = true)
    (cc20 : PySem.W.findIn K (.ref c20) "__class__" = some (some (.builtin "object.__class__")))
    (oo20 : PySem.W.mroIn K c20 (.type "object") = some true)
    (kC20 : PySem.W.keepIn K (.ref c20) = true)
    (sa20 : PySem.W.findIn K (.ref c20) "__setattr__" = some (some (.builtin "object.__setattr__")))
    (nf20 : PySem.W.findIn K (.ref c20) "why" = some none)
    (nf20b : PySem.W.findIn K (.ref c20) "path" = some none)
    (ga21 : PySem.W.findIn K (.ref c21) "__getattribute__" = some (some (.builtin "BaseException.__getattribute__")))
    (gg21 : PySem.W.findIn K (.ref c21) "__getattr__" = some none)
    (eC21 : PySem.W.subIn K (.ref c21) (.type "BaseException") = some true)
    (hC21 : PySem.W.hasDictIn K c21 = true)
    (cc21 : PySem.W.findIn K (.ref c21) "__class__" = some (some (.builtin "object.__class__")))
    (oo21 : PySem.W.mroIn K c21 (.type "object") = some true)
    (kC21 : PySem.W.keepIn K (.ref c21) = true)
    (sa21 : PySem.W.findIn K (.ref c21) "__setattr__" = some (some (.builtin "object.__setattr__")))
    (nf21 : PySem.W.findIn K (.ref c21) "what" = some none)
    (nf21b : PySem.W.findIn K (.ref c21) "most" = some none)
    (ga22 : PySem.W.findIn K (.ref c22) "__getattribute__" = some (some (.builtin "BaseException.__getattribute__")))
    (gg22 : PySem.W.findIn K (.ref c22) "__getattr__" = some none)
    (eC22 : PySem.W.subIn K (.ref c22) (.type "BaseException") = some true)
    (hC22 : PySem.W.hasDictIn K c22 = true)
    (cc22 : PySem.W.findIn K (.ref c22) "__class__" = some (some (.builtin "object.__class__")))
    (oo22 : PySem.W.mroIn K c22 (.type "object") = some true)
    (kC22 : PySem.W.keepIn K (.ref c22) = true)
    (sa22 : PySem.W.findIn K (.ref c22) "__setattr__" = some (some (.builtin "object.__setattr__")))
    (nf22 : PySem.W.findIn K (.ref c22) "line" = some none)
    (nf22b : PySem.W.findIn K (.ref c22) "item" = some none)
    (ga23 : PySem.W.findIn K (.ref c23) "__getattribute__" = some (some (.builtin "BaseException.__getattribute__")))
    (gg23 : PySem.W.findIn K (.ref c23) "__getattr__" = some none)
    (eC23 : PySem.W.subIn K (.ref c23) (.type "BaseException") = some true)
    (hC23 : PySem.W.hasDictIn K c23 = true)
    (cc23 : PySem.W.findIn K (.ref c23) "__class__" = some (some (.builtin "object.__class__")))
    (oo23 : PySem.W.mroIn K c23 (.type "object") = some true)
    (kC23 : PySem.W.keepIn K (.ref c23) = true)
    (sa23 : PySem.W.findIn K (.ref c23) "__setattr__" = some (some (.builtin "object.__setattr__")))
    (nf23 : PySem.W.findIn K (.ref c23) "line" = some none)
    (nf23b : PySem.W.findIn K (.ref c23) "error" = some none)
    (ga24 : PySem.W.findIn K (.ref c24) "__getattribute__" = some (some (.builtin "BaseException.__getattribute__")))
    (gg24 : PySem.W.findIn K (.ref c24) "__getattr__" = some none)
    (eC24 : PySem.W.subIn K (.ref c24) (.type "BaseException") = some true)
    (hC24 : PySem.W.hasDictIn K c24 = true)
    (cc24 : PySem.W.findIn K (.ref c24) "__class__" = some (some (.builtin "object.__class__")))
    (oo24 : PySem.W.mroIn K c24 (.type "object") = some true)
    (kC24 : PySem.W.keepIn K (.ref c24) = true)
    (Q24 : PySem.W.excIn K c24 [.type "ValueError", .type "Exception", .type "BaseException", .type "object"] "ValueError.__new__" = true)
    (ga25 : PySem.W.findIn K (.ref c25) "__getattribute__" = some (some (.builtin "BaseException.__getattribute__")))
    (gg25 : PySem.W.findIn K (.ref c25) "__getattr__" = some none)
    (eC25 : PySem.W.subIn K (.ref c25) (.type "BaseException") = some true)
    (hC25 : PySem.W.hasDictIn K c25 = true)
    (cc25 : PySem.W.findIn K (.ref c25) "__class__" = some (some (.builtin "object.__class__")))
    (oo25 : PySem.W.mroIn K c25 (.type "object") = some true)
    (kC25 : PySem.W.keepIn K (.ref c25) = true)
    (Q25 : PySem.W.excIn K c25 [.type "ValueError", .type "Exception", .type "BaseException", .type "object"] "ValueError.__new__" = true)
    (ga26 : PySem.W.findIn K (.ref c26) "__getattribute__" = some (some (.builtin "BaseException.__getattribute__")))
    (gg26 : PySem.W.findIn K (.ref c26) "__getattr__" = some none)
    (eC26 : PySem.W.subIn K (.ref c26) (.type "BaseException") = some true)
    (hC26 : PySem.W.hasDictIn K c26 = true)
    (cc26 : PySem.W.findIn K (.ref c26) "__class__" = some (some (.builtin "object.__class__")))
    (oo26 : PySem.W.mroIn K c26 (.type "object") = some true)
    (kC26 : PySem.W.keepIn K (.ref c26) = true)
    (Q26 : PySem.W.excIn K c26 [.type "ValueError", .type "Exception", .type "BaseException", .type "object"] "ValueError.__new__" = true)
    (ga27 : PySem.W.findIn K (.ref c27) "__getattribute__" = some (some (.builtin "BaseException.__getattribute__")))
    (gg27 : PySem.W.findIn K (.ref c27) "__getattr__" = some none)
    (eC27 : PySem.W.subIn K (.ref c27) (.type "BaseException") = some true)
    (hC27 : PySem.W.hasDictIn K c27 = true)
    (cc27 : PySem.W.findIn K (.ref c27) "__class__" = some (some (.builtin "object.__class__")))
    (oo27 : PySem.W.mroIn K c27 (.type "object") = some true)
    (kC27 : PySem.W.keepIn K (.ref c27) = true)
    (Q27 : PySem.W.excIn K c27 [.type "ValueError", .type "Exception", .type "BaseException", .type "object"] "ValueError.__new__" = true)
    (ga28 : PySem.W.findIn K (.ref c28) "__getattribute__" = some (some (.builtin "BaseException.__getattribute__")))
    (gg28 : PySem.W.findIn K (.ref c28) "__getattr__" = some none)
    (eC28 : PySem.W.subIn K (.ref c28) (.type "BaseException") = some true)
    (hC28 : PySem.W.hasDictIn K c28 = true)
    (cc28 : PySem.W.findIn K (.ref c28) "__class__" = some (some (.builtin "object.__class__")))
    (oo28 : PySem.W.mroIn K c28 (.type "object") = some true)
    (kC28 : PySem.W.keepIn K (.ref c28) = true)
    (sa28 : PySem.W.findIn K (.ref c28) "__setattr__" = some (some (.builtin "object.__setattr__")))
    (nf28 : PySem.W.findIn K (.ref c28) "value" = some none)
    (ii0 : PySem.W.findIn K (.ref c0) "__init__" = some (some (.ref i0)))
    (ii1 : PySem.W.findIn K (.ref c1) "__init__" = some (some (.ref i1)))
    (ii2 : PySem.W.findIn K (.ref c2) "__init__" = some (some (.ref i2)))
    (ii3 : PySem.W.findIn K (.ref c3) "__init__" = some (some (.ref i3)))
    (ii4 : PySem.W.findIn K (.ref c4) "__init__" = some (some (.ref i4)))
    (ii5 : PySem.W.findIn K (.ref c5) "__init__" = some (some (.ref i5)))
    (ii6 : PySem.W.findIn K (.ref c6) "__init__" = some (some (.ref i6)))
    (ii7 : PySem.W.findIn K (.ref c7) "__init__" = some (some (.ref i7)))
    (ii8 : PySem.W.findIn K (.ref c8) "__init__" = some (some (.ref i8)))
    (ii9 : PySem.W.findIn K (.ref c9) "__init__" = some (some (.ref i9)))
    (ii10 : PySem.W.findIn K (.ref c10) "__init__" = some (some (.ref i10)))
    (ii11 : PySem.W.findIn K (.ref c11) "__init__" = some (some (.ref i11)))
    (ii12 : PySem.W.findIn K (.ref c12) "__init__" = some (some (.ref i12)))
    (ii13 : PySem.W.findIn K (.ref c13) "__init__" = some (some (.ref i13)))
    (ii14 : PySem.W.findIn K (.ref c14) "__init__" = some (some (.ref i14)))
    (ii15 : PySem.W.findIn K (.ref c15) "__init__" = some (some (.ref i15)))
    (ii16 : PySem.W.findIn K (.ref c16) "__init__" = some (some (.ref i16)))
    (ii28 : PySem.W.findIn K (.ref c28) "__init__" = some (some (.ref i28)))
    (ii20 : PySem.W.findIn K (.ref c20) "__init__" = some (some (.ref i20)))
    (ii21 : PySem.W.findIn K (.ref c21) "__init__" = some (some (.ref i21)))
    (ii22 : PySem.W.findIn K (.ref c22) "__init__" = some (some (.ref i22)))
    (ii23 : PySem.W.findIn K (.ref c23) "__init__" = some (some (.ref i23)))
    (ii17 : PySem.W.findIn K (.ref c17) "__init__" = some (some (.ref i28)))
    (ii18 : PySem.W.findIn K (.ref c18) "__init__" = some (some (.ref i28)))
    (ii19 : PySem.W.findIn K (.ref c19) "__init__" = some (some (.ref i28)))
    (ti0 : PySem.W.typeIn K (.ref i0) = some (.type "function"))
    (li0 : K.lookup i0 = some ⟨oci0, odi0, .func (PySem.W.fnOf "__init__" "BadNumber.__init__" (defArgs s_BadNumber) (defBody s_BadNumber) (defScope s_BadNumber) .none kVi0 dci0 pmi0 ani0 cdi0 cti0), sli0⟩)
    (wi0 : PySem.W.codeIn K cdi0 "BadNumber.__init__" = true)
    (ki0 : PySem.W.keepIn K (.ref i0) = true)
    (ti1 : PySem.W.typeIn K (.ref i1) = some (.type "function"))
    (li1 : K.lookup i1 = some ⟨oci1, odi1, .func (PySem.W.fnOf "__init__" "BadBlock.__init__" (defArgs s_BadBlock) (defBody s_BadBlock) (defScope s_BadBlock) .none kVi1 dci1 pmi1 ani1 cdi1 cti1), sli1⟩)
    (wi1 : PySem.W.codeIn K cdi1 "BadBlock.__init__" = true)
    (ki1 : PySem.W.keepIn K (.ref i1) = true)
    (ti2 : PySem.W.typeIn K (.ref i2) = some (.type "function"))
    (li2 : K.lookup i2 = some ⟨oci2, odi2, .func (PySem.W.fnOf "__init__" "BadRow.__init__" (defArgs s_BadRow) (defBody s_BadRow) (defScope s_BadRow) .none kVi2 dci2 pmi2 ani2 cdi2 cti2), sli2⟩)
    (wi2 : PySem.W.codeIn K cdi2 "BadRow.__init__" = true)
    (ki2 : PySem.W.keepIn K (.ref i2) = true)
    (ti3 : PySem.W.typeIn K (.ref i3) = some (.type "function"))
    (li3 : K.lookup i3 = some ⟨oci3, odi3, .func (PySem.W.fnOf "__init__" "BadPath.__init__" (defArgs s_BadPath) (defBody s_BadPath) (defScope s_BadPath) .none kVi3 dci3 pmi3 ani3 cdi3 cti3), sli3⟩)
    (wi3 : PySem.W.codeIn K cdi3 "BadPath.__init__" = true)
    (ki3 : PySem.W.keepIn K (.ref i3) = true)
    (ti4 : PySem.W.typeIn K (.ref i4) = some (.type "function"))
    (li4 : K.lookup i4 = some ⟨oci4, odi4, .func (PySem.W.fnOf "__init__" "BadValue.__init__" (defArgs s_BadValue) (defBody s_BadValue) (defScope s_BadValue) .none kVi4 dci4 pmi4 ani4 cdi4 cti4), sli4⟩)
    (wi4 : PySem.W.codeIn K cdi4 "BadValue.__init__" = true)
    (ki4 : PySem.W.keepIn K (.ref i4) = true)
    (ti5 : PySem.W.typeIn K (.ref i5) = some (.type "function"))
    (li5 : K.lookup i5 = some ⟨oci5, odi5, .func (PySem.W.fnOf "__init__" "BadTree.__init__" (defArgs s_BadTree) (defBody s_BadTree) (defScope s_BadTree) .none kVi5 dci5 pmi5 ani5 cdi5 cti5), sli5⟩)
    (wi5 : PySem.W.codeIn K cdi5 "BadTree.__init__" = true)
    (ki5 : PySem.W.keepIn K (.ref i5) = true)
    (ti6 : PySem.W.typeIn K (.ref i6) = some (.type "function"))
    (li6 : K.lookup i6 = some ⟨oci6, odi6, .func (PySem.W.fnOf "__init__" "BadDeed.__init__" (defArgs s_BadDeed) (defBody s_BadDeed) (defScope s_BadDeed) .none kVi6 dci6 pmi6 ani6 cdi6 cti6), sli6⟩)
    (wi6 : PySem.W.codeIn K cdi6 "BadDeed.__init__" = true)
    (ki6 : PySem.W.keepIn K (.ref i6) = true)
    (ti7 : PySem.W.typeIn K (.ref i7) = some (.type "function"))
    (li7 : K.lookup i7 = some ⟨oci7, odi7, .func (PySem.W.fnOf "__init__" "BadEvent.__init__" (defArgs s_BadEvent) (defBody s_BadEvent) (defScope s_BadEvent) .none kVi7 dci7 pmi7 ani7 cdi7 cti7), sli7⟩)
    (wi7 : PySem.W.codeIn K cdi7 "BadEvent.__init__" = true)
    (ki7 : PySem.W.keepIn K (.ref i7) = true)
    (ti8 : PySem.W.typeIn K (.ref i8) = some (.type "function"))
    (li8 : K.lookup i8 = some ⟨oci8, odi8, .func (PySem.W.fnOf "__init__" "BadHeard.__init__" (defArgs s_BadHeard) (defBody s_BadHeard) (defScope s_BadHeard) .none kVi8 dci8 pmi8 ani8 cdi8 cti8), sli8⟩)
    (wi8 : PySem.W.codeIn K cdi8 "BadHeard.__init__" = true)
    (ki8 : PySem.W.keepIn K (.ref i8) = true)
    (ti9 : PySem.W.typeIn K (.ref i9) = some (.type "function"))
    (li9 : K.lookup i9 = some ⟨oci9, odi9, .func (PySem.W.fnOf "__init__" "BadLot.__init__" (defArgs s_BadLot) (defBody s_BadLot) (defScope s_BadLot) .none kVi9 dci9 pmi9 ani9 cdi9 cti9), sli9⟩)
    (wi9 : PySem.W.codeIn K cdi9 "BadLot.__init__" = true)
    (ki9 : PySem.W.keepIn K (.ref i9) = true)
    (ti10 : PySem.W.typeIn K (.ref i10) = some (.type "function"))
    (li10 : K.lookup i10 = some ⟨oci10, odi10, .func (PySem.W.fnOf "__init__" "BadLetter.__init__" (defArgs s_BadLetter) (defBody s_BadLetter) (defScope s_BadLetter) .none kVi10 dci10 pmi10 ani10 cdi10 cti10), sli10⟩)
    (wi10 : PySem.W.codeIn K cdi10 "BadLetter.__init__" = true)
    (ki10 : PySem.W.keepIn K (.ref i10) = true)
    (ti11 : PySem.W.typeIn K (.ref i11) = some (.type "function"))
    (li11 : K.lookup i11 = some ⟨oci11, odi11, .func (PySem.W.fnOf "__init__" "BadMachine.__init__" (defArgs s_BadMachine) (defBody s_BadMachine) (defScope s_BadMachine) .none kVi11 dci11 pmi11 ani11 cdi11 cti11), sli11⟩)
    (wi11 : PySem.W.codeIn K cdi11 "BadMachine.__init__" = true)
    (ki11 : PySem.W.keepIn K (.ref i11) = true)
    (ti12 : PySem.W.typeIn K (.ref i12) = some (.type "function"))
    (li12 : K.lookup i12 = some ⟨oci12, odi12, .func (PySem.W.fnOf "__init__" "BadDisk.__init__" (defArgs s_BadDisk) (defBody s_BadDisk) (defScope s_BadDisk) .none kVi12 dci12 pmi12 ani12 cdi12 cti12), sli12⟩)
    (wi12 : PySem.W.codeIn K cdi12 "BadDisk.__init__" = true)
    (ki12 : PySem.W.keepIn K (.ref i12) = true)
    (ti13 : PySem.W.typeIn K (.ref i13) = some (.type "function"))
    (li13 : K.lookup i13 = some ⟨oci13, odi13, .func (PySem.W.fnOf "__init__" "BadWorld.__init__" (defArgs s_BadWorld) (defBody s_BadWorld) (defScope s_BadWorld) .none kVi13 dci13 pmi13 ani13 cdi13 cti13), sli13⟩)
    (wi13 : PySem.W.codeIn K cdi13 "BadWorld.__init__" = true)
    (ki13 : PySem.W.keepIn K (.ref i13) = true)
    (ti14 : PySem.W.typeIn K (.ref i14) = some (.type "function"))
    (li14 : K.lookup i14 = some ⟨oci14, odi14, .func (PySem.W.fnOf "__init__" "BadStep.__init__" (defArgs s_BadStep) (defBody s_BadStep) (defScope s_BadStep) .none kVi14 dci14 pmi14 ani14 cdi14 cti14), sli14⟩)
    (wi14 : PySem.W.codeIn K cdi14 "BadStep.__init__" = true)
    (ki14 : PySem.W.keepIn K (.ref i14) = true)
    (ti15 : PySem.W.typeIn K (.ref i15) = some (.type "function"))
    (li15 : K.lookup i15 = some ⟨oci15, odi15, .func (PySem.W.fnOf "__init__" "BadPaper.__init__" (defArgs s_BadPaper) (defBody s_BadPaper) (defScope s_BadPaper) .none kVi15 dci15 pmi15 ani15 cdi15 cti15), sli15⟩)
    (wi15 : PySem.W.codeIn K cdi15 "BadPaper.__init__" = true)
    (ki15 : PySem.W.keepIn K (.ref i15) = true)
    (ti16 : PySem.W.typeIn K (.ref i16) = some (.type "function"))
    (li16 : K.lookup i16 = some ⟨oci16, odi16, .func (PySem.W.fnOf "__init__" "Misfit.__init__" (defArgs s_Misfit) (defBody s_Misfit) (defScope s_Misfit) .none kVi16 dci16 pmi16 ani16 cdi16 cti16), sli16⟩)
    (wi16 : PySem.W.codeIn K cdi16 "Misfit.__init__" = true)
    (ki16 : PySem.W.keepIn K (.ref i16) = true)
    (ti28 : PySem.W.typeIn K (.ref i28) = some (.type "function"))
    (li28 : K.lookup i28 = some ⟨oci28, odi28, .func (PySem.W.fnOf "__init__" "Missing.__init__" (defArgs s_Missing) (defBody s_Missing) (defScope s_Missing) .none kVi28 dci28 pmi28 ani28 cdi28 cti28), sli28⟩)
    (wi28 : PySem.W.codeIn K cdi28 "Missing.__init__" = true)
    (ki28 : PySem.W.keepIn K (.ref i28) = true)
    (ti20 : PySem.W.typeIn K (.ref i20) = some (.type "function"))
    (li20 : K.lookup i20 = some ⟨oci20, odi20, .func (PySem.W.fnOf "__init__" "Refused.__init__" (defArgs s_Refused) (defBody s_Refused) (defScope s_Refused) .none kVi20 dci20 pmi20 ani20 cdi20 cti20), sli20⟩)
    (wi20 : PySem.W.codeIn K cdi20 "Refused.__init__" = true)
    (ki20 : PySem.W.keepIn K (.ref i20) = true)
    (ti21 : PySem.W.typeIn K (.ref i21) = some (.type "function"))
    (li21 : K.lookup i21 = some ⟨oci21, odi21, .func (PySem.W.fnOf "__init__" "TooMany.__init__" (defArgs s_TooMany) (defBody s_TooMany) (defScope s_TooMany) .none kVi21 dci21 pmi21 ani21 cdi21 cti21), sli21⟩)
    (wi21 : PySem.W.codeIn K cdi21 "TooMany.__init__" = true)
    (ki21 : PySem.W.keepIn K (.ref i21) = true)
    (ti22 : PySem.W.typeIn K (.ref i22) = some (.type "function"))
    (li22 : K.lookup i22 = some ⟨oci22, odi22, .func (PySem.W.fnOf "__init__" "BadText.__init__" (defArgs s_BadText) (defBody s_BadText) (defScope s_BadText) .none kVi22 dci22 pmi22 ani22 cdi22 cti22), sli22⟩)
    (wi22 : PySem.W.codeIn K cdi22 "BadText.__init__" = true)
    (ki22 : PySem.W.keepIn K (.ref i22) = true)
    (ti23 : PySem.W.typeIn K (.ref i23) = some (.type "function"))
    (li23 : K.lookup i23 = some ⟨oci23, odi23, .func (PySem.W.fnOf "__init__" "BadLine.__init__" (defArgs s_BadLine) (defBody s_BadLine) (defScope s_BadLine) .none kVi23 dci23 pmi23 ani23 cdi23 cti23), sli23⟩)
    (wi23 : PySem.W.codeIn K cdi23 "BadLine.__init__" = true)
    (ki23 : PySem.W.keepIn K (.ref i23) = true)
    (oG : PySem.W.specialIn K (.builtin "object.__class__") "__get__" = some (some (.builtin "getset_descriptor.__get__")))
    (oT : PySem.W.takesIn K (.builtin "object.__class__") = some true)
    {cdM : ClassData}
    (MC : PySem.W.clsIn K fM = some cdM)
    (TM : PySem.W.typeIn K (.ref fM) = some (.type "type"))
    (z_ArithmeticError : PySem.W.nsIn K mainGlobals "ArithmeticError" = some none)
    (z_AttributeError : PySem.W.nsIn K mainGlobals "AttributeError" = some none)
    (z_LookupError : PySem.W.nsIn K mainGlobals "LookupError" = some none)
    (z_RuntimeError : PySem.W.nsIn K mainGlobals "RuntimeError" = some none)
    (z_TypeError : PySem.W.nsIn K mainGlobals "TypeError" = some none)
    (z_ValueError : PySem.W.nsIn K mainGlobals "ValueError" = some none)
    (z_abs : PySem.W.nsIn K mainGlobals "abs" = some none)
    (z_int : PySem.W.nsIn K mainGlobals "int" = some none)
    (z_isinstance : PySem.W.nsIn K mainGlobals "isinstance" = some none)
    (z_len : PySem.W.nsIn K mainGlobals "len" = some none)
    (z_range : PySem.W.nsIn K mainGlobals "range" = some none)
    (z_repr : PySem.W.nsIn K mainGlobals "repr" = some none)
    (z_str : PySem.W.nsIn K mainGlobals "str" = some none)
    (nod : ([c0, c1, c2, c3, c4, c5, c6, c7, c8, c9, c10, c11, c12, c13, c14, c15, c16, c17, c18, c19, c20, c21, c22, c23, c24, c25, c26, c27, c28, fM] : List Addr).Nodup)
    : LawGs l w K 12 63 "script" mg fL h := by
  have e := hfa.symm.trans (PySem.W.mg_of X G a41)
  cases e
  have F32 := fun_mk (st := s__law_satchel) l32 w32 k32
  have F33 := fun_mk (st := s__law_reach) l33 w33 k33
  have F34 := fun_mk (st := s__law_gather) l34 w34 k34
  have F35 := fun_mk (st := s__law_value) l35 w35 k35
  have F36 := fun_mk (st := s__law_by_place) l36 w36 k36
  have F37 := fun_mk (st := s__law_by_name) l37 w37 k37
  have F38 := fun_mk (st := s__law_fields) l38 w38 k38
  have F39 := fun_mk (st := s__law_flags) l39 w39 k39
  have F40 := fun_mk (st := s__law_is_far) l40 w40 k40
  have F41 := fun_mk (st := s_law) l41 w41 k41
  have Fi0 := fun_mk (st := s_BadNumber) li0 wi0 ki0
  have Fi1 := fun_mk (st := s_BadBlock) li1 wi1 ki1
  have Fi2 := fun_mk (st := s_BadRow) li2 wi2 ki2
  have Fi3 := fun_mk (st := s_BadPath) li3 wi3 ki3
  have Fi4 := fun_mk (st := s_BadValue) li4 wi4 ki4
  have Fi5 := fun_mk (st := s_BadTree) li5 wi5 ki5
  have Fi6 := fun_mk (st := s_BadDeed) li6 wi6 ki6
  have Fi7 := fun_mk (st := s_BadEvent) li7 wi7 ki7
  have Fi8 := fun_mk (st := s_BadHeard) li8 wi8 ki8
  have Fi9 := fun_mk (st := s_BadLot) li9 wi9 ki9
  have Fi10 := fun_mk (st := s_BadLetter) li10 wi10 ki10
  have Fi11 := fun_mk (st := s_BadMachine) li11 wi11 ki11
  have Fi12 := fun_mk (st := s_BadDisk) li12 wi12 ki12
  have Fi13 := fun_mk (st := s_BadWorld) li13 wi13 ki13
  have Fi14 := fun_mk (st := s_BadStep) li14 wi14 ki14
  have Fi15 := fun_mk (st := s_BadPaper) li15 wi15 ki15
  have Fi16 := fun_mk (st := s_Misfit) li16 wi16 ki16
  have Fi28 := fun_mk (st := s_Missing) li28 wi28 ki28
  have Fi20 := fun_mk (st := s_Refused) li20 wi20 ki20
  have Fi21 := fun_mk (st := s_TooMany) li21 wi21 ki21
  have Fi22 := fun_mk (st := s_BadText) li22 wi22 ki22
  have Fi23 := fun_mk (st := s_BadLine) li23 wi23 ki23
  have C0 : ClK K c0 [.ref fM, .type "ValueError", .type "Exception", .type "BaseException", .type "object"] := ⟨_, _, _, _, _, _, _, _, _, _, _, _, _, _, L0⟩
  have X0 : ExcC K c0 := ⟨ga0, gg0, eC0, hC0, cc0, oG, oT, oo0⟩
  have E0 := errC_mkB (x := "BadNumber") (f := "part") X G A0 C0 rfl sa0 X0 nf0 ii0 ti0 kC0
  have C1 : ClK K c1 [.ref fM, .type "ValueError", .type "Exception", .type "BaseException", .type "object"] := ⟨_, _, _, _, _, _, _, _, _, _, _, _, _, _, L1⟩
  have X1 : ExcC K c1 := ⟨ga1, gg1, eC1, hC1, cc1, oG, oT, oo1⟩
  have E1 := errC_mkB (x := "BadBlock") (f := "part") X G A1 C1 rfl sa1 X1 nf1 ii1 ti1 kC1
  have C2 : ClK K c2 [.ref fM, .type "ValueError", .type "Exception", .type "BaseException", .type "object"] := ⟨_, _, _, _, _, _, _, _, _, _, _, _, _, _, L2⟩
  have X2 : ExcC K c2 := ⟨ga2, gg2, eC2, hC2, cc2, oG, oT, oo2⟩
  have E2 := errC_mkB (x := "BadRow") (f := "part") X G A2 C2 rfl sa2 X2 nf2 ii2 ti2 kC2
  have C3 : ClK K c3 [.ref fM, .type "ValueError", .type "Exception", .type "BaseException", .type "object"] := ⟨_, _, _, _, _, _, _, _, _, _, _, _, _, _, L3⟩
  have X3 : ExcC K c3 := ⟨ga3, gg3, eC3, hC3, cc3, oG, oT, oo3⟩
  have E3 := errC_mkB (x := "BadPath") (f := "part") X G A3 C3 rfl sa3 X3 nf3 ii3 ti3 kC3
  have C4 : ClK K c4 [.ref fM, .type "ValueError", .type "Exception", .type "BaseException", .type "object"] := ⟨_, _, _, _, _, _, _, _, _, _, _, _, _, _, L4⟩
  have X4 : ExcC K c4 := ⟨ga4, gg4, eC4, hC4, cc4, oG, oT, oo4⟩
  have E4 := errC_mkB (x := "BadValue") (f := "part") X G A4 C4 rfl sa4 X4 nf4 ii4 ti4 kC4
  have C5 : ClK K c5 [.ref fM, .type "ValueError", .type "Exception", .type "BaseException", .type "object"] := ⟨_, _, _, _, _, _, _, _, _, _, _, _, _, _, L5⟩
  have X5 : ExcC K c5 := ⟨ga5, gg5, eC5, hC5, cc5, oG, oT, oo5⟩
  have E5 := errC_mkB (x := "BadTree") (f := "part") X G A5 C5 rfl sa5 X5 nf5 ii5 ti5 kC5
  have C6 : ClK K c6 [.ref fM, .type "ValueError", .type "Exception", .type "BaseException", .type "object"] := ⟨_, _, _, _, _, _, _, _, _, _, _, _, _, _, L6⟩
  have X6 : ExcC K c6 := ⟨ga6, gg6, eC6, hC6, cc6, oG, oT, oo6⟩
  have E6 := errC_mkB (x := "BadDeed") (f := "part") X G A6 C6 rfl sa6 X6 nf6 ii6 ti6 kC6
  have C7 : ClK K c7 [.ref fM, .type "ValueError", .type "Exception", .type "BaseException", .type "object"] := ⟨_, _, _, _, _, _, _, _, _, _, _, _, _, _, L7⟩
  have X7 : ExcC K c7 := ⟨ga7, gg7, eC7, hC7, cc7, oG, oT, oo7⟩
  have E7 := errC_mkB (x := "BadEvent") (f := "part") X G A7 C7 rfl sa7 X7 nf7 ii7 ti7 kC7
  have C8 : ClK K c8 [.ref fM, .type "ValueError", .type "Exception", .type "BaseException", .type "object"] := ⟨_, _, _, _, _, _, _, _, _, _, _, _, _, _, L8⟩
  have X8 : ExcC K c8 := ⟨ga8, gg8, eC8, hC8, cc8, oG, oT, oo8⟩
  have E8 := errC_mkB (x := "BadHeard") (f := "part") X G A8 C8 rfl sa8 X8 nf8 ii8 ti8 kC8
  have C9 : ClK K c9 [.ref fM, .type "ValueError", .type "Exception", .type "BaseException", .type "object"] := ⟨_, _, _, _, _, _, _, _, _, _, _, _, _, _, L9⟩
  have X9 : ExcC K c9 := ⟨ga9, gg9, eC9, hC9, cc9, oG, oT, oo9⟩
  have E9 := errC_mkB (x := "BadLot") (f := "part") X G A9 C9 rfl sa9 X9 nf9 ii9 ti9 kC9
  have C10 : ClK K c10 [.ref fM, .type "ValueError", .type "Exception", .type "BaseException", .type "object"] := ⟨_, _, _, _, _, _, _, _, _, _, _, _, _, _, L10⟩
  have X10 : ExcC K c10 := ⟨ga10, gg10, eC10, hC10, cc10, oG, oT, oo10⟩
  have E10 := errC_mkB (x := "BadLetter") (f := "part") X G A10 C10 rfl sa10 X10 nf10 ii10 ti10 kC10
  have C11 : ClK K c11 [.ref fM, .type "ValueError", .type "Exception", .type "BaseException", .type "object"] := ⟨_, _, _, _, _, _, _, _, _, _, _, _, _, _, L11⟩
  have X11 : ExcC K c11 := ⟨ga11, gg11, eC11, hC11, cc11, oG, oT, oo11⟩
  have E11 := errC_mkB (x := "BadMachine") (f := "part") X G A11 C11 rfl sa11 X11 nf11 ii11 ti11 kC11
  have C12 : ClK K c12 [.ref fM, .type "ValueError", .type "Exception", .type "BaseException", .type "object"] := ⟨_, _, _, _, _, _, _, _, _, _, _, _, _, _, L12⟩
  have X12 : ExcC K c12 := ⟨ga12, gg12, eC12, hC12, cc12, oG, oT, oo12⟩
  have E12 := errC_mkB (x := "BadDisk") (f := "part") X G A12 C12 rfl sa12 X12 nf12 ii12 ti12 kC12
  have C13 : ClK K c13 [.ref fM, .type "ValueError", .type "Exception", .type "BaseException", .type "object"] := ⟨_, _, _, _, _, _, _, _, _, _, _, _, _, _, L13⟩
  have X13 : ExcC K c13 := ⟨ga13, gg13, eC13, hC13, cc13, oG, oT, oo13⟩
  have E13 := errC_mkB (x := "BadWorld") (f := "part") X G A13 C13 rfl sa13 X13 nf13 ii13 ti13 kC13
  have C14 : ClK K c14 [.ref fM, .type "ValueError", .type "Exception", .type "BaseException", .type "object"] := ⟨_, _, _, _, _, _, _, _, _, _, _, _, _, _, L14⟩
  have X14 : ExcC K c14 := ⟨ga14, gg14, eC14, hC14, cc14, oG, oT, oo14⟩
  have E14 := errC_mkB (x := "BadStep") (f := "part") X G A14 C14 rfl sa14 X14 nf14 ii14 ti14 kC14
  have C15 : ClK K c15 [.ref fM, .type "ValueError", .type "Exception", .type "BaseException", .type "object"] := ⟨_, _, _, _, _, _, _, _, _, _, _, _, _, _, L15⟩
  have X15 : ExcC K c15 := ⟨ga15, gg15, eC15, hC15, cc15, oG, oT, oo15⟩
  have E15 := errC_mkB (x := "BadPaper") (f := "part") X G A15 C15 rfl sa15 X15 nf15 ii15 ti15 kC15
  have C16 : ClK K c16 [.ref fM, .type "ValueError", .type "Exception", .type "BaseException", .type "object"] := ⟨_, _, _, _, _, _, _, _, _, _, _, _, _, _, L16⟩
  have X16 : ExcC K c16 := ⟨ga16, gg16, eC16, hC16, cc16, oG, oT, oo16⟩
  have E16 := errC_mkB (x := "Misfit") (f := "part") X G A16 C16 rfl sa16 X16 nf16 ii16 ti16 kC16
  have C17 : ClK K c17 (.ref c28 :: [.ref fM, .type "ValueError", .type "Exception", .type "BaseException", .type "object"]) := ⟨_, _, _, _, _, _, _, _, _, _, _, _, _, _, L17⟩
  have X17 : ExcC K c17 := ⟨ga17, gg17, eC17, hC17, cc17, oG, oT, oo17⟩
  have E17 := errC_mkB (x := "NoEvent") (f := "value") X G A17 C17 rfl sa17 X17 nf17 ii17 ti28 kC17
  have C18 : ClK K c18 (.ref c28 :: [.ref fM, .type "ValueError", .type "Exception", .type "BaseException", .type "object"]) := ⟨_, _, _, _, _, _, _, _, _, _, _, _, _, _, L18⟩
  have X18 : ExcC K c18 := ⟨ga18, gg18, eC18, hC18, cc18, oG, oT, oo18⟩
  have E18 := errC_mkB (x := "NoChange") (f := "value") X G A18 C18 rfl sa18 X18 nf18 ii18 ti28 kC18
  have C19 : ClK K c19 (.ref c28 :: [.ref fM, .type "ValueError", .type "Exception", .type "BaseException", .type "object"]) := ⟨_, _, _, _, _, _, _, _, _, _, _, _, _, _, L19⟩
  have X19 : ExcC K c19 := ⟨ga19, gg19, eC19, hC19, cc19, oG, oT, oo19⟩
  have E19 := errC_mkB (x := "NoMachine") (f := "value") X G A19 C19 rfl sa19 X19 nf19 ii19 ti28 kC19
  have C20 : ClK K c20 [.ref fM, .type "ValueError", .type "Exception", .type "BaseException", .type "object"] := ⟨_, _, _, _, _, _, _, _, _, _, _, _, _, _, L20⟩
  have X20 : ExcC K c20 := ⟨ga20, gg20, eC20, hC20, cc20, oG, oT, oo20⟩
  have E20 := errC_mkB (x := "Refused") (f := "why") X G A20 C20 rfl sa20 X20 nf20 ii20 ti20 kC20
  have C21 : ClK K c21 [.ref fM, .type "ValueError", .type "Exception", .type "BaseException", .type "object"] := ⟨_, _, _, _, _, _, _, _, _, _, _, _, _, _, L21⟩
  have X21 : ExcC K c21 := ⟨ga21, gg21, eC21, hC21, cc21, oG, oT, oo21⟩
  have E21 := errC_mkB (x := "TooMany") (f := "what") X G A21 C21 rfl sa21 X21 nf21 ii21 ti21 kC21
  have C22 : ClK K c22 [.ref fM, .type "ValueError", .type "Exception", .type "BaseException", .type "object"] := ⟨_, _, _, _, _, _, _, _, _, _, _, _, _, _, L22⟩
  have X22 : ExcC K c22 := ⟨ga22, gg22, eC22, hC22, cc22, oG, oT, oo22⟩
  have E22 := errC_mkB (x := "BadText") (f := "line") X G A22 C22 rfl sa22 X22 nf22 ii22 ti22 kC22
  have C23 : ClK K c23 [.ref fM, .type "ValueError", .type "Exception", .type "BaseException", .type "object"] := ⟨_, _, _, _, _, _, _, _, _, _, _, _, _, _, L23⟩
  have X23 : ExcC K c23 := ⟨ga23, gg23, eC23, hC23, cc23, oG, oT, oo23⟩
  have E23 := errC_mkB (x := "BadLine") (f := "line") X G A23 C23 rfl sa23 X23 nf23 ii23 ti23 kC23
  have C24 : ClK K c24 [.ref fM, .type "ValueError", .type "Exception", .type "BaseException", .type "object"] := ⟨_, _, _, _, _, _, _, _, _, _, _, _, _, _, L24⟩
  have X24 : ExcC K c24 := ⟨ga24, gg24, eC24, hC24, cc24, oG, oT, oo24⟩
  have C25 : ClK K c25 [.ref fM, .type "ValueError", .type "Exception", .type "BaseException", .type "object"] := ⟨_, _, _, _, _, _, _, _, _, _, _, _, _, _, L25⟩
  have X25 : ExcC K c25 := ⟨ga25, gg25, eC25, hC25, cc25, oG, oT, oo25⟩
  have C26 : ClK K c26 [.ref fM, .type "ValueError", .type "Exception", .type "BaseException", .type "object"] := ⟨_, _, _, _, _, _, _, _, _, _, _, _, _, _, L26⟩
  have X26 : ExcC K c26 := ⟨ga26, gg26, eC26, hC26, cc26, oG, oT, oo26⟩
  have C27 : ClK K c27 [.ref fM, .type "ValueError", .type "Exception", .type "BaseException", .type "object"] := ⟨_, _, _, _, _, _, _, _, _, _, _, _, _, _, L27⟩
  have X27 : ExcC K c27 := ⟨ga27, gg27, eC27, hC27, cc27, oG, oT, oo27⟩
  have C28 : ClK K c28 [.ref fM, .type "ValueError", .type "Exception", .type "BaseException", .type "object"] := ⟨_, _, _, _, _, _, _, _, _, _, _, _, _, _, L28⟩
  have X28 : ExcC K c28 := ⟨ga28, gg28, eC28, hC28, cc28, oG, oT, oo28⟩
  have E28 := errC_mkB (x := "Missing") (f := "value") X G AX C28 rfl sa28 X28 nf28 ii28 ti28 kC28
  have CLs : ∀ i, i < 29 → ∃ bm, ClK K (([c0, c1, c2, c3, c4, c5, c6, c7, c8, c9, c10, c11, c12, c13, c14, c15, c16, c17, c18, c19, c20, c21, c22, c23, c24, c25, c26, c27, c28] : List Addr).getD i 0) bm ∧ (bm = [.ref fM, .type "ValueError", .type "Exception", .type "BaseException", .type "object"] ∨ (bm = .ref c28 :: [.ref fM, .type "ValueError", .type "Exception", .type "BaseException", .type "object"] ∧ (i = 17 ∨ i = 18 ∨ i = 19))) ∧ (bm = [.ref fM, .type "ValueError", .type "Exception", .type "BaseException", .type "object"] → i ≠ 17 ∧ i ≠ 18 ∧ i ≠ 19)
    | 0, _ => ⟨_, C0, .inl rfl, (fun _ => by omega)⟩
    | 1, _ => ⟨_, C1, .inl rfl, (fun _ => by omega)⟩
    | 2, _ => ⟨_, C2, .inl rfl, (fun _ => by omega)⟩
    | 3, _ => ⟨_, C3, .inl rfl, (fun _ => by omega)⟩
    | 4, _ => ⟨_, C4, .inl rfl, (fun _ => by omega)⟩
    | 5, _ => ⟨_, C5, .inl rfl, (fun _ => by omega)⟩
    | 6, _ => ⟨_, C6, .inl rfl, (fun _ => by omega)⟩
    | 7, _ => ⟨_, C7, .inl rfl, (fun _ => by omega)⟩
    | 8, _ => ⟨_, C8, .inl rfl, (fun _ => by omega)⟩
    | 9, _ => ⟨_, C9, .inl rfl, (fun _ => by omega)⟩
    | 10, _ => ⟨_, C10, .inl rfl, (fun _ => by omega)⟩
    | 11, _ => ⟨_, C11, .inl rfl, (fun _ => by omega)⟩
    | 12, _ => ⟨_, C12, .inl rfl, (fun _ => by omega)⟩
    | 13, _ => ⟨_, C13, .inl rfl, (fun _ => by omega)⟩
    | 14, _ => ⟨_, C14, .inl rfl, (fun _ => by omega)⟩
    | 15, _ => ⟨_, C15, .inl rfl, (fun _ => by omega)⟩
    | 16, _ => ⟨_, C16, .inl rfl, (fun _ => by omega)⟩
    | 17, _ => ⟨_, C17, .inr ⟨rfl, by omega⟩, (fun e => by simp at e)⟩
    | 18, _ => ⟨_, C18, .inr ⟨rfl, by omega⟩, (fun e => by simp at e)⟩
    | 19, _ => ⟨_, C19, .inr ⟨rfl, by omega⟩, (fun e => by simp at e)⟩
    | 20, _ => ⟨_, C20, .inl rfl, (fun _ => by omega)⟩
    | 21, _ => ⟨_, C21, .inl rfl, (fun _ => by omega)⟩
    | 22, _ => ⟨_, C22, .inl rfl, (fun _ => by omega)⟩
    | 23, _ => ⟨_, C23, .inl rfl, (fun _ => by omega)⟩
    | 24, _ => ⟨_, C24, .inl rfl, (fun _ => by omega)⟩
    | 25, _ => ⟨_, C25, .inl rfl, (fun _ => by omega)⟩
    | 26, _ => ⟨_, C26, .inl rfl, (fun _ => by omega)⟩
    | 27, _ => ⟨_, C27, .inl rfl, (fun _ => by omega)⟩
    | 28, _ => ⟨_, C28, .inl rfl, (fun _ => by omega)⟩
    | i + 29, z => absurd z (by omega)
  have inj : ∀ i j, i < 30 → j < 30 → ([c0, c1, c2, c3, c4, c5, c6, c7, c8, c9, c10, c11, c12, c13, c14, c15, c16, c17, c18, c19, c20, c21, c22, c23, c24, c25, c26, c27, c28, fM] : List Addr).getD i 0 = ([c0, c1, c2, c3, c4, c5, c6, c7, c8, c9, c10, c11, c12, c13, c14, c15, c16, c17, c18, c19, c20, c21, c22, c23, c24, c25, c26, c27, c28, fM] : List Addr).getD j 0 → i = j := fun i j hi hj e => nodup_inj nod (by simpa using hi) (by simpa using hj) e
  have up : ∀ i, i < 29 → ([c0, c1, c2, c3, c4, c5, c6, c7, c8, c9, c10, c11, c12, c13, c14, c15, c16, c17, c18, c19, c20, c21, c22, c23, c24, c25, c26, c27, c28] : List Addr).getD i 0 = ([c0, c1, c2, c3, c4, c5, c6, c7, c8, c9, c10, c11, c12, c13, c14, c15, c16, c17, c18, c19, c20, c21, c22, c23, c24, c25, c26, c27, c28, fM] : List Addr).getD i 0
    | 0, _ => rfl
    | 1, _ => rfl
    | 2, _ => rfl
    | 3, _ => rfl
    | 4, _ => rfl
    | 5, _ => rfl
    | 6, _ => rfl
    | 7, _ => rfl
    | 8, _ => rfl
    | 9, _ => rfl
    | 10, _ => rfl
    | 11, _ => rfl
    | 12, _ => rfl
    | 13, _ => rfl
    | 14, _ => rfl
    | 15, _ => rfl
    | 16, _ => rfl
    | 17, _ => rfl
    | 18, _ => rfl
    | 19, _ => rfl
    | 20, _ => rfl
    | 21, _ => rfl
    | 22, _ => rfl
    | 23, _ => rfl
    | 24, _ => rfl
    | 25, _ => rfl
    | 26, _ => rfl
    | 27, _ => rfl
    | 28, _ => rfl
    | i + 29, z => absurd z (by omega)
  have T : Txt K mg (fa3 [0, fM, 0, 0, 0, 0, 0, 0, 0, 0, 0, 0, 0, 0, 0, 0, 0, 0, 0, 0, 0, 0, 0, 0, 0, 0, 0, 0, 0, 0, 0, 0, f32, f33, f34, f35, f36, f37, f38, f39, f40, fL] [c0, c1, c2, c3, c4, c5, c6, c7, c8, c9, c10, c11, c12, c13, c14, c15, c16, c17, c18, c19, c20, c21, c22, c23, c24, c25, c26, c27, c28] [i0, i1, i2, i3, i4, i5, i6, i7, i8, i9, i10, i11, i12, i13, i14, i15, i16, 0, 0, 0, i20, i21, i22, i23, 0, 0, 0, 0, i28]) (fd3 [fd0, fd0, fd0, fd0, fd0, fd0, fd0, fd0, fd0, fd0, fd0, fd0, fd0, fd0, fd0, fd0, fd0, fd0, fd0, fd0, fd0, fd0, fd0, fd0, fd0, fd0, fd0, fd0, fd0, fd0, fd0, fd0, (PySem.W.fnOf "_law_satchel" "_law_satchel" (defArgs s__law_satchel) (defBody s__law_satchel) (defScope s__law_satchel) .none kV32 dc32 pm32 an32 cd32 ct32), (PySem.W.fnOf "_law_reach" "_law_reach" (defArgs s__law_reach) (defBody s__law_reach) (defScope s__law_reach) .none kV33 dc33 pm33 an33 cd33 ct33), (PySem.W.fnOf "_law_gather" "_law_gather" (defArgs s__law_gather) (defBody s__law_gather) (defScope s__law_gather) .none kV34 dc34 pm34 an34 cd34 ct34), (PySem.W.fnOf "_law_value" "_law_value" (defArgs s__law_value) (defBody s__law_value) (defScope s__law_value) .none kV35 dc35 pm35 an35 cd35 ct35), (PySem.W.fnOf "_law_by_place" "_law_by_place" (defArgs s__law_by_place) (defBody s__law_by_place) (defScope s__law_by_place) .none kV36 dc36 pm36 an36 cd36 ct36), (PySem.W.fnOf "_law_by_name" "_law_by_name" (defArgs s__law_by_name) (defBody s__law_by_name) (defScope s__law_by_name) .none kV37 dc37 pm37 an37 cd37 ct37), (PySem.W.fnOf "_law_fields" "_law_fields" (defArgs s__law_fields) (defBody s__law_fields) (defScope s__law_fields) .none kV38 dc38 pm38 an38 cd38 ct38), (PySem.W.fnOf "_law_flags" "_law_flags" (defArgs s__law_flags) (defBody s__law_flags) (defScope s__law_flags) .none kV39 dc39 pm39 an39 cd39 ct39), (PySem.W.fnOf "_law_is_far" "_law_is_far" (defArgs s__law_is_far) (defBody s__law_is_far) (defScope s__law_is_far) .none kV40 dc40 pm40 an40 cd40 ct40), (PySem.W.fnOf "law" "law" (defArgs s_law) (defBody s_law) (defScope s_law) .none kV41 dc41 pm41 an41 cd41 ct41)] [(PySem.W.fnOf "__init__" "BadNumber.__init__" (defArgs s_BadNumber) (defBody s_BadNumber) (defScope s_BadNumber) .none kVi0 dci0 pmi0 ani0 cdi0 cti0), (PySem.W.fnOf "__init__" "BadBlock.__init__" (defArgs s_BadBlock) (defBody s_BadBlock) (defScope s_BadBlock) .none kVi1 dci1 pmi1 ani1 cdi1 cti1), (PySem.W.fnOf "__init__" "BadRow.__init__" (defArgs s_BadRow) (defBody s_BadRow) (defScope s_BadRow) .none kVi2 dci2 pmi2 ani2 cdi2 cti2), (PySem.W.fnOf "__init__" "BadPath.__init__" (defArgs s_BadPath) (defBody s_BadPath) (defScope s_BadPath) .none kVi3 dci3 pmi3 ani3 cdi3 cti3), (PySem.W.fnOf "__init__" "BadValue.__init__" (defArgs s_BadValue) (defBody s_BadValue) (defScope s_BadValue) .none kVi4 dci4 pmi4 ani4 cdi4 cti4), (PySem.W.fnOf "__init__" "BadTree.__init__" (defArgs s_BadTree) (defBody s_BadTree) (defScope s_BadTree) .none kVi5 dci5 pmi5 ani5 cdi5 cti5), (PySem.W.fnOf "__init__" "BadDeed.__init__" (defArgs s_BadDeed) (defBody s_BadDeed) (defScope s_BadDeed) .none kVi6 dci6 pmi6 ani6 cdi6 cti6), (PySem.W.fnOf "__init__" "BadEvent.__init__" (defArgs s_BadEvent) (defBody s_BadEvent) (defScope s_BadEvent) .none kVi7 dci7 pmi7 ani7 cdi7 cti7), (PySem.W.fnOf "__init__" "BadHeard.__init__" (defArgs s_BadHeard) (defBody s_BadHeard) (defScope s_BadHeard) .none kVi8 dci8 pmi8 ani8 cdi8 cti8), (PySem.W.fnOf "__init__" "BadLot.__init__" (defArgs s_BadLot) (defBody s_BadLot) (defScope s_BadLot) .none kVi9 dci9 pmi9 ani9 cdi9 cti9), (PySem.W.fnOf "__init__" "BadLetter.__init__" (defArgs s_BadLetter) (defBody s_BadLetter) (defScope s_BadLetter) .none kVi10 dci10 pmi10 ani10 cdi10 cti10), (PySem.W.fnOf "__init__" "BadMachine.__init__" (defArgs s_BadMachine) (defBody s_BadMachine) (defScope s_BadMachine) .none kVi11 dci11 pmi11 ani11 cdi11 cti11), (PySem.W.fnOf "__init__" "BadDisk.__init__" (defArgs s_BadDisk) (defBody s_BadDisk) (defScope s_BadDisk) .none kVi12 dci12 pmi12 ani12 cdi12 cti12), (PySem.W.fnOf "__init__" "BadWorld.__init__" (defArgs s_BadWorld) (defBody s_BadWorld) (defScope s_BadWorld) .none kVi13 dci13 pmi13 ani13 cdi13 cti13), (PySem.W.fnOf "__init__" "BadStep.__init__" (defArgs s_BadStep) (defBody s_BadStep) (defScope s_BadStep) .none kVi14 dci14 pmi14 ani14 cdi14 cti14), (PySem.W.fnOf "__init__" "BadPaper.__init__" (defArgs s_BadPaper) (defBody s_BadPaper) (defScope s_BadPaper) .none kVi15 dci15 pmi15 ani15 cdi15 cti15), (PySem.W.fnOf "__init__" "Misfit.__init__" (defArgs s_Misfit) (defBody s_Misfit) (defScope s_Misfit) .none kVi16 dci16 pmi16 ani16 cdi16 cti16), fd0, fd0, fd0, (PySem.W.fnOf "__init__" "Refused.__init__" (defArgs s_Refused) (defBody s_Refused) (defScope s_Refused) .none kVi20 dci20 pmi20 ani20 cdi20 cti20), (PySem.W.fnOf "__init__" "TooMany.__init__" (defArgs s_TooMany) (defBody s_TooMany) (defScope s_TooMany) .none kVi21 dci21 pmi21 ani21 cdi21 cti21), (PySem.W.fnOf "__init__" "BadText.__init__" (defArgs s_BadText) (defBody s_BadText) (defScope s_BadText) .none kVi22 dci22 pmi22 ani22 cdi22 cti22), (PySem.W.fnOf "__init__" "BadLine.__init__" (defArgs s_BadLine) (defBody s_BadLine) (defScope s_BadLine) .none kVi23 dci23 pmi23 ani23 cdi23 cti23), fd0, fd0, fd0, fd0, (PySem.W.fnOf "__init__" "Missing.__init__" (defArgs s_Missing) (defBody s_Missing) (defScope s_Missing) .none kVi28 dci28 pmi28 ani28 cdi28 cti28)] fd0) := {
    F__law_satchel := F32
    g__law_satchel := PySem.W.mg_of X G a32
    b__law_satchel := F32.binds (ps := ["script"]) fun _ _ _ _ _ _ us hl => match us, hl with | [_], _ => rfl
    F__law_reach := F33
    g__law_reach := PySem.W.mg_of X G a33
    b__law_reach := F33.binds (ps := ["satchel", "many"]) fun _ _ _ _ _ _ us hl => match us, hl with | [_, _], _ => rfl
    F__law_gather := F34
    g__law_gather := PySem.W.mg_of X G a34
    b__law_gather := F34.binds (ps := ["satchel", "some"]) fun _ _ _ _ _ _ us hl => match us, hl with | [_, _], _ => rfl
    F__law_value := F35
    g__law_value := PySem.W.mg_of X G a35
    b__law_value := F35.binds (ps := ["satchel"]) fun _ _ _ _ _ _ us hl => match us, hl with | [_], _ => rfl
    F__law_by_place := F36
    g__law_by_place := PySem.W.mg_of X G a36
    b__law_by_place := F36.binds (ps := ["at", "one", "other"]) fun _ _ _ _ _ _ us hl => match us, hl with | [_, _, _], _ => rfl
    F__law_by_name := F37
    g__law_by_name := PySem.W.mg_of X G a37
    b__law_by_name := F37.binds (ps := ["at", "one", "other"]) fun _ _ _ _ _ _ us hl => match us, hl with | [_, _, _], _ => rfl
    F__law_fields := F38
    g__law_fields := PySem.W.mg_of X G a38
    b__law_fields := F38.binds (ps := ["at", "error"]) fun _ _ _ _ _ _ us hl => match us, hl with | [_, _], _ => rfl
    F__law_flags := F39
    g__law_flags := PySem.W.mg_of X G a39
    b__law_flags := F39.binds (ps := ["error"]) fun _ _ _ _ _ _ us hl => match us, hl with | [_], _ => rfl
    F__law_is_far := F40
    g__law_is_far := PySem.W.mg_of X G a40
    b__law_is_far := F40.binds (ps := ["error"]) fun _ _ _ _ _ _ us hl => match us, hl with | [_], _ => rfl
    F_law := F41
    g_law := PySem.W.mg_of X G a41
    b_law := F41.binds (ps := ["script"]) fun _ _ _ _ _ _ us hl => match us, hl with | [_], _ => rfl
    F_BadNumber := Fi0
    b_BadNumber := Fi0.binds (ps := ["self", "part"]) fun _ _ _ _ _ _ us hl => match us, hl with | [_, _], _ => rfl
    kb_BadNumber := MT.Fun.kbn Fi0 1 ["part"] (fun us ws => kOne us ws) (fun r1 r2 => grel_kOne r1 r2) fun _ _ _ _ _ _ us ws h1 h2 => match us, h1, ws, h2 with | [_], _, [_], _ => rfl
    F_BadBlock := Fi1
    b_BadBlock := Fi1.binds (ps := ["self", "part"]) fun _ _ _ _ _ _ us hl => match us, hl with | [_, _], _ => rfl
    kb_BadBlock := MT.Fun.kbn Fi1 1 ["part"] (fun us ws => kOne us ws) (fun r1 r2 => grel_kOne r1 r2) fun _ _ _ _ _ _ us ws h1 h2 => match us, h1, ws, h2 with | [_], _, [_], _ => rfl
    F_BadRow := Fi2
    b_BadRow := Fi2.binds (ps := ["self", "part"]) fun _ _ _ _ _ _ us hl => match us, hl with | [_, _], _ => rfl
    kb_BadRow := MT.Fun.kbn Fi2 1 ["part"] (fun us ws => kOne us ws) (fun r1 r2 => grel_kOne r1 r2) fun _ _ _ _ _ _ us ws h1 h2 => match us, h1, ws, h2 with | [_], _, [_], _ => rfl
    F_BadPath := Fi3
    b_BadPath := Fi3.binds (ps := ["self", "part"]) fun _ _ _ _ _ _ us hl => match us, hl with | [_, _], _ => rfl
    kb_BadPath := MT.Fun.kbn Fi3 1 ["part"] (fun us ws => kOne us ws) (fun r1 r2 => grel_kOne r1 r2) fun _ _ _ _ _ _ us ws h1 h2 => match us, h1, ws, h2 with | [_], _, [_], _ => rfl
    F_BadValue := Fi4
    b_BadValue := Fi4.binds (ps := ["self", "part"]) fun _ _ _ _ _ _ us hl => match us, hl with | [_, _], _ => rfl
    kb_BadValue := MT.Fun.kbn Fi4 1 ["part"] (fun us ws => kOne us ws) (fun r1 r2 => grel_kOne r1 r2) fun _ _ _ _ _ _ us ws h1 h2 => match us, h1, ws, h2 with | [_], _, [_], _ => rfl
    F_BadTree := Fi5
    b_BadTree := Fi5.binds (ps := ["self", "part"]) fun _ _ _ _ _ _ us hl => match us, hl with | [_, _], _ => rfl
    kb_BadTree := MT.Fun.kbn Fi5 1 ["part"] (fun us ws => kOne us ws) (fun r1 r2 => grel_kOne r1 r2) fun _ _ _ _ _ _ us ws h1 h2 => match us, h1, ws, h2 with | [_], _, [_], _ => rfl
    F_BadDeed := Fi6
    b_BadDeed := Fi6.binds (ps := ["self", "part"]) fun _ _ _ _ _ _ us hl => match us, hl with | [_, _], _ => rfl
    kb_BadDeed := MT.Fun.kbn Fi6 1 ["part"] (fun us ws => kOne us ws) (fun r1 r2 => grel_kOne r1 r2) fun _ _ _ _ _ _ us ws h1 h2 => match us, h1, ws, h2 with | [_], _, [_], _ => rfl
    F_BadEvent := Fi7
    b_BadEvent := Fi7.binds (ps := ["self", "part"]) fun _ _ _ _ _ _ us hl => match us, hl with | [_, _], _ => rfl
    kb_BadEvent := MT.Fun.kbn Fi7 1 ["part"] (fun us ws => kOne us ws) (fun r1 r2 => grel_kOne r1 r2) fun _ _ _ _ _ _ us ws h1 h2 => match us, h1, ws, h2 with | [_], _, [_], _ => rfl
    F_BadHeard := Fi8
    b_BadHeard := Fi8.binds (ps := ["self", "part"]) fun _ _ _ _ _ _ us hl => match us, hl with | [_, _], _ => rfl
    kb_BadHeard := MT.Fun.kbn Fi8 1 ["part"] (fun us ws => kOne us ws) (fun r1 r2 => grel_kOne r1 r2) fun _ _ _ _ _ _ us ws h1 h2 => match us, h1, ws, h2 with | [_], _, [_], _ => rfl
    F_BadLot := Fi9
    b_BadLot := Fi9.binds (ps := ["self", "part"]) fun _ _ _ _ _ _ us hl => match us, hl with | [_, _], _ => rfl
    kb_BadLot := MT.Fun.kbn Fi9 1 ["part"] (fun us ws => kOne us ws) (fun r1 r2 => grel_kOne r1 r2) fun _ _ _ _ _ _ us ws h1 h2 => match us, h1, ws, h2 with | [_], _, [_], _ => rfl
    F_BadLetter := Fi10
    b_BadLetter := Fi10.binds (ps := ["self", "part"]) fun _ _ _ _ _ _ us hl => match us, hl with | [_, _], _ => rfl
    kb_BadLetter := MT.Fun.kbn Fi10 1 ["part"] (fun us ws => kOne us ws) (fun r1 r2 => grel_kOne r1 r2) fun _ _ _ _ _ _ us ws h1 h2 => match us, h1, ws, h2 with | [_], _, [_], _ => rfl
    F_BadMachine := Fi11
    b_BadMachine := Fi11.binds (ps := ["self", "part"]) fun _ _ _ _ _ _ us hl => match us, hl with | [_, _], _ => rfl
    kb_BadMachine := MT.Fun.kbn Fi11 1 ["part"] (fun us ws => kOne us ws) (fun r1 r2 => grel_kOne r1 r2) fun _ _ _ _ _ _ us ws h1 h2 => match us, h1, ws, h2 with | [_], _, [_], _ => rfl
    F_BadDisk := Fi12
    b_BadDisk := Fi12.binds (ps := ["self", "part"]) fun _ _ _ _ _ _ us hl => match us, hl with | [_, _], _ => rfl
    kb_BadDisk := MT.Fun.kbn Fi12 1 ["part"] (fun us ws => kOne us ws) (fun r1 r2 => grel_kOne r1 r2) fun _ _ _ _ _ _ us ws h1 h2 => match us, h1, ws, h2 with | [_], _, [_], _ => rfl
    F_BadWorld := Fi13
    b_BadWorld := Fi13.binds (ps := ["self", "part"]) fun _ _ _ _ _ _ us hl => match us, hl with | [_, _], _ => rfl
    kb_BadWorld := MT.Fun.kbn Fi13 1 ["part"] (fun us ws => kOne us ws) (fun r1 r2 => grel_kOne r1 r2) fun _ _ _ _ _ _ us ws h1 h2 => match us, h1, ws, h2 with | [_], _, [_], _ => rfl
    F_BadStep := Fi14
    b_BadStep := Fi14.binds (ps := ["self", "part"]) fun _ _ _ _ _ _ us hl => match us, hl with | [_, _], _ => rfl
    kb_BadStep := MT.Fun.kbn Fi14 1 ["part"] (fun us ws => kOne us ws) (fun r1 r2 => grel_kOne r1 r2) fun _ _ _ _ _ _ us ws h1 h2 => match us, h1, ws, h2 with | [_], _, [_], _ => rfl
    F_BadPaper := Fi15
    b_BadPaper := Fi15.binds (ps := ["self", "part"]) fun _ _ _ _ _ _ us hl => match us, hl with | [_, _], _ => rfl
    kb_BadPaper := MT.Fun.kbn Fi15 1 ["part"] (fun us ws => kOne us ws) (fun r1 r2 => grel_kOne r1 r2) fun _ _ _ _ _ _ us ws h1 h2 => match us, h1, ws, h2 with | [_], _, [_], _ => rfl
    F_Misfit := Fi16
    b_Misfit := Fi16.binds (ps := ["self", "part"]) fun _ _ _ _ _ _ us hl => match us, hl with | [_, _], _ => rfl
    kb_Misfit := MT.Fun.kbn Fi16 1 ["part"] (fun us ws => kOne us ws) (fun r1 r2 => grel_kOne r1 r2) fun _ _ _ _ _ _ us ws h1 h2 => match us, h1, ws, h2 with | [_], _, [_], _ => rfl
    F_Missing := Fi28
    b_Missing := Fi28.binds (ps := ["self", "value"]) fun _ _ _ _ _ _ us hl => match us, hl with | [_, _], _ => rfl
    kb_Missing := MT.Fun.kbn Fi28 1 ["value"] (fun us ws => kOne us ws) (fun r1 r2 => grel_kOne r1 r2) fun _ _ _ _ _ _ us ws h1 h2 => match us, h1, ws, h2 with | [_], _, [_], _ => rfl
    F_Refused := Fi20
    b_Refused := Fi20.binds (ps := ["self", "why", "path"]) fun _ _ _ _ _ _ us hl => match us, hl with | [_, _, _], _ => rfl
    kb_Refused := MT.Fun.kbn Fi20 1 ["path", "why"] (fun us ws => kTwo us ws) (fun r1 r2 => grel_kTwo r1 r2) fun _ _ _ _ _ _ us ws h1 h2 => match us, h1, ws, h2 with | [_], _, [_, _], _ => rfl
    F_TooMany := Fi21
    b_TooMany := Fi21.binds (ps := ["self", "what", "most"]) fun _ _ _ _ _ _ us hl => match us, hl with | [_, _, _], _ => rfl
    kb_TooMany := MT.Fun.kbn Fi21 1 ["most", "what"] (fun us ws => kTwo us ws) (fun r1 r2 => grel_kTwo r1 r2) fun _ _ _ _ _ _ us ws h1 h2 => match us, h1, ws, h2 with | [_], _, [_, _], _ => rfl
    F_BadText := Fi22
    b_BadText := Fi22.binds (ps := ["self", "line", "item"]) fun _ _ _ _ _ _ us hl => match us, hl with | [_, _, _], _ => rfl
    kb_BadText := MT.Fun.kbn Fi22 1 ["item", "line"] (fun us ws => kTwo us ws) (fun r1 r2 => grel_kTwo r1 r2) fun _ _ _ _ _ _ us ws h1 h2 => match us, h1, ws, h2 with | [_], _, [_, _], _ => rfl
    F_BadLine := Fi23
    b_BadLine := Fi23.binds (ps := ["self", "line", "error"]) fun _ _ _ _ _ _ us hl => match us, hl with | [_, _, _], _ => rfl
    kb_BadLine := MT.Fun.kbn Fi23 1 ["error", "line"] (fun us ws => kTwo us ws) (fun r1 r2 => grel_kTwo r1 r2) fun _ _ _ _ _ _ us ws h1 h2 => match us, h1, ws, h2 with | [_], _, [_, _], _ => rfl
    E_BadNumber := E0
    EC_BadNumber := ecls_mk C0 X0 rfl
    E_BadBlock := E1
    EC_BadBlock := ecls_mk C1 X1 rfl
    E_BadRow := E2
    EC_BadRow := ecls_mk C2 X2 rfl
    E_BadPath := E3
    EC_BadPath := ecls_mk C3 X3 rfl
    E_BadValue := E4
    EC_BadValue := ecls_mk C4 X4 rfl
    E_BadTree := E5
    EC_BadTree := ecls_mk C5 X5 rfl
    E_BadDeed := E6
    EC_BadDeed := ecls_mk C6 X6 rfl
    E_BadEvent := E7
    EC_BadEvent := ecls_mk C7 X7 rfl
    E_BadHeard := E8
    EC_BadHeard := ecls_mk C8 X8 rfl
    E_BadLot := E9
    EC_BadLot := ecls_mk C9 X9 rfl
    E_BadLetter := E10
    EC_BadLetter := ecls_mk C10 X10 rfl
    E_BadMachine := E11
    EC_BadMachine := ecls_mk C11 X11 rfl
    E_BadDisk := E12
    EC_BadDisk := ecls_mk C12 X12 rfl
    E_BadWorld := E13
    EC_BadWorld := ecls_mk C13 X13 rfl
    E_BadStep := E14
    EC_BadStep := ecls_mk C14 X14 rfl
    E_BadPaper := E15
    EC_BadPaper := ecls_mk C15 X15 rfl
    E_Misfit := E16
    EC_Misfit := ecls_mk C16 X16 rfl
    E_NoEvent := E17
    EC_NoEvent := ecls_mk C17 X17 rfl
    E_NoChange := E18
    EC_NoChange := ecls_mk C18 X18 rfl
    E_NoMachine := E19
    EC_NoMachine := ecls_mk C19 X19 rfl
    E_Refused := ⟨E20, nf20b⟩
    EC_Refused := ecls_mk C20 X20 rfl
    E_TooMany := ⟨E21, nf21b⟩
    EC_TooMany := ecls_mk C21 X21 rfl
    E_BadText := ⟨E22, nf22b⟩
    EC_BadText := ecls_mk C22 X22 rfl
    E_BadLine := ⟨E23, nf23b⟩
    EC_BadLine := ecls_mk C23 X23 rfl
    G_Full := PySem.W.mg_of X G A24
    K_Full := kC24
    Q_Full := Q24
    EC_Full := ecls_mk C24 X24 rfl
    G_Off := PySem.W.mg_of X G A25
    K_Off := kC25
    Q_Off := Q25
    EC_Off := ecls_mk C25 X25 rfl
    G_On := PySem.W.mg_of X G A26
    K_On := kC26
    Q_On := Q26
    EC_On := ecls_mk C26 X26 rfl
    G_Nothing := PySem.W.mg_of X G A27
    K_Nothing := kC27
    Q_Nothing := Q27
    EC_Nothing := ecls_mk C27 X27 rfl
    E_Missing := E28
    EC_Missing := ecls_mk C28 X28 rfl
    M_MeetError := PySem.W.mg_of X G AM
    kits := fun i j hi hj => by rw [fa3_L (by omega), fa3_L (by omega)]; exact kits_of CLs up inj rfl rfl hi hj
    kitM := fun i hi => by rw [fa3_L (by omega)]; exact kitM_of CLs C28 up inj rfl rfl hi
    kitT := fun i hi => by rw [fa3_L (by omega)]; exact kitT_of CLs up inj (by rw [MC]; rfl) TM rfl hi
    kitV := fun i hi => by rw [fa3_L (by omega)]; exact kitV_of CLs hi
    kitF := fun i hi => by rw [fa3_L (by omega)]; exact kitF_of CLs hi
    n_ArithmeticError := PySem.W.mg_none_of X G z_ArithmeticError
    n_AttributeError := PySem.W.mg_none_of X G z_AttributeError
    n_LookupError := PySem.W.mg_none_of X G z_LookupError
    n_RuntimeError := PySem.W.mg_none_of X G z_RuntimeError
    n_TypeError := PySem.W.mg_none_of X G z_TypeError
    n_ValueError := PySem.W.mg_none_of X G z_ValueError
    n_abs := PySem.W.mg_none_of X G z_abs
    n_int := PySem.W.mg_none_of X G z_int
    n_isinstance := PySem.W.mg_none_of X G z_isinstance
    n_len := PySem.W.mg_none_of X G z_len
    n_range := PySem.W.mg_none_of X G z_range
    n_repr := PySem.W.mg_none_of X G z_repr
    n_str := PySem.W.mg_none_of X G z_str
  }
  refine ⟨(PySem.W.fnOf "law" "law" (defArgs s_law) (defBody s_law) (defScope s_law) .none kV41 dc41 pm41 an41 cd41 ct41), spLaw0 K, [], (fun _ hq => nomatch hq), (fun _ hq => nomatch hq), (fun _ hq => nomatch hq), fun s v => .of_eq rfl, fun H a ns hl hP hs => ⟨a, ns, rfl, hs, hl, fun _ => rfl⟩, fun base _ _ TB => ok_law T⟩
end K00
open PySem PySem.W PyProof.Rows in
set_option maxRecDepth 100000 in
set_option maxHeartbeats 0 in
theorem PySem.Challenge.cw_meettrees_k00_errors_keep_their_fields_holds : PySem.Challenge.rw_meettrees_k00_errors_keep_their_fields.Holds := by
  w_on; o_law; k_head; (case hw => w_witness2)
  k_fill
  refine MT.walkGs (l := PySem.Challenge.rw_meettrees_k00_errors_keep_their_fields) (n := 63) (k := 12) (x := "script") rfl (by decide) rfl ⟨rfl, by decide, by decide⟩ (fun w h Y => PySem.W.kIn_of Y) ?F
  case F =>
    intro w mg fa h Y KX G hmg
    refine' K00.all_mk KX G hmg ?a32 ?l32 ?w32 ?k32 ?a33 ?l33 ?w33 ?k33 ?a34 ?l34 ?w34 ?k34 ?a35 ?l35 ?w35 ?k35 ?a36 ?l36 ?w36 ?k36 ?a37 ?l37 ?w37 ?k37 ?a38 ?l38 ?w38 ?k38 ?a39 ?l39 ?w39 ?k39 ?a40 ?l40 ?w40 ?k40 ?a41 ?l41 ?w41 ?k41 ?AM ?AX ?A0 ?L0 ?A1 ?L1 ?A2 ?L2 ?A3 ?L3 ?A4 ?L4 ?A5 ?L5 ?A6 ?L6 ?A7 ?L7 ?A8 ?L8 ?A9 ?L9 ?A10 ?L10 ?A11 ?L11 ?A12 ?L12 ?A13 ?L13 ?A14 ?L14 ?A15 ?L15 ?A16 ?L16 ?A17 ?L17 ?A18 ?L18 ?A19 ?L19 ?A20 ?L20 ?A21 ?L21 ?A22 ?L22 ?A23 ?L23 ?A24 ?L24 ?A25 ?L25 ?A26 ?L26 ?A27 ?L27 ?L28 ?ga0 ?gg0 ?eC0 ?hC0 ?cc0 ?oo0 ?kC0 ?sa0 ?nf0 ?ga1 ?gg1 ?eC1 ?hC1 ?cc1 ?oo1 ?kC1 ?sa1 ?nf1 ?ga2 ?gg2 ?eC2 ?hC2 ?cc2 ?oo2 ?kC2 ?sa2 ?nf2 ?ga3 ?gg3 ?eC3 ?hC3 ?cc3 ?oo3 ?kC3 ?sa3 ?nf3 ?ga4 ?gg4 ?eC4 ?hC4 ?cc4 ?oo4 ?kC4 ?sa4 ?nf4 ?ga5 ?gg5 ?eC5 ?hC5 ?cc5 ?oo5 ?kC5 ?sa5 ?nf5 ?ga6 ?gg6 ?eC6 ?hC6 ?cc6 ?oo6 ?kC6 ?sa6 ?nf6 ?ga7 ?gg7 ?eC7 ?hC7 ?cc7 ?oo7 ?kC7 ?sa7 ?nf7 ?ga8 ?gg8 ?eC8 ?hC8 ?cc8 ?oo8 ?kC8 ?sa8 ?nf8 ?ga9 ?gg9 ?eC9 ?hC9 ?cc9 ?oo9 ?kC9 ?sa9 ?nf9 ?ga10 ?gg10 ?eC10 ?hC10 ?cc10 ?oo10 ?kC10 ?sa10 ?nf10 ?ga11 ?gg11 ?eC11 ?hC11 ?cc11 ?oo11 ?kC11 ?sa11 ?nf11 ?ga12 ?gg12 ?eC12 ?hC12 ?cc12 ?oo12 ?kC12 ?sa12 ?nf12 ?ga13 ?gg13 ?eC13 ?hC13 ?cc13 ?oo13 ?kC13 ?sa13 ?nf13 ?ga14 ?gg14 ?eC14 ?hC14 ?cc14 ?oo14 ?kC14 ?sa14 ?nf14 ?ga15 ?gg15 ?eC15 ?hC15 ?cc15 ?oo15 ?kC15 ?sa15 ?nf15 ?ga16 ?gg16 ?eC16 ?hC16 ?cc16 ?oo16 ?kC16 ?sa16 ?nf16 ?ga17 ?gg17 ?eC17 ?hC17 ?cc17 ?oo17 ?kC17 ?sa17 ?nf17 ?ga18 ?gg18 ?eC18 ?hC18 ?cc18 ?oo18 ?kC18 ?sa18 ?nf18 ?ga19 ?gg19 ?eC19 ?hC19 ?cc19 ?oo19 ?kC19 ?sa19 ?nf19 ?ga20 ?gg20 ?eC20 ?hC20 ?cc20 ?oo20 ?kC20 ?sa20 ?nf20 ?nf20b ?ga21 ?gg21 ?eC21 ?hC21 ?cc21 ?oo21 ?kC21 ?sa21 ?nf21 ?nf21b ?ga22 ?gg22 ?eC22 ?hC22 ?cc22 ?oo22 ?kC22 ?sa22 ?nf22 ?nf22b ?ga23 ?gg23 ?eC23 ?hC23 ?cc23 ?oo23 ?kC23 ?sa23 ?nf23 ?nf23b ?ga24 ?gg24 ?eC24 ?hC24 ?cc24 ?oo24 ?kC24 ?Q24 ?ga25 ?gg25 ?eC25 ?hC25 ?cc25 ?oo25 ?kC25 ?Q25 ?ga26 ?gg26 ?eC26 ?hC26 ?cc26 ?oo26 ?kC26 ?Q26 ?ga27 ?gg27 ?eC27 ?hC27 ?cc27 ?oo27 ?kC27 ?Q27 ?ga28 ?gg28 ?eC28 ?hC28 ?cc28 ?oo28 ?kC28 ?sa28 ?nf28 ?ii0 ?ii1 ?ii2 ?ii3 ?ii4 ?ii5 ?ii6 ?ii7 ?ii8 ?ii9 ?ii10 ?ii11 ?ii12 ?ii13 ?ii14 ?ii15 ?ii16 ?ii28 ?ii20 ?ii21 ?ii22 ?ii23 ?ii17 ?ii18 ?ii19 ?ti0 ?li0 ?wi0 ?ki0 ?ti1 ?li1 ?wi1 ?ki1 ?ti2 ?li2 ?wi2 ?ki2 ?ti3 ?li3 ?wi3 ?ki3 ?ti4 ?li4 ?wi4 ?ki4 ?ti5 ?li5 ?wi5 ?ki5 ?ti6 ?li6 ?wi6 ?ki6 ?ti7 ?li7 ?wi7 ?ki7 ?ti8 ?li8 ?wi8 ?ki8 ?ti9 ?li9 ?wi9 ?ki9 ?ti10 ?li10 ?wi10 ?ki10 ?ti11 ?li11 ?wi11 ?ki11 ?ti12 ?li12 ?wi12 ?ki12 ?ti13 ?li13 ?wi13 ?ki13 ?ti14 ?li14 ?wi14 ?ki14 ?ti15 ?li15 ?wi15 ?ki15 ?ti16 ?li16 ?wi16 ?ki16 ?ti28 ?li28 ?wi28 ?ki28 ?ti20 ?li20 ?wi20 ?ki20 ?ti21 ?li21 ?wi21 ?ki21 ?ti22 ?li22 ?wi22 ?ki22 ?ti23 ?li23 ?wi23 ?ki23 ?oG ?oT ?MC ?TM ?z_ArithmeticError ?z_AttributeError ?z_LookupError ?z_RuntimeError ?z_TypeError ?z_ValueError ?z_abs ?z_int ?z_isinstance ?z_len ?z_range ?z_repr ?z_str ?nod
    (case a32 => k_is)
    (case l32 => k_is)
    (case w32 => k_is)
    (case k32 => k_is)
    (case a33 => k_is)
    (case l33 => k_is)
    (case w33 => k_is)
    (case k33 => k_is)
    (case a34 => k_is)
    (case l34 => k_is)
    (case w34 => k_is)
    (case k34 => k_is)
    (case a35 => k_is)
    (case l35 => k_is)
    (case w35 => k_is)
    (case k35 => k_is)
    (case a36 => k_is)
    (case l36 => k_is)
    (case w36 => k_is)
    (case k36 => k_is)
    (case a37 => k_is)
    (case l37 => k_is)
    (case w37 => k_is)
    (case k37 => k_is)
    (case a38 => k_is)
    (case l38 => k_is)
    (case w38 => k_is)
    (case k38 => k_is)
    (case a39 => k_is)
    (case l39 => k_is)
    (case w39 => k_is)
    (case k39 => k_is)
    (case a40 => k_is)
    (case l40 => k_is)
    (case w40 => k_is)
    (case k40 => k_is)
    (case a41 => k_is)
    (case l41 => k_is)
    (case w41 => k_is)
    (case k41 => k_is)
    (case AM => k_is)
    (case AX => k_is)
    (case A0 => k_is)
    (case L0 => k_is)
    (case A1 => k_is)
    (case L1 => k_is)
    (case A2 => k_is)
    (case L2 => k_is)
    (case A3 => k_is)
    (case L3 => k_is)
    (case A4 => k_is)
    (case L4 => k_is)
    (case A5 => k_is)
    (case L5 => k_is)
    (case A6 => k_is)
    (case L6 => k_is)
    (case A7 => k_is)
    (case L7 => k_is)
    (case A8 => k_is)
    (case L8 => k_is)
    (case A9 => k_is)
    (case L9 => k_is)
    (case A10 => k_is)
    (case L10 => k_is)
    (case A11 => k_is)
    (case L11 => k_is)
    (case A12 => k_is)
    (case L12 => k_is)
    (case A13 => k_is)
    (case L13 => k_is)
    (case A14 => k_is)
    (case L14 => k_is)
    (case A15 => k_is)
    (case L15 => k_is)
    (case A16 => k_is)
    (case L16 => k_is)
    (case A17 => k_is)
    (case L17 => k_is)
    (case A18 => k_is)
    (case L18 => k_is)
    (case A19 => k_is)
    (case L19 => k_is)
    (case A20 => k_is)
    (case L20 => k_is)
    (case A21 => k_is)
    (case L21 => k_is)
    (case A22 => k_is)
    (case L22 => k_is)
    (case A23 => k_is)
    (case L23 => k_is)
    (case A24 => k_is)
    (case L24 => k_is)
    (case A25 => k_is)
    (case L25 => k_is)
    (case A26 => k_is)
    (case L26 => k_is)
    (case A27 => k_is)
    (case L27 => k_is)
    (case L28 => k_is)
    (case ga0 => k_is)
    (case gg0 => k_is)
    (case eC0 => k_is)
    (case hC0 => k_is)
    (case cc0 => k_is)
    (case oo0 => k_is)
    (case kC0 => k_is)
    (case sa0 => k_is)
    (case nf0 => k_is)
    (case ga1 => k_is)
    (case gg1 => k_is)
    (case eC1 => k_is)
    (case hC1 => k_is)
    (case cc1 => k_is)
    (case oo1 => k_is)
    (case kC1 => k_is)
    (case sa1 => k_is)
    (case nf1 => k_is)
    (case ga2 => k_is)
    (case gg2 => k_is)
    (case eC2 => k_is)
    (case hC2 => k_is)
    (case cc2 => k_is)
    (case oo2 => k_is)
    (case kC2 => k_is)
    (case sa2 => k_is)
    (case nf2 => k_is)
    (case ga3 => k_is)
    (case gg3 => k_is)
    (case eC3 => k_is)
    (case hC3 => k_is)
    (case cc3 => k_is)
    (case oo3 => k_is)
    (case kC3 => k_is)
    (case sa3 => k_is)
    (case nf3 => k_is)
    (case ga4 => k_is)
    (case gg4 => k_is)
    (case eC4 => k_is)
    (case hC4 => k_is)
    (case cc4 => k_is)
    (case oo4 => k_is)
    (case kC4 => k_is)
    (case sa4 => k_is)
    (case nf4 => k_is)
    (case ga5 => k_is)
    (case gg5 => k_is)
    (case eC5 => k_is)
    (case hC5 => k_is)
    (case cc5 => k_is)
    (case oo5 => k_is)
    (case kC5 => k_is)
    (case sa5 => k_is)
    (case nf5 => k_is)
    (case ga6 => k_is)
    (case gg6 => k_is)
    (case eC6 => k_is)
    (case hC6 => k_is)
    (case cc6 => k_is)
    (case oo6 => k_is)
    (case kC6 => k_is)
    (case sa6 => k_is)
    (case nf6 => k_is)
    (case ga7 => k_is)
    (case gg7 => k_is)
    (case eC7 => k_is)
    (case hC7 => k_is)
    (case cc7 => k_is)
    (case oo7 => k_is)
    (case kC7 => k_is)
    (case sa7 => k_is)
    (case nf7 => k_is)
    (case ga8 => k_is)
    (case gg8 => k_is)
    (case eC8 => k_is)
    (case hC8 => k_is)
    (case cc8 => k_is)
    (case oo8 => k_is)
    (case kC8 => k_is)
    (case sa8 => k_is)
    (case nf8 => k_is)
    (case ga9 => k_is)
    (case gg9 => k_is)
    (case eC9 => k_is)
    (case hC9 => k_is)
    (case cc9 => k_is)
    (case oo9 => k_is)
    (case kC9 => k_is)
    (case sa9 => k_is)
    (case nf9 => k_is)
    (case ga10 => k_is)
    (case gg10 => k_is)
    (case eC10 => k_is)
    (case hC10 => k_is)
    (case cc10 => k_is)
    (case oo10 => k_is)
    (case kC10 => k_is)
    (case sa10 => k_is)
    (case nf10 => k_is)
    (case ga11 => k_is)
    (case gg11 => k_is)
    (case eC11 => k_is)
    (case hC11 => k_is)
    (case cc11 => k_is)
    (case oo11 => k_is)
    (case kC11 => k_is)
    (case sa11 => k_is)
    (case nf11 => k_is)
    (case ga12 => k_is)
    (case gg12 => k_is)
    (case eC12 => k_is)
    (case hC12 => k_is)
    (case cc12 => k_is)
    (case oo12 => k_is)
    (case kC12 => k_is)
    (case sa12 => k_is)
    (case nf12 => k_is)
    (case ga13 => k_is)
    (case gg13 => k_is)
    (case eC13 => k_is)
    (case hC13 => k_is)
    (case cc13 => k_is)
    (case oo13 => k_is)
    (case kC13 => k_is)
    (case sa13 => k_is)
    (case nf13 => k_is)
    (case ga14 => k_is)
    (case gg14 => k_is)
    (case eC14 => k_is)
    (case hC14 => k_is)
    (case cc14 => k_is)
    (case oo14 => k_is)
    (case kC14 => k_is)
    (case sa14 => k_is)
    (case nf14 => k_is)
    (case ga15 => k_is)
    (case gg15 => k_is)
    (case eC15 => k_is)
    (case hC15 => k_is)
    (case cc15 => k_is)
    (case oo15 => k_is)
    (case kC15 => k_is)
    (case sa15 => k_is)
    (case nf15 => k_is)
    (case ga16 => k_is)
    (case gg16 => k_is)
    (case eC16 => k_is)
    (case hC16 => k_is)
    (case cc16 => k_is)
    (case oo16 => k_is)
    (case kC16 => k_is)
    (case sa16 => k_is)
    (case nf16 => k_is)
    (case ga17 => k_is)
    (case gg17 => k_is)
    (case eC17 => k_is)
    (case hC17 => k_is)
    (case cc17 => k_is)
    (case oo17 => k_is)
    (case kC17 => k_is)
    (case sa17 => k_is)
    (case nf17 => k_is)
    (case ga18 => k_is)
    (case gg18 => k_is)
    (case eC18 => k_is)
    (case hC18 => k_is)
    (case cc18 => k_is)
    (case oo18 => k_is)
    (case kC18 => k_is)
    (case sa18 => k_is)
    (case nf18 => k_is)
    (case ga19 => k_is)
    (case gg19 => k_is)
    (case eC19 => k_is)
    (case hC19 => k_is)
    (case cc19 => k_is)
    (case oo19 => k_is)
    (case kC19 => k_is)
    (case sa19 => k_is)
    (case nf19 => k_is)
    (case ga20 => k_is)
    (case gg20 => k_is)
    (case eC20 => k_is)
    (case hC20 => k_is)
    (case cc20 => k_is)
    (case oo20 => k_is)
    (case kC20 => k_is)
    (case sa20 => k_is)
    (case nf20 => k_is)
    (case nf20b => k_is)
    (case ga21 => k_is)
    (case gg21 => k_is)
    (case eC21 => k_is)
    (case hC21 => k_is)
    (case cc21 => k_is)
    (case oo21 => k_is)
    (case kC21 => k_is)
    (case sa21 => k_is)
    (case nf21 => k_is)
    (case nf21b => k_is)
    (case ga22 => k_is)
    (case gg22 => k_is)
    (case eC22 => k_is)
    (case hC22 => k_is)
    (case cc22 => k_is)
    (case oo22 => k_is)
    (case kC22 => k_is)
    (case sa22 => k_is)
    (case nf22 => k_is)
    (case nf22b => k_is)
    (case ga23 => k_is)
    (case gg23 => k_is)
    (case eC23 => k_is)
    (case hC23 => k_is)
    (case cc23 => k_is)
    (case oo23 => k_is)
    (case kC23 => k_is)
    (case sa23 => k_is)
    (case nf23 => k_is)
    (case nf23b => k_is)
    (case ga24 => k_is)
    (case gg24 => k_is)
    (case eC24 => k_is)
    (case hC24 => k_is)
    (case cc24 => k_is)
    (case oo24 => k_is)
    (case kC24 => k_is)
    (case Q24 => k_exc)
    (case ga25 => k_is)
    (case gg25 => k_is)
    (case eC25 => k_is)
    (case hC25 => k_is)
    (case cc25 => k_is)
    (case oo25 => k_is)
    (case kC25 => k_is)
    (case Q25 => k_exc)
    (case ga26 => k_is)
    (case gg26 => k_is)
    (case eC26 => k_is)
    (case hC26 => k_is)
    (case cc26 => k_is)
    (case oo26 => k_is)
    (case kC26 => k_is)
    (case Q26 => k_exc)
    (case ga27 => k_is)
    (case gg27 => k_is)
    (case eC27 => k_is)
    (case hC27 => k_is)
    (case cc27 => k_is)
    (case oo27 => k_is)
    (case kC27 => k_is)
    (case Q27 => k_exc)
    (case ga28 => k_is)
    (case gg28 => k_is)
    (case eC28 => k_is)
    (case hC28 => k_is)
    (case cc28 => k_is)
    (case oo28 => k_is)
    (case kC28 => k_is)
    (case sa28 => k_is)
    (case nf28 => k_is)
    (case ii0 => k_is)
    (case ii1 => k_is)
    (case ii2 => k_is)
    (case ii3 => k_is)
    (case ii4 => k_is)
    (case ii5 => k_is)
    (case ii6 => k_is)
    (case ii7 => k_is)
    (case ii8 => k_is)
    (case ii9 => k_is)
    (case ii10 => k_is)
    (case ii11 => k_is)
    (case ii12 => k_is)
    (case ii13 => k_is)
    (case ii14 => k_is)
    (case ii15 => k_is)
    (case ii16 => k_is)
    (case ii28 => k_is)
    (case ii20 => k_is)
    (case ii21 => k_is)
    (case ii22 => k_is)
    (case ii23 => k_is)
    (case ii17 => k_is)
    (case ii18 => k_is)
    (case ii19 => k_is)
    (case ti0 => k_is)
    (case li0 => k_is)
    (case wi0 => k_is)
    (case ki0 => k_is)
    (case ti1 => k_is)
    (case li1 => k_is)
    (case wi1 => k_is)
    (case ki1 => k_is)
    (case ti2 => k_is)
    (case li2 => k_is)
    (case wi2 => k_is)
    (case ki2 => k_is)
    (case ti3 => k_is)
    (case li3 => k_is)
    (case wi3 => k_is)
    (case ki3 => k_is)
    (case ti4 => k_is)
    (case li4 => k_is)
    (case wi4 => k_is)
    (case ki4 => k_is)
    (case ti5 => k_is)
    (case li5 => k_is)
    (case wi5 => k_is)
    (case ki5 => k_is)
    (case ti6 => k_is)
    (case li6 => k_is)
    (case wi6 => k_is)
    (case ki6 => k_is)
    (case ti7 => k_is)
    (case li7 => k_is)
    (case wi7 => k_is)
    (case ki7 => k_is)
    (case ti8 => k_is)
    (case li8 => k_is)
    (case wi8 => k_is)
    (case ki8 => k_is)
    (case ti9 => k_is)
    (case li9 => k_is)
    (case wi9 => k_is)
    (case ki9 => k_is)
    (case ti10 => k_is)
    (case li10 => k_is)
    (case wi10 => k_is)
    (case ki10 => k_is)
    (case ti11 => k_is)
    (case li11 => k_is)
    (case wi11 => k_is)
    (case ki11 => k_is)
    (case ti12 => k_is)
    (case li12 => k_is)
    (case wi12 => k_is)
    (case ki12 => k_is)
    (case ti13 => k_is)
    (case li13 => k_is)
    (case wi13 => k_is)
    (case ki13 => k_is)
    (case ti14 => k_is)
    (case li14 => k_is)
    (case wi14 => k_is)
    (case ki14 => k_is)
    (case ti15 => k_is)
    (case li15 => k_is)
    (case wi15 => k_is)
    (case ki15 => k_is)
    (case ti16 => k_is)
    (case li16 => k_is)
    (case wi16 => k_is)
    (case ki16 => k_is)
    (case ti28 => k_is)
    (case li28 => k_is)
    (case wi28 => k_is)
    (case ki28 => k_is)
    (case ti20 => k_is)
    (case li20 => k_is)
    (case wi20 => k_is)
    (case ki20 => k_is)
    (case ti21 => k_is)
    (case li21 => k_is)
    (case wi21 => k_is)
    (case ki21 => k_is)
    (case ti22 => k_is)
    (case li22 => k_is)
    (case wi22 => k_is)
    (case ki22 => k_is)
    (case ti23 => k_is)
    (case li23 => k_is)
    (case wi23 => k_is)
    (case ki23 => k_is)
    (case oG => k_is)
    (case oT => k_is)
    (case MC => k_is)
    (case TM => k_is)
    (case z_ArithmeticError => k_is)
    (case z_AttributeError => k_is)
    (case z_LookupError => k_is)
    (case z_RuntimeError => k_is)
    (case z_TypeError => k_is)
    (case z_ValueError => k_is)
    (case z_abs => k_is)
    (case z_int => k_is)
    (case z_isinstance => k_is)
    (case z_len => k_is)
    (case z_range => k_is)
    (case z_repr => k_is)
    (case z_str => k_is)
    (case nod => decide)
