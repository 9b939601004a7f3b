import PyProof.Rows.All
import Wide.All
import OpenK.AllK
import Wide.FinOn
import HandS.ForMost
import HandS.Wide
import HandS.IsInst
import HandS.Defaults
import HandS.MakeKwOnly
import HandS.SortInts
import HandS.RaiseMore
import HandS.Zip
import HandS.TupAny
import HandS.Lambda
import HandS.EndTab
import HandS.ForExc
import HandS.ExcInit
import HandS.ExcField
import HandS.ExcIs
import KE.KExcIs
import KE.KUnpackStar
import HandS.TupMul
import HandS.ExcValue
import KE.KDflt
import HandS.Codes
import PyProof.ReprLen
import HandS.Style
import KE.KNestM
import PyProof.Rows.RegStrFacts
import PySem.Challenge.RW_meettrees_k21_path_texts_bent_anywhere
set_option Elab.async false
set_option linter.all false
set_option maxRecDepth 100000
/-! what all laws share: frames, what draws, calls by names alone -/
namespace MT
open PySem L2

/-! ### frames -/
/-- all but what M names stays -/
def Frm (M : Addr → Prop) (H H' : Hp) : Prop := ∀ c o, ¬ M c → H c = some o → H' c = some o
theorem Frm.refl {M : Addr → Prop} {H : Hp} : Frm M H H := fun _ _ _ h => h
theorem Frm.trans {M : Addr → Prop} {H H1 H2 : Hp} (a : Frm M H H1) (b : Frm M H1 H2) : Frm M H H2 := fun c o n h => b c o n (a c o n h)
theorem Frm.mono {M N : Addr → Prop} {H H' : Hp} (a : Frm M H H') (h : ∀ c, M c → N c) : Frm N H H' := fun c o n e => a c o (fun m => n (h c m)) e
theorem frm_same {M : Addr → Prop} {H H' : Hp} (s : Same H H') : Frm M H H' := fun c o _ h => s c o h
theorem same_new {H : Hp} {p : Addr} {o : HO} (h : H p = none) : Same H (upd H p o) := fun c u e => by
  rw [upd_ne (ne_of_none e h)]
  exact e
/-- a list in any heap behind -/
theorem Frm.seq {M : Addr → Prop} {K : PySem.W.Frag} {H H' : Hp} {a : Addr} {xs : List V} (e : Frm M H H') (n : ¬ M a) (h : SqL K H a xs) : SqL K H' a xs := by
  rcases h with (h | ⟨o, h⟩) | h
  · exact .inl (.inl (e _ _ n h))
  · exact .inl (.inr ⟨o, e _ _ n h⟩)
  · exact .inr h

/-! ### what draws -/
structure Sat (a b : Addr) (cs : List Int) (t r : Int) (H : Hp) : Prop where
  ha : H a = some (.lst [.ref b, .int t, .int r])
  hb : H b = some (.lst (cs.map V.int))
  ht : 0 ≤ t
  hr : 0 ≤ r
/-- at a stands what draws: at most n draws were made -/
def Sx (a b : Addr) (cs : List Int) (n : Nat) (H : Hp) : Prop := ∃ t r, Sat a b cs t r H ∧ t ≤ (n : Int)
theorem Sat.ne {a b : Addr} {cs : List Int} {t r : Int} {H : Hp} (s : Sat a b cs t r H) : b ≠ a := ne_of s.hb s.ha fun e => by
  injection e with e
  cases cs with
  | nil => cases e
  | cons x xs => injection e with e1 _; cases e1
theorem Sat.same {a b : Addr} {cs : List Int} {t r : Int} {H H' : Hp} (s : Sat a b cs t r H) (e : Same H H') : Sat a b cs t r H' := ⟨e _ _ s.ha, e _ _ s.hb, s.ht, s.hr⟩
theorem Sx.same {a b : Addr} {cs : List Int} {n : Nat} {H H' : Hp} (s : Sx a b cs n H) (e : Same H H') : Sx a b cs n H' := by
  obtain ⟨t, r, s, h⟩ := s
  exact ⟨t, r, s.same e, h⟩
theorem Sx.le {a b : Addr} {cs : List Int} {n m : Nat} {H : Hp} (s : Sx a b cs n H) (e : n ≤ m) : Sx a b cs m H := by
  obtain ⟨t, r, s, h⟩ := s
  exact ⟨t, r, s, by omega⟩
theorem Sat.upd {a b : Addr} {cs : List Int} {t r t' r' : Int} {H : Hp} (s : Sat a b cs t r H) (h1 : 0 ≤ t') (h2 : 0 ≤ r') : Sat a b cs t' r' (L2.upd H a (.lst [.ref b, .int t', .int r'])) := ⟨upd_same, by rw [upd_ne s.ne]; exact s.hb, h1, h2⟩
theorem frm_upd {H : Hp} {a : Addr} {o : HO} : Frm (· = a) H (L2.upd H a o) := fun c u n h => by rw [upd_ne n]; exact h
/-- the promise of a draw below m -/
def spDraw : Sp := fun vs H Q _ => ∃ (a b : Addr) (cs : List Int) (n : Nat) (m : Int), vs = [.ref a, .int m] ∧ Sx a b cs n H ∧ n ≤ 1000000 ∧ 0 < m ∧ m < 2 ^ 62 ∧
  ∀ H' d, Frm (· = a) H H' → Sx a b cs (n + 1) H' → 0 ≤ d → d < m → Q (.int d) H'
/-- the promise of a draw of one of some -/
def spPick (K : PySem.W.Frag) : Sp := fun vs H Q _ => ∃ (a b : Addr) (cs : List Int) (n : Nat) (p : Addr) (xs : List V), vs = [.ref a, .ref p] ∧ Sx a b cs n H ∧ n ≤ 1000000 ∧ p ≠ a ∧ SqL K H p xs ∧ xs ≠ [] ∧ xs.length < 2 ^ 62 ∧
  ∀ H' x, Frm (· = a) H H' → Sx a b cs (n + 1) H' → x ∈ xs → Q x H'

theorem draw_div {r m : Int} (h : 0 < m) (h2 : m < 2 ^ 62) : CDivW r m := wide_div (b := 62) h (by omega) (by decide) (by decide)
theorem canLay_ints : ∀ cs : List Int, PyData.canLayAll0 (cs.map PyData.int) = true
  | [] => by simp [PyData.canLayAll0]
  | c :: cs => by
    simp only [List.map_cons, PyData.canLayAll0, PyData.canLay0, canLay_ints cs, Bool.and_self]
theorem depth_ints : ∀ cs : List Int, PyData.depthAll (cs.map PyData.int) = 0
  | [] => by simp [PyData.depthAll]
  | c :: cs => by simp [PyData.depthAll, PyData.depth, depth_ints cs]
theorem shaped_ints (cs : List Int) : SeqAt.shaped (.list (cs.map PyData.int)) = true := by
  simp [SeqAt.shaped, PyData.canLay0, PyData.depth, canLay_ints, depth_ints]
theorem shaped_tints (cs : List Int) : SeqAt.shaped (.tuple (cs.map PyData.int)) = true := by
  simp [SeqAt.shaped, PyData.canLay0, PyData.depth, canLay_ints, depth_ints]
theorem dp_ints {K : PySem.W.Frag} {H : Hp} : ∀ cs : List Int, DpAll K H (cs.map V.int) (cs.map PyData.int)
  | [] => .nil
  | c :: cs => .cons (.int c) (dp_ints cs)
theorem ints_ne {K : PySem.W.Frag} {H : Hp} {p l : Addr} {cs : List Int} {Q : VK} (hp : SqL K H p (cs.map V.int)) (hl : SqL K H l []) (q : Q (.bl (!cs.isEmpty)) H) : rNeD K (.ref p) (.ref l) H Q :=
  ⟨.list (cs.map .int), .list [], .lst hp (dp_ints cs), .lst hl .nil, shaped_ints cs, shaped_ints [], by cases cs <;> exact q⟩
theorem mul_bd {x y A B : Int} (h0 : 0 ≤ x) (h1 : x ≤ A) (h2 : 0 ≤ y) (h3 : y ≤ B) : 0 ≤ x * y ∧ x * y ≤ A * B :=
  ⟨Int.mul_nonneg h0 h2, Int.le_trans (Int.mul_le_mul_of_nonneg_right h1 h2) (Int.mul_le_mul_of_nonneg_left h3 (Int.le_trans h0 h1))⟩
theorem cell_at {cs : List Int} (h : cs ≠ []) (t : Int) : ∃ c, atI (cs.map V.int) (t % ((cs.map V.int).length : Int)) = some (.int c) := by
  have l0 : 0 < cs.length := by cases cs with | nil => exact absurd rfl h | cons c cs => exact Nat.succ_pos _
  have e : ((cs.map V.int).length : Int) = cs.length := by rw [List.length_map]
  rw [e]
  have h1 : 0 ≤ t % (cs.length : Int) := Int.emod_nonneg _ (by omega)
  have h2 : t % (cs.length : Int) < cs.length := Int.emod_lt_of_pos _ (by omega)
  obtain ⟨j, hj⟩ : ∃ j : Nat, t % (cs.length : Int) = j := ⟨_, (Int.toNat_of_nonneg h1).symm⟩
  rw [hj]
  refine ⟨cs[j]'(by omega), atI_nat ?_⟩
  rw [List.getElem?_map, List.getElem?_eq_getElem (by omega)]
  rfl
theorem draw_rest {y v b : Int} {c : Bool} (e : y = 2 * (v - b)) (h : b ≤ v) : 0 ≤ y + (if c = true then 1 else 0) := by
  cases c
  · simp only [Bool.false_eq_true, if_false]; omega
  · simp only [if_true]; omega
/-! ### numbers as letters -/
section
variable {X : Cx}
theorem op_modL : OpR X (binaryOp .Mod) (fun x y H Q => ∃ i j, x = .int i ∧ y = .int j ∧ 0 < j ∧ ∀ z, z = i % j → 0 ≤ z → z < j → Q (.int z) H) := by
  intro pins s σ H x y v u Q I rx ry h
  obtain ⟨i, j, ex, ey, hj, q⟩ := h
  exact op_mod pins s σ H x y v u Q I rx ry ⟨i, j, ex, ey, hj, q _ rfl (Int.emod_nonneg _ (by omega)) (Int.emod_lt_of_pos _ hj)⟩
theorem op_mulL : OpR X (binaryOp .Mult) (fun x y H Q => ∃ i j, x = .int i ∧ y = .int j ∧ CMul i j ∧ ∀ z, z = i * j → Q (.int z) H) := by
  intro pins s σ H x y v u Q I rx ry h
  obtain ⟨i, j, ex, ey, hj, q⟩ := h
  exact op_mul pins s σ H x y v u Q I rx ry ⟨i, j, ex, ey, hj, q _ rfl⟩
theorem op_powL : OpR X (binaryOp .Pow) (fun x y H Q => ∃ i j, x = .int i ∧ y = .int j ∧ CPow i j ∧ ∀ z, z = i ^ j.toNat → Q (.int z) H) := by
  intro pins s σ H x y v u Q I rx ry h
  obtain ⟨i, j, ex, ey, hj, q⟩ := h
  exact op_pow pins s σ H x y v u Q I rx ry ⟨i, j, ex, ey, hj, q _ rfl⟩
theorem op_fdivL : OpR X (binaryOp .FloorDiv) (fun x y H Q => ∃ i j, x = .int i ∧ y = .int j ∧ CDivW i j ∧ ∀ z, z = i / j → Q (.int z) H) := by
  intro pins s σ H x y v u Q I rx ry h
  obtain ⟨i, j, ex, ey, hj, q⟩ := h
  exact op_fdivW pins s σ H x y v u Q I rx ry ⟨i, j, ex, ey, hj, q _ rfl⟩
end
/-! ### a call by names alone -/
section
variable {X : Cx} {CX : CXT} {k n : Nat} {f : Addr} {fd : FuncData} {ps ks : List Str} {sp : Sp} {E : XK} {x : Str} {p pos : Pos} {kws : List Keyword} {tk : TA} {g : List Value → List Value → List Value} {gV : List V → List V → List V}
theorem pe_callN0 (F : FnOk X.prog X.w X.K X.mg X.base CX k f fd ps sp) (hr : Room k X.A) (hg : Gl X x) (hm : X.mg x = some (.ref f)) (hk : PySem.W.keepIn X.K (.ref f) = true) (hb : KBn X.K fd ps 0 ks g gV) (hx : Passes CX X E)
    (hkw : PK X kws tk) (some_ : (backToKw pos (keywordEach kws X.env)).all (·.1.isSome) = true := by rfl) (names : (backToKw pos (keywordEach kws X.env)).filterMap (·.1) = ks := by rfl)
    (dbg : (x == ("__debug__" : Str)) = false := by decide)
    (plain : ((backTo pos (starEach [] X.env)).any (·.1) || (backToKw pos (keywordEach kws X.env)).any (·.1.isNone)) = false := by exact rfl) :
    PE X (.Call (.Name x p) [] kws pos) (tCallN 0 ks.length sp gV E tNil tk) :=
  ⟨fun pns st sl Hs Q I0 told => wpAny_Call_Name_kw (ld_glob I0 hg hm (PySem.W.callWith_KW0 (h₀ := X.base) I0.ok.mod.kin hk some_
    (thn (hkw.run pos pns st sl Hs _ I0 told) fun ws st2 ⟨zs, Ht, J, rel, _, len, go⟩ => ⟨J.kIn, by rw [names]; exact run_fnN (us := []) (vs := []) F hr hb hx J .nil rel rfl len go⟩) plain) dbg)⟩
end
theorem Fun.kbn {K : PySem.W.Frag} {x qual : Str} {st : Stmt} {f : Addr} {fd : FuncData} {ps : List Str} (F : Fun K x qual st f fd) (n : Nat) (ks : List Str) (g : {α : Type} → List α → List α → List α)
    (hrel : ∀ {vs zs : List V} {us ws : List Value}, Vals vs us → Vals zs ws → Vals (g vs zs) (g us ws))
    (h : ∀ (kV doc pm : Value) (an : Option Addr) (cdv ct : Value) (us ws : List Value), us.length = n → ws.length = ks.length → bindArgs (PySem.W.fnOf x qual (defArgs st) (defBody st) (defScope st) .none kV doc pm an cdv ct) ⟨us, ks.zip ws⟩ = pure (ps.zip (g us ws))) :
    KBn K fd ps n ks (fun us ws => g us ws) (fun vs zs => g vs zs) := by
  obtain ⟨oc, od, kV, doc, pm, an, cdv, ct, osl, rfl, lk, hcd⟩ := F.ex
  exact ⟨fun s us ws _ l1 l2 => BindsTo.of_eq (h kV doc pm an cdv ct us ws l1 l2), fun r1 r2 => hrel r1 r2⟩

/-! ### repr of a flag -/
def boolText (b : Bool) : Str := if b then "True" else "False"
theorem call_repr_bool {X : Cx} : CallR X (.builtin "repr") (fun xs H Q => ∃ b, xs = [.bl b] ∧ Q (.str (boolText b)) H) := by
  intro pins s σ H xs us Q I r h
  obtain ⟨b, rfl, q⟩ := h
  obtain ⟨u, rfl, r1⟩ := Vals.one r
  cases r1
  exact PySem.P.repr_of_bool ⟨.str (boolText b), H, I.tok _, ⟨_, rfl⟩, q⟩
theorem boolText_inj {a b : Bool} : decide (V.str (boolText a) = V.str (boolText b)) = (a == b) := by
  cases a <;> cases b <;> decide +kernel
end MT
/-! comprehensions over what may draw -/
namespace MT
open PySem L2

theorem Frm.updD {M : Addr → Prop} {H1 H : Hp} {D : Addr} {o : HO} (F : Frm M H1 H) (h : H1 D = none) : Frm M H1 (upd H D o) := fun c u n e => by
  rw [upd_ne (ne_of_none e h)]
  exact F c u n e
theorem Sx.updD {sa sb : Addr} {cs : List Int} {n m : Nat} {H1 H : Hp} {D : Addr} {o : HO} (S1 : Sx sa sb cs m H1) (h : H1 D = none) (S : Sx sa sb cs n H) : Sx sa sb cs n (upd H D o) := by
  obtain ⟨t, r, S, ht⟩ := S
  obtain ⟨t1, r1, S1, ht1⟩ := S1
  exact ⟨t, r, ⟨by rw [upd_ne (ne_of_none S1.ha h)]; exact S.ha, by rw [upd_ne (ne_of_none S1.hb h)]; exact S.hb, S.ht, S.hr⟩, ht⟩
/-- one turn: Ky of what is kept, Kn of what is passed by -/
def LcStep (g : TG) (tt : TT) (te : TE) (vs : List Nat) (σ : St) (x : V) (H : Hp) (Ky : VK) (Kn : Hp → Prop) : Prop :=
  g x (wipe σ vs) H fun σ2 H2 => wipe σ2 vs = wipe σ vs ∧ tt σ2 H2 fun b H3 => if b = true then te σ2 H3 Ky else Kn H3
/-- the walk J of a comprehension that fills the list at D, then Qd -/
def LcW (J : It) (g : TG) (tt : TT) (te : TE) (vs : List Nat) (σ : St) (H1 : Hp) (D : Addr) (Qd : Hp → Prop) : Prop :=
  ∃ Wd : Nat → Nat → Hp → Prop, (∃ left, Wd 0 left (upd H1 D (.lst []))) ∧ ∀ at_ left Hc, Wd at_ left Hc →
    (J.stop at_ Hc ∧ Qd Hc) ∨ (J.go at_ Hc ∧ ∃ Go : Hp → Prop, (∀ Hn, Go Hn → ∃ less, less < left ∧ Wd (at_ + 1) less Hn) ∧
      ∀ item Hn, J.yld at_ Hc item Hn → g item (wipe σ vs) Hn fun σt Ht => wipe σt vs = wipe σ vs ∧ tt σt Ht fun kept Hk =>
        if kept = true then te σt Hk fun new He => ∃ made, He D = some (.lst made) ∧ made.length < sizeLine ∧ Go (upd He D (.lst (made ++ [new]))) else Go Hk)
/-- over a list -/
theorem lcg_list {K : PySem.W.Frag} {a : Addr} {xs : List V} {g : TG} {tt : TT} {te : TE} {vs : List Nat} {σ : St} {H1 : Hp} {D : Addr} {Qd : Hp → Prop} (M : Addr → Prop) (St : Nat → Hp → Prop) (A : Nat → List V → Hp → Prop)
    (hD : H1 D = none) (src : ∀ H, Frm M H1 H → SqL K H a xs) (hlen : xs.length ≤ 10000000)
    (hup : ∀ i H l, Frm M H1 H → St i H → St i (upd H D (.lst l))) (hmono : ∀ i acc H l, Frm M H1 H → A i acc H → A i acc (upd H D (.lst l)))
    (h0 : St 0 H1) (hA0 : A 0 [] H1)
    (hs : ∀ i x acc H, xs[i]? = some x → Frm M H1 H → H D = some (.lst acc) → St i H → A i acc H → ∀ (Ky : VK) (Kn : Hp → Prop),
      (∀ y H', Frm M H1 H' → H' D = some (.lst acc) → St (i + 1) H' → A (i + 1) (acc ++ [y]) H' → Ky y H') → (∀ H', Frm M H1 H' → H' D = some (.lst acc) → St (i + 1) H' → A (i + 1) acc H' → Kn H') → LcStep g tt te vs σ x H Ky Kn)
    (hd : ∀ H acc, Frm M H1 H → H D = some (.lst acc) → St xs.length H → A xs.length acc H → acc.length ≤ xs.length → Qd H) :
    LcW (Itl K a) g tt te vs σ H1 D Qd := by
  refine lc_list (fun i H => i ≤ xs.length ∧ ∃ acc, Frm M H1 H ∧ H D = some (.lst acc) ∧ St i H ∧ A i acc H ∧ acc.length ≤ i)
    ⟨Nat.zero_le _, [], Frm.refl.updD hD, upd_same, hup _ _ _ Frm.refl h0, hmono _ _ _ _ Frm.refl hA0, Nat.le_refl _⟩ (fun i H _ ⟨_, _, F, _⟩ => src H F) ?_ ?_
  · rintro i x H hx ⟨hi, acc, F, hDa, hS, hA, hlen2⟩
    have hi2 : i < xs.length := (List.getElem?_eq_some_iff.mp hx).1
    refine hs i x acc H hx F hDa hS hA _ _ (fun y H' F' hD' hS' hA' => ?_) (fun H' F' hD' hS' hA' => ?_)
    · refine ⟨acc, hD', ?_, hi2, acc ++ [y], F'.updD hD, upd_same, hup _ _ _ F' hS', hmono _ _ _ _ F' hA', ?_⟩
      · rw [sizeLine_eq]
        omega
      · rw [List.length_append, List.length_singleton]
        omega
    · exact ⟨hi2, acc, F', hD', hS', hA', by omega⟩
  · rintro H ⟨_, acc, F, hDa, hS, hA, hlen2⟩
    exact hd H acc F hDa hS hA hlen2
/-- over a tuple -/
theorem lcg_tup {K : PySem.W.Frag} {a : Addr} {xs : List V} {g : TG} {tt : TT} {te : TE} {vs : List Nat} {σ : St} {H1 : Hp} {D : Addr} {Qd : Hp → Prop} (M : Addr → Prop) (St : Nat → Hp → Prop) (A : Nat → List V → Hp → Prop)
    (hD : H1 D = none) (src : ∀ H, Frm M H1 H → SqT K H a xs) (hlen : xs.length ≤ 10000000)
    (hup : ∀ i H l, Frm M H1 H → St i H → St i (upd H D (.lst l))) (hmono : ∀ i acc H l, Frm M H1 H → A i acc H → A i acc (upd H D (.lst l)))
    (h0 : St 0 H1) (hA0 : A 0 [] H1)
    (hs : ∀ i x acc H, xs[i]? = some x → Frm M H1 H → H D = some (.lst acc) → St i H → A i acc H → ∀ (Ky : VK) (Kn : Hp → Prop),
      (∀ y H', Frm M H1 H' → H' D = some (.lst acc) → St (i + 1) H' → A (i + 1) (acc ++ [y]) H' → Ky y H') → (∀ H', Frm M H1 H' → H' D = some (.lst acc) → St (i + 1) H' → A (i + 1) acc H' → Kn H') → LcStep g tt te vs σ x H Ky Kn)
    (hd : ∀ H acc, Frm M H1 H → H D = some (.lst acc) → St xs.length H → A xs.length acc H → acc.length ≤ xs.length → Qd H) :
    LcW (Itt K a) g tt te vs σ H1 D Qd := by
  refine lc_tup (fun i H => i ≤ xs.length ∧ ∃ acc, Frm M H1 H ∧ H D = some (.lst acc) ∧ St i H ∧ A i acc H ∧ acc.length ≤ i)
    ⟨Nat.zero_le _, [], Frm.refl.updD hD, upd_same, hup _ _ _ Frm.refl h0, hmono _ _ _ _ Frm.refl hA0, Nat.le_refl _⟩ (fun i H _ ⟨_, _, F, _⟩ => src H F) ?_ ?_
  · rintro i x H hx ⟨hi, acc, F, hDa, hS, hA, hlen2⟩
    have hi2 : i < xs.length := (List.getElem?_eq_some_iff.mp hx).1
    refine hs i x acc H hx F hDa hS hA _ _ (fun y H' F' hD' hS' hA' => ?_) (fun H' F' hD' hS' hA' => ?_)
    · refine ⟨acc, hD', ?_, hi2, acc ++ [y], F'.updD hD, upd_same, hup _ _ _ F' hS', hmono _ _ _ _ F' hA', ?_⟩
      · rw [sizeLine_eq]
        omega
      · rw [List.length_append, List.length_singleton]
        omega
    · exact ⟨hi2, acc, F', hD', hS', hA', by omega⟩
  · rintro H ⟨_, acc, F, hDa, hS, hA, hlen2⟩
    exact hd H acc F hDa hS hA hlen2
/-- over a range -/
theorem lcg_range {lo : Int} {n : Nat} {g : TG} {tt : TT} {te : TE} {vs : List Nat} {σ : St} {H1 : Hp} {D : Addr} {Qd : Hp → Prop} (M : Addr → Prop) (St : Nat → Hp → Prop) (A : Nat → List V → Hp → Prop)
    (hD : H1 D = none)  (hlen : n ≤ 10000000)
    (hup : ∀ i H l, Frm M H1 H → St i H → St i (upd H D (.lst l))) (hmono : ∀ i acc H l, Frm M H1 H → A i acc H → A i acc (upd H D (.lst l)))
    (h0 : St 0 H1) (hA0 : A 0 [] H1)
    (hs : ∀ i  acc H, i < n → Frm M H1 H → H D = some (.lst acc) → St i H → A i acc H → ∀ (Ky : VK) (Kn : Hp → Prop),
      (∀ y H', Frm M H1 H' → H' D = some (.lst acc) → St (i + 1) H' → A (i + 1) (acc ++ [y]) H' → Ky y H') → (∀ H', Frm M H1 H' → H' D = some (.lst acc) → St (i + 1) H' → A (i + 1) acc H' → Kn H') → LcStep g tt te vs σ (.int (lo + i)) H Ky Kn)
    (hd : ∀ H acc, Frm M H1 H → H D = some (.lst acc) → St n H → A n acc H → acc.length ≤ n → Qd H) :
    LcW (Itr lo n) g tt te vs σ H1 D Qd := by
  refine lc_range (fun i H => i ≤ n ∧ ∃ acc, Frm M H1 H ∧ H D = some (.lst acc) ∧ St i H ∧ A i acc H ∧ acc.length ≤ i)
    ⟨Nat.zero_le _, [], Frm.refl.updD hD, upd_same, hup _ _ _ Frm.refl h0, hmono _ _ _ _ Frm.refl hA0, Nat.le_refl _⟩  ?_ ?_
  · rintro i  H hx ⟨hi, acc, F, hDa, hS, hA, hlen2⟩
    have hi2 : i < n := hx
    refine hs i  acc H hx F hDa hS hA _ _ (fun y H' F' hD' hS' hA' => ?_) (fun H' F' hD' hS' hA' => ?_)
    · refine ⟨acc, hD', ?_, hi2, acc ++ [y], F'.updD hD, upd_same, hup _ _ _ F' hS', hmono _ _ _ _ F' hA', ?_⟩
      · rw [sizeLine_eq]
        omega
      · rw [List.length_append, List.length_singleton]
        omega
    · exact ⟨hi2, acc, F', hD', hS', hA', by omega⟩
  · rintro H ⟨_, acc, F, hDa, hS, hA, hlen2⟩
    exact hd H acc F hDa hS hA hlen2
end MT
/-! values as data, whatever else the heap holds -/
namespace MT
open PySem L2

mutual
/-- the value v is the data d, none of it at an address of M; a dict's parts are not told -/
inductive Dv (K : PySem.W.Frag) (M : Addr → Prop) (H : Hp) : V → PyData → Prop
  | non : Dv K M H .non .none
  | bl (b : Bool) : Dv K M H (.bl b) (.bool b)
  | int (i : Int) : Dv K M H (.int i) (.int i)
  | str (x : Str) : Dv K M H (.str x) (.str x)
  | lst {p : Addr} {xs : List V} {ds : List PyData} : ¬ M p → SqL K H p xs → DvAll K M H xs ds → Dv K M H (.ref p) (.list ds)
  | tup {p : Addr} {xs : List V} {ds : List PyData} : ¬ M p → SqT K H p xs → DvAll K M H xs ds → Dv K M H (.ref p) (.tuple ds)
  | dct {p : Addr} {kvs : List (Key × V)} : ¬ M p → H p = some (.dK kvs) → Dv K M H (.ref p) (.dict [])
inductive DvAll (K : PySem.W.Frag) (M : Addr → Prop) (H : Hp) : List V → List PyData → Prop
  | nil : DvAll K M H [] []
  | cons {v : V} {vs : List V} {d : PyData} {ds : List PyData} : Dv K M H v d → DvAll K M H vs ds → DvAll K M H (v :: vs) (d :: ds)
end
theorem Frm.seqT {M : Addr → Prop} {K : PySem.W.Frag} {H H' : Hp} {a : Addr} {xs : List V} (e : Frm M H H') (n : ¬ M a) (h : SqT K H a xs) : SqT K H' a xs := by
  rcases h with (h | ⟨o, h⟩) | h
  · exact .inl (.inl (e _ _ n h))
  · exact .inl (.inr ⟨o, e _ _ n h⟩)
  · exact .inr h
section
variable {K : PySem.W.Frag} {M : Addr → Prop} {H H' : Hp}
mutual
theorem Dv.frm (F : Frm M H H') : ∀ (d : PyData) (v : V), Dv K M H v d → Dv K M H' v d
  | .none, _, h => by cases h; exact .non
  | .bool b, _, h => by cases h; exact .bl b
  | .int i, _, h => by cases h; exact .int i
  | .str x, _, h => by cases h; exact .str x
  | .list ds, _, h => by
    cases h with
    | lst n s a => exact .lst n (F.seq n s) (DvAll.frm F ds _ a)
  | .tuple ds, _, h => by
    cases h with
    | tup n s a => exact .tup n (F.seqT n s) (DvAll.frm F ds _ a)
  | .dict _, _, h => by
    cases h with
    | dct n s => exact .dct n (F _ _ n s)
theorem DvAll.frm (F : Frm M H H') : ∀ (ds : List PyData) (vs : List V), DvAll K M H vs ds → DvAll K M H' vs ds
  | [], _, h => by cases h; exact .nil
  | d :: ds, _, h => by
    cases h with
    | cons a b => exact .cons (Dv.frm F d _ a) (DvAll.frm F ds _ b)
end
theorem Dv.mono {d : PyData} {v : V} (h : Dv K M H v d) (F : Frm M H H') : Dv K M H' v d := Dv.frm F d v h
theorem DvAll.mono {ds : List PyData} {vs : List V} (h : DvAll K M H vs ds) (F : Frm M H H') : DvAll K M H' vs ds := DvAll.frm F ds vs h
theorem Dv.same {d : PyData} {v : V} (h : Dv K M H v d) (F : Same H H') : Dv K M H' v d := Dv.frm (frm_same F) d v h
theorem DvAll.same {ds : List PyData} {vs : List V} (h : DvAll K M H vs ds) (F : Same H H') : DvAll K M H' vs ds := DvAll.frm (frm_same F) ds vs h
theorem DvAll.length : ∀ {vs : List V} {ds : List PyData}, DvAll K M H vs ds → vs.length = ds.length
  | _, _, .nil => rfl
  | _, _, .cons _ t => congrArg Nat.succ (DvAll.length t)
theorem DvAll.get {vs : List V} {ds : List PyData} {i : Nat} {x : V} (h : DvAll K M H vs ds) (e : vs[i]? = some x) : ∃ d, ds[i]? = some d ∧ Dv K M H x d := by
  induction i generalizing vs ds with
  | zero => cases h with
    | nil => cases e
    | cons r _ => cases e; exact ⟨_, rfl, r⟩
  | succ i ih => cases h with
    | nil => cases e
    | cons _ t => exact ih t e
theorem DvAll.mem {vs : List V} {ds : List PyData} {x : V} (h : DvAll K M H vs ds) (m : x ∈ vs) : ∃ d, d ∈ ds ∧ Dv K M H x d := by
  obtain ⟨i, hi⟩ := List.mem_iff_getElem?.mp m
  obtain ⟨d, e, r⟩ := h.get hi
  exact ⟨d, List.mem_of_getElem? e, r⟩
theorem DvAll.append : ∀ {vs us : List V} {ds es : List PyData}, DvAll K M H vs ds → DvAll K M H us es → DvAll K M H (vs ++ us) (ds ++ es)
  | _, _, _, _, .nil, s => s
  | _, _, _, _, .cons r t, s => .cons r (DvAll.append t s)
theorem DvAll.set {x : V} {d : PyData} (r : Dv K M H x d) : ∀ {vs : List V} {ds : List PyData} (i : Nat), DvAll K M H vs ds → DvAll K M H (vs.set i x) (ds.set i d)
  | _, _, _, .nil => .nil
  | _, _, 0, .cons _ t => .cons r t
  | _, _, i + 1, .cons q t => .cons q (DvAll.set r i t)
theorem DvAll.ints : ∀ ns : List Int, DvAll K M H (ns.map V.int) (ns.map PyData.int)
  | [] => .nil
  | n :: ns => .cons (.int n) (DvAll.ints ns)
theorem DvAll.drop : ∀ {vs : List V} {ds : List PyData} (n : Nat), DvAll K M H vs ds → DvAll K M H (vs.drop n) (ds.drop n)
  | _, _, 0, h => h
  | _, _, _ + 1, .nil => .nil
  | _, _, n + 1, .cons _ t => DvAll.drop n t
theorem DvAll.take : ∀ {vs : List V} {ds : List PyData} (n : Nat), DvAll K M H vs ds → DvAll K M H (vs.take n) (ds.take n)
  | _, _, 0, _ => .nil
  | _, _, _ + 1, .nil => .nil
  | _, _, n + 1, .cons r t => .cons r (DvAll.take n t)

mutual
theorem Dv.dp : ∀ (d : PyData) (v : V), Dv K M H v d → d.canLay0 = true → Dp K H v d
  | .none, _, h, _ => by cases h; exact .non
  | .bool b, _, h, _ => by cases h; exact .bl b
  | .int i, _, h, _ => by cases h; exact .int i
  | .str x, _, h, _ => by cases h; exact .str x
  | .list ds, _, h, c => by
    cases h with
    | lst n s a => exact .lst s (DvAll.dp ds _ a (by simpa [PyData.canLay0] using c))
  | .tuple ds, _, h, c => by
    cases h with
    | tup n s a => exact .tup s (DvAll.dp ds _ a (by simpa [PyData.canLay0] using c))
  | .dict _, _, h, c => by simp [PyData.canLay0] at c
theorem DvAll.dp : ∀ (ds : List PyData) (vs : List V), DvAll K M H vs ds → PyData.canLayAll0 ds = true → DpAll K H vs ds
  | [], _, h, _ => by cases h; exact .nil
  | d :: ds, _, h, c => by
    have c' : d.canLay0 = true ∧ PyData.canLayAll0 ds = true := by simpa [PyData.canLayAll0] using c
    cases h with
    | cons a b => exact .cons (Dv.dp d _ a c'.1) (DvAll.dp ds _ b c'.2)
end

/-! ### types -/
def tyName : PyData → String
  | .dict _ => "dict" | .tuple _ => "tuple" | .list _ => "list" | .str _ => "str" | .int _ => "int" | .bool _ => "bool" | .none => "NoneType"
theorem tyx_lst {p : Addr} {xs : List V} (h : SqL K H p xs) : TyX K H (.ref p) (.type "list") := by
  rcases h with (h | ⟨o, h⟩) | ⟨o, _, _, h, c, _⟩
  · exact .base (.lst h)
  · exact .base (.frz h)
  · exact .kList h c
theorem tyx_tup {p : Addr} {xs : List V} (h : SqT K H p xs) : TyX K H (.ref p) (.type "tuple") := by
  rcases h with (h | ⟨o, h⟩) | ⟨o, _, _, h, c, _⟩
  · exact .base (.tup h)
  · exact .fTuple h
  · exact .kTuple h c
theorem Dv.ty {d : PyData} {v : V} (h : Dv K M H v d) : TyX K H v (.type (tyName d)) := by
  cases h with
  | non => exact .base .non
  | bl b => exact .base (.bl b)
  | int i => exact .base (.int i)
  | str x => exact .base (.str x)
  | lst _ s _ => exact tyx_lst s
  | tup _ s _ => exact tyx_tup s
  | dct _ s => exact .base (.dK s)
def isIntD : PyData → Bool
  | .int _ => true | _ => false
def isBoolD : PyData → Bool
  | .bool _ => true | _ => false
def isStrD : PyData → Bool
  | .str _ => true | _ => false
def seqD : PyData → Option (List PyData)
  | .list ds => some ds | .tuple ds => some ds | _ => none
theorem kit_tab : ∀ a ∈ ["NoneType", "bool", "int", "str", "list", "tuple", "dict"], ∀ b ∈ ["int", "bool", "str", "list", "tuple"], kitB a b = some (decide (a = b) || (decide (a = "bool") && decide (b = "int"))) := by decide +kernel
theorem tyName_mem (d : PyData) : tyName d ∈ ["NoneType", "bool", "int", "str", "list", "tuple", "dict"] := by cases d <;> simp [tyName]
theorem kit_tyN (d : PyData) {b : String} (h : b ∈ ["int", "bool", "str", "list", "tuple"]) : PySem.W.kitOne K (.type (tyName d)) (.type b) = some (decide (tyName d = b) || (decide (tyName d = "bool") && decide (b = "int"))) := kit_ty (kit_tab _ (tyName_mem d) _ h)
theorem kit_int (d : PyData) : PySem.W.kitOne K (.type (tyName d)) (.type "int") = some (isIntD d || isBoolD d) := by
  rw [kit_tyN d (by decide)]
  cases d <;> simp [tyName, isIntD, isBoolD]
theorem kit_bool (d : PyData) : PySem.W.kitOne K (.type (tyName d)) (.type "bool") = some (isBoolD d) := by
  rw [kit_tyN d (by decide)]
  cases d <;> simp [tyName, isIntD, isBoolD]
theorem kit_str (d : PyData) : PySem.W.kitOne K (.type (tyName d)) (.type "str") = some (isStrD d) := by
  rw [kit_tyN d (by decide)]
  cases d <;> simp [tyName, isStrD, isBoolD]
theorem kit_list (d : PyData) : ∃ b1 b2, PySem.W.kitOne K (.type (tyName d)) (.type "list") = some b1 ∧ PySem.W.kitOne K (.type (tyName d)) (.type "tuple") = some b2 ∧ (b1 || b2) = (seqD d).isSome := by
  refine ⟨_, _, kit_tyN d (by decide), kit_tyN d (by decide), ?_⟩
  cases d <;> simp [tyName, seqD]
theorem kit_seq (d : PyData) : PySem.W.kitAny K (.type (tyName d)) [.type "list", .type "tuple"] = some (seqD d).isSome := by
  obtain ⟨b1, b2, h1, h2, e⟩ := kit_list (K := K) d
  refine kitAny_cons h1 (fun q => kitAny_cons h2 (fun q2 => ?_) (fun q2 => ?_)) (fun q => ?_)
  · rw [← e, q, q2]; exact kitAny_nil
  · rw [← e, q2]; cases b1 <;> rfl
  · rw [← e, q]; rfl
theorem Dv.seq {d : PyData} {v : V} {ds : List PyData} (h : Dv K M H v d) (e : seqD d = some ds) : ∃ p xs, v = .ref p ∧ ¬ M p ∧ (SqL K H p xs ∨ SqT K H p xs) ∧ DvAll K M H xs ds := by
  cases h with
  | lst n s a => cases e; exact ⟨_, _, rfl, n, .inl s, a⟩
  | tup n s a => cases e; exact ⟨_, _, rfl, n, .inr s, a⟩
  | _ => cases e

/-! ### walks of lists and tuples -/
def SeqIt (K : PySem.W.Frag) (a : Addr) (xs : List V) (H1 : Hp) (J : It) : Prop := (J = Itl K a ∧ SqL K H1 a xs) ∨ (J = Itt K a ∧ SqT K H1 a xs)
def iSeq (K : PySem.W.Frag) (tl : TE) : TI := fun σ H R => tl σ H fun x H1 => ∃ a xs, x = .ref a ∧ (SqL K H1 a xs ∨ SqT K H1 a xs) ∧ ∀ J, SeqIt K a xs H1 J → R J H1
theorem pi_seq {X : Cx} {tg l : Expr} {tl : TE} (hl : PE X l tl) : PI X tg l (iSeq X.K tl) := by
  refine ⟨fun pns st sl Hs R I0 told => thn (hl.run pns st sl Hs _ I0 told) fun got st1 ⟨y, Ht, J, ry, a, xs, ey, sq, go⟩ => ?_⟩
  subst ey
  cases ry
  have free : ∀ b ∈ [st1.heap.objs.size], FpOk X pns Ht b := fun b hb => by
    rw [List.mem_singleton] at hb
    rw [hb]
    exact J.fpOk (Nat.le_refl _) (J.hok.fresh (Nat.le_refl _))
  rcases sq with isL | isT
  · obtain ⟨items, _, plain, _⟩ := J.list isL
    exact wpAny_pyIter_list plain.isList ⟨_, [st1.heap.objs.size], _, _, Ht, rfl, J.kept (t' := st1.toks) (fun _ _ e => Heap.get?_push_of_some _ e), turn_list a _, ⟨_, Heap.get?_push_size _ rfl, rfl, rfl⟩, free, go _ (.inl ⟨rfl, isL⟩)⟩
  · obtain ⟨items, _, plain, _⟩ := J.tuple isT
    exact wpAny_pyIter_tuple (show st1.heap.IsTuple a items.toArray from plain) ⟨_, [st1.heap.objs.size], _, _, Ht, rfl, J.kept (t' := st1.toks) (fun _ _ e => Heap.get?_push_of_some _ e), turn_tuple a _, ⟨_, Heap.get?_push_size _ rfl, rfl, rfl⟩, free, go _ (.inr ⟨rfl, isT⟩)⟩
theorem lcg_seq {a : Addr} {xs : List V} {J : It} {g : TG} {tt : TT} {te : TE} {vs : List Nat} {σ : St} {H1 : Hp} {D : Addr} {Qd : Hp → Prop} (M : Addr → Prop) (St : Nat → Hp → Prop) (A : Nat → List V → Hp → Prop)
    (hD : H1 D = none) (hJ : SeqIt K a xs H1 J) (nM : ¬ M a) (hlen : xs.length ≤ 10000000)
    (hup : ∀ i H l, Frm M H1 H → St i H → St i (upd H D (.lst l))) (hmono : ∀ i acc H l, Frm M H1 H → A i acc H → A i acc (upd H D (.lst l)))
    (h0 : St 0 H1) (hA0 : A 0 [] H1)
    (hs : ∀ i x acc H, xs[i]? = some x → Frm M H1 H → H D = some (.lst acc) → St i H → A i acc H → ∀ (Ky : VK) (Kn : Hp → Prop),
      (∀ y H', Frm M H1 H' → H' D = some (.lst acc) → St (i + 1) H' → A (i + 1) (acc ++ [y]) H' → Ky y H') → (∀ H', Frm M H1 H' → H' D = some (.lst acc) → St (i + 1) H' → A (i + 1) acc H' → Kn H') → LcStep g tt te vs σ x H Ky Kn)
    (hd : ∀ H acc, Frm M H1 H → H D = some (.lst acc) → St xs.length H → A xs.length acc H → acc.length ≤ xs.length → Qd H) : LcW J g tt te vs σ H1 D Qd := by
  rcases hJ with ⟨rfl, s⟩ | ⟨rfl, s⟩
  · exact lcg_list M St A hD (fun H F => F.seq nM s) hlen hup hmono h0 hA0 hs hd
  · exact lcg_tup M St A hD (fun H F => F.seqT nM s) hlen hup hmono h0 hA0 hs hd
theorem same_frm {H H' : Hp} (F : Frm (fun _ => False) H H') : Same H H' := fun c o h => F c o (fun z => z) h
/-- a list of flags: p of each item -/
theorem lc_bools {a : Addr} {xs : List V} {ds : List PyData} {J : It} {g : TG} {te : TE} {vs : List Nat} {σ : St} {H1 : Hp} {D : Addr} {Qd : Hp → Prop} (p : PyData → Bool)
    (hD : H1 D = none) (hJ : SeqIt K a xs H1 J) (hda : DvAll K M H1 xs ds) (hlen : xs.length ≤ 10000000)
    (hs : ∀ x d H, Dv K M H x d → Same H1 H → ∀ Ky : VK, (∀ H', Same H H' → Ky (.bl (p d)) H') → g x (wipe σ vs) H fun σ2 H2 => wipe σ2 vs = wipe σ vs ∧ te σ2 H2 Ky)
    (hd : ∀ H, Same H1 H → H D = some (.lst ((ds.map p).map V.bl)) → Qd H) : LcW J g tYes te vs σ H1 D Qd := by
  refine lcg_seq (fun _ => False) (fun _ _ => True) (fun i acc _ => acc = ((ds.take i).map p).map V.bl) hD hJ (fun z => z) hlen (fun _ _ _ _ z => z) (fun _ _ _ _ _ z => z) trivial rfl ?_ ?_
  · intro i x acc H hx F hDa _ hA Ky Kn ky kn
    obtain ⟨d, hd1, hd2⟩ := hda.get hx
    have F2 := same_frm F
    refine hs x d H (hd2.same F2) F2 _ fun H' F' => ?_
    refine ky _ H' (F.trans (frm_same F')) (F' _ _ hDa) trivial ?_
    rw [hA]
    have e : ds.take (i + 1) = ds.take i ++ [d] := by
      rw [List.take_add_one, hd1]
      rfl
    rw [e, List.map_append, List.map_append]
    rfl
  · intro H acc F hDa _ hA _
    refine hd H (same_frm F) ?_
    rw [hDa, hA, List.take_of_length_le (by rw [hda.length]; exact Nat.le_refl _)]
end
theorem qbl {Q : VK} {a b : Bool} {H : Hp} (q : Q (.bl b) H) (e : a = b) : Q (.bl a) H := e ▸ q
/-! ### what the checks answer, as data -/
def oI : Option Int → V
  | none => .non | some i => .int i
def withinD (d : PyData) (lo hi : Option Int) : Bool := match d with
  | .int i => (match lo with | none => true | some l => decide (l ≤ i)) && (match hi with | none => true | some u => decide (i ≤ u))
  | _ => false
def areIntsD (d : PyData) : Bool := match seqD d with
  | none => false | some ds => ds.all isIntD
def numbersD (d : PyData) (n m : Int) : Bool := match seqD d with
  | none => false | some ds => decide ((ds.length : Int) = n) && ds.all (fun x => withinD x (some 0) (some m))
def intOf : PyData → Int
  | .int i => i | _ => 0
def risesD : List PyData → Bool
  | x :: y :: r => decide (intOf x < intOf y) && risesD (y :: r)
  | _ => true
def lotD (d : PyData) (n : Int) : Bool := match seqD d with
  | none => false | some ds => ds.all (fun x => withinD x (some 0) (some (n - 1))) && risesD ds
def nameSign (c : Nat) : Bool := (decide (97 ≤ c) && decide (c ≤ 122)) || (decide (48 ≤ c) && decide (c ≤ 57))
def nameD : PyData → Bool
  | .str x => decide (1 ≤ x.length) && decide (x.length ≤ 12) && x.cps.toList.all nameSign
  | _ => false
theorem isInt_eq {d : PyData} (h : isIntD d = true) : ∃ i, d = .int i := by
  cases d <;> first | exact ⟨_, rfl⟩ | cases h
def spIsList (K : PySem.W.Frag) : Sp := fun vs H Q _ => ∃ (M : Addr → Prop) (v : V) (d : PyData), vs = [v] ∧ Dv K M H v d ∧ ∀ H', Same H H' → Q (.bl (seqD d).isSome) H'
def spIsInt (K : PySem.W.Frag) : Sp := fun vs H Q _ => ∃ (M : Addr → Prop) (v : V) (d : PyData), vs = [v] ∧ Dv K M H v d ∧ Q (.bl (isIntD d)) H
def spWithin (K : PySem.W.Frag) : Sp := fun vs H Q _ => ∃ (M : Addr → Prop) (v : V) (d : PyData) (lo hi : Option Int), vs = [v, oI lo, oI hi] ∧ Dv K M H v d ∧ Q (.bl (withinD d lo hi)) H
def spAreInts (K : PySem.W.Frag) : Sp := fun vs H Q _ => ∃ (M : Addr → Prop) (v : V) (d : PyData), vs = [v] ∧ Dv K M H v d ∧ (∀ ds, seqD d = some ds → ds.length ≤ 10000000) ∧ ∀ H', Same H H' → Q (.bl (areIntsD d)) H'
def spNumbers (K : PySem.W.Frag) : Sp := fun vs H Q _ => ∃ (M : Addr → Prop) (v : V) (d : PyData) (n m : Int), vs = [v, .int n, .int m] ∧ Dv K M H v d ∧ (∀ ds, seqD d = some ds → ds.length ≤ 10000000) ∧ ∀ H', Same H H' → Q (.bl (numbersD d n m)) H'
def spLot (K : PySem.W.Frag) : Sp := fun vs H Q _ => ∃ (M : Addr → Prop) (v : V) (d : PyData) (n : Int), vs = [v, .int n] ∧ Dv K M H v d ∧ (∀ ds, seqD d = some ds → ds.length ≤ 10000000) ∧ ∀ H', Same H H' → Q (.bl (lotD d n)) H'
def spName (K : PySem.W.Frag) : Sp := fun vs H Q _ => ∃ (M : Addr → Prop) (v : V) (d : PyData), vs = [v] ∧ Dv K M H v d ∧ (∀ x, d = .str x → x.length ≤ 1000000) ∧ ∀ H', Same H H' → Q (.bl (nameD d)) H'
end MT
/-! comprehensions over two at once, over signs -/
namespace MT
open PySem L2 RZ
section
variable {K : PySem.W.Frag} {M : Addr → Prop} {H H' : Hp}
def ZipIt (K : PySem.W.Frag) (a b : Addr) (xs ys : List V) (H1 : Hp) (J : It) : Prop := (J = Itz K a b ∧ SqL K H1 a xs ∧ SqL K H1 b ys) ∨ (J = ItzT K a b ∧ SqT K H1 a xs ∧ SqT K H1 b ys)
theorem Same.seqT {H H' : Hp} {a : Addr} {xs : List V} (e : Same H H') (h : SqT K H a xs) : SqT K H' a xs := Frm.seqT (M := fun _ => False) (frm_same e) (fun z => z) h
theorem lc_zipP {a b : Addr} {xs ys : List V} {J : It} {g : TG} {te : TE} {vs : List Nat} {σ : St} {H1 : Hp} {D : Addr} {Qd : Hp → Prop} (f : V × V → V)
    (hD : H1 D = none) (hJ : ZipIt K a b xs ys H1 J) (hlen : xs.length ≤ 10000000)
    (hs : ∀ (i : Nat) x y T H, xs[i]? = some x → ys[i]? = some y → Same H1 H → H T = some (.tup [x, y]) → ∀ Ky : VK, (∀ H', Same H H' → Ky (f (x, y)) H') → g (.ref T) (wipe σ vs) H fun σ2 H2 => wipe σ2 vs = wipe σ vs ∧ te σ2 H2 Ky)
    (hd : ∀ H, Same H1 H → H D = some (.lst ((xs.zip ys).map f)) → Qd H) : LcW J g tYes te vs σ H1 D Qd := by
  have key : ∀ (i m : Nat) (H : Hp), (m = (xs.zip ys).length - i ∧ i ≤ (xs.zip ys).length ∧ Same H1 H ∧ H D = some (.lst (((xs.zip ys).take i).map f))) →
      (xs.length ≤ i ∨ ys.length ≤ i) ∧ Qd H ∨ (∃ x y, xs[i]? = some x ∧ ys[i]? = some y ∧ ∀ T H', H' = upd H T (.tup [x, y]) → H T = none →
        g (.ref T) (wipe σ vs) H' fun σ2 H2 => wipe σ2 vs = wipe σ vs ∧ tYes σ2 H2 fun b H3 => if b = true then te σ2 H3 fun y H4 => ∃ acc, H4 D = some (.lst acc) ∧ acc.length < sizeLine ∧
          (i + 1 ≤ (xs.zip ys).length ∧ Same H1 (upd H4 D (.lst (acc ++ [y]))) ∧ (upd H4 D (.lst (acc ++ [y]))) D = some (.lst (((xs.zip ys).take (i + 1)).map f))) else (i + 1 ≤ (xs.zip ys).length ∧ Same H1 H3 ∧ H3 D = some (.lst (((xs.zip ys).take (i + 1)).map f)))) := by
    rintro i m H ⟨rfl, hi, s, hDa⟩
    have hl := List.length_zip (l₁ := xs) (l₂ := ys)
    by_cases hlt : i < (xs.zip ys).length
    · have h1 : i < xs.length := (by omega)
      have h2 : i < ys.length := (by omega)
      refine .inr ⟨xs[i], ys[i], List.getElem?_eq_getElem h1, List.getElem?_eq_getElem h2, fun T H' e hT => ?_⟩
      subst e
      have sT := same_new (o := .tup [xs[i], ys[i]]) hT
      refine hs i _ _ T _ (List.getElem?_eq_getElem h1) (List.getElem?_eq_getElem h2) (s.trans sT) upd_same _ fun H' s' => ?_
      refine ⟨_, s' _ _ (sT _ _ hDa), ?_, hlt, ?_, ?_⟩
      · rw [sizeLine_eq, List.length_map, List.length_take]
        omega
      · exact same_frm ((frm_same ((s.trans sT).trans s')).updD hD)
      · have e : (xs.zip ys).take (i + 1) = (xs.zip ys).take i ++ [(xs[i], ys[i])] := by
          rw [List.take_add_one, List.getElem?_eq_getElem hlt, List.getElem_zip]
          rfl
        rw [upd_same, e, List.map_append]
        rfl
    · have e : i = (xs.zip ys).length := by omega
      subst e
      refine .inl ⟨by omega, hd H s ?_⟩
      rw [hDa, List.take_of_length_le (Nat.le_refl _)]
  have st : (xs.zip ys).length = (xs.zip ys).length - 0 ∧ 0 ≤ (xs.zip ys).length ∧ Same H1 (upd H1 D (.lst [])) ∧ (upd H1 D (.lst [])) D = some (.lst (((xs.zip ys).take 0).map f)) :=
    ⟨by omega, Nat.zero_le _, same_new hD, by rw [upd_same]; rfl⟩
  rcases hJ with ⟨rfl, sa, sb⟩ | ⟨rfl, sa, sb⟩
  · refine ⟨fun i m H => m = (xs.zip ys).length - i ∧ i ≤ (xs.zip ys).length ∧ Same H1 H ∧ H D = some (.lst (((xs.zip ys).take i).map f)), ⟨_, st⟩, fun i m H w => ?_⟩
    obtain ⟨em, _, s, _⟩ := id w
    have q1 := s.seq sa
    have q2 := s.seq sb
    rcases key i m H w with ⟨z, q⟩ | ⟨x, y, hx, hy, q⟩
    · exact .inl ⟨⟨xs, ys, q1, q2, z⟩, q⟩
    · have hlt : i < (xs.zip ys).length := by
        rw [List.length_zip]
        exact Nat.lt_min.mpr ⟨(List.getElem?_eq_some_iff.mp hx).1, (List.getElem?_eq_some_iff.mp hy).1⟩
      refine .inr ⟨⟨xs, ys, x, y, q1, q2, hx, hy⟩, fun H' => i + 1 ≤ (xs.zip ys).length ∧ Same H1 H' ∧ H' D = some (.lst (((xs.zip ys).take (i + 1)).map f)), fun H' p => ⟨_, by omega, rfl, p⟩, ?_⟩
      rintro v H' ⟨T, x', y', rfl, hT, e, ax, ay⟩
      have ex := (ax xs q1).symm.trans hx
      have ey := (ay ys q2).symm.trans hy
      cases ex
      cases ey
      exact q T H' e hT
  · refine ⟨fun i m H => m = (xs.zip ys).length - i ∧ i ≤ (xs.zip ys).length ∧ Same H1 H ∧ H D = some (.lst (((xs.zip ys).take i).map f)), ⟨_, st⟩, fun i m H w => ?_⟩
    obtain ⟨em, _, s, _⟩ := id w
    have q1 := Same.seqT s sa
    have q2 := Same.seqT s sb
    rcases key i m H w with ⟨z, q⟩ | ⟨x, y, hx, hy, q⟩
    · exact .inl ⟨⟨xs, ys, q1, q2, z⟩, q⟩
    · have hlt : i < (xs.zip ys).length := by
        rw [List.length_zip]
        exact Nat.lt_min.mpr ⟨(List.getElem?_eq_some_iff.mp hx).1, (List.getElem?_eq_some_iff.mp hy).1⟩
      refine .inr ⟨⟨xs, ys, x, y, q1, q2, hx, hy⟩, fun H' => i + 1 ≤ (xs.zip ys).length ∧ Same H1 H' ∧ H' D = some (.lst (((xs.zip ys).take (i + 1)).map f)), fun H' p => ⟨_, by omega, rfl, p⟩, ?_⟩
      rintro v H' ⟨T, x', y', rfl, hT, e, ax, ay⟩
      have ex := (ax xs q1).symm.trans hx
      have ey := (ay ys q2).symm.trans hy
      cases ex
      cases ey
      exact q T H' e hT
/-- sign by sign -/
theorem lc_strP {z : Str} {g : TG} {te : TE} {vs : List Nat} {σ : St} {H1 : Hp} {D : Addr} {Qd : Hp → Prop} (f : Nat → V)
    (hD : H1 D = none) (hlen : z.length ≤ 10000000)
    (hs : ∀ c H, c ∈ z.cps.toList → Same H1 H → ∀ Ky : VK, (∀ H', Same H H' → Ky (f c) H') → g (.str ⟨#[c]⟩) (wipe σ vs) H fun σ2 H2 => wipe σ2 vs = wipe σ vs ∧ te σ2 H2 Ky)
    (hd : ∀ H, Same H1 H → H D = some (.lst (z.cps.toList.map f)) → Qd H) : LcW (Its z) g tYes te vs σ H1 D Qd := by
  have hz : z.length = z.cps.toList.length := by simp [Str.length]
  have hz2 : z.cps.size = z.cps.toList.length := by simp
  refine ⟨fun i m H => m = z.cps.toList.length - i ∧ i ≤ z.cps.toList.length ∧ Same H1 H ∧ H D = some (.lst ((z.cps.toList.take i).map f)), ⟨_, by omega, Nat.zero_le _, same_new hD, by rw [upd_same]; rfl⟩, ?_⟩
  rintro i m H ⟨rfl, hi, s, hDa⟩
  by_cases hlt : i < z.cps.toList.length
  · refine .inr ⟨by show i < z.cps.size; omega, fun H' => i + 1 ≤ z.cps.toList.length ∧ Same H1 H' ∧ H' D = some (.lst ((z.cps.toList.take (i + 1)).map f)), fun H' p => ⟨_, by omega, rfl, p⟩, ?_⟩
    rintro v H' ⟨rfl, c, hc, rfl⟩
    have hc2 : z.cps.toList[i]? = some c := by simpa using hc
    refine hs c _ (List.mem_of_getElem? hc2) s _ fun H' s' => ?_
    refine ⟨_, s' _ _ hDa, ?_, hlt, ?_, ?_⟩
    · rw [sizeLine_eq, List.length_map, List.length_take]
      omega
    · exact same_frm ((frm_same (s.trans s')).updD hD)
    · have e : z.cps.toList.take (i + 1) = z.cps.toList.take i ++ [c] := by
        rw [List.take_add_one, hc2]
        rfl
      rw [upd_same, e, List.map_append]
      rfl
  · have e : i = z.cps.toList.length := by omega
    subst e
    refine .inl ⟨by show z.cps.size ≤ _; omega, hd H s ?_⟩
    rw [hDa, List.take_of_length_le (Nat.le_refl _)]
theorem cutRest (xs : List V) : cutV xs (some (1 : Int)) none = List.drop 1 xs := by
  unfold cutV
  have e1 : HT.sIx xs.length 0 (some 1) = min 1 xs.length := HT.sIx_nat _ _ 1
  rw [e1, HT.sIx_none]
  have e2 : xs.drop (min 1 xs.length) = xs.drop 1 := by
    cases xs with
    | nil => rfl
    | cons x r =>
      have : min 1 (x :: r).length = 1 := by rw [List.length_cons]; omega
      rw [this]
  rw [e2]
  refine List.take_of_length_le ?_
  rw [List.length_drop]
  omega
theorem sl_seq {X : Cx} : SlR X (fun x lo hi H Q => rSlL X.K x lo hi H Q ∨ rSlA X.K x lo hi H Q) := sl_list.or sl_tupA
/-- the rest of a list or tuple behind its first one, as data -/
theorem rest_seq {a : Addr} {xs : List V} {H1 : Hp} {Q : VK} (sq : SqL K H1 a xs ∨ SqT K H1 a xs)
    (h : ∀ b H2, Same H1 H2 → ((SqL K H2 a xs ∧ SqL K H2 b (xs.drop 1)) ∨ (SqT K H2 a xs ∧ SqT K H2 b (xs.drop 1))) → Q (.ref b) H2) :
    rSlL K (.ref a) (some 1) none H1 Q ∨ rSlA K (.ref a) (some 1) none H1 Q := by
  rcases sq with s | s
  · refine .inl ⟨a, xs, rfl, s, fun p hp => ?_⟩
    have e := same_new (o := .lst (cutV xs (some 1) none)) hp
    refine h p _ e (.inl ⟨e.seq s, ?_⟩)
    rw [← cutRest]
    exact SqL.of upd_same
  · refine .inr ⟨a, xs, rfl, s, fun hw => ?_, fun _ p hp => ?_⟩
    · refine h a _ (Same.refl _) (.inr ⟨s, ?_⟩)
      have e1 : HT.sIx xs.length 0 (some 1) = min 1 xs.length := HT.sIx_nat _ _ 1
      have h0 := hw.1
      rw [e1] at h0
      cases xs with
      | nil => exact s
      | cons x r =>
        rw [List.length_cons] at h0
        omega
    · have e := same_new (o := .tup (cutV xs (some 1) none)) hp
      refine h p _ e (.inr ⟨Same.seqT e s, ?_⟩)
      rw [← cutRest]
      exact SqT.of upd_same
theorem all_rises : ∀ {xs : List V} {ds : List PyData}, DvAll K M H xs ds → ds.all isIntD = true → ∃ ns : List Int, xs = ns.map V.int ∧ ds = ns.map PyData.int
  | _, _, .nil, _ => ⟨[], rfl, rfl⟩
  | _, _, .cons (v := v) (d := d) h t, e => by
    rw [List.all_cons, Bool.and_eq_true] at e
    obtain ⟨i, rfl⟩ := isInt_eq e.1
    cases h
    obtain ⟨ns, e1, e2⟩ := all_rises t e.2
    exact ⟨i :: ns, by rw [e1]; rfl, by rw [e2]; rfl⟩
theorem rises_zip : ∀ ns : List Int, ((ns.zip (ns.drop 1)).all fun q => decide (q.1 < q.2)) = risesD (ns.map PyData.int)
  | [] => rfl
  | [_] => rfl
  | x :: y :: r => by
    have ih := rises_zip (y :: r)
    show (decide (x < y) && (((y :: r).zip r).all fun q => decide (q.1 < q.2))) = (decide (x < y) && risesD ((y :: r).map PyData.int))
    rw [← ih]
    rfl
def ltF : V × V → V
  | (.int i, .int j) => .bl (decide (i < j))
  | _ => .bl false
theorem int_at {ns : List Int} {i : Nat} {x : V} (h : (ns.map V.int)[i]? = some x) : ∃ z, x = .int z := by
  rw [List.getElem?_map] at h
  cases e : ns[i]? with
  | none => rw [e] at h; cases h
  | some z => rw [e] at h; exact ⟨z, (Option.some.inj h).symm⟩
theorem zip_lt (ns : List Int) : ((ns.map V.int).zip ((ns.map V.int).drop 1)).map ltF = ((ns.zip (ns.drop 1)).map fun q => decide (q.1 < q.2)).map V.bl := by
  rw [← List.map_drop, List.zip_map, List.map_map, List.map_map]
  rfl
theorem within_ints {ds : List PyData} {m : Int} (h : ds.all (fun x => withinD x (some 0) (some m)) = true) : ds.all isIntD = true := by
  rw [List.all_eq_true] at h ⊢
  intro d hd
  have q := h d hd
  cases d <;> first | rfl | cases q
theorem numbers_len {d : PyData} {ds : List PyData} {xs : List V} {m : Int} (h : seqD d = some ds) (hda : DvAll K M H xs ds) : numbersD d (xs.length : Int) m = ds.all (fun x => withinD x (some 0) (some m)) := by
  unfold numbersD
  rw [h, hda.length]
  show (decide ((ds.length : Int) = ds.length) && _) = _
  rw [decide_eq_true rfl]
  rfl
theorem within_len {n : Nat} : withinD (.int n) (some 1) (some 12) = (decide (1 ≤ n) && decide (n ≤ 12)) := by
  show (decide ((1 : Int) ≤ n) && decide ((n : Int) ≤ 12)) = _
  rw [Bool.eq_iff_iff]
  simp only [Bool.and_eq_true, decide_eq_true_eq]
  omega
theorem sign_mem (c : Nat) : (c ∈ [97, 98, 99, 100, 101, 102, 103, 104, 105, 106, 107, 108, 109, 110, 111, 112, 113, 114, 115, 116, 117, 118, 119, 120, 121, 122, 48, 49, 50, 51, 52, 53, 54, 55, 56, 57]) ↔ nameSign c = true := by
  unfold nameSign
  simp only [List.mem_cons, List.not_mem_nil, or_false, Bool.or_eq_true, Bool.and_eq_true, decide_eq_true_eq]
  omega
theorem sign_in (c : Nat) : decide (c ∈ (("abcdefghijklmnopqrstuvwxyz0123456789" : Str).cps.toList)) = nameSign c := by
  have e : (("abcdefghijklmnopqrstuvwxyz0123456789" : Str).cps.toList) = [97, 98, 99, 100, 101, 102, 103, 104, 105, 106, 107, 108, 109, 110, 111, 112, 113, 114, 115, 116, 117, 118, 119, 120, 121, 122, 48, 49, 50, 51, 52, 53, 54, 55, 56, 57] := by decide +kernel
  rw [e, Bool.eq_iff_iff, decide_eq_true_iff, sign_mem]
end
end MT
/-! what is made, told by what it is and not by how the heap is written -/
namespace MT
open PySem L2
section
variable {X : Cx} {e a : Expr} {es : List Expr} {t : TE} {ta : TA} {pos : Pos}
theorem PE.imp {t' : TE} (h : PE X e t) (i : ∀ σ H Q, t' σ H Q → t σ H Q) : PE X e t' := ⟨fun pins s σ H Q I q => h.run pins s σ H Q I (i σ H Q q)⟩
def clA (t : TA) : TA := fun σ H R => ∃ R', (∀ xs H1, R' xs H1 → R xs H1) ∧ t σ H R'
theorem PA.cl (h : PA X es ta) : PA X es (clA ta) := ⟨fun pos pins s σ H Q I ⟨R', i, q⟩ => thn (h.run pos pins s σ H R' I q) fun us s1 ⟨xs, H1, I1, r1, q1⟩ => ⟨xs, H1, I1, r1, i _ _ q1⟩⟩
/-- a new object o at p -/
def New (H H' : Hp) (p : Addr) (o : HO) : Prop := Same H H' ∧ H' p = some o ∧ H p = none
theorem New.mk' {H : Hp} {p : Addr} {o : HO} (h : H p = none) : New H (upd H p o) p o := ⟨same_new h, upd_same, h⟩
def tLstN (t : TA) : TE := fun σ H Q => t σ H fun xs H1 => xs.length ≤ sizeLine ∧ ∀ p H2, New H1 H2 p (.lst xs) → Q (.ref p) H2
theorem pe_lstN (h : PA X es ta) : PE X (.List es pos) (tLstN ta) := PE.imp (pe_lst (PA.cl h)) fun σ H Q q => ⟨_, fun xs H1 z => ⟨z.1, fun p hp => z.2 p _ (New.mk' hp)⟩, q⟩
def tTupN (t : TA) : TE := fun σ H Q => t σ H fun xs H1 => xs.length ≤ sizeLine ∧ ∀ p H2, New H1 H2 p (.tup xs) → Q (.ref p) H2
theorem pe_tupN {x1} (h : PA X es ta) : PE X (.Tuple es x1 pos) (tTupN ta) := PE.imp (pe_tup (PA.cl h)) fun σ H Q q => ⟨_, fun xs H1 z => ⟨z.1, fun p hp => z.2 p _ (New.mk' hp)⟩, q⟩
theorem sl_listN : SlR X (fun x lo hi H Q => ∃ a xs, x = .ref a ∧ SqL X.K H a xs ∧ ∀ p H2, New H H2 p (.lst (cutV xs lo hi)) → Q (.ref p) H2) := by
  intro pins s σ H x v vl vu lo hi sl Q I rx hs pl pu h
  obtain ⟨a, xs, ex, hx, q⟩ := h
  exact sl_list pins s σ H x v vl vu lo hi sl Q I rx hs pl pu ⟨a, xs, ex, hx, fun p hp => q p _ (New.mk' hp)⟩
theorem call_list_ofN : CallR X (.type "list") (fun xs H Q => ∃ p ys, xs = [.ref p] ∧ (SqL X.K H p ys ∨ SqT X.K H p ys) ∧ ∀ l H2, New H H2 l (.lst ys) → Q (.ref l) H2) := by
  intro pins s σ H xs us Q I r h
  obtain ⟨p, ys, e1, e2, q⟩ := h
  exact call_list_of pins s σ H xs us Q I r ⟨p, ys, e1, e2, fun l hl => q l _ (New.mk' hl)⟩
theorem call_tuple_ofN : CallR X (.type "tuple") (fun xs H Q => ∃ p ys, xs = [.ref p] ∧ ((SqL X.K H p ys ∧ ∀ l H2, New H H2 l (.tup ys) → Q (.ref l) H2) ∨ (SqT X.K H p ys ∧ Q (.ref p) H))) := by
  intro pins s σ H xs us Q I r h
  obtain ⟨p, ys, e1, q⟩ := h
  refine call_tuple_of pins s σ H xs us Q I r ⟨p, ys, e1, ?_⟩
  rcases q with ⟨h1, q⟩ | q
  · exact .inl ⟨h1, fun l hl => q l _ (New.mk' hl)⟩
  · exact .inr q
def clE (t : TE) : TE := fun σ H R => ∃ R', (∀ x H1, R' x H1 → R x H1) ∧ t σ H R'
theorem PE.cl (h : PE X e t) : PE X e (clE t) := ⟨fun pins s σ H Q I ⟨R', i, q⟩ => thn (h.run pins s σ H R' I q) fun u s1 ⟨x, H1, I1, r1, q1⟩ => ⟨x, H1, I1, r1, i _ _ q1⟩⟩
/-- {k: v}, one pair -/
theorem pe_disp1N {k v : Expr} {tk tv : TE} (hk : PE X k tk) (hv : PE X v tv) : PE X (.Dict [some k] [v] pos) (fun σ H Q => ∀ p H0, New H H0 p (.dK []) → tk σ H0 fun x H1 => tv σ H1 fun y H2 =>
    H2 p = some (.dK []) ∧ ∃ key : Key, x = kV key ∧ ∀ H3, (∀ c, c ≠ p → H3 c = H2 c) → H3 p = some (.dK [(key, y)]) → Q (.ref p) H3) := by
  refine PE.imp (pe_disp (pps_cons (PE.cl hk) (PE.cl hv) pps_nil) rfl rfl (fun z => by cases z) (show 1 ≤ 15 by decide)) fun σ H Q q p hp => ?_
  refine ⟨_, fun x H1 z => ⟨_, fun y H2 z2 => ?_, z⟩, q p _ (New.mk' hp)⟩
  obtain ⟨e, key, ex, q2⟩ := z2
  subst ex
  exact ⟨e, [(key, y)], rfl, (show 1 ≤ 15 by decide), q2 _ (fun c hc => upd_ne hc) upd_same⟩
end
section
variable {K : PySem.W.Frag} {M : Addr → Prop} {H H' : Hp}
theorem New.same {H H' : Hp} {p : Addr} {o : HO} (n : New H H' p o) : Same H H' := n.1
theorem New.ne {H H' : Hp} {p a : Addr} {o u : HO} (n : New H H' p o) (h : H a = some u) : p ≠ a := fun e => by
  have := n.2.2
  rw [e, h] at this
  cases this
theorem New.lst {H H' : Hp} {p a : Addr} {xs : List V} {ds : List PyData} {u : HO} (n : New H H' p (.lst xs)) (h : H a = some u) (hx : DvAll K (· = a) H xs ds) : Dv K (· = a) H' (.ref p) (.list ds) :=
  .lst (n.ne h) (SqL.of n.2.1) (hx.same n.1)
theorem New.tup {H H' : Hp} {p a : Addr} {xs : List V} {ds : List PyData} {u : HO} (n : New H H' p (.tup xs)) (h : H a = some u) (hx : DvAll K (· = a) H xs ds) : Dv K (· = a) H' (.ref p) (.tuple ds) :=
  .tup (n.ne h) (SqT.of n.2.1) (hx.same n.1)
theorem Sx.at {a b : Addr} {cs : List Int} {n : Nat} (S : Sx a b cs n H) : ∃ o, H a = some o := by
  obtain ⟨t, r, S, _⟩ := S
  exact ⟨_, S.ha⟩
theorem Sx.new {a b p : Addr} {cs : List Int} {n : Nat} {o : HO} (S : Sx a b cs n H) (e : New H H' p o) : Sx a b cs n H' := S.same e.1
theorem Sx.ne {a b p : Addr} {cs : List Int} {n : Nat} {o : HO} (S : Sx a b cs n H) (e : New H H' p o) : p ≠ a := by
  obtain ⟨u, h⟩ := S.at
  exact e.ne h
theorem Sx.lst {a b p : Addr} {cs : List Int} {n : Nat} {xs : List V} {ds : List PyData} (S : Sx a b cs n H) (e : New H H' p (.lst xs)) (hx : DvAll K (· = a) H xs ds) : Dv K (· = a) H' (.ref p) (.list ds) := by
  obtain ⟨u, h⟩ := S.at
  exact e.lst h hx
theorem Sx.tup {a b p : Addr} {cs : List Int} {n : Nat} {xs : List V} {ds : List PyData} (S : Sx a b cs n H) (e : New H H' p (.tup xs)) (hx : DvAll K (· = a) H xs ds) : Dv K (· = a) H' (.ref p) (.tuple ds) := by
  obtain ⟨u, h⟩ := S.at
  exact e.tup h hx
theorem New.filled {H H0 H2 H3 : Hp} {p : Addr} {o : HO} (n : New H H0 p o) (s : Same H0 H2) (h : ∀ c, c ≠ p → H3 c = H2 c) : Same H H3 := fun c u e => by
  rw [h c (fun z => n.ne e z.symm)]
  exact s _ _ (n.1 _ _ e)
theorem sIx_nat' (n d k : Nat) : HT.sIx n d (some (k : Int)) = min k n := HT.sIx_nat n d k
theorem cutN (xs : List V) (k : Nat) : cutV xs none (some (k : Int)) = xs.take k := by
  unfold cutV
  rw [HT.sIx_none, HT.sIx_nat, List.drop_zero, Nat.sub_zero]
  by_cases h : k ≤ xs.length
  · rw [Nat.min_eq_left h]
  · rw [Nat.min_eq_right (by omega), List.take_of_length_le (Nat.le_refl _), List.take_of_length_le (by omega)]
theorem atI_some {xs : List V} {d : Int} (h0 : 0 ≤ d) (h1 : d < (xs.length : Int)) : ∃ x, x ∈ xs ∧ atI xs d = some x := by
  obtain ⟨j, rfl⟩ : ∃ j : Nat, d = j := ⟨_, (Int.toNat_of_nonneg h0).symm⟩
  have hj : j < xs.length := by omega
  exact ⟨xs[j], List.getElem_mem hj, atI_nat (List.getElem?_eq_getElem hj)⟩
theorem take_next {α : Type} {xs : List α} {i : Nat} {x : α} (h : xs[i]? = some x) : xs.take (i + 1) = xs.take i ++ [x] := by
  rw [List.take_add_one, h]
  rfl
/-- few items, whatever it is -/
def fewD (d : PyData) : Prop := ∀ ds, seqD d = some ds → ds.length ≤ 10000000
theorem fewD_of {d : PyData} (h : match seqD d with | none => true | some ds => decide (ds.length ≤ 10000000)) : fewD d := fun ds e => by
  rw [e] at h
  exact of_decide_eq_true h
/-- the promises of what a law draws: the script's first n, a value of any kind -/
def spStart (K : PySem.W.Frag) : Sp := fun vs H Q _ => ∃ (a : Addr) (ns : List Int), vs = [.ref a] ∧ SqL K H a (ns.map V.int) ∧ ns.length ≤ 63 ∧ ∀ p b cs H', Same H H' → Sx p b cs 0 H' → H p = none → Q (.ref p) H'
def spValue (K : PySem.W.Frag) (c : Nat) : Sp := fun vs H Q _ => ∃ (a b : Addr) (cs : List Int) (n : Nat), vs = [.ref a] ∧ Sx a b cs n H ∧ n ≤ 900000 ∧ ∀ H' v d, Frm (· = a) H H' → Sx a b cs (n + c) H' → Dv K (· = a) H' v d → fewD d → Q v H'
theorem Sx.neD {a b D : Addr} {cs : List Int} {n : Nat} (S : Sx a b cs n H) (hD : H D = none) : D ≠ a := fun e => by
  obtain ⟨o, h⟩ := S.at
  rw [← e, hD] at h
  cases h
/-- a written list: at an address of its own the state of what draws stays -/
theorem Sx.put {a b p : Addr} {cs : List Int} {n : Nat} {xs ys : List V} (S : Sx a b cs n H) (h : p ≠ a) (hb : p ≠ b) : Sx a b cs n (upd H p (.lst ys)) := by
  obtain ⟨t, r, S, ht⟩ := S
  exact ⟨t, r, ⟨by rw [upd_ne h.symm]; exact S.ha, by rw [upd_ne hb.symm]; exact S.hb, S.ht, S.hr⟩, ht⟩
theorem Sx.atb {a b : Addr} {cs : List Int} {n : Nat} (S : Sx a b cs n H) : ∃ o, H b = some o := by
  obtain ⟨t, r, S, _⟩ := S
  exact ⟨_, S.hb⟩
def tame (e : PyData) : Bool := e.canLay0 && decide (e.depth ≤ 5)
theorem tame_seq : ∀ {ds : List PyData}, ds.all tame = true → PyData.canLayAll0 ds = true ∧ PyData.depthAll ds ≤ 5
  | [], _ => ⟨by simp [PyData.canLayAll0], by simp [PyData.depthAll]⟩
  | d :: ds, h => by
    rw [List.all_cons, Bool.and_eq_true] at h
    obtain ⟨h1, h2⟩ := tame_seq h.2
    unfold tame at h
    simp only [Bool.and_eq_true, decide_eq_true_eq] at h
    exact ⟨by simp only [PyData.canLayAll0, h.1.1, h1, Bool.and_self], by simp only [PyData.depthAll]; omega⟩
theorem shaped_list {ds : List PyData} (h : ds.all tame = true) : SeqAt.shaped (.list ds) = true := by
  obtain ⟨h1, h2⟩ := tame_seq h
  unfold SeqAt.shaped
  rw [Bool.and_eq_true]
  exact ⟨by simp only [PyData.canLay0, h1], decide_eq_true (by simp only [PyData.depth]; omega)⟩
theorem shaped_tup {ds : List PyData} (h : ds.all tame = true) : SeqAt.shaped (.tuple ds) = true := by
  obtain ⟨h1, h2⟩ := tame_seq h
  unfold SeqAt.shaped
  rw [Bool.and_eq_true]
  exact ⟨by simp only [PyData.canLay0, h1], decide_eq_true (by simp only [PyData.depth]; omega)⟩
theorem all_set {α : Type} {p : α → Bool} {x : α} (hx : p x = true) : ∀ {l : List α} (i : Nat), l.all p = true → (l.set i x).all p = true
  | [], _, h => h
  | y :: r, 0, h => by
    rw [List.all_cons, Bool.and_eq_true] at h
    rw [List.set_cons_zero, List.all_cons, hx, h.2]
    rfl
  | y :: r, i + 1, h => by
    rw [List.all_cons, Bool.and_eq_true] at h
    rw [List.set_cons_succ, List.all_cons, h.1, all_set hx i h.2]
    rfl
theorem tame_ints (ns : List Int) : (ns.map PyData.int).all tame = true := by
  rw [List.all_map, List.all_eq_true]
  intro n _
  rfl
theorem ixN_ok {n : Nat} {i : Int} (h0 : 0 ≤ i) (h1 : i < n) : ixN n i = some i.toNat := by
  unfold ixN
  rw [if_pos h0, if_pos h1]
def spRow (K : PySem.W.Frag) : Sp := fun vs H Q _ => ∃ (a b : Addr) (cs : List Int) (n : Nat) (m : Int), vs = [.ref a, .int m] ∧ Sx a b cs n H ∧ n ≤ 900000 ∧ 0 ≤ m ∧ m < 2 ^ 60 ∧
  ∀ H' v d ds, Frm (· = a) H H' → Sx a b cs (n + 8) H' → Dv K (· = a) H' v d → seqD d = some ds → ds.length ≤ 4 → ds.all tame = true → Q v H'
def spLaw (K : PySem.W.Frag) : Sp := fun vs H Q _ => ∃ (a : Addr) (ns : List Int), vs = [.ref a] ∧ SqL K H a (ns.map V.int) ∧ ns.length ≤ 63 ∧ ∀ H', Q (.bl true) H'
end
end MT
/-! what is kept of a list; lists of numbers that are equal, that rise -/
namespace MT
open PySem L2
section
variable {K : PySem.W.Frag} {M : Addr → Prop} {H H' : Hp}
theorem take_filter_next {α : Type} {p : α → Bool} {xs : List α} {i : Nat} {x : α} (h : xs[i]? = some x) : (xs.take (i + 1)).filter p = (xs.take i).filter p ++ (if p x then [x] else []) := by
  rw [take_next h, List.filter_append]
  by_cases e : p x = true
  · rw [if_pos e, List.filter_cons_of_pos e]; rfl
  · rw [if_neg e, List.filter_cons_of_neg e]; rfl
theorem lc_keep {a : Addr} {xs : List V} {ds : List PyData} {J : It} {g : TG} {tt : TT} {te : TE} {vs : List Nat} {σ : St} {H1 : Hp} {D : Addr} {Qd : Hp → Prop} (p : PyData → Bool)
    (hD : H1 D = none) (hJ : SeqIt K a xs H1 J) (hda : DvAll K M H1 xs ds) (hlen : xs.length ≤ 10000000)
    (hs : ∀ x d H, d ∈ ds → Dv K M H x d → Same H1 H → ∀ (Ky : VK) (Kn : Hp → Prop), (p d = true → ∀ H', Same H H' → Ky x H') → (p d = false → ∀ H', Same H H' → Kn H') → LcStep g tt te vs σ x H Ky Kn)
    (hd : ∀ H ys, Same H1 H → H D = some (.lst ys) → DvAll K M H ys (ds.filter p) → Qd H) : LcW J g tt te vs σ H1 D Qd := by
  refine lcg_seq (fun _ => False) (fun _ _ => True) (fun i acc H => DvAll K M H1 acc ((ds.take i).filter p)) hD hJ (fun z => z) hlen (fun _ _ _ _ z => z) (fun _ _ _ _ _ z => z) trivial .nil ?_ ?_
  · intro i x acc H hx F hDa _ hA Ky Kn ky kn
    obtain ⟨d, hd1, hd2⟩ := hda.get hx
    have F2 := same_frm F
    have e := take_filter_next (p := p) hd1
    refine hs x d H (List.mem_of_getElem? hd1) (hd2.same F2) F2 _ _ (fun hp H' F' => ?_) (fun hp H' F' => ?_)
    · refine ky _ H' (F.trans (frm_same F')) (F' _ _ hDa) trivial ?_
      rw [e, if_pos hp]
      exact hA.append (.cons hd2 .nil)
    · refine kn H' (F.trans (frm_same F')) (F' _ _ hDa) trivial ?_
      rw [e, if_neg (by rw [hp]; exact Bool.false_ne_true), List.append_nil]
      exact hA
  · intro H acc F hDa _ hA _
    rw [List.take_of_length_le (by rw [hda.length]; exact Nat.le_refl _)] at hA
    exact hd H acc (same_frm F) hDa (hA.same (same_frm F))
theorem DvAll.dpAll {vs : List V} {ds : List PyData} (h : DvAll K M H vs ds) (t : ds.all tame = true) : DpAll K H vs ds := DvAll.dp ds vs h (tame_seq t).1
theorem all_filter {α : Type} {p q : α → Bool} {l : List α} (h : l.all p = true) : (l.filter q).all p = true := by
  rw [List.all_eq_true] at h ⊢
  exact fun x hx => h x (List.mem_filter.mp hx).1
theorem eq_nil {p l : Addr} {ys : List V} {ds : List PyData} {Q : VK} (hp : SqL K H p ys) (hd : DvAll K M H ys ds) (t : ds.all tame = true) (hl : SqL K H l []) (q : Q (.bl ds.isEmpty) H) : rEqD K (.ref p) (.ref l) H Q :=
  ⟨.list ds, .list [], .lst hp (hd.dpAll t), .lst hl .nil, shaped_list t, shaped_ints [], by cases ds <;> exact q⟩
theorem eq_nil' {p l : Addr} {ys : List V} {ds : List PyData} {Q : VK} {b : Bool} (hp : SqL K H p ys) (hd : DvAll K M H ys ds) (t : ds.all tame = true) (hl : SqL K H l []) (e : ds.isEmpty = b) (q : Q (.bl b) H) : rEqD K (.ref p) (.ref l) H Q :=
  eq_nil hp hd t hl (e ▸ q)
theorem cr_sortedIN {X : Cx} : CallR X (.builtin "sorted") (fun vs H Q => ∃ (a : Addr) (ns : List Int), vs = [V.ref a] ∧ SqL X.K H a (ns.map V.int) ∧ ∀ (ns' : List Int) (p : Addr) (H2 : Hp), ns'.Perm ns → New H H2 p (.lst (ns'.map V.int)) → Q (.ref p) H2) := by
  intro pins s σ H xs us Q I r h
  obtain ⟨a, ns, e, hs, q⟩ := h
  exact cr_sortedI pins s σ H xs us Q I r ⟨a, ns, e, hs, fun ns' p hp _ hn => q ns' p _ hp (New.mk' hn)⟩
theorem op_in_seqK {X : Cx} (e : X.K = K) : OpR X (compareOp .In) (rIn K false) := e ▸ op_in_seq
theorem iteNE {a b : Bool} {A B : Prop} (e : a = b) (h : B) : if (!decide (V.str (boolText a) = V.str (boolText b))) = true then A else B := iteNS (by rw [e]) h
theorem eqv_ints : ∀ ns ms : List Int, PyData.eqvAll (ns.map PyData.int) (ms.map PyData.int) = decide (ns = ms)
  | [], [] => by simp [PyData.eqvAll]
  | [], _ :: _ => by simp [PyData.eqvAll]
  | _ :: _, [] => by simp [PyData.eqvAll]
  | n :: ns, m :: ms => by
    have ih := eqv_ints ns ms
    simp only [List.map_cons, PyData.eqvAll, PyData.eqv, ih, List.cons.injEq]
    by_cases e : n = m
    · simp [e]
    · simp [e]
theorem eq_ints {p l : Addr} {ns ms : List Int} {Q : VK} (hp : SqL K H p (ns.map V.int)) (hl : SqL K H l (ms.map V.int)) (q : Q (.bl (decide (ns = ms))) H) : rEqD K (.ref p) (.ref l) H Q :=
  ⟨.list (ns.map .int), .list (ms.map .int), .lst hp (dp_ints ns), .lst hl (dp_ints ms), shaped_ints ns, shaped_ints ms, by
    have e : PyData.eqv (.list (ns.map .int)) (.list (ms.map .int)) = decide (ns = ms) := by simp only [PyData.eqv, eqv_ints]
    exact e ▸ q⟩
theorem inV_ints (z : Int) (ns : List Int) : inV (.int z) (ns.map V.int) = decide (z ∈ ns) := by
  unfold inV
  rw [List.any_map, Bool.eq_iff_iff, List.any_eq_true, decide_eq_true_iff]
  constructor
  · rintro ⟨x, hx, e⟩
    have e2 : (x == z) = true := by simpa [eqV] using e
    rw [← beq_iff_eq.mp e2]
    exact hx
  · intro h
    exact ⟨z, h, by simp [eqV]⟩
theorem flat_ints (ns : List Int) : (ns.map V.int).all flatV = true := by
  rw [List.all_map, List.all_eq_true]
  intro n _
  rfl
/-! ### the facts of lots -/
def upto (k : Nat) : List Int := (List.range k).map fun i => ((i : Nat) : Int)
theorem rises_iff : ∀ ns : List Int, risesD (ns.map PyData.int) = true ↔ ns.Pairwise (· < ·)
  | [] => by simp [risesD]
  | [x] => by simp [risesD]
  | x :: y :: r => by
    have ih := rises_iff (y :: r)
    show (decide (x < y) && risesD ((y :: r).map PyData.int)) = true ↔ _
    rw [Bool.and_eq_true, ih, decide_eq_true_iff, List.pairwise_cons (a := x)]
    constructor
    · rintro ⟨h1, h2⟩
      refine ⟨fun z hz => ?_, h2⟩
      rcases List.mem_cons.mp hz with e | hz
      · rw [e]; exact h1
      · exact Int.lt_trans h1 ((List.pairwise_cons.mp h2).1 z hz)
    · rintro ⟨h1, h2⟩
      exact ⟨h1 y (List.mem_cons_self ..), h2⟩
theorem asc_ext : ∀ {l m : List Int}, l.Pairwise (· < ·) → m.Pairwise (· < ·) → (∀ x, x ∈ l ↔ x ∈ m) → l = m
  | [], [], _, _, _ => rfl
  | [], y :: m, _, _, h => absurd ((h y).mpr (List.mem_cons_self ..)) (by simp)
  | x :: l, [], _, _, h => absurd ((h x).mp (List.mem_cons_self ..)) (by simp)
  | x :: l, y :: m, p, q, h => by
    have hp := List.pairwise_cons.mp p
    have hq := List.pairwise_cons.mp q
    have e : x = y := by
      rcases List.mem_cons.mp ((h x).mp (List.mem_cons_self ..)) with e | hx
      · exact e
      · rcases List.mem_cons.mp ((h y).mpr (List.mem_cons_self ..)) with e | hy
        · exact e.symm
        · have h1 := hq.1 x hx
          have h2 := hp.1 y hy
          omega
    subst e
    have t : l = m := asc_ext hp.2 hq.2 fun z => by
      constructor
      · intro hz
        rcases List.mem_cons.mp ((h z).mp (List.mem_cons_of_mem _ hz)) with e | h1
        · have := hp.1 z hz
          omega
        · exact h1
      · intro hz
        rcases List.mem_cons.mp ((h z).mpr (List.mem_cons_of_mem _ hz)) with e | h1
        · have := hq.1 z hz
          omega
        · exact h1
    rw [t]
theorem upto_asc (k : Nat) : (upto k).Pairwise (· < ·) := by
  unfold upto
  rw [List.pairwise_map]
  exact List.pairwise_lt_range.imp fun h => Int.ofNat_lt.mpr h
theorem mem_upto {k : Nat} {x : Int} : x ∈ upto k ↔ 0 ≤ x ∧ x < k := by
  unfold upto
  rw [List.mem_map]
  constructor
  · rintro ⟨i, hi, rfl⟩
    have := List.mem_range.mp hi
    omega
  · rintro ⟨h0, h1⟩
    exact ⟨x.toNat, List.mem_range.mpr (by omega), by omega⟩
/-- a lot is what is picked of all numbers below k, in order -/
theorem lot_iff (ns : List Int) (k : Nat) : decide (ns = (upto k).filter fun x => decide (x ∈ ns)) = ((ns.map PyData.int).all (fun x => withinD x (some 0) (some ((k : Int) - 1))) && risesD (ns.map PyData.int)) := by
  rw [Bool.eq_iff_iff, decide_eq_true_iff, Bool.and_eq_true, rises_iff, List.all_map, List.all_eq_true]
  have hw : (∀ x ∈ ns, ((fun x => withinD x (some 0) (some ((k : Int) - 1))) ∘ PyData.int) x = true) ↔ ∀ x ∈ ns, 0 ≤ x ∧ x < k := by
    constructor
    · intro h x hx
      have q : (decide (0 ≤ x) && decide (x ≤ (k : Int) - 1)) = true := h x hx
      simp only [Bool.and_eq_true, decide_eq_true_eq] at q
      omega
    · intro h x hx
      have q := h x hx
      show (decide (0 ≤ x) && decide (x ≤ (k : Int) - 1)) = true
      simp only [Bool.and_eq_true, decide_eq_true_eq]
      omega
  rw [hw]
  constructor
  · intro e
    refine ⟨fun x hx => ?_, ?_⟩
    · rw [e] at hx
      exact mem_upto.mp (List.mem_filter.mp hx).1
    · rw [e]
      exact (upto_asc k).filter _
  · rintro ⟨h1, h2⟩
    refine asc_ext h2 ((upto_asc k).filter _) fun x => ?_
    rw [List.mem_filter, decide_eq_true_iff]
    exact ⟨fun hx => ⟨mem_upto.mpr (h1 x hx), hx⟩, fun h => h.2⟩
theorem filter_none {α : Type} (p : α → Bool) (l : List α) : (l.filter fun x => !p x).isEmpty = l.all p := by
  induction l with
  | nil => rfl
  | cons x r ih =>
    rw [List.all_cons, ← ih]
    cases e : p x with
    | true => rw [List.filter_cons_of_neg (by rw [e]; exact Bool.false_ne_true)]; rfl
    | false => rw [List.filter_cons_of_pos (by rw [e]; rfl)]; rfl
theorem len_eq {n : Nat} {m : Int} : decide (V.int (n : Int) = V.int m) = decide ((n : Int) = m) := by
  rw [Bool.eq_iff_iff, decide_eq_true_iff, decide_eq_true_iff]
  exact ⟨fun e => V.int.inj e, fun e => by rw [e]⟩
def spTrue (c : Nat) : Sp := fun vs H Q _ => ∃ (a b : Addr) (cs : List Int) (n : Nat), vs = [.ref a] ∧ Sx a b cs n H ∧ n ≤ 800000 ∧ ∀ H', Frm (· = a) H H' → Sx a b cs (n + c) H' → Q (.bl true) H'
end
end MT
/-! texts -/
namespace MT
open PySem L2 TL
section
variable {K : PySem.W.Frag} {M : Addr → Prop} {H H' : Hp}
theorem tl_sign (c : Nat) : tl (⟨#[c]⟩ : Str) = [c] := rfl
theorem joinL_ones : ∀ l : List Nat, joinL [] (l.map fun c => [c]) = l
  | [] => rfl
  | [c] => rfl
  | c :: d :: r => by
    have ih := joinL_ones (d :: r)
    show [c] ++ ([] ++ joinL [] ((d :: r).map fun c => [c])) = c :: d :: r
    rw [ih]
    rfl
theorem tl_join_signs (l : List Nat) : tl (Txt.join "" (l.map fun c => (⟨#[c]⟩ : Str))) = l := by
  rw [join_eq, tl_join, List.map_map]
  have e : tl ("" : Str) = [] := by decide +kernel
  rw [e]
  exact joinL_ones l
theorem sum_ones (l : List Nat) : ((l.map fun c => (⟨#[c]⟩ : Str)).map (·.length)).sum = l.length := by
  induction l with
  | nil => rfl
  | cons c r ih =>
    rw [List.map_cons, List.map_cons, List.sum_cons, ih, List.length_cons]
    show 1 + r.length = _
    omega
theorem tl_cut_lo {z : Str} {i : Int} (h0 : 0 ≤ i) : tl (cutS z none (some i)) = (tl z).take i.toNat := by
  obtain ⟨j, rfl⟩ : ∃ j : Nat, i = j := ⟨_, (Int.toNat_of_nonneg h0).symm⟩
  show (((tl z).drop (HT.sIx z.length 0 none)).take (HT.sIx z.length z.length (some (j : Int)) - HT.sIx z.length 0 none)) = _
  rw [HT.sIx_none, HT.sIx_nat, List.drop_zero, Nat.sub_zero, len_tl, Int.toNat_natCast]
  by_cases h : j ≤ (tl z).length
  · rw [Nat.min_eq_left h]
  · rw [Nat.min_eq_right (by omega), List.take_of_length_le (Nat.le_refl _), List.take_of_length_le (by omega)]
theorem tl_cut_hi {z : Str} {i : Int} (h0 : 0 ≤ i) : tl (cutS z (some i) none) = (tl z).drop i.toNat := by
  obtain ⟨j, rfl⟩ : ∃ j : Nat, i = j := ⟨_, (Int.toNat_of_nonneg h0).symm⟩
  show (((tl z).drop (HT.sIx z.length 0 (some (j : Int)))).take (HT.sIx z.length z.length none - HT.sIx z.length 0 (some (j : Int)))) = _
  rw [HT.sIx_none, HT.sIx_nat, len_tl, Int.toNat_natCast]
  by_cases h : j ≤ (tl z).length
  · rw [Nat.min_eq_left h, List.take_of_length_le]
    rw [List.length_drop]
    exact Nat.le_refl _
  · rw [Nat.min_eq_right (by omega), List.drop_of_length_le (Nat.le_refl _), List.drop_of_length_le (by omega)]
    exact List.take_nil
theorem signs_lt {z : Str} (h : (tl z).all nameSign = true) : ∀ c ∈ tl z, c < 1114112 := fun c hc => by
  have q := List.all_eq_true.mp h c hc
  unfold nameSign at q
  simp only [Bool.or_eq_true, Bool.and_eq_true, decide_eq_true_eq] at q
  omega
theorem strOk_of {z : Str} (h : ∀ c ∈ tl z, c < 1114112) : PyData.strOk z = true := by
  unfold PyData.strOk
  rw [← Array.all_toList, List.all_eq_true]
  exact fun c hc => decide_eq_true (h c hc)
theorem strOk_signs {z : Str} (h : (tl z).all nameSign = true) : PyData.strOk z = true := by
  unfold PyData.strOk
  rw [← Array.all_toList, List.all_eq_true]
  intro c hc
  have q := List.all_eq_true.mp h c hc
  unfold nameSign at q
  simp only [Bool.or_eq_true, Bool.and_eq_true, decide_eq_true_eq] at q
  exact decide_eq_true (by omega)
theorem eq_data {v u : V} {d e : PyData} {b : Bool} {Q : VK} (hv : Dv K M H v d) (hu : Dv K M H u e) (td : tame d = true) (te : tame e = true) (eb : PyData.eqv d e = b) (q : Q (.bl b) H) : rEqD K v u H Q := by
  have h : ∀ d : PyData, tame d = true → SeqAt.shaped d = true ∧ d.canLay0 = true := fun d h => by
    unfold tame at h
    simp only [Bool.and_eq_true, decide_eq_true_eq] at h
    exact ⟨by unfold SeqAt.shaped; rw [Bool.and_eq_true]; exact ⟨h.1, decide_eq_true (by omega)⟩, h.1⟩
  exact ⟨d, e, Dv.dp d v hv (h d td).2, Dv.dp e u hu (h e te).2, (h d td).1, (h e te).1, eb ▸ q⟩
theorem nameD_bad {z : Str} {c : Nat} (h : c ∈ tl z) (hc : nameSign c = false) : nameD (.str z) = false := by
  show (_ && _ && _) = false
  have e : z.cps.toList.all nameSign = false := by
    cases q : z.cps.toList.all nameSign with
    | false => rfl
    | true => rw [List.all_eq_true.mp q c h] at hc; cases hc
  rw [e, Bool.and_false]
theorem nameD_good {z : Str} (h : (tl z).all nameSign = true) : nameD (.str z) = (decide (1 ≤ z.length) && decide (z.length ≤ 12)) := by
  show (_ && _ && z.cps.toList.all nameSign) = _
  have e : z.cps.toList.all nameSign = true := h
  rw [e, Bool.and_true]
theorem letter_at {d : Int} (h0 : 0 ≤ d) (h1 : d < 36) : ∃ c, nameSign c = true ∧ atI (("abcdefghijklmnopqrstuvwxyz0123456789" : Str).cps.toList) d = some c := by
  have e : (("abcdefghijklmnopqrstuvwxyz0123456789" : Str).cps.toList) = [97, 98, 99, 100, 101, 102, 103, 104, 105, 106, 107, 108, 109, 110, 111, 112, 113, 114, 115, 116, 117, 118, 119, 120, 121, 122, 48, 49, 50, 51, 52, 53, 54, 55, 56, 57] := by decide +kernel
  obtain ⟨j, rfl⟩ : ∃ j : Nat, d = j := ⟨_, (Int.toNat_of_nonneg h0).symm⟩
  rw [e]
  have hj : j < ([97, 98, 99, 100, 101, 102, 103, 104, 105, 106, 107, 108, 109, 110, 111, 112, 113, 114, 115, 116, 117, 118, 119, 120, 121, 122, 48, 49, 50, 51, 52, 53, 54, 55, 56, 57] : List Nat).length := by
    show j < 36
    omega
  exact ⟨_, (sign_mem _).mp (List.getElem_mem hj), atI_nat (List.getElem?_eq_getElem hj)⟩
end
end MT
/-! promises of defs that are called while no repr is under way; repr of data -/
namespace MT
open PySem L2
/-- as FnOk, where no repr is under way -/
structure FnG (P : Program) (w : World) (K : PySem.W.Frag) (mg : Str → Option Value) (base : Heap) (CX : CXT) (k : Nat) (f : Addr) (fd : FuncData) (ps : List Str) (sp : Sp) : Prop where
  len : ∀ vs H Q E, sp vs H Q E → vs.length = ps.length
  run : ∀ (A : Around) (outer : List Env) (s : Shared) (H : Hp) (args : Args) (us : List Value) (vs : List V) (Q : VK) (E : XK), A.guards = some [] → Room k A → Env0 P w K mg base A outer s H → BindsTo s fd args (ps.zip us) → Vals vs us → sp vs H Q E →
    codeAny (model P w) A (.call (.ref f) args) (CR CX outer P w H s Q E) s
section
variable {P : Program} {w : World} {K : PySem.W.Frag} {mg : Str → Option Value} {base : Heap}
theorem okG {CX : CXT} {x qual : Str} {st : Stmt} {f : Addr} {fd : FuncData} {N ps : List Str} {k : Nat} {sp : Sp} (F : Fun K x qual st f fd) (S : FnScope N ps (defScope st)) (len : ∀ vs H Q E, sp vs H Q E → vs.length = ps.length)
    (hbody : ∀ (cdv : Value) (A : Around) (outer : List Env) (s : Shared) (H : Hp) (vs : List V) (Q : VK) (E : XK), (A.deeper (PyProof.Rows.envOfC qual (defScope st) s.heap.objs.size f cdv)).guards = some [] → Room k (A.deeper (PyProof.Rows.envOfC qual (defScope st) s.heap.objs.size f cdv)) → sp vs H Q E →
      ∃ t, PSs (cxOf CX P w K mg base N qual (defScope st) f cdv A outer s H E) (defBody st) t ∧ t { nx := fun _ H' => Q .non H', rt := Q } (L2.start N vs) H) : FnG P w K mg base CX (k + 1) f fd ps sp := by
  obtain ⟨_, _, _, _, _, _, cdv, _, _, rfl, lk, hcd⟩ := F.ex
  exact ⟨len, fun A outer s H args us vs Q E hg hr e0 hb r h => LamX.run_ofS lk hcd S hr e0 hb r (len _ _ _ _ h) fun hr' => hbody cdv A outer s H vs Q E hg hr' h⟩
end
section
variable {X : Cx} {CX : CXT} {k n : Nat} {f : Addr} {fd : FuncData} {ps ks : List Str} {sp : Sp} {E : XK} {x : Str} {p pos : Pos} {e : Expr} {es : List Expr} {kws : List Keyword} {t tk : TA} {g : List Value → List Value → List Value} {gV : List V → List V → List V} {ds : List Value} {dvs : List V}
theorem back {pins : List (Addr × Obj)} {σ : L2.St} {H : Hp} {s : Shared} {Q : VK} {v : Value} {args : Args} (I : Inv X pins σ H s) (hx : Passes CX X E)
    (c : codeAny (model X.prog X.w) X.A (.call v args) (CR CX X.stack X.prog X.w H s Q E) s) : codeAny (model X.prog X.w) X.A (.call v args) (fun r s' => match r with | .ok (.ret u) => EP X pins σ Q u s' | .ok _ => False | .error e => X.xe e s') s :=
  codeAny_mono c fun r s' q => by
    cases r with
    | error e => exact hx pins σ H s e s' I q
    | ok fl =>
      cases fl with
      | ret u => exact I.after q
      | _ => exact q.elim
theorem pe_callG (F : FnG X.prog X.w X.K X.mg X.base CX k f fd ps sp) (hq : X.A.guards = some []) (hr : Room k X.A) (hg : Gl X x) (hm : X.mg x = some (.ref f)) (hk : PySem.W.keepIn X.K (.ref f) = true) (hb : Binds X.K fd ps ds) (hd : Vals dvs ds) (hx : Passes CX X E)
    (ha : PA X (e :: es) t) (dbg : (x == ("__debug__" : Str)) = false := by decide) (he : starEach (e :: es) X.env = (false, eval e X.env) :: starEach es X.env := by rfl) (plain : (backTo pos (starEach es X.env)).any (·.1) = false := by rfl) :
    PE X (.Call (.Name x p) (e :: es) [] pos) (tCall sp dvs E t) :=
  ⟨fun pns st sl Hs Q I0 told => wpAny_Call_Name_kw (ld_glob I0 hg hm (PySem.W.callWith_K (h₀ := X.base) I0.ok.mod.kin hk (thn (ha.run pos pns st sl Hs _ I0 told) fun us s1 ⟨vs, H1, J, r, q⟩ => ⟨J.kIn, by
      have r2 : Vals (vs ++ dvs) (us ++ ds) := r.append hd
      have hl : (us ++ ds).length = ps.length := by rw [← r2.length]; exact F.len _ _ _ _ q
      refine wpAny_call (codeAny_mono (back J hx (F.run X.A X.stack s1 H1 ⟨us, []⟩ (us ++ ds) (vs ++ dvs) Q E hq hr J.env0 (hb s1 us J.kIn hl) r2 q)) fun r' s' z => ?_)
      cases r' with
      | error e => exact z
      | ok fl => cases fl with
        | ret u => exact z
        | _ => exact z.elim⟩) he plain) dbg)⟩
/-! ### repr of data -/
theorem call_reprD (hq : X.A.guards = some []) (hr : Room k X.A) : CallR X (.builtin "repr") (fun xs H Q => ∃ v d, xs = [v] ∧ Dp X.K H v d ∧ d.showable = true ∧ d.hasDict = false ∧ d.depth ≤ 64 ∧ d.shown.length ≤ sizeLine ∧ Q (.str d.shown) H) := by
  intro pns st sl Hs xs us Q I0 r h
  obtain ⟨v, d, rfl, hd, sh, nd, dp, sz, q⟩ := h
  obtain ⟨u, rfl, rv⟩ := Vals.one r
  obtain ⟨as, rd⟩ := Dp.reads I0 d v u hd rv
  have hu := hr.un
  have fin : ∀ (h' : Heap) (tk : Nat), (∀ b o, st.heap.get? b = some o → h'.get? b = some o) → Inv X pns sl Hs { st with heap := h', toks := tk } := fun h' tk kp => I0.kept kp
  have go : ∀ a, u = .ref a → wpAny (model X.prog X.w) X.A (call (.builtin "repr") [u]) (EP X pns sl Q) X.xe st := fun a e => by
    subst e
    refine repr_of_reads' rd sh (fun z => absurd z (by rw [nd]; exact Bool.false_ne_true)) hq (by omega) (fun _ _ z => z) (fun h' tk1 tk2 kp => ⟨.str d.shown, Hs, fin h' tk2 kp, ⟨_, rfl⟩, q⟩) sz
  cases hd with
  | non => cases rv; exact PySem.P.repr_of_none ⟨.str _, _, I0.tok _, ⟨_, rfl⟩, q⟩
  | bl b => cases rv; exact PySem.P.repr_of_bool ⟨.str _, _, I0.tok _, ⟨_, rfl⟩, q⟩
  | int i => obtain ⟨t, rfl⟩ := rv; exact PySem.P.repr_of_int (by simpa [PyData.showable] using sh) ⟨.str _, _, I0.tok _, ⟨_, rfl⟩, q⟩
  | str z => obtain ⟨t, rfl⟩ := rv; exact PySem.P.repr_of_str ⟨.str _, _, I0.tok _, ⟨_, rfl⟩, q⟩ sz
  | lst _ _ => exact go _ rv
  | tup _ _ => exact go _ rv
end
end MT
/-! errors of the program: made, raised, caught, asked -/
namespace MT
open PySem L2
/-- an error's own __init__: it keeps its one part -/
def spInit (K : PySem.W.Frag) (f : Str) : Sp := fun vs H Q _ => ∃ (a C : Addr) (p : V), vs = [.ref a, p] ∧ OexC K C ∧ PySem.W.findIn K (.ref C) f = some none ∧ H a = some (exo a C none) ∧
  ∀ dx, H dx = none → dx ≠ a → Q .non (upd (upd H dx (exd dx [(f, p)])) a (exo a C (some dx)))
/-- what the text says of an error's class -/
structure ErrC (K : PySem.W.Frag) (mg : Str → Option Value) (x : Str) (C fI : Addr) (f : Str) : Prop where
  gC : mg x = some (.ref C)
  oex : OexC K C
  noF : PySem.W.findIn K (.ref C) f = some none
  iC : PySem.W.findIn K (.ref C) "__init__" = some (some (.ref fI))
  tI : PySem.W.typeIn K (.ref fI) = some (.type "function")
  xf : XfC K C
  cl : PySem.W.findIn K (.ref C) "__class__" = some (some (.builtin "object.__class__"))
  ob : PySem.W.mroIn K C (.type "object") = some true
/-- C(e): its class, its dict, which is new -/
def tMkE (C : Addr) (f : Str) (ta : TA) : L2.St → Hp → XK → Prop := fun σ H Q => ta σ H fun vs H1 => ∃ p, vs = [p] ∧ ∀ d H2, New H1 H2 d (.xd [(f, p)]) → Q (.ref C) (some d) H2
theorem mk_new {H : Hp} {a dx C : Addr} {f : Str} {p : V} (n : H a = none) (nx : H dx = none) (ne : dx ≠ a) :
    New H (upd (del (upd (upd (upd H a (exo a C none)) dx (exd dx [(f, p)])) a (exo a C (some dx))) a) dx (.xd [(f, p)])) dx (.xd [(f, p)]) := by
  refine ⟨fun c o e => ?_, upd_same, nx⟩
  have h1 : c ≠ a := ne_of_none e n
  have h2 : c ≠ dx := ne_of_none e nx
  rw [upd_ne h2, del_ne h1, upd_ne h1, upd_ne h2, upd_ne h1]
  exact e
section
variable {X : Cx} {x f : Str} {C fI : Addr} {k : Nat} {fd : FuncData} {e : Expr} {es : List Expr} {ta : TA} {p pos : Pos}
theorem pmk_err {CX : CXT} (T : ErrC X.K X.mg x C fI f) (F : FnOk X.prog X.w X.K X.mg X.base CX k fI fd ["self", f] (spInit X.K f)) (hr : Room (k + 1) X.A) (hb : Binds X.K fd ["self", f] []) (hx : Passes CX X (fun _ _ _ => False)) (hg : Gl X x) (ha : PA X (e :: es) ta)
    (hdb : (x == ("__debug__" : Str)) = false := by decide) (he : starEach (e :: es) X.env = (false, eval e X.env) :: starEach es X.env := by rfl) (hpl : (backTo pos (starEach es X.env)).any (·.1) = false := by rfl) :
    PMk X (.Call (.Name x p) (e :: es) [] pos) (tMkE C f ta) := by
  intro pins s σ H Q I h
  refine pmk_oex T.oex T.iC T.tI F hr hb .nil hx hg T.gC (PA.cl ha) hdb he hpl pins s σ H Q I ⟨_, fun vs H1 z => ?_, h⟩
  obtain ⟨y, rfl, q⟩ := z
  refine ⟨by show 1 ≤ 1000; decide, fun a na => ⟨a, C, y, rfl, T.oex, T.noF, upd_same, fun dx nx ne => ?_⟩⟩
  rw [upd_ne ne] at nx
  exact ⟨rfl, dx, [(f, y)], upd_same, by rw [upd_ne ne, upd_same], nx, q dx _ (mk_new na nx ne)⟩
end
end MT
namespace MT
open PySem
def clsBody (x : Stmt) : List Stmt := match x with
  | .ClassDef (body := inner) .. => inner
  | _ => []
end MT
/-! a star among the targets; any of integers; tuples times and joined -/
namespace MT
open PySem L2 PyProof.Rows
section
variable {P : Program} {w : World} {A : Around} {E : Value → Shared → Prop} {st : Shared} {l : Addr} {its : Array Value} {n i : Nat} {Q : List Value → Shared → Prop}
/-- what is left over stands in a new list -/
def Rests (st : Shared) (its : Array Value) (n i : Nat) (Q : List Value → Shared → Prop) : Prop :=
  ∀ D h' tk, (∀ b o, st.heap.get? b = some o → h'.get? b = some o) → st.heap.get? D = none →
    h'.get? D = some { cls := .type "list", data := .seq ((its.toList.drop i).take (its.size + 1 - n)).toArray } →
    Q (its.toList.take i ++ [.ref D] ++ (its.toList.drop i).drop (its.size + 1 - n)) { st with heap := h', toks := tk }
theorem rests_end {h1 : Heap} {tk : Nat} (old : ∀ b o, st.heap.get? b = some o → h1.get? b = some o) (hi : i < n) (hn : n ≤ its.size + 1) (hz : its.size ≤ 16384) (k : Rests st its n i Q) :
    wpAny (model P w) A (newList ((its.toList.drop i).take (its.size + 1 - n)) >>= fun d => pure (its.toList.take i ++ [d] ++ (its.toList.drop i).drop (its.size + 1 - n))) Q E { st with heap := h1, toks := tk } := by
  have e1 : (its.toList.drop i).length = its.size - i := by simp
  refine wpAny_bind (wpAny_newList (s := { st with heap := h1, toks := tk }) ?_ (by rw [List.length_take, sizeLine_eq]; omega))
  refine wpAny_pure (k h1.objs.size _ tk (fun b o e => Heap.get?_push_of_some _ (old b o e)) ?_ (Heap.get?_push_size _ rfl))
  cases e : st.heap.get? h1.objs.size with
  | none => rfl
  | some o => exact absurd (Heap.lt_size (old _ _ e)) (Nat.lt_irrefl _)
theorem rests_mid (hi : i < n) (hn : n ≤ its.size + 1) : ¬ (its.toList.drop i).length < n - 1 - i ∧ (its.toList.drop i).length - (n - 1 - i) = its.size + 1 - n := by
  have e1 : (its.toList.drop i).length = its.size - i := by simp
  omega
theorem rests_list (hl : st.heap.IsList l its) (hh : A.handled = none) (hi : i < n) (hn : n ≤ its.size + 1) (hz : its.size ≤ 16384) (k : Rests st its n i Q) :
    wpAny (model P w) A (unpackItems (.ref l) n (some i)) Q E st := by
  have lt : l < st.heap.objs.size := by
    obtain ⟨o, e, _⟩ := hl
    exact Heap.lt_size e
  have ne : l ≠ st.heap.objs.size := Nat.ne_of_lt lt
  unfold unpackItems notIterableAtAll
  refine wpAny_bind (wpAny_bind (wpAny_specialOf hl.typeIs slot_list_iter.lookup (wpAny_pure ?_)))
  rw [if_neg (by decide)]
  refine wpAny_bind (wpAny_holding (wpAny_pyIter_list hl (wpAny_bind ?_)))
  refine (wpAny_holding (PySem.W.kun_draw ne i 0 _ _ ⟨_, Heap.get?_push_size _ rfl, rfl, rfl⟩ (hl.push _) (by omega) fun ha ia sa => ?_))
  have la : ha.IsList l its := (hl.push _).extBut sa.extBut ne
  rw [Nat.zero_add] at ia
  have lta : st.heap.objs.size < ha.objs.size := by
    obtain ⟨o, e, _⟩ := ia
    exact Heap.lt_size e
  have ltl : l < ha.objs.size := by
    obtain ⟨o, e, _⟩ := la
    exact Heap.lt_size e
  rw [List.drop_zero]
  rw [if_neg (by rw [List.length_take, Array.length_toList]; omega)]
  refine wpAny_bind (wpAny_holding (PySem.W.kun_collect (s := { st with heap := ha }) (.inr (.inr (.inl rfl))) (Walks.list (A := A.in1) hh _ l ne its) (fun j u z => z.1.typeIs) (by omega) ⟨ia, la⟩ lta ltl (fun hb tk kb => ?_) (by rw [sizeLine_eq]; omega)))
  simp only [if_neg (rests_mid hi hn).1, (rests_mid hi hn).2]
  exact rests_end (st := st) (h1 := hb) (tk := tk) (fun b o e => kb b o (Nat.ne_of_lt (Heap.lt_size e)) (sa.extBut b o (Nat.ne_of_lt (Heap.lt_size e)) (Heap.get?_push_of_some _ e))) hi hn hz k
theorem rests_tuple (hl : IsTup st.heap l its) (hh : A.handled = none) (hi : i < n) (hn : n ≤ its.size + 1) (hz : its.size ≤ 16384) (k : Rests st its n i Q) :
    wpAny (model P w) A (unpackItems (.ref l) n (some i)) Q E st := by
  have lt : l < st.heap.objs.size := by
    obtain ⟨o, e, _⟩ := hl
    exact Heap.lt_size e
  have ne : l ≠ st.heap.objs.size := Nat.ne_of_lt lt
  unfold unpackItems notIterableAtAll
  refine wpAny_bind (wpAny_bind (wpAny_specialOf hl.typeIs slot_tuple_iter.lookup (wpAny_pure ?_)))
  rw [if_neg (by decide)]
  refine wpAny_bind (wpAny_holding (iter_tuple hl (wpAny_bind ?_)))
  refine (wpAny_holding (draw_tuple ne i 0 _ _ ⟨_, Heap.get?_push_size _ rfl, rfl, rfl⟩ (hl.push _) (by omega) fun ha ia sa => ?_))
  have la : IsTup ha l its := (hl.push _).extBut sa.extBut ne
  rw [Nat.zero_add] at ia
  have lta : st.heap.objs.size < ha.objs.size := by
    obtain ⟨o, e, _⟩ := ia
    exact Heap.lt_size e
  have ltl : l < ha.objs.size := by
    obtain ⟨o, e, _⟩ := la
    exact Heap.lt_size e
  rw [List.drop_zero]
  rw [if_neg (by rw [List.length_take, Array.length_toList]; omega)]
  refine wpAny_bind (wpAny_holding (PySem.W.kun_collect (s := { st with heap := ha }) (.inr (.inr (.inr rfl))) (Walks.tuple (A := A.in1) hh _ l ne its) (fun j u z => z.1.typeIs) (by omega) ⟨ia, la⟩ lta ltl (fun hb tk kb => ?_) (by rw [sizeLine_eq]; omega)))
  simp only [if_neg (rests_mid hi hn).1, (rests_mid hi hn).2]
  exact rests_end (st := st) (h1 := hb) (tk := tk) (fun b o e => kb b o (Nat.ne_of_lt (Heap.lt_size e)) (sa.extBut b o (Nat.ne_of_lt (Heap.lt_size e)) (Heap.get?_push_of_some _ e))) hi hn hz k
end
theorem vals_take : ∀ (k : Nat) {xs : List V} {us : List Value}, Vals xs us → Vals (xs.take k) (us.take k)
  | 0, _, _, _ => .nil
  | _ + 1, _, _, .nil => .nil
  | k + 1, _, _, .cons a r => .cons a (vals_take k r)
theorem vals_drop : ∀ (k : Nat) {xs : List V} {us : List Value}, Vals xs us → Vals (xs.drop k) (us.drop k)
  | 0, _, _, r => r
  | _ + 1, _, _, .nil => .nil
  | k + 1, _, _, .cons _ r => vals_drop k r
section
variable {X : Cx} {e : Expr} {es : List Expr} {t : TG} {u : TGs} {p pos : Pos}
/-- (.., *e, ..): e's turn -/
theorem pgs_star (h1 : PG X e t) (h2 : PGs X es u) : PGs X (.Starred e p :: es) (gCons t u) := by
  refine ⟨fun pins st sl H vs us Q I r h => ?_⟩
  obtain ⟨v, vr, rfl, h⟩ := h
  cases r with
  | cons r rr =>
    show wpAny _ _ (assignInOrder (assign e X.env :: (assignEach es X.env).map (·.2)) _) _ _ _
    exact assignInOrder_cons (thn (h1.run pins st sl H _ _ _ I r h) fun _ s1 ⟨s2, H1, I1, q1⟩ => h2.run pins s1 s2 H1 _ _ Q I1 rr q1)
/-- (a, .., *b, ..) = a list or a tuple: n targets, the star at i -/
def gStar (K : PySem.W.Frag) (n i : Nat) (t : TGs) : TG := fun v σ H Q => ∃ a xs, v = .ref a ∧ (SqL K H a xs ∨ SqT K H a xs) ∧ n ≤ xs.length + 1 ∧ xs.length ≤ 16384 ∧
  ∀ D H', New H H' D (.lst ((xs.drop i).take (xs.length + 1 - n))) → t (xs.take i ++ [.ref D] ++ (xs.drop i).drop (xs.length + 1 - n)) σ H' Q
theorem pg_star {k : Nat} {n i : Nat} (hc : X.calm = true) (h : PGs X es u) (hi : i < n) (hn : (assignEach es X.env).length = n := by rfl) (hst : (assignEach es X.env).findIdx? (·.1) = some i := by rfl) :
    PG X (.Tuple es k pos) (gStar X.K n i u) := by
  refine ⟨fun pins st sl H v uv Q I r hw => ?_⟩
  obtain ⟨a, xs, rfl, sq, h1, h2, q⟩ := hw
  cases r
  have go : ∀ (its : List Value), Vals xs its → Rests st its.toArray n i (fun us s1 => wpAny (model X.prog X.w) X.A (assignInOrder ((assignEach es X.env).map (·.2)) us) (fun _ s' => ∃ σ' H', Inv X pins σ' H' s' ∧ Q σ' H') X.xe s1) := by
    intro its rv D h' tk old dn dnew
    have el : its.toArray.size = xs.length := by rw [List.size_toArray, rv.length]
    have hD : H D = none := I.hok.gone dn
    rw [el] at dnew ⊢
    have new : ObjOk X.prog X.w (upd H D (.lst ((xs.drop i).take (xs.length + 1 - n)))) h' D (.lst ((xs.drop i).take (xs.length + 1 - n))) :=
      ⟨by rw [List.length_take, sizeLine_eq]; omega, _, 0, vals_take _ (vals_drop i rv), dnew⟩
    have J : Inv X pins sl (upd H D (.lst ((xs.drop i).take (xs.length + 1 - n)))) { st with heap := h', toks := tk } := I.laidN old dn hD new
    exact h.run pins _ sl _ _ _ Q J (by
      have r1 : Vals [V.ref D] [Value.ref D] := .cons rfl .nil
      have r2 := ((vals_take i rv).append r1).append (vals_drop (xs.length + 1 - n) (vals_drop i rv))
      simpa using r2) (q D _ (New.mk' hD))
  rw [assign_Tuple]
  refine wpAny_bind (wpAny_standAt ?_)
  unfold unpack
  rw [hn, hst]
  rcases sq with sq | sq
  · obtain ⟨its, rv, pl, _⟩ := I.list sq
    exact wpAny_bind (wpAny_holding (rests_list pl.isList (I.ok.hd hc) hi (by rw [List.size_toArray, ← rv.length]; exact h1) (by rw [List.size_toArray, ← rv.length]; exact h2) (go its rv)))
  · obtain ⟨its, rv, pl, _⟩ := I.tuple sq
    exact wpAny_bind (wpAny_holding (rests_tuple pl (I.ok.hd hc) hi (by rw [List.size_toArray, ← rv.length]; exact h1) (by rw [List.size_toArray, ← rv.length]; exact h2) (go its rv)))
theorem anyI_range (ns : List Int) : (List.range ns.length).any (fun i => ns.getD i 0 != 0) = ns.any (· != 0) := by
  induction ns with
  | nil => rfl
  | cons n r ih =>
    rw [List.length_cons, List.range_succ_eq_map, List.any_cons, List.any_map, List.any_cons, ← ih]
    rfl
/-- any(integers) -/
theorem cr_anyI (hc : X.calm = true) : CallR X (.builtin "any") (fun vs H Q => ∃ (a : Addr) (ns : List Int), vs = [.ref a] ∧ SqL X.K H a (ns.map V.int) ∧ Q (.bl (ns.any (· != 0))) H) := by
  intro pins st sl H vs us Q I r h
  obtain ⟨a, ns, rfl, hs, q⟩ := h
  obtain ⟨its, rv, hl, _⟩ := I.list hs
  rw [Vals.ref1 r]
  have el : its.length = ns.length := by rw [← rv.length, List.length_map]
  have tr : TruthOf X.prog X.w X.A.in1 (fun i v => its.toArray[i]? = some v) (fun i => ns.getD i 0 != 0) := fun i v s1 Q1 E1 hv hq => by
    have hv : its[i]? = some v := by simpa using hv
    obtain ⟨x, hx, rx⟩ : ∃ x, (ns.map V.int)[i]? = some x ∧ RelV x v := by
      cases e : (ns.map V.int)[i]? with
      | none => rw [Vals.none_of rv e] at hv; cases hv
      | some x =>
        obtain ⟨u, eu, ru⟩ := Vals.get rv e
        rw [hv] at eu
        cases eu
        exact ⟨x, rfl, ru⟩
    rw [List.getElem?_map] at hx
    obtain ⟨z, hz, rfl⟩ := Option.map_eq_some_iff.mp hx
    obtain ⟨tk, rfl⟩ := rx
    have e : ns.getD i 0 = z := by rw [List.getD_eq_getElem?_getD, hz]; rfl
    have hq : Q1 (ns.getD i 0 != 0) s1 := hq
    rw [e] at hq
    exact PySem.P.truthy_int hq
  refine call_any_walk (iter_any hl.isList fun s₂ e2 sx hne => ?_)
  subst e2
  refine ⟨_, _, _, _, _, _, _, rfl, Walks.list (A := X.A.in1) (I.ok.hd hc) _ a hne its.toArray, sx, tr, fun h' tk hk => ?_⟩
  refine ⟨.bl _, H, I.kept fun b o eo => hk b o (fun m => ?_) (Heap.get?_push_of_some _ eo), ?_, q⟩
  · exact Nat.ne_of_lt (Heap.lt_size eo) (by simpa using m)
  · show Value.bool _ = Value.bool _
    rw [List.size_toArray, el, anyI_range]
end
end MT
namespace MT
open PySem L2
section
variable {X : Cx}
/-- [..] * k, a new list -/
theorem op_repN : OpR X (binaryOp .Mult) (fun x y H Q => ∃ l k xs, x = .ref l ∧ y = .int k ∧ H l = some (.lst xs) ∧ -(2 ^ 63) ≤ k ∧ k < 2 ^ 63 ∧ xs.length * k.toNat ≤ sizeLine ∧ ∀ p H2, New H H2 p (.lst (List.replicate k.toNat xs).flatten) → Q (.ref p) H2) := by
  intro pins st sl H x y v u Q I rx ry h
  obtain ⟨l, k, xs, e1, e2, h1, h2, h3, h4, q⟩ := h
  exact op_rep pins st sl H x y v u Q I rx ry ⟨l, k, xs, e1, e2, h1, h2, h3, h4, fun p hp => q p _ (New.mk' hp)⟩
/-- list + list, a new list -/
theorem op_catN : OpR X (binaryOp .Add) (fun x y H Q => ∃ l b xs zs, x = .ref l ∧ y = .ref b ∧ H l = some (.lst xs) ∧ H b = some (.lst zs) ∧ xs.length + zs.length ≤ sizeLine ∧ ∀ p H2, New H H2 p (.lst (xs ++ zs)) → Q (.ref p) H2) := by
  intro pins st sl H x y v u Q I rx ry h
  obtain ⟨l, b, xs, zs, e1, e2, h1, h2, h3, q⟩ := h
  exact op_cat pins st sl H x y v u Q I rx ry ⟨l, b, xs, zs, e1, e2, h1, h2, h3, fun p hp => q p _ (New.mk' hp)⟩
/-- (..) * k, a new tuple -/
theorem op_repTN : OpR X (binaryOp .Mult) (fun x y H Q => ∃ l k xs, x = .ref l ∧ y = .int k ∧ SqT X.K H l xs ∧ xs ≠ [] ∧ 2 ≤ k ∧ k ≤ 1000 ∧ xs.length ≤ 1000 ∧ ∀ p H2, New H H2 p (.tup (List.replicate k.toNat xs).flatten) → Q (.ref p) H2) := by
  intro pins st sl H x y v u Q I rx ry h
  obtain ⟨l, k, xs, e1, e2, h1, h2, h3, h4, h5, q⟩ := h
  exact op_repT pins st sl H x y v u Q I rx ry ⟨l, k, xs, e1, e2, h1, h2, h3, h4, h5, fun p hp => q p _ (New.mk' hp)⟩
/-- tuple + tuple, neither empty: a new one -/
theorem op_catTN : OpR X (binaryOp .Add) (fun x y H Q => ∃ a b xs ys, x = .ref a ∧ y = .ref b ∧ SqT X.K H a xs ∧ SqT X.K H b ys ∧ xs.length + ys.length ≤ sizeLine ∧ xs ≠ [] ∧ ys ≠ [] ∧ ∀ p H2, New H H2 p (.tup (xs ++ ys)) → Q (.ref p) H2) := by
  intro pins st sl H x y v u Q I rx ry h
  obtain ⟨a, b, xs, ys, e1, e2, h1, h2, h3, n1, n2, q⟩ := h
  exact op_catA pins st sl H x y v u Q I rx ry ⟨a, b, xs, ys, e1, e2, h1, h2, h3, fun z => absurd z n1, fun _ z => absurd z n2, fun _ _ p hp => q p _ (New.mk' hp)⟩
end
end MT
namespace MT
open PySem L2
def repStr (x : Str) (n : Int) : Str := ⟨(List.replicate n.toNat x.cps).foldl (· ++ ·) #[]⟩
/-- text * number -/
theorem op_repS {X : Cx} : OpR X (binaryOp .Mult) (fun x y H Q => ∃ (z : Str) (n : Int), x = .str z ∧ y = .int n ∧ 2 ≤ n ∧ n ≤ 1000 ∧ 1 ≤ z.length ∧ z.length ≤ 1000 ∧ (repStr z n).length ≤ sizeLine ∧ Q (.str (repStr z n)) H) := by
  intro pins st sl H x y v u Q I rx ry h
  obtain ⟨z, n, rfl, rfl, n2, n3, l1, l2, ls, q⟩ := h
  obtain ⟨t, rfl⟩ := rx
  obtain ⟨t2, rfl⟩ := ry
  have c1 : ¬ n < 1 := by omega
  have c2 : (n == 1 || z.length == 0) = false := by
    rw [Bool.or_eq_false_iff]
    exact ⟨beq_eq_false_iff_ne.mpr (by omega), beq_eq_false_iff_ne.mpr (by omega)⟩
  refine PySem.P.mul_str (by rw [decide_eq_false (by omega), decide_eq_false (by omega)]; rfl) (fun _ _ w => ?_) (fun _ _ => ?_) ?_
  · have h0 := (mul_bd (x := (z.length : Int)) (y := n) (A := 1000) (B := 1000) (by omega) (by omega) (by omega) (by omega)).2
    have h1 : (z.length : Int) ≤ (2 ^ 63 - 1) / n := Int.le_ediv_of_mul_le (by omega) (by omega)
    omega
  · unfold Builtin.Str.tooLong
    rw [decide_eq_false]
    have : z.length * n.toNat ≤ 1000 * 1000 := Nat.mul_le_mul l2 (by omega)
    rw [sizeLine_eq]
    omega
  · rw [if_neg c1, if_neg (by rw [c2]; exact Bool.false_ne_true)]
    exact ⟨ls, .str _, H, I.tok _, ⟨_, rfl⟩, q⟩
end MT
/-! lambda name=number: .., handed to a def -/
namespace MT
open PySem PySem.Spec PyProof.Rows L2 LamX
abbrev dfObj (q : Str) (params : Arguments) (body : Expr) (scope : Scope) (clo : List (Str × Addr)) (T0 : Addr) (doc pm : Value) (c' : Addr) (ctv : Value) : Obj :=
  PySem.W.kdv_obj "<lambda>" q params (.expr body) scope clo (.ref T0) doc pm c' ctv
section
variable {X : Cx} {pins : List (Addr × Obj)} {σ : L2.St} {H : Hp} {s : Shared}
/-- the lambda is made, its default in a tuple of its own -/
theorem df_make {TS : List (Addr × Str)} {c P : Addr} {params : Arguments} {body de : Expr} {scope : Scope} {pos : Pos} {n : Int} {E : Value → Shared → Prop} {Q : Value → Shared → Prop} (I : Inv X pins σ H s) (TB : LamX.TabB X.base X.mg c P) (cod : X.env.code = .ref c)
    (mem : (P, X.env.qual ++ "<lambda>") ∈ TS) (uni : ∀ p ∈ TS, p.1 = P → p.2 = X.env.qual ++ "<lambda>") (tabs : Tabs TS H) (hde : params.defaults = [de]) (kwd : params.kw_defaults = [])
    (hev : ∀ Q1 : Value → Shared → Prop, (∀ tk t, Q1 (.int n t) { s with toks := tk }) → wpAny (model X.prog X.w) X.A (eval de X.env) Q1 E s)
    (fre : ∀ y ∈ scope.names, y.2 = .free → ∃ c, X.env.cells.lookup y.1 = some c)
    (k : ∀ (f c' T0 : Addr) (doc pm ctv : Value) (H1 : Hp) (s' : Shared), Inv X pins σ H1 s' → ExtN H H1 → Tabs TS H1 →
      s'.heap.get? f = some (dfObj (X.env.qual ++ "<lambda>") params body scope (cloFrom X.env.cells scope.names []) T0 doc pm c' ctv) → H1 f = none → f ∉ frs X.stack → H1 c' = some (CodeO c' (X.env.qual ++ "<lambda>")) → H1 T0 = some (.tup [.int n]) → Q (.ref f) s') :
    wpAny (model X.prog X.w) X.A (eval (.Lambda params body scope pos) X.env) Q E s := by
  refine PySem.W.kdv_lam (by rw [hde]; rfl) kwd ?_
  rw [hde]
  refine PySem.W.kdv_all1 (hev _ fun tk t => PySem.W.kdv_all0 ?_)
  rw [makeFunction_eq]
  simp only [List.zip_nil_right, List.filterMap_nil, List.isEmpty_nil, List.isEmpty_cons, if_true, pure_bind, Bool.false_eq_true, if_false]
  refine wpAny_bind (wpAny_newTextTuple ?_)
  obtain ⟨hp, g, dr, tk0, os⟩ := s
  have nT : H hp.objs.size = none := I.hok.fresh (Nat.le_refl _)
  have I0 : Inv X pins σ (upd H hp.objs.size (.tup [.int n])) ⟨hp.push (PySem.W.kdv_tup [.int n t]), g, dr, tk, os⟩ :=
    I.laid (t' := tk) (a := hp.objs.size) (o := .tup [.int n]) (h' := hp.push (PySem.W.kdv_tup [.int n t])) (fun b o e => Heap.get?_push_of_some _ e) (Nat.le_refl _)
      ⟨(by show 1 ≤ sizeLine; rw [sizeLine_eq]; decide), [.int n t], .cons ⟨t, rfl⟩ .nil, ⟨_, Heap.get?_push_size _ rfl, rfl, _, rfl⟩⟩
  have x0 : ExtN H (upd H hp.objs.size (.tup [.int n])) := ExtN.of (same_new nT)
  have tb0 : Tabs TS (upd H hp.objs.size (.tup [.int n])) := tabs.ext (same_new nT)
  have t0 : (upd H hp.objs.size (.tup [.int n])) hp.objs.size = some (.tup [.int n]) := upd_same
  revert I0 x0 tb0 t0
  generalize upd H hp.objs.size (.tup [.int n]) = H0
  intro I0 x0 tb0 t0
  obtain ⟨ps, tP, ok, am⟩ := tb0 _ mem
  have bP := TB.bm.keeps I0.bk
  have gP := I0.hok P _ tP
  have away : ∀ f, (hp.push (PySem.W.kdv_tup [.int n t])).objs.size ≤ f → f ∉ frs X.stack := fun f hf z => by
    rcases List.mem_cons.mp (I0.stkSub _ z) with w | w
    · have lt := I0.lt
      rw [← w] at lt
      exact absurd (Nat.lt_of_lt_of_le lt hf) (Nat.lt_irrefl _)
    · exact I0.nofs hf w
  cases am1 : codeAmong pos ps.toList with
  | none =>
    refine PySem.W.kdv_makeTail (mg := X.mg) (closure_ok fre) I0.ok.glob (I0.mod.glob.keeps I0.bk) cod (TB.code.keeps I0.bk) gP ok am1 TB.gP bP fun c' ctv doc ha ta xa ga la ra da => ?_
    obtain ⟨c2, oc, vs, tq, ee, goc, dd, vv⟩ := ra
    cases ee
    have big := Nat.le_trans ga (Nat.le_of_lt la)
    have nC : H0 c' = none := I0.hok.fresh ga
    have I1 := inv_table (t' := ta) (more := #[rawInt pos.line, rawInt pos.col, .ref c']) (h' := ha.push (dfObj (X.env.qual ++ "<lambda>") params body scope (cloFrom X.env.cells scope.names []) hp.objs.size doc ((X.mg "__name__").getD .none) c' ctv)) I0 tP
      (fun b o ne e => Heap.get?_push_of_some _ (xa b o ne e)) (Heap.get?_push_of_some _ da) ga ⟨oc, vs, tq, Heap.get?_push_of_some _ goc, dd, vv⟩
    have xx : ExtN H0 (upd (upd H0 P (.tbl (ps ++ #[rawInt pos.line, rawInt pos.col, .ref c']))) c' (CodeO c' (X.env.qual ++ "<lambda>"))) := fun b o e nt => by
      rw [upd_ne (ne_of_none e nC), upd_ne (fun z => nt ps (Option.some.inj (e.symm.trans (by rw [z]; exact tP))))]
      exact e
    have lst : (ps ++ #[rawInt pos.line, rawInt pos.col, .ref c']).toList = ps.toList ++ [rawInt pos.line, rawInt pos.col, .ref c'] := by simp
    refine k ha.objs.size c' hp.objs.size doc _ ctv _ _ I1 (x0.trans xx) (fun p hp' => ?_) (Heap.get?_push_size _ rfl) ?_ (away _ big) upd_same (xx _ _ t0 fun ps' z => by cases z)
    · by_cases pb : p.1 = P
      · rw [uni p hp' pb, pb]
        refine ⟨_, by rw [upd_ne (ne_of_none tP nC), upd_same], by rw [lst]; exact PySem.TriplesOk_snoc _ _ _ _ ok, fun pz cv hcv => ?_⟩
        rw [lst] at hcv
        rcases among_app _ ok hcv with z | z
        · obtain ⟨cz, w1, w2⟩ := am pz cv z
          exact ⟨cz, w1, xx _ _ w2 codeO_ne⟩
        · exact ⟨c', z, upd_same⟩
      · obtain ⟨pq, w1, w2, w3⟩ := tb0 p hp'
        refine ⟨pq, by rw [upd_ne (ne_of_none w1 nC), upd_ne pb]; exact w1, w2, fun pz cv hcv => ?_⟩
        obtain ⟨cz, v1, v2⟩ := w3 pz cv hcv
        exact ⟨cz, v1, xx _ _ v2 codeO_ne⟩
    · have d1 : ha.objs.size ≠ c' := Nat.ne_of_gt la
      have d2 : ha.objs.size ≠ P := Nat.ne_of_gt (Nat.lt_of_lt_of_le (Heap.lt_size gP) big)
      rw [upd_ne d1, upd_ne d2]
      exact I0.hok.fresh big
  | some cv =>
    obtain ⟨c', ee, coo⟩ := am pos cv am1
    subst ee
    refine PySem.W.kdv_makeTailHit (mg := X.mg) (closure_ok fre) I0.ok.glob (I0.mod.glob.keeps I0.bk) cod (TB.code.keeps I0.bk) gP ok am1 bP fun ctv doc ha ta xa big => ?_
    have I1 : Inv X pins σ H0 ⟨ha.push (dfObj (X.env.qual ++ "<lambda>") params body scope (cloFrom X.env.cells scope.names []) hp.objs.size doc ((X.mg "__name__").getD .none) c' ctv), g, dr, ta, os⟩ := I0.kept fun b o e => Heap.get?_push_of_some _ (xa b o e)
    exact k ha.objs.size c' hp.objs.size doc _ ctv H0 _ I1 x0 tb0 (Heap.get?_push_size _ rfl) (I0.hok.fresh big) (away _ big) coo t0
end

/-- the lambda's one parameter x is its only own name -/
structure DfS (sc scope : Scope) (x : Str) : Prop where
  kind : scope.kind = .function
  co : scope.isCoroutine = false
  gen : scope.isGenerator = false
  own : ∀ y ∈ scope.names, y.2 ≠ .cell ∧ (y.2 = .local → y.1 = x)
  par : scope.names.lookup x = some .local
  free : ∀ y ∈ scope.names, y.2 = .free → sc.names.lookup y.1 = some .cell ∨ sc.names.lookup y.1 = some .free
def dfSB (sc scope : Scope) (x : Str) : Bool :=
  decide (scope.kind = .function) && !scope.isCoroutine && !scope.isGenerator && decide (scope.names.lookup x = some .local) &&
    scope.names.all fun y => !decide (y.2 = .cell) && (!decide (y.2 = .local) || decide (y.1 = x)) && (!decide (y.2 = .free) || decide (sc.names.lookup y.1 = some .cell) || decide (sc.names.lookup y.1 = some .free))
theorem dfS_by {sc scope : Scope} {x : Str} (h : dfSB sc scope x = true) : DfS sc scope x := by
  unfold dfSB at h
  simp only [Bool.and_eq_true, Bool.or_eq_true, Bool.not_eq_true', decide_eq_true_eq, decide_eq_false_iff_not, List.all_eq_true] at h
  obtain ⟨⟨⟨⟨w1, w2⟩, w3⟩, w5⟩, w4⟩ := h
  refine ⟨w1, w2, w3, fun y hy => ⟨(w4 y hy).1.1, fun e => ?_⟩, w5, fun y hy e => ?_⟩
  · rcases (w4 y hy).1.2 with z | z
    · exact absurd e z
    · exact z
  · rcases (w4 y hy).2 with (z | z) | z
    · exact absurd e z
    · exact .inl z
    · exact .inr z
section
variable {s s1 : Shared} {X : Cx} {pins : List (Addr × Obj)} {σ : L2.St} {H HZ : Hp}
theorem DfS.cells {scope : Scope} {x : Str} (L : DfS X.env.scope scope x) (ok : X.Ok) : ∀ y ∈ scope.names, y.2 = .free → ∃ c, X.env.cells.lookup y.1 = some c := fun y hy e => (L.free y hy e).elim (fun w => ok.has _ (.inl w)) fun w => ok.has _ (.inr w)
theorem df_start {A : Around} {outer : List Env} {E : XK} {scope : Scope} {x : Str} {u : Value} {f c' : Addr} {hn : Heap} {tk : Nat} (I : Inv X pins σ H s) (L : DfS X.env.scope scope x) (nx : x ∉ X.N) (en : Env0 X.prog X.w X.K X.mg X.base A outer s1 HZ)
    (calm : A.handled = none) (un : Un (frs X.stack) [] H HZ s.heap s1.heap) (ns : hn.Ns s1.heap.objs.size fun y => [(x, u)].reverse.lookup y) (old : ∀ b o, s1.heap.get? b = some o → hn.get? b = some o) :
    Inv (lamCx X A outer s1 HZ E scope f c') [] σ HZ { s1 with heap := hn, toks := tk } := by
  have fre := L.cells I.ok
  have up : ∀ {y c}, (cloFrom X.env.cells scope.names []).lookup y = some c → X.env.cells.lookup y = some c := fun {y c} e => by
    rcases cloFrom_mem (PySem.mem_of_lookup e) with w | ⟨w1, w2⟩
    · cases w
    · obtain ⟨ca, wc⟩ := fre _ w1 rfl
      have wc : X.env.cells.lookup y = some ca := wc
      have ec : c = ca := by
        rw [w2, wc] <;> rfl
      rw [ec]
      exact wc
  have has : ∀ {y}, scope.names.lookup y = some .free → ∃ c, (cloFrom X.env.cells scope.names []).lookup y = some c := fun {y} hl =>
    mem_lookup (cloFrom_has (cells := X.env.cells) (acc := []) (show (y, NameKind.free) ∈ scope.names from PySem.mem_of_lookup hl))
  have keepC : ∀ {c : Addr} {v : Option Value}, H c = none → s.heap.IsCell c v → hn.IsCell c v := fun {c v} no ⟨o, go, gd⟩ => by
    obtain ⟨sl, w⟩ := un.any go no (by simp)
    exact ⟨_, old _ _ w, gd⟩
  have none' : ∀ b : Addr, b ∉ (lamCx X A outer s1 HZ E scope f c').ex := fun b w => absurd (show b ∈ ([] : List Addr) from w) (by simp)
  refine ⟨⟨en.mod, L.kind, rfl, rfl, Nat.le_refl _, fun y z c w1 w2 => I.ok.inj y z c (up w1) (up w2), fun y hy => ?_, fun y c w _ => absurd (show false = true from w) Bool.false_ne_true, fun _ => calm, Around.frames_deeper en.frames, .inr ⟨rfl, rfl⟩, fun b w => absurd w (none' b), en.bs, en.bsz, fun b _ _ => none' b,
      fun b w => absurd w (none' b), en.funs, en.frf⟩,
    rfl, en.bare, Un.kept old, ⟨_, ns, fun i y v w1 w2 w3 => ?_⟩, fun y c w => ?_, en.hok.fresh (Nat.le_refl _), fun y c w => ?_, fun q hq => absurd (show q ∈ ([] : List (Addr × Obj)) ++ [] from hq) (by simp), en.hok.kept old, I.len⟩
  · rcases (show scope.names.lookup y = some .cell ∨ scope.names.lookup y = some .free from hy) with w | w
    · exact absurd rfl (L.own _ (PySem.mem_of_lookup w)).1
    · exact has w
  · rcases (show Vis scope y from w3) with w | w | w
    · have ey : y = x := (L.own _ (PySem.mem_of_lookup w)).2 rfl
      exact absurd (ey ▸ List.mem_of_getElem? (show X.N[i]? = some y from w1)) nx
    · exact absurd rfl (L.own _ (PySem.mem_of_lookup w)).1
    · obtain ⟨m, _, gl⟩ := I.loc
      have vis : Vis X.env.scope y := (L.free _ (PySem.mem_of_lookup w) rfl).elim (fun z => .inr (.inl z)) (fun z => .inr (.inr z))
      obtain ⟨u', r, q⟩ := gl i y v w1 w2 vis
      obtain ⟨ca, wa⟩ := has w
      refine ⟨u', r, .inr ⟨.inr w, ca, wa, ?_⟩⟩
      have w5 := up wa
      rcases q with ⟨z, _⟩ | ⟨_, cb, wb, z⟩
      · rcases L.free _ (PySem.mem_of_lookup w) rfl with z2 | z2 <;> cases (show X.env.scope.names.lookup y = some NameKind.local from z).symm.trans z2
      · rw [w5] at wb
        cases wb
        exact keepC (I.freeC y _ w5) z
  · obtain ⟨u', z⟩ := I.cell y c (up w)
    exact ⟨u', keepC (I.freeC y c (up w)) z⟩
  · obtain ⟨v, o, go, _⟩ := I.cell y c (up w)
    exact un.free c o go (I.freeC y c (up w)) (by simp)
/-- a(), in the def that got the lambda -/
theorem df_act {CXg : CXT} {Eg : XK} {Ng : List Str} {qg : Str} {sg : Scope} {g f c' T0 : Addr} {cdg doc pm ctv : Value} {params : Arguments} {body : Expr} {scope : Scope} {x : Str} {n : Int} {m i : Nat} {a : Str} {pn : List (Addr × Obj)} {xe : Value → Shared → Prop} {W : WX} {tb : XK → TE} {p1 p2 : Pos}
    (I : Inv X pins σ H s) (L : DfS X.env.scope scope x) (nx : x ∉ X.N) (gf : s.heap.get? f = some (dfObj (X.env.qual ++ "<lambda>") params body scope (cloFrom X.env.cells scope.names []) T0 doc pm c' ctv)) (nf : H f = none) (ff : f ∉ frs X.stack) (gT : H T0 = some (.tup [.int n]))
    (bnd : ∀ (doc pm ctv : Value) (cl : List (Str × Addr)), ∃ k, bindArgs (PySem.W.kdv_fn "<lambda>" (X.env.qual ++ "<lambda>") params (.expr body) scope cl (.ref T0) doc pm (.ref c') ctv) ⟨[], []⟩ = seqItems? (.ref T0) >>= k ∧ ∀ u, k (some [u].toArray) = pure [(x, u)])
    (tk : Takes ((cxOf CXg X.prog X.w X.K X.mg X.base Ng qg sg g cdg X.A X.stack s H Eg).tr pn xe) W) (hr : Room (m + 1) (X.A.deeper (envOfC qg sg s.heap.objs.size g cdg)))
    (hb : ∀ (A : Around) (outer : List Env) (s : Shared) (H : Hp) (E : XK), Room m (A.deeper (lamEnv X scope s.heap.objs.size f c')) → PE (lamCx X A outer s H E scope f c') body (tb E))
    (aN : Ng[i]? = some a) (va : Vis sg a) (dbg2 : (a == ("__debug__" : Str)) = false := by decide) (dbg3 : (a == ("__classdict__" : Str)) = false := by decide) :
    PE ((cxOf CXg X.prog X.w X.K X.mg X.base Ng qg sg g cdg X.A X.stack s H Eg).tr pn xe) (.Call (.Name a p1) [] [] p2) (fun σZ HZ Q => ∃ E : XK, (∀ cls d H', E cls d H' → W cls d σZ H') ∧ σZ[i]? = some (some (.ref f)) ∧ HZ c' = some (CodeO c' (X.env.qual ++ "<lambda>")) ∧ tb E σ HZ Q) := by
  refine ⟨fun pz sz lz HZ Q IZ told => ?_⟩
  obtain ⟨E, hW, w1, w2, w3⟩ := told
  refine wpAny_Call_Name_kw (thn ((pe_var (pos := p1) (i := i) aN va dbg2 dbg3).run pz sz lz HZ (fun v H1 => v = .ref f ∧ H1 = HZ) IZ ⟨.ref f, w1, rfl, rfl⟩) fun u sy ⟨v, HY, J, r, ev, eH⟩ => ?_)
  subst ev eH
  obtain rfl : u = Value.ref f := r
  have un : Un (frs X.stack) [] H HY s.heap sy.heap := J.base
  have gf1 := un.keep f _ gf nf ff (fun z => nomatch (show f ∈ ([] : List Addr) from z))
  have gT1 := un.tups T0 _ gT
  refine PySem.W.callWith_F0 ⟨_, _, _, _, gf1⟩ ?_
  obtain ⟨⟨oc, vs, t, goc, gd, gv⟩, _, _⟩ := J.hok c' _ w2
  obtain ⟨_, its, rv, o, ho, ht, n0, hd0⟩ := (show ObjOk X.prog X.w HY sy.heap T0 (.tup [.int n]) from J.hok T0 _ gT1)
  obtain ⟨u0, rfl, _⟩ := Vals.one rv
  obtain ⟨kk, b1, b2⟩ := bnd doc pm ctv (cloFrom X.env.cells scope.names [])
  obtain ⟨o1, o2, o3, o4⟩ := o
  simp only at ht hd0
  subst ht hd0
  have bt := BindsTo.of_defaults (fd := PySem.W.kdv_fn "<lambda>" (X.env.qual ++ "<lambda>") params (.expr body) scope (cloFrom X.env.cells scope.names []) (.ref T0) doc pm (.ref c') ctv) (args := ⟨[], []⟩) (binds := [(x, u0)]) rfl ho rfl b1 (b2 u0)
  have rc : codeAny (model X.prog X.w) (X.A.deeper (envOfC qg sg s.heap.objs.size g cdg)) (.call (.ref f) ⟨[], []⟩) (CR (L2.CX X.prog X.w) (envOfC qg sg s.heap.objs.size g cdg :: X.stack) X.prog X.w HY sy Q E) sy := by
    refine PySem.W.kla_callFunE hr.depth gf1 rfl L.co L.gen rfl ⟨c', oc, vs, t, rfl, goc, gd, gv⟩ ?_
    refine bt _ _ _ _ ?_
    refine wpAny_newFunctionEnv (fun y hy => (L.own y hy).1) (fun y hy => ?_) (fun hn ns sb => ⟨J.nolimit.fresh _ sb, ?_⟩) L.kind
    · rw [List.mem_singleton.mp hy]
      exact L.par
    show codeAny _ _ (.expr body (lamEnv X scope sy.heap.objs.size f c')) _ _
    have old : ∀ b o, sy.heap.get? b = some o → hn.get? b = some o := fun b o e => sb.extBut b o (Nat.ne_of_lt (Heap.lt_size e)) (Heap.get?_push_of_some _ e)
    have J2 := df_start (f := f) (c' := c') (E := E) (tk := sy.toks + ([(x, u0)] : List (Str × Value)).length) I L nx J.env0 hr.hd un ns old
    refine PySem.W.kla_codeExpr (wpAny_mono ((hb _ _ sy HY E (hr.deeper _)).run [] _ _ HY Q J2 w3) (fun v sq q => ?_) fun e sq q => q)
    obtain ⟨v', Hq, Jq, rq, qq⟩ := q
    exact ⟨v', Hq, Jq.os, Jq.bare, Jq.base, Jq.hok, rq, qq⟩
  refine wpAny_call (codeAny_mono rc fun r sq q => ?_)
  cases r with
  | error e => exact tk e sq (XE.of_call J (fun cls d H' w => hW cls d H' w) q)
  | ok fl =>
    cases fl with
    | ret u => exact J.after q
    | _ => exact q.elim
end

section
variable {s s1 : Shared} {X : Cx} {pins : List (Addr × Obj)} {σ : L2.St} {H HZ : Hp}
/-- the same without a parameter -/
theorem nf_act {CXg : CXT} {Eg : XK} {Ng : List Str} {qg : Str} {sg : Scope} {g f c' : Addr} {cdg pm ctv : Value} {params : Arguments} {body : Expr} {scope : Scope} {m i : Nat} {a : Str} {pn : List (Addr × Obj)} {xe : Value → Shared → Prop} {W : WX} {tb : XK → TE} {p1 p2 : Pos}
    (I : Inv X pins σ H s) (L : LamS X.env.scope scope) (gf : s.heap.get? f = some (PySem.W.kla_obj "<lambda>" (X.env.qual ++ "<lambda>") params body scope (cloFrom X.env.cells scope.names []) pm c' ctv)) (nf : H f = none) (ff : f ∉ frs X.stack)
    (bnd : bindArgs (PySem.W.kla_fn "<lambda>" (X.env.qual ++ "<lambda>") params body scope (cloFrom X.env.cells scope.names []) pm (.ref c') ctv) ⟨[], []⟩ = pure [])
    (tk : Takes ((cxOf CXg X.prog X.w X.K X.mg X.base Ng qg sg g cdg X.A X.stack s H Eg).tr pn xe) W) (hr : Room (m + 1) (X.A.deeper (envOfC qg sg s.heap.objs.size g cdg)))
    (hb : ∀ (A : Around) (outer : List Env) (s : Shared) (H : Hp) (E : XK), Room m (A.deeper (lamEnv X scope s.heap.objs.size f c')) → PE (lamCx X A outer s H E scope f c') body (tb E))
    (aN : Ng[i]? = some a) (va : Vis sg a) (dbg2 : (a == ("__debug__" : Str)) = false := by decide) (dbg3 : (a == ("__classdict__" : Str)) = false := by decide) :
    PE ((cxOf CXg X.prog X.w X.K X.mg X.base Ng qg sg g cdg X.A X.stack s H Eg).tr pn xe) (.Call (.Name a p1) [] [] p2) (fun σZ HZ Q => ∃ E : XK, (∀ cls d H', E cls d H' → W cls d σZ H') ∧ σZ[i]? = some (some (.ref f)) ∧ HZ c' = some (CodeO c' (X.env.qual ++ "<lambda>")) ∧ tb E σ HZ Q) := by
  refine ⟨fun pz sz lz HZ Q IZ told => ?_⟩
  obtain ⟨E, hW, w1, w2, w3⟩ := told
  refine wpAny_Call_Name_kw (thn ((pe_var (pos := p1) (i := i) aN va dbg2 dbg3).run pz sz lz HZ (fun v H1 => v = .ref f ∧ H1 = HZ) IZ ⟨.ref f, w1, rfl, rfl⟩) fun u sy ⟨v, HY, J, r, ev, eH⟩ => ?_)
  subst ev eH
  obtain rfl : u = Value.ref f := r
  have un : Un (frs X.stack) [] H HY s.heap sy.heap := J.base
  have gf1 := un.keep f _ gf nf ff (fun z => nomatch (show f ∈ ([] : List Addr) from z))
  refine PySem.W.callWith_F0 ⟨_, _, _, _, gf1⟩ ?_
  obtain ⟨⟨oc, vs, t, goc, gd, gv⟩, _, _⟩ := J.hok c' _ w2
  have rc : codeAny (model X.prog X.w) (X.A.deeper (envOfC qg sg s.heap.objs.size g cdg)) (.call (.ref f) ⟨[], []⟩) (CR (L2.CX X.prog X.w) (envOfC qg sg s.heap.objs.size g cdg :: X.stack) X.prog X.w HY sy Q E) sy := by
    refine PySem.W.kla_callFunE hr.depth gf1 rfl L.co L.gen rfl ⟨c', oc, vs, t, rfl, goc, gd, gv⟩ ?_
    rw [bnd]
    refine wpAny_pure (wpAny_newFunctionEnv (fun y hy => (L.own y hy).2) (fun y hy => absurd hy (by simp)) (fun hn ns sb => ⟨J.nolimit.fresh _ sb, ?_⟩) L.kind)
    show codeAny _ _ (.expr body (lamEnv X scope sy.heap.objs.size f c')) _ _
    have old : ∀ b o, sy.heap.get? b = some o → hn.get? b = some o := fun b o e => sb.extBut b o (Nat.ne_of_lt (Heap.lt_size e)) (Heap.get?_push_of_some _ e)
    have J2 := lam_start2 (f := f) (c' := c') (E := E) (tk := sy.toks + ([] : List (Str × Value)).length) I L J.env0 hr.hd un ns old
    refine PySem.W.kla_codeExpr (wpAny_mono ((hb _ _ sy HY E (hr.deeper _)).run [] _ _ HY Q J2 w3) (fun v sq q => ?_) fun e sq q => q)
    obtain ⟨v', Hq, Jq, rq, qq⟩ := q
    exact ⟨v', Hq, Jq.os, Jq.bare, Jq.base, Jq.hok, rq, qq⟩
  refine wpAny_call (codeAny_mono rc fun r sq q => ?_)
  cases r with
  | error e => exact tk e sq (XE.of_call J (fun cls d H' w => hW cls d H' w) q)
  | ok fl =>
    cases fl with
    | ret u => exact J.after q
    | _ => exact q.elim
end
/-- the def that calls what it got, the wish told of the very slots -/
def GivesN (X : Cx) (Ng : List Str) (gn : Str) (sg : Scope) (g : Addr) (cdg : Value) (bg : List Stmt) (a : Str) (q : Str) (TT : (XK → Hp → VK → Prop) → Hp → VK → Prop) : Prop :=
  ∀ (f c' : Addr) (s : Shared) (H : Hp) (Q : VK) (tl : XK → Hp → VK → Prop),
    (∀ (W : WX) (pn : List (Addr × Obj)) (xe : Value → Shared → Prop) (p1 p2 : Pos), Takes ((cxOf C8.CX0 X.prog X.w X.K X.mg X.base Ng gn sg g cdg X.A X.stack s H C8.E0).tr pn xe) W →
      PE ((cxOf C8.CX0 X.prog X.w X.K X.mg X.base Ng gn sg g cdg X.A X.stack s H C8.E0).tr pn xe) (.Call (.Name a p1) [] [] p2)
        (fun σZ HZ Q => ∃ E : XK, (∀ cls d H', E cls d H' → W cls d σZ H') ∧ σZ[0]? = some (some (.ref f)) ∧ HZ c' = some (CodeO c' q) ∧ tl E HZ Q)) →
    H c' = some (CodeO c' q) → TT tl H Q →
    ∃ t, PSs (cxOf C8.CX0 X.prog X.w X.K X.mg X.base Ng gn sg g cdg X.A X.stack s H C8.E0).nox bg t ∧ t { nx := fun _ H' => Q .non H', rt := Q } (L2.start Ng [.ref f]) H
section
variable {X : Cx}
/-- g(lambda x=number: body) -/
theorem df_call {TS : List (Addr × Str)} {TT : (XK → Hp → VK → Prop) → Hp → VK → Prop} {gn a x : Str} {g c P : Addr} {m : Nat} {n : Int} {pg : Arguments} {bg : List Stmt} {sg : Scope} {dV kV dcg pmg cdv ctg ocg : Value} {ang odg : Option Addr} {slg : Array (Option Value)} {Ng : List Str}
    {params : Arguments} {body de : Expr} {scope : Scope} {t : XK → TE} {p lpos pos : Pos} (hg : Gl X gn) (hm : X.mg gn = some (.ref g)) (hk : PySem.W.keepIn X.K (.ref g) = true)
    (lk : X.K.lookup g = some ⟨ocg, odg, .func (PySem.W.fnOf gn gn pg bg sg dV kV dcg pmg ang cdv ctg), slg⟩) (cg : PySem.W.codeIn X.K cdv gn = true) (bg' : L2.Binds X.K (PySem.W.fnOf gn gn pg bg sg dV kV dcg pmg ang cdv ctg) [a] []) (Sg : FnScope Ng [a] sg) (aN : Ng[0]? = some a) (va : Vis sg a)
    (hG : GivesN X Ng gn sg g cdv bg a (X.env.qual ++ "<lambda>") TT)
    (TB : LamX.TabB X.base X.mg c P) (cod : X.env.code = .ref c) (mem : (P, X.env.qual ++ "<lambda>") ∈ TS) (uni : ∀ p ∈ TS, p.1 = P → p.2 = X.env.qual ++ "<lambda>") (hr : Room (m + 2) X.A) (L : DfS X.env.scope scope x) (nx : x ∉ X.N)
    (hde : params.defaults = [de]) (kwd : params.kw_defaults = []) (hev : ∀ (s : Shared) (E Q1 : Value → Shared → Prop), (∀ tk t, Q1 (.int n t) { s with toks := tk }) → wpAny (model X.prog X.w) X.A (eval de X.env) Q1 E s)
    (bnd : ∀ (T0 : Addr) (doc pm cv ctv : Value) (cl : List (Str × Addr)), ∃ k, bindArgs (PySem.W.kdv_fn "<lambda>" (X.env.qual ++ "<lambda>") params (.expr body) scope cl (.ref T0) doc pm cv ctv) ⟨[], []⟩ = seqItems? (.ref T0) >>= k ∧ ∀ u, k (some [u].toArray) = pure [(x, u)])
    (hbody : ∀ (A : Around) (outer : List Env) (s : Shared) (H : Hp) (E : XK) (f c' : Addr), Room m (A.deeper (lamEnv X scope s.heap.objs.size f c')) → PE (lamCx X A outer s H E scope f c') body (t E))
    (dbg1 : (gn == ("__debug__" : Str)) = false := by decide) (dbg2 : (a == ("__debug__" : Str)) = false := by decide) (dbg3 : (a == ("__classdict__" : Str)) = false := by decide) :
    PE X (.Call (.Name gn p) [.Lambda params body scope lpos] [] pos) (tLam TS TT t) := by
  refine ⟨fun pins st sl H Q I told => ?_⟩
  obtain ⟨tabs, told⟩ := told
  refine wpAny_Call_Name_kw (ld_glob I hg hm ?_ dbg1)
  refine PySem.W.callWith_K (h₀ := X.base) I.ok.mod.kin hk ?_ rfl rfl
  show wpAny _ _ (spliced ((false, eval (.Lambda params body scope lpos) X.env) :: backTo pos (starEach [] X.env))) _ _ st
  refine Calls.spliced_cons (df_make I TB cod mem uni tabs hde kwd (fun Q1 => hev st _ Q1) (L.cells I.ok) fun f c' T0 doc pm' ctv H1 sz J xx t1 gf nf ff coo gT => ?_)
  refine Calls.spliced_nil ⟨J.kIn, ?_⟩
  have rc : codeAny (model X.prog X.w) X.A (.call (.ref g) ⟨[.ref f], []⟩) (CR C8.CX0 X.stack X.prog X.w H1 sz Q C8.E0) sz := by
    refine run_ofS (N := Ng) (ps := [a]) (us := [.ref f]) (vs := [.ref f]) lk cg Sg hr J.env0 (bg' sz [.ref f] J.kIn rfl) (.cons rfl .nil) rfl fun hr' => ?_
    obtain ⟨tz, pz, qz⟩ := hG f c' sz H1 Q (fun E H' Q' => t E sl H' Q') (fun W pn xe p1 p2 tk => df_act (tb := t) (i := 0) (T0 := T0) (n := n) J L nx gf nf ff gT (fun doc pm ctv cl => bnd T0 doc pm (.ref c') ctv cl) tk hr' (fun A outer s H E hr2 => hbody A outer s H E f c' hr2) aN va dbg2 dbg3) coo (told H1 xx t1)
    exact ⟨tz, pz.nox, qz⟩
  refine wpAny_call (codeAny_mono rc fun r s2 q => ?_)
  cases r with
  | error e => exact (show False from q).elim
  | ok fl =>
    cases fl with
    | ret u => exact J.after q
    | _ => exact q.elim
/-- g(lambda: body) -/
theorem nf_call {TS : List (Addr × Str)} {TT : (XK → Hp → VK → Prop) → Hp → VK → Prop} {gn a : Str} {g c P : Addr} {m : Nat} {pg : Arguments} {bg : List Stmt} {sg : Scope} {dV kV dcg pmg cdv ctg ocg : Value} {ang odg : Option Addr} {slg : Array (Option Value)} {Ng : List Str}
    {params : Arguments} {body : Expr} {scope : Scope} {t : XK → TE} {p lpos pos : Pos} (hg : Gl X gn) (hm : X.mg gn = some (.ref g)) (hk : PySem.W.keepIn X.K (.ref g) = true)
    (lk : X.K.lookup g = some ⟨ocg, odg, .func (PySem.W.fnOf gn gn pg bg sg dV kV dcg pmg ang cdv ctg), slg⟩) (cg : PySem.W.codeIn X.K cdv gn = true) (bg' : L2.Binds X.K (PySem.W.fnOf gn gn pg bg sg dV kV dcg pmg ang cdv ctg) [a] []) (Sg : FnScope Ng [a] sg) (aN : Ng[0]? = some a) (va : Vis sg a)
    (hG : GivesN X Ng gn sg g cdv bg a (X.env.qual ++ "<lambda>") TT)
    (TB : LamX.TabB X.base X.mg c P) (cod : X.env.code = .ref c) (mem : (P, X.env.qual ++ "<lambda>") ∈ TS) (uni : ∀ p ∈ TS, p.1 = P → p.2 = X.env.qual ++ "<lambda>") (hr : Room (m + 2) X.A) (L : LamS X.env.scope scope) (dfl : defaultsOf params X.env = ([], []))
    (bnd : ∀ (qq : Str) (cl : List (Str × Addr)) (pm cv ctv : Value), bindArgs (PySem.W.kla_fn "<lambda>" qq params body scope cl pm cv ctv) ⟨[], []⟩ = pure [])
    (hbody : ∀ (A : Around) (outer : List Env) (s : Shared) (H : Hp) (E : XK) (f c' : Addr), Room m (A.deeper (lamEnv X scope s.heap.objs.size f c')) → PE (lamCx X A outer s H E scope f c') body (t E))
    (dbg1 : (gn == ("__debug__" : Str)) = false := by decide) (dbg2 : (a == ("__debug__" : Str)) = false := by decide) (dbg3 : (a == ("__classdict__" : Str)) = false := by decide) :
    PE X (.Call (.Name gn p) [.Lambda params body scope lpos] [] pos) (tLam TS TT t) := by
  refine ⟨fun pins st sl H Q I told => ?_⟩
  obtain ⟨tabs, told⟩ := told
  refine wpAny_Call_Name_kw (ld_glob I hg hm ?_ dbg1)
  refine PySem.W.callWith_K (h₀ := X.base) I.ok.mod.kin hk ?_ rfl rfl
  show wpAny _ _ (spliced ((false, eval (.Lambda params body scope lpos) X.env) :: backTo pos (starEach [] X.env))) _ _ st
  refine Calls.spliced_cons (lam_make2 I TB cod mem uni tabs dfl (L.has I.ok) fun f c' pm' ctv H1 sz J xx t1 gf nf ff coo => ?_)
  refine Calls.spliced_nil ⟨J.kIn, ?_⟩
  have rc : codeAny (model X.prog X.w) X.A (.call (.ref g) ⟨[.ref f], []⟩) (CR C8.CX0 X.stack X.prog X.w H1 sz Q C8.E0) sz := by
    refine run_ofS (N := Ng) (ps := [a]) (us := [.ref f]) (vs := [.ref f]) lk cg Sg hr J.env0 (bg' sz [.ref f] J.kIn rfl) (.cons rfl .nil) rfl fun hr' => ?_
    obtain ⟨tz, pz, qz⟩ := hG f c' sz H1 Q (fun E H' Q' => t E sl H' Q') (fun W pn xe p1 p2 tk => nf_act (tb := t) (i := 0) J L gf nf ff (bnd _ _ _ _ _) tk hr' (fun A outer s H E hr2 => hbody A outer s H E f c' hr2) aN va dbg2 dbg3) coo (told H1 xx t1)
    exact ⟨tz, pz.nox, qz⟩
  refine wpAny_call (codeAny_mono rc fun r s2 q => ?_)
  cases r with
  | error e => exact (show False from q).elim
  | ok fl =>
    cases fl with
    | ret u => exact J.after q
    | _ => exact q.elim
end
end MT
/-! a caught error that has its dict: asked for its class, its part read -/
namespace MT
open PySem PySem.Spec PyProof.Rows L2
section
variable {X : Cx} {a : Addr} {oe : Obj} {cls : Value} {d : Option Addr} {pn : List (Addr × Obj)} {e : Expr} {te : TE} {pos : Pos} {n : Str}
theorem pe_xfG (hz : Zc cls d oe) (hf : ∃ vs, oe.data = .fields vs) (he : PE (X.suite a ((a, oe) :: pn)) e te) (hb : attributeBase e n X.env (eval e X.env) = eval e X.env := by rfl) :
    PE (X.suite a ((a, oe) :: pn)) (.Attribute e n pos) (fun σ H Q => ∃ C : Addr, XfC X.K C ∧ PySem.W.findIn X.K (.ref C) n = some none ∧ tXf a cls d C n te σ H Q) :=
  ⟨fun pins st sl H Q I ⟨C, w1, w2, w3⟩ => (pe_xf w1 w2 hz hf he hb).run pins st sl H Q I w3⟩
/-- what is told of the caught error: its class D, its dict -/
def Held (K : PySem.W.Frag) (cls : Value) (d : Option Addr) (H : Hp) (D : Addr) : Prop := cls = .ref D ∧ ExcC K D ∧ ∃ (dd : Addr) (fs : List (Str × V)), d = some dd ∧ H dd = some (.xd fs)
theorem held_kit {pins : List (Addr × Obj)} {st : Shared} {sl : L2.St} {H : Hp} {D : Addr} (hz : Zc cls d oe) (hf : ∃ vs, oe.data = .fields vs) (I : Inv (X.suite a ((a, oe) :: pn)) pins sl H st) (h : Held X.K cls d H D) :
    ∃ P : Heap → Prop, PySem.W.KitX X.K (.ref a) (.ref D) P ∧ P st.heap := by
  obtain ⟨rfl, C, dd, fs, rfl, hd⟩ := h
  obtain ⟨ga, _⟩ := I.pin (a, oe) (List.mem_append_left _ List.mem_cons_self)
  obtain ⟨vs, fv⟩ := hf
  obtain ⟨mA, ns, _⟩ := (show ObjOk X.prog X.w H st.heap dd (.xd fs) from I.hok dd _ hd)
  obtain ⟨od, ho, _⟩ := lookIn_ns ns
  have J : PySem.W.InstAt st.heap a oe D (some od) := ⟨ga, hz.1, by unfold PySem.W.notCls; rw [fv] <;> rfl, by rw [hz.2]; exact ho⟩
  refine ⟨_, PySem.W.kitx_exc ?_ C.hg C.hk C.hs C.ha C.hn C.ht C.hm, J⟩
  obtain ⟨cd, w, _⟩ := PySem.W.any_some C.hd
  rw [w]
  rfl
/-- isinstance(error, class) -/
theorem call_isX1 (hz : Zc cls d oe) (hf : ∃ vs, oe.data = .fields vs) : CallR (X.suite a ((a, oe) :: pn)) (.builtin "isinstance") (fun xs H Q => ∃ (D C : Addr) (b : Bool), xs = [.ref a, .ref C] ∧ Held X.K cls d H D ∧ PySem.W.kitOne X.K (.ref D) (.ref C) = some b ∧ Q (.bl b) H) := by
  intro pins st sl H xs us Q I r h
  obtain ⟨D, C, b, rfl, hh, e, q⟩ := h
  obtain ⟨u1, u2, rfl, r1, r2⟩ := Vals.two r
  cases (show u1 = Value.ref a from r1)
  cases (show u2 = Value.ref C from r2)
  obtain ⟨P, Z, p⟩ := held_kit hz hf I hh
  exact PySem.W.kia_one Z I.kIn p e (fun z => nomatch z) fun tk => ⟨.bl b, H, I.tok tk, rfl, q⟩
/-- isinstance(error, (classes)) -/
theorem call_isX2 (hz : Zc cls d oe) (hf : ∃ vs, oe.data = .fields vs) : CallR (X.suite a ((a, oe) :: pn)) (.builtin "isinstance") (fun xs H Q => ∃ (D tp : Addr) (cs : List Addr) (b : Bool), xs = [.ref a, .ref tp] ∧ H tp = some (.tup (cs.map V.ref)) ∧ Held X.K cls d H D ∧
    PySem.W.kitAny X.K (.ref D) (cs.map Value.ref) = some b ∧ Q (.bl b) H) := by
  intro pins st sl H xs us Q I r h
  obtain ⟨D, tp, cs, b, rfl, ht, hh, e, q⟩ := h
  obtain ⟨u1, u2, rfl, r1, r2⟩ := Vals.two r
  cases (show u1 = Value.ref a from r1)
  cases (show u2 = Value.ref tp from r2)
  obtain ⟨P, Z, p⟩ := held_kit hz hf I hh
  obtain ⟨_, its, rv, o, ho, w1, m, w2⟩ := (show ObjOk X.prog X.w H st.heap tp (.tup (cs.map V.ref)) from I.hok tp _ ht)
  have key : ∀ (cs : List Addr) (its : List Value), Vals (cs.map V.ref) its → its = cs.map Value.ref := by
    intro cs
    induction cs with
    | nil => intro its r; cases r; rfl
    | cons c cs ih =>
      intro its r
      cases r with
      | cons h t => rw [ih _ t, show _ = Value.ref c from h]; rfl
  have ek := key cs its rv
  subst ek
  obtain ⟨o1, o2, o3, o4⟩ := o
  simp only at w1 w2
  subst w1 w2
  exact PySem.W.kia_tup Z I.kIn p ho e (fun z => nomatch z) fun tk => ⟨.bl b, H, I.tok tk, rfl, q⟩
end
/-- one class of the program asked for another -/
theorem kit_ref {K : PySem.W.Frag} {D C : Addr} {b : Bool} (h : D ≠ C) (hc : (PySem.W.clsIn K C).isSome = true) (ht : PySem.W.typeIn K (.ref C) = some (.type "type")) (e : PySem.W.subIn K (.ref D) (.ref C) = some b) : PySem.W.kitOne K (.ref D) (.ref C) = some b := by
  unfold PySem.W.kitOne PySem.W.kitCls
  have ne : (Value.ref D == Value.ref C) = false := beq_eq_false_iff_ne.mpr fun z => h (Value.ref.inj z)
  rw [ne]
  simp [hc, ht, e]
theorem kit_self {K : PySem.W.Frag} {D : Addr} : PySem.W.kitOne K (.ref D) (.ref D) = some true := by
  unfold PySem.W.kitOne
  simp
end MT
/-! data along what makes lambdas -/
namespace MT
open PySem L2 LamX
theorem ext_seq {K : PySem.W.Frag} {H H' : Hp} {a : Addr} {xs : List V} (e : ExtN H H') (h : SqL K H a xs) : SqL K H' a xs := by
  rcases h with (h | ⟨o, h⟩) | h
  · exact .inl (.inl (e _ _ h fun _ z => by cases z))
  · exact .inl (.inr ⟨o, e _ _ h fun _ z => by cases z⟩)
  · exact .inr h
theorem ext_seqT {K : PySem.W.Frag} {H H' : Hp} {a : Addr} {xs : List V} (e : ExtN H H') (h : SqT K H a xs) : SqT K H' a xs := by
  rcases h with (h | ⟨o, h⟩) | h
  · exact .inl (.inl (e _ _ h fun _ z => by cases z))
  · exact .inl (.inr ⟨o, e _ _ h fun _ z => by cases z⟩)
  · exact .inr h
abbrev nowhere : Addr → Prop := fun _ => False
section
variable {K : PySem.W.Frag} {M : Addr → Prop} {H H' : Hp}
mutual
theorem Dv.extR (e : ExtN H H') : ∀ (d : PyData) (v : V), Dv K M H v d → Dv K nowhere H' v d
  | .none, _, h => by cases h; exact .non
  | .bool b, _, h => by cases h; exact .bl b
  | .int i, _, h => by cases h; exact .int i
  | .str x, _, h => by cases h; exact .str x
  | .list ds, _, h => by
    cases h with
    | lst _ s a => exact .lst (fun z => z) (ext_seq e s) (DvAll.extR e ds _ a)
  | .tuple ds, _, h => by
    cases h with
    | tup _ s a => exact .tup (fun z => z) (ext_seqT e s) (DvAll.extR e ds _ a)
  | .dict _, _, h => by
    cases h with
    | dct _ s => exact .dct (fun z => z) (e _ _ s fun _ z => by cases z)
theorem DvAll.extR (e : ExtN H H') : ∀ (ds : List PyData) (vs : List V), DvAll K M H vs ds → DvAll K nowhere H' vs ds
  | [], _, h => by cases h; exact .nil
  | d :: ds, _, h => by
    cases h with
    | cons a b => exact .cons (Dv.extR e d _ a) (DvAll.extR e ds _ b)
end
theorem Dv.ext {d : PyData} {v : V} (h : Dv K M H v d) (e : ExtN H H') : Dv K nowhere H' v d := Dv.extR e d v h
theorem DvAll.ext {ds : List PyData} {vs : List V} (h : DvAll K M H vs ds) (e : ExtN H H') : DvAll K nowhere H' vs ds := DvAll.extR e ds vs h
theorem Same.ext (e : Same H H') : ExtN H H' := ExtN.of e
theorem tabs_frm {a : Addr} {P : Addr} {q : Str} (h : H P = some (.tbl #[])) (ne : P ≠ a) (F : Frm (· = a) H H') : H' P = some (.tbl #[]) := F _ _ ne h
theorem tabs_nil {P : Addr} {q : Str} (h : H P = some (.tbl #[])) : Tabs [(P, q)] H := fun p hp => by
  rw [List.mem_singleton.mp hp]
  exact TabS.nil h
end

theorem okGn {P : Program} {w : World} {K : PySem.W.Frag} {mg : Str → Option Value} {base : Heap} {x qual : Str} {st : Stmt} {f : Addr} {fd : FuncData} {N ps : List Str} {k : Nat} {sp : Sp} (F : Fun K x qual st f fd) (S : FnScope N ps (defScope st)) (len : ∀ vs H Q E, sp vs H Q E → vs.length = ps.length)
    (hbody : ∀ (cdv : Value) (A : Around) (outer : List Env) (s : Shared) (H : Hp) (vs : List V) (Q : VK) (E : XK), (A.deeper (PyProof.Rows.envOfC qual (defScope st) s.heap.objs.size f cdv)).guards = some [] → Room k (A.deeper (PyProof.Rows.envOfC qual (defScope st) s.heap.objs.size f cdv)) → sp vs H Q E →
      ∃ t, PSs (cxOf CX0 P w K mg base N qual (defScope st) f cdv A outer s H E).nox (defBody st) t ∧ t { nx := fun _ H' => Q .non H', rt := Q } (L2.start N vs) H) : FnG P w K mg base CX0 (k + 1) f fd ps sp :=
  okG F S len fun cdv A outer s H vs Q E hq hr h => by
    obtain ⟨t, w1, w2⟩ := hbody cdv A outer s H vs Q E hq hr h
    exact ⟨t, w1.nox, w2⟩
end MT
/-! a law's end: its promise told where no repr is under way; one table of code objects -/
namespace MT
open PySem PySem.Spec PyProof.Rows L2
abbrev scriptO (vs : List Value) : Obj := { cls := .type "list", data := .seq vs.toArray }
/-- what is tracked at first: the empty table, and the script's list (if the text's own part doesn't have it) -/
def startH (K : PySem.W.Frag) (PT a : Addr) (vs : List Value) (ns : List Int) : Hp := fun b =>
  if b = PT then some (.tbl #[]) else if b = a ∧ (K.lookup a).isNone = true then some (.frz (scriptO vs) (.lst (ns.map V.int))) else none
section
variable {K : PySem.W.Frag} {PT a b : Addr} {vs : List Value} {ns : List Int}
theorem startH_tab : startH K PT a vs ns PT = some (.tbl #[]) := if_pos rfl
theorem startH_cases {u : HO} (h : startH K PT a vs ns b = some u) : (b = PT ∧ u = .tbl #[]) ∨ (b = a ∧ K.lookup a = none ∧ u = .frz (scriptO vs) (.lst (ns.map V.int))) := by
  unfold startH at h
  split at h
  · rename_i e
    exact .inl ⟨e, (Option.some.inj h).symm⟩
  · split at h
    · rename_i e
      exact .inr ⟨e.1, by simpa using e.2, (Option.some.inj h).symm⟩
    · cases h
theorem startH_none (h1 : b ≠ PT) (h2 : b = a → K.lookup a ≠ none) : startH K PT a vs ns b = none := by
  cases e : startH K PT a vs ns b with
  | none => rfl
  | some u =>
    rcases startH_cases e with ⟨w, _⟩ | ⟨w, n, _⟩
    · exact absurd w h1
    · exact absurd n (h2 w)
end
theorem runG {P : Program} {w : World} {K : PySem.W.Frag} {mg mb : Str → Option Value} {k : Nat} {fa a c PT : Addr} {fd : FuncData} {x : Str} {sp : Sp} {st : Shared} {vs : List Value} {ns : List Int} (inK : K.In st.heap) (glob : st.heap.Ns mainGlobals mg)
    (blt : st.heap.Ns builtinsNs mb) (boot : ∀ x : Str, x ≠ "__name__" → mb x = bootBuiltins x) (lim : st.heap.NoLimit) (gens : st.gens = #[]) (tab : st.heap.get? PT = some { cls := .none, data := .fields #[] }) (noK : K.lookup PT = none) (code : PySem.W.CodeHd st.heap c PT)
    (bmain : ∃ (bm : Addr) (ob : Obj), mg "__builtins__" = some (.ref bm) ∧ bm ≠ builtinsNs ∧ st.heap.get? bm = some ob ∧ ob.cls = .type "module" ∧ ob.dict = some builtinsNs ∧ ob.data = .plain) (obj : st.heap.get? a = some (scriptO vs)) (areI : IntsAre vs ns)
    (len : ns.length ≤ sizeLine) (room : Room k callerA) (prom : ∀ base : Heap, K.In base → base.Ns mainGlobals mg → LamX.TabB base mg c PT → FnG P w K mg base CX0 k fa fd [x] sp) (bind : ∀ (s : Shared) (u : Value), BindsTo s fd ⟨[u], []⟩ [(x, u)])
    (told : ∀ H : Hp, H PT = some (.tbl #[]) → SqL K H a (ns.map V.int) → sp [.ref a] H (fun v _ => v = .bl true) fun _ _ _ => False) :
    codeAny (model P w) callerA (.call (.ref fa) ⟨[.ref a], []⟩) (fun r s' => r = .ok (.ret (.bool true)) ∧ OldK st.heap s'.heap ∧ s'.os = st.os ∧ AllBare s'.gens) st := by
  have rv := vals_ints areI
  have lv := areI.length
  have ne : PT ≠ a := fun z => by rw [z, obj] at tab; cases tab
  obtain ⟨H, eH⟩ : ∃ H, H = startH K PT a vs ns := ⟨_, rfl⟩
  have HP : H PT = some (.tbl #[]) := by rw [eH]; exact startH_tab
  -- what has other data is not tracked
  have free : ∀ {b : Addr} {o : Obj}, st.heap.get? b = some o → o ≠ { cls := .none, data := .fields #[] } → o ≠ scriptO vs → H b = none := fun {b o} e n1 n2 => by
    rw [eH]
    refine startH_none (fun z => n1 ?_) fun z => absurd ?_ n2
    · rw [z, tab] at e; exact (Option.some.inj e).symm
    · rw [z, obj] at e; exact (Option.some.inj e).symm
  have dicts : ∀ {b : Addr} {o : Obj} {es : Array DictEntry} {ep : Nat}, st.heap.get? b = some o → o.data = .dict es ep → H b = none := fun {b o es ep} e d =>
    free e (fun z => by rw [z] at d; cases d) (fun z => by rw [z] at d; cases d)
  have plain : ∀ {b : Addr} {o : Obj}, st.heap.get? b = some o → o.data = .plain → H b = none := fun {b o} e d =>
    free e (fun z => by rw [z] at d; cases d) (fun z => by rw [z] at d; cases d)
  have stay : ∀ {b : Addr} {m : Str → Option Value}, st.heap.Ns b m → (hidT st.heap H).Ns b m := fun {b m} ⟨o, es, ep, e, d, r⟩ => ⟨o, es, ep, hidT_get e (dicts e d), d, r⟩
  have inB : K.In (hidT st.heap H) := fun b o e => hidT_get (inK b o e) (by
    rw [eH]
    refine startH_none (fun z => ?_) fun z q => ?_
    · rw [z, noK] at e; cases e
    · rw [z, q] at e; cases e)
  have sq : SqL K H a (ns.map V.int) := by
    cases q : K.lookup a with
    | none => exact .inl (.inr ⟨scriptO vs, by rw [eH]; unfold startH; rw [if_neg (Ne.symm ne), if_pos ⟨rfl, by rw [q]; rfl⟩]⟩)
    | some o =>
      have e := inK a o q
      rw [obj] at e
      cases e
      exact .inr ⟨_, vs.toArray, _, q, rfl, rfl, rfl, by rw [List.size_toArray, lv]; exact len, by simpa using rv⟩
  have ok : HOk P w H st.heap := fun b u e => by
    rw [eH] at e
    rcases startH_cases e with ⟨rfl, rfl⟩ | ⟨rfl, _, rfl⟩
    · exact tab
    · exact ⟨obj, by rw [List.length_map]; exact len, vs, _, rv, obj⟩
  have tb : LamX.TabB (hidT st.heap H) mg c PT := by
    refine ⟨?_, ?_, fun z => ?_⟩
    · obtain ⟨o, us, file, tf, flags, tg, inF, text, tt, g0, rest⟩ := code
      refine ⟨o, us, file, tf, flags, tg, inF, text, tt, hidT_get g0 (free g0 (fun z => ?_) fun z => ?_), rest⟩
      · have := rest.1
        rw [z] at this
        cases this
      · have := rest.2.1
        rw [z] at this
        cases this
    · obtain ⟨bm, ob, w1, w2, w3, w4, w5, w6⟩ := bmain
      refine ⟨bm, ob, w1, w2, fun z => ?_, fun z => ?_, hidT_get w3 (plain w3 w6), w4, w5, w6⟩
      · obtain ⟨o, es, ep, e, d, _⟩ := glob
        rw [z, e] at w3
        cases w3
        rw [w6] at d
        cases d
      · rw [z, tab] at w3
        cases w3
        cases w6
    · obtain ⟨o, es, ep, e, d, _⟩ := glob
      rw [z, tab] at e
      cases e
      cases d
  have en : Env0 P w K mg (hidT st.heap H) callerA [] st H := ⟨rfl, ⟨inB, stay glob, ⟨mb, stay blt, boot⟩, let ⟨mc, z1, z2⟩ := lim; ⟨mc, stay z1, z2⟩⟩, fun b o e => of_hidT e, Nat.le_of_eq (hidT_size _ _), trivial, fun b z => absurd (show b ∈ ([] : List Addr) from z) (by simp), ok, .of_eq gens⟩
  refine codeAny_mono ((prom _ inB (stay glob) tb).run callerA [] st H ⟨[.ref a], []⟩ [.ref a] [.ref a] _ _ rfl room en (bind st _) (.cons rfl .nil) (told H HP sq)) fun r s' z => ?_
  cases r with
  | error e => exact (show False from z).elim
  | ok fl =>
    cases fl with
    | next => exact z.elim
    | brk => exact z.elim
    | cont => exact z.elim
    | ret u =>
      obtain ⟨v, H', so, bare, un, ok', ru, qv⟩ := z
      obtain rfl : v = .bl true := qv
      obtain rfl : u = Value.bool true := ru
      obtain ⟨more, tm⟩ := un.tbls PT #[] HP
      have g' : s'.heap.get? PT = some { cls := .none, data := .fields (#[] ++ more) } := ok' PT _ tm
      have kept : ∀ b o, b ≠ PT → st.heap.get? b = some o → s'.heap.get? b = some o := fun b o nb e => by
        cases q : H b with
        | none => exact un.keep b o e q (fun z => nomatch (show b ∈ ([] : List Addr) from z)) (by simp)
        | some u =>
          have q0 := q
          rw [eH] at q0
          rcases startH_cases q0 with ⟨w1, _⟩ | ⟨_, _, rfl⟩
          · exact absurd w1 nb
          · have e1 := (ok b _ q).1
            have e2 := (ok' b _ (un.frzs b _ _ q)).1
            rw [e] at e1
            rw [e1]
            exact e2
      refine ⟨rfl, ⟨fun b o e => ?_, fun b o e => ?_⟩, so, bare⟩
      · by_cases nb : b = PT
        · rw [nb, tab] at e
          cases e
          exact .inr (.inl ⟨by rw [nb]; exact (code.tab tab).isCodeTable, rfl, #[], more, rfl, by rw [nb]; exact g'⟩)
        · exact .inl (kept b o nb e)
      · by_cases nb : b = PT
        · exact ⟨_, by rw [nb]; exact g'⟩
        · exact ⟨o, kept b o nb e⟩
end MT
namespace MT
open PySem PySem.Spec PyProof.Rows L2
/-- what the law's end wants at the head's heap -/
def LawG (l : PySem.W.OpenLaw) (w : World) (K : PySem.W.Frag) (k n : Nat) (x : Str) (mg : Str → Option Value) (fa : Addr) (h : Heap) : Prop :=
  ∃ (fd : FuncData) (sp : Sp) (c PT : Addr), h.get? PT = some { cls := .none, data := .fields #[] } ∧ K.lookup PT = none ∧ PySem.W.CodeHd h c PT ∧ (∀ (s : Shared) (u : Value), BindsTo s fd ⟨[u], []⟩ [(x, u)]) ∧
    (∀ (H : Hp) (a : Addr) (ns : List Int), ns.length ≤ n → H PT = some (.tbl #[]) → SqL K H a (ns.map V.int) → sp [.ref a] H (fun v _ => v = .bl true) fun _ _ _ => False) ∧
    ∀ base : Heap, K.In base → base.Ns mainGlobals mg → LamX.TabB base mg c PT → FnG l.prog w K mg base CX0 k fa fd [x] sp
theorem walkG {l : PySem.W.OpenLaw} {n k : Nat} {q : Program} {loose : List Str} {XP : (Str → Option Value) → Heap → Prop} {YP : World → Heap → Prop} {d : DefRec} {K : Params → PySem.W.Frag} {x : Str} (hn : l.most = some n) (big : n ≤ sizeLine) (hdf : d.params.defaults = []) (room : Room k callerA)
    (inK : ∀ (w : World) (h : Heap), YP w h → (K w.params).In h) (F : ∀ (w : World) (mg : Str → Option Value) (fa : Addr) (h : Heap), YP w h → (K w.params).In h → h.Ns mainGlobals mg → mg d.name = some (.ref fa) → LawG l w (K w.params) k n x mg fa h) :
    PySem.W.WalkO q loose XP YP l.row.toRowW d [] (fun f vs => PySem.call f vs) :=
  Att.attach_callB hn hdf fun w s0 s1 mg mb fa o pm cd doc a vs ns G Y _ _ _ gmg gobj gints glen _ gg => by
    have X := inK w _ Y
    obtain ⟨fd, sp, c, PT, w1, w2, w3, w4, w5, w6⟩ := F w mg fa _ Y X G.T.g gmg
    exact runG X G.T.g G.T.b G.T.builtins G.T.nolimit gg w1 w2 w3 G.T.bmain gobj gints (Nat.le_trans glen big) room w6 w4 fun H h1 h2 => w5 H a ns glen h1 h2
/-- what the text says of an error's class, from its single facts -/
theorem errC_mk {K : PySem.W.Frag} {mg : Str → Option Value} {h : Heap} {x : Str} {C CM fI N : Addr} {f : Str} {nm q : Str} {bs : List Value} {sn : List Str} {sub : List Value} {ab : Bool} {col : Option Bool} {dd : Option Addr} {m0 m1 m2 m3 m5 : Option Value} (X : K.In h) (G : h.Ns mainGlobals mg) (gC : PySem.W.nsIn K mainGlobals x = some (some (.ref C)))
    (cl : K.lookup C = some (excClassObj nm q C N bs [.ref CM, .type "ValueError", .type "Exception", .type "BaseException", .type "object"] true sn sub ab col dd m0 m1 m2 m3 m5 "ValueError.__new__"))
    (sa : PySem.W.findIn K (.ref C) "__setattr__" = some (some (.builtin "object.__setattr__"))) (ga : PySem.W.findIn K (.ref C) "__getattribute__" = some (some (.builtin "BaseException.__getattribute__"))) (gg : PySem.W.findIn K (.ref C) "__getattr__" = some none)
    (nf : PySem.W.findIn K (.ref C) f = some none) (ii : PySem.W.findIn K (.ref C) "__init__" = some (some (.ref fI))) (ti : PySem.W.typeIn K (.ref fI) = some (.type "function")) (kC : PySem.W.keepIn K (.ref C) = true) (eC : PySem.W.subIn K (.ref C) (.type "BaseException") = some true)
    (tC : PySem.W.typeIn K (.ref C) = some (.type "type")) (hC : PySem.W.hasDictIn K C = true) (cc : PySem.W.findIn K (.ref C) "__class__" = some (some (.builtin "object.__class__"))) (oo : PySem.W.mroIn K C (.type "object") = some true) : ErrC K mg x C fI f where
  gC := PySem.W.mg_of X G gC
  oex := ⟨⟨nm, q, N, bs, _, sn, sub, ab, col, dd, m0, m1, m2, m3, m5, cl, rfl⟩, sa, eC, tC, kC⟩
  noF := nf
  iC := ii
  tI := ti
  xf := ⟨ga, gg, eC, hC⟩
  cl := cc
  ob := oo
end MT
/-! a caught error that a variable keeps beyond its clause -/
namespace MT
open PySem PySem.Spec PyProof.Rows L2
/-- at a: an error, its class, its dict -/
def keptO (a : Addr) (cls : Value) (d : Option Addr) : HO := .ext fun h => ∃ (o : Obj) (vs : Array Value), h.get? a = some o ∧ Zc cls d o ∧ o.data = .fields vs
theorem keptO_at {P : Program} {w : World} {H : Hp} {h : Heap} {a : Addr} {cls : Value} {d : Option Addr} (hok : HOk P w H h) (e : H a = some (keptO a cls d)) : ∃ (o : Obj) (vs : Array Value), h.get? a = some o ∧ Zc cls d o ∧ o.data = .fields vs := by
  have x : ObjOk P w H h a (.ext fun h => ∃ (o : Obj) (vs : Array Value), h.get? a = some o ∧ Zc cls d o ∧ o.data = .fields vs) := hok a _ e
  exact x.1
theorem keptO_ok {P : Program} {w : World} {H : Hp} {h : Heap} {a : Addr} {cls : Value} {d : Option Addr} {o : Obj} {vs : Array Value} (e : h.get? a = some o) (z : Zc cls d o) (f : o.data = .fields vs) : ObjOk P w H h a (keptO a cls d) :=
  ⟨⟨o, vs, e, z, f⟩, ⟨o, e⟩, fun _ _ ⟨p, us, q, r⟩ k => ⟨p, us, k p q, r⟩⟩
section
variable {X : Cx} {pins : List (Addr × Obj)} {σ : L2.St} {H : Hp} {s : Shared} {a : Addr} {cls : Value} {d : Option Addr}
/-- what is pinned, and was not there when the def began, may be tracked -/
theorem keep_pin {o : Obj} {vs : Array Value} (I : Inv X ((a, o) :: pins) σ H s) (z : Zc cls d o) (f : o.data = .fields vs) (new : X.s_0.heap.get? a = none) (away : ∀ p ∈ X.pn ++ pins, p.1 ≠ a) : Inv X pins σ (upd H a (keptO a cls d)) s := by
  obtain ⟨at_, na, nl, nf, _⟩ := I.pin (a, o) (List.mem_append_right _ List.mem_cons_self)
  have old : ∀ b u, X.s_0.heap.get? b = some u → b ≠ a := fun b u e q => by rw [q, new] at e; cases e
  have had : ∀ b u, H b = some u → b ≠ a := fun b u e q => by rw [q, na] at e; cases e
  refine ⟨I.ok, I.os, I.bare, ⟨I.base.keep, I.base.slot, fun b u e n x => ?_, I.base.there, fun b xs e => ?_, fun b u v e => ?_, fun b ps e => ?_⟩, I.loc, I.cell, ?_, fun x c e => ?_, fun p hp => ?_, fun b u e => ?_, I.len⟩
  · rw [upd_ne (old b u e)]
    exact I.base.free b u e n x
  · have q := I.base.tups b xs e
    rw [upd_ne (had _ _ q)]
    exact q
  · have q := I.base.frzs b u v e
    rw [upd_ne (had _ _ q)]
    exact q
  · obtain ⟨m, q⟩ := I.base.tbls b ps e
    exact ⟨m, by rw [upd_ne (had _ _ q)]; exact q⟩
  · rw [upd_ne (Ne.symm nl)]
    exact I.free
  · obtain ⟨v, u, gu, du⟩ := I.cell x c e
    have ca : c ≠ a := fun q => by
      rw [q, at_] at gu
      cases gu
      rw [f] at du
      cases du
    rw [upd_ne ca]
    exact I.freeC x c e
  · have hm : p ∈ X.pn ++ (a, o) :: pins := by
      rcases List.mem_append.mp hp with q | q
      · exact List.mem_append_left _ q
      · exact List.mem_append_right _ (List.mem_cons_of_mem _ q)
    obtain ⟨w1, w2, w3⟩ := I.pin p hm
    exact ⟨w1, by rw [upd_ne (away p hp)]; exact w2, w3⟩
  · by_cases hb : b = a
    · subst hb
      rw [upd_same] at e
      cases e
      exact keptO_ok at_ z f
    · rw [upd_ne hb] at e
      exact (I.hok b u e).stay (fun _ _ _ q => q) (fun c q => by rw [upd_ne (had _ _ q)]; exact q) (fun c xs q => by rw [upd_ne (had _ _ q)]; exact q)
/-- what is wanted where try lets an error in, whose clause is n2 = n -/
def wKeep (K : PySem.W.Frag) (c : Value) (i j : Nat) (Wout : WX) (D : Ends) : WX := fun cls d σ H =>
  ∃ b, PySem.W.exmOne K cls c = some b ∧ (b = true → ∀ a, H a = none → D.nx (((σ.set i (some (.ref a))).set j (some (.ref a))).set i none) (upd H a (keptO a cls d))) ∧ (b = false → Wout cls d σ H)
end
section
variable {X : Cx} {x n n2 : Str} {c : Value} {i j : Nat} {body : List Stmt} {np p1 p2 p3 pos pos' : Pos} {tb : WX → TS} {Wout : WX}
theorem ps_try_keep (hs : X.stack = X.env :: X.outer) (fr : X.env.frame = some X.env.locals) (nd : X.N.Nodup) (ni : X.N[i]? = some n) (nk : X.env.kindOf n = some .local) (nj : X.N[j]? = some n2) (jk : Loc X.env.scope n2) (jl : X.fn n2 = true ∨ X.env.scope.names.lookup n2 = some .local) (hx : X.ex = []) (vi : Vis X.env.scope n) (hc : Names X x c) (out : Takes X Wout)
    (run : ∀ (W : WX) (pn : List (Addr × Obj)) (xe : Value → Shared → Prop), Takes (X.tr pn xe) W → PassesOwn (model X.prog X.w) X.A X.env xe → PSs (X.tr pn xe) body (tb W)) (dbg : (n == ("__debug__" : Str)) = false := by decide) (dbg2 : (n == ("__classdict__" : Str)) = false := by decide) (sw : swapsWith (.Name n p2) (some (.Name n2 p1)) p3.line X.env = pure false := by rfl) :
    PS X (.Try body [.ExceptHandler (some (.Name x np)) (some n) [.Assign [.Name n2 p1] (.Name n p2) p3] pos'] [] [] pos) (fun D σ H => tb (wKeep X.K c i j Wout D) D σ H) := by
  refine ⟨fun pins st sl H D I told => wpAny_Try_except ?_⟩
  have good := I.ok
  have frames : X.A.frames = some (X.env :: X.outer) := good.frames.trans (by rw [hs])
  refine wpAny_mono ((run (wKeep X.K c i j Wout D) (X.pn ++ pins) (fun e z1 => wpAny (model X.prog X.w) X.A (noteFrame e X.env) (fun _ z2 => wpAny (model X.prog X.w) X.A (setFlight e none) (fun _ z3 =>
    wpAny (model X.prog X.w) X.A (handleBy e X.env [.ExceptHandler (some (.Name x np)) (some n) [.Assign [.Name n2 p1] (.Name n p2) p3] pos']) (SP X pins D) X.xe z3) X.xe z2) X.xe z1) (fun u z air => ?_) PassesOwn.looking).run [] st sl H D (I.toTry _) told) (fun f z1 q => ?_) (fun e z1 q => q)
  · obtain ⟨a, B, sI, ps', sl', H', cls, d, rfl, J', ground, up, sky, na, eos, eg, b, exm, yes, no⟩ := air
    have J : Inv X pins sl' H' sI := J'.ofTry good
    have sky2 : Sky B (X.env :: X.outer) a (Zc cls d) X.env.locals z.heap := hs ▸ sky
    show wpAny (model X.prog X.w) X.A (noteFrame (.ref a) X.env) _ _ _
    refine Sky.land Zc.steady frames fr sky2 fun g3 fly3 up3 => ?_
    have J3 : Inv X pins sl' H' { z with heap := g3 } := J.landed ground fly3.1 (up.trans up3) eos eg
    obtain ⟨o3, v3, at3, zc3, da3⟩ := fly3.there
    have off : a ∉ frs (X.env :: X.outer) := fun m => by
      obtain ⟨_, q, e, nofields⟩ := fly3.2.2.1.mem m
      rw [at3] at e
      cases e
      exact nofields _ da3
    have offL : a ≠ X.env.locals := fun e => off (List.mem_filterMap.mpr ⟨X.env, List.mem_cons_self, by rw [fr, e]⟩)
    have offF : a ∉ X.fs := fun m => by
      obtain ⟨e, h1, h2⟩ := List.mem_filterMap.mp m
      exact off (List.mem_filterMap.mpr ⟨e, List.mem_cons_of_mem _ h1, h2⟩)
    have newI : sI.heap.get? a = none := by
      cases e : sI.heap.get? a with
      | none => rfl
      | some o =>
        have q := ground a o e (by rw [hs]; exact off)
        rw [fly3.2.1] at q
        cases q
    have new0 : X.s_0.heap.get? a = none := by
      cases e : X.s_0.heap.get? a with
      | none => rfl
      | some o =>
        obtain ⟨o', q⟩ := J.base.there a o e (by rw [hx]; exact fun w => nomatch w)
        rw [newI] at q
        cases q
    have away : ∀ p ∈ X.pn ++ pins, p.1 ≠ a := fun p hp e => by
      have q := (J.pin p hp).1
      rw [e, newI] at q
      cases q
    have S3 := J3.suite at3 da3 na offL offF
    refine wpAny_handleBy_cons (codeAny_handlers_test ?_) (fun q => nomatch q)
    have looks : PySem.W.Looks (model X.prog X.w) g3 (typeOf (.ref a)) cls := fun A Q E s k q => wpAny_typeOf_ref (k _ _ at3) (by rw [zc3.1]; exact q)
    have matches_ := PySem.W.exm_one (M := model X.prog X.w) J3.kIn looks exm
    have named : ∀ {Q E : Value → Shared → Prop}, Q c { z with heap := g3 } → wpAny (model X.prog X.w) (X.A.mark (some (.ref a))) (eval (.Name x np) X.env) Q E { z with heap := g3 } := fun {Q E} q => by
      obtain ⟨g, dg, m | ⟨m, v, nn⟩⟩ := hc
      · exact ld_glob (X := X.suite a ((a, o3) :: (X.pn ++ pins))) S3 g m q dg
      · exact ld_blt (X := X.suite a ((a, o3) :: (X.pn ++ pins))) S3 g m v q nn dg
    refine named (matches_.here ?_)
    cases b with
    | false =>
      show wpAny _ X.A (handleBy (.ref a) X.env []) _ _ _
      refine wpAny_handleBy_nil ?_
      obtain ⟨_, _, _, o4, v4, T, oT, ts', at4, zc4, da4, one, rest⟩ := id fly3
      unfold PySem.passOn
      refine wpAny_bind (wpAny_field at4 da4 one ?_)
      rw [if_neg (show ¬ ((Value.ref T == Value.none) = true) from by simp)]
      have last : wpAny (model X.prog X.w) X.A (setFlight (.ref a) X.env.frame) (fun _ z4 => wpAny (model X.prog X.w) X.A (throw (.ref a) : Sem Flow) (SP X pins D) X.xe z4) X.xe { z with heap := g3 } := by
        rw [fr]
        refine HandSPX.setFlight_upZ fly3 fun g4 held4 up4 => wpAny_throw (out _ _ ?_)
        exact ⟨a, B, sI, pins, sl', H', cls, d, rfl, J, ground, (up.trans up3).trans up4, .inr (.inr (hs.symm ▸ held4)), na, eos, eg, no rfl⟩
      first
        | exact wpAny_bind (wpAny_pure (wpAny_bind last))
        | exact wpAny_bind last
    | true =>
      refine codeAny_handlers_suite_as (HandSPX.lands_againZ fly3 fun g4 fly4 up4 => ?_)
      have J4 : Inv X pins sl' H' { z with heap := g4 } := J.landed ground fly4.1 ((up.trans up3).trans up4) eos eg
      obtain ⟨o4, v4, at4, zc4, da4⟩ := fly4.there
      have S4 := J4.suite at4 da4 na offL offF
      refine store_ok (X := X.suite a ((a, o4) :: (X.pn ++ pins))) (v := .ref a) S4 nd ni (.inl nk) rfl (fun z5 S5 => ?_) (.inr nk)
      have w := (pss_one (ps_set (X := X.suite a ((a, o4) :: (X.pn ++ pins))) (pos := p3) nd nj jk (pe_var (pos := p2) ni vi dbg dbg2) sw jl)).run [] z5 _ H' { nx := fun sl2 H2 => sl2 = (sl'.set i (some (.ref a))).set j (some (.ref a)) ∧ H2 = H', rt := fun _ _ => False } S5 ⟨.ref a, by
        have li : i < sl'.length := by rw [J.len]; exact (List.getElem?_eq_some_iff.mp ni).1
        rw [List.getElem?_set_self li], rfl, rfl⟩
      refine wpAny_mono w (fun f z6 q => ?_) (fun _ _ q => False.elim q)
      cases f with
      | next =>
        obtain ⟨sl6, H6, S6, rfl, rfl⟩ := q
        have P6 : Inv X ((a, o4) :: pins) ((sl'.set i (some (.ref a))).set j (some (.ref a))) H6 z6 := ⟨good, S6.os, S6.bare, S6.base, S6.loc, S6.cell, S6.free, S6.freeC, fun p hp => S6.pin p (by
          rw [List.append_nil]
          rcases List.mem_append.mp hp with m | m
          · exact List.mem_cons_of_mem _ (List.mem_append_left _ m)
          · rcases List.mem_cons.mp m with m | m
            · rw [m]; exact List.mem_cons_self
            · exact List.mem_cons_of_mem _ (List.mem_append_right _ m)), S6.hok, S6.len⟩
        exact gone_ok P6 nd ni nk fun z7 P7 => ⟨_, _, keep_pin P7 zc4 da4 new0 away, yes rfl a na⟩
      | brk => exact q.elim fun _ q => q.elim fun _ q => q.2.elim
      | cont => exact q.elim fun _ q => q.elim fun _ q => q.2.elim
      | ret u => exact q.elim fun _ q => q.elim fun _ q => q.elim fun _ q => q.2.2.elim
  · cases f with
    | next =>
      obtain ⟨sl', H', J', w⟩ := q
      exact wpAny_execs_nil ⟨sl', H', J'.ofTry good, w⟩
    | brk =>
      obtain ⟨sl', H', J', w⟩ := q
      exact ⟨sl', H', J'.ofTry good, w⟩
    | cont =>
      obtain ⟨sl', H', J', w⟩ := q
      exact ⟨sl', H', J'.ofTry good, w⟩
    | ret u =>
      obtain ⟨v, sl', H', J', r, w⟩ := q
      exact ⟨v, sl', H', J'.ofTry good, r, w⟩
end

/-! ### .. asked for its class, its part read -/
section
variable {X : Cx} {pins : List (Addr × Obj)} {sl : L2.St} {H : Hp} {st : Shared} {a : Addr} {e : Expr} {te : TE} {pos : Pos} {n : Str}
theorem kept_kit {D dd : Addr} {fs : List (Str × V)} (I : Inv X pins sl H st) (k : H a = some (keptO a (.ref D) (some dd))) (C : ExcC X.K D) (hd : H dd = some (.xd fs)) : ∃ P : Heap → Prop, PySem.W.KitX X.K (.ref a) (.ref D) P ∧ P st.heap := by
  obtain ⟨o, vs, ga, z, f⟩ := keptO_at I.hok k
  obtain ⟨mA, ns, _⟩ := (show ObjOk X.prog X.w H st.heap dd (.xd fs) from I.hok dd _ hd)
  obtain ⟨od, ho, _⟩ := lookIn_ns ns
  have J : PySem.W.InstAt st.heap a o D (some od) := ⟨ga, z.1, by unfold PySem.W.notCls; rw [f] <;> rfl, by rw [z.2]; exact ho⟩
  refine ⟨_, PySem.W.kitx_exc ?_ C.hg C.hk C.hs C.ha C.hn C.ht C.hm, J⟩
  obtain ⟨cd, w, _⟩ := PySem.W.any_some C.hd
  rw [w]
  rfl
/-- what isinstance of None, or of a kept error, tells -/
def Tell (K : PySem.W.Frag) (H : Hp) (v : V) (C : Addr) (b : Bool) : Prop := (v = .non ∧ PySem.W.kitOne K (.type "NoneType") (.ref C) = some b) ∨
  ∃ (a D dd : Addr) (fs : List (Str × V)), v = .ref a ∧ H a = some (keptO a (.ref D) (some dd)) ∧ H dd = some (.xd fs) ∧ ExcC K D ∧ PySem.W.kitOne K (.ref D) (.ref C) = some b
theorem call_isK : CallR X (.builtin "isinstance") (fun xs H Q => ∃ (v : V) (C : Addr) (b : Bool), xs = [v, .ref C] ∧ Tell X.K H v C b ∧ Q (.bl b) H) := by
  intro pins st sl H xs us Q I r h
  obtain ⟨v, C, b, rfl, t, q⟩ := h
  obtain ⟨u1, u2, rfl, r1, r2⟩ := Vals.two r
  cases (show u2 = Value.ref C from r2)
  rcases t with ⟨rfl, e⟩ | ⟨a, D, dd, fs, rfl, k, hd, hc, e⟩
  · cases (show u1 = Value.none from r1)
    exact PySem.W.kia_one PySem.W.kitx_none I.kIn True.intro e (fun z => nomatch z) fun tk => ⟨.bl b, H, I.tok tk, rfl, q⟩
  · cases (show u1 = Value.ref a from r1)
    obtain ⟨P, Z, p⟩ := kept_kit I k hc hd
    exact PySem.W.kia_one Z I.kIn p e (fun z => nomatch z) fun tk => ⟨.bl b, H, I.tok tk, rfl, q⟩
theorem pe_xfK (he : PE X e te) (hb : attributeBase e n X.env (eval e X.env) = eval e X.env := by rfl) :
    PE X (.Attribute e n pos) (fun σ H Q => te σ H fun x H1 => ∃ (a C dd : Addr) (fs : List (Str × V)) (v : V), x = .ref a ∧ H1 a = some (keptO a (.ref C) (some dd)) ∧ XfC X.K C ∧ PySem.W.findIn X.K (.ref C) n = some none ∧ H1 dd = some (.xd fs) ∧ fs.lookup n = some v ∧ Q v H1) := by
  refine ⟨fun pins st sl H Q I h => attr_of hb (thn (he.run pins st sl H _ I h) fun u s1 told => ?_)⟩
  obtain ⟨x, H1, I1, rx, a, C, dd, fs, v, rfl, k, T, no, hd, l, q⟩ := told
  obtain rfl : u = Value.ref a := rx
  obtain ⟨o, vs, ga, z, f⟩ := keptO_at I1.hok k
  obtain ⟨mA, ns, own⟩ := (show ObjOk X.prog X.w H1 s1.heap dd (.xd fs) from I1.hok dd _ hd)
  obtain ⟨od, ho, lk⟩ := lookIn_ns ns
  obtain ⟨w, hw, rw_⟩ := RelO.some_of (v := v) (o := mA n) (by rw [← l]; exact own n)
  have J : PySem.W.InstAt s1.heap a o C (some od) := ⟨ga, z.1, by unfold PySem.W.notCls; rw [f] <;> rfl, by rw [z.2]; exact ho⟩
  exact HandSPX.exc_get I1.kIn J T.ga T.gg T.exC (PySem.W.findObj_own T.hdC no rfl (by rw [lk, hw])) (handed_of rw_) ⟨v, H1, I1.tok _, rw_, q⟩
end
end MT
/-! errors of two parts; what stays but for tables; a draw of a text's sign -/
namespace MT
open PySem L2 LamX
/-- an error's own __init__ that keeps two parts -/
def spInit2 (K : PySem.W.Frag) (f g : Str) : Sp := fun vs H Q _ => ∃ (a C : Addr) (p q : V), vs = [.ref a, p, q] ∧ OexC K C ∧ PySem.W.findIn K (.ref C) f = some none ∧ PySem.W.findIn K (.ref C) g = some none ∧ H a = some (exo a C none) ∧
  ∀ dx, H dx = none → dx ≠ a → Q .non (upd (upd (upd H dx (exd dx [(f, p)])) a (exo a C (some dx))) dx (exd dx [(g, q), (f, p)]))
structure ErrC2 (K : PySem.W.Frag) (mg : Str → Option Value) (x : Str) (C fI : Addr) (f g : Str) : Prop where
  one : ErrC K mg x C fI f
  noG : PySem.W.findIn K (.ref C) g = some none
def tMkE2 (C : Addr) (f g : Str) (ta : TA) : L2.St → Hp → XK → Prop := fun σ H Q => ta σ H fun vs H1 => ∃ p q, vs = [p, q] ∧ ∀ d H2, New H1 H2 d (.xd [(g, q), (f, p)]) → Q (.ref C) (some d) H2
theorem mk_new2 {H : Hp} {a dx C : Addr} {f g : Str} {p q : V} (n : H a = none) (nx : H dx = none) (ne : dx ≠ a) :
    New H (upd (del (upd (upd (upd (upd H a (exo a C none)) dx (exd dx [(f, p)])) a (exo a C (some dx))) dx (exd dx [(g, q), (f, p)])) a) dx (.xd [(g, q), (f, p)])) dx (.xd [(g, q), (f, p)]) := by
  refine ⟨fun c o e => ?_, upd_same, nx⟩
  have h1 : c ≠ a := ne_of_none e n
  have h2 : c ≠ dx := ne_of_none e nx
  rw [upd_ne h2, del_ne h1, upd_ne h2, upd_ne h1, upd_ne h2, upd_ne h1]
  exact e
section
variable {X : Cx} {x f g : Str} {C fI : Addr} {k : Nat} {fd : FuncData} {e : Expr} {es : List Expr} {ta : TA} {p pos : Pos}
theorem pmk_err2 {CX : CXT} (T : ErrC2 X.K X.mg x C fI f g) (F : FnOk X.prog X.w X.K X.mg X.base CX k fI fd ["self", f, g] (spInit2 X.K f g)) (hr : Room (k + 1) X.A) (hb : Binds X.K fd ["self", f, g] []) (hx : Passes CX X (fun _ _ _ => False)) (hg : Gl X x) (ha : PA X (e :: es) ta)
    (hdb : (x == ("__debug__" : Str)) = false := by decide) (he : starEach (e :: es) X.env = (false, eval e X.env) :: starEach es X.env := by rfl) (hpl : (backTo pos (starEach es X.env)).any (·.1) = false := by rfl) :
    PMk X (.Call (.Name x p) (e :: es) [] pos) (tMkE2 C f g ta) := by
  intro pins s σ H Q I h
  refine pmk_oex T.one.oex T.one.iC T.one.tI F hr hb .nil hx hg T.one.gC (PA.cl ha) hdb he hpl pins s σ H Q I ⟨_, fun vs H1 z => ?_, h⟩
  obtain ⟨y, v, rfl, q⟩ := z
  refine ⟨by show 2 ≤ 1000; decide, fun a na => ⟨a, C, y, v, rfl, T.one.oex, T.one.noF, T.noG, upd_same, fun dx nx ne => ?_⟩⟩
  rw [upd_ne ne] at nx
  exact ⟨rfl, dx, [(g, v), (f, y)], by rw [upd_ne (Ne.symm ne), upd_same], upd_same, nx, q dx _ (mk_new2 na nx ne)⟩
end
/-! ### all but the tables stays -/
/-- all but what M names, and the tables, stays -/
def Fx (M : Addr → Prop) (H H' : Hp) : Prop := ∀ c o, ¬ M c → H c = some o → (∀ ps, o ≠ .tbl ps) → H' c = some o
theorem Fx.refl {M : Addr → Prop} {H : Hp} : Fx M H H := fun _ _ _ h _ => h
theorem Fx.trans {M : Addr → Prop} {H H1 H2 : Hp} (a : Fx M H H1) (b : Fx M H1 H2) : Fx M H H2 := fun c o n h t => b c o n (a c o n h t) t
theorem fx_frm {M : Addr → Prop} {H H' : Hp} (a : Frm M H H') : Fx M H H' := fun c o n h _ => a c o n h
theorem fx_same {M : Addr → Prop} {H H' : Hp} (a : Same H H') : Fx M H H' := fun c o _ h _ => a c o h
theorem fx_ext {M : Addr → Prop} {H H' : Hp} (a : ExtN H H') : Fx M H H' := fun c o _ h t => a c o h t
theorem Fx.seq {M : Addr → Prop} {K : PySem.W.Frag} {H H' : Hp} {a : Addr} {xs : List V} (e : Fx M H H') (n : ¬ M a) (h : SqL K H a xs) : SqL K H' a xs := by
  rcases h with (h | ⟨o, h⟩) | h
  · exact .inl (.inl (e _ _ n h fun _ z => by cases z))
  · exact .inl (.inr ⟨o, e _ _ n h fun _ z => by cases z⟩)
  · exact .inr h
theorem Fx.seqT {M : Addr → Prop} {K : PySem.W.Frag} {H H' : Hp} {a : Addr} {xs : List V} (e : Fx M H H') (n : ¬ M a) (h : SqT K H a xs) : SqT K H' a xs := by
  rcases h with (h | ⟨o, h⟩) | h
  · exact .inl (.inl (e _ _ n h fun _ z => by cases z))
  · exact .inl (.inr ⟨o, e _ _ n h fun _ z => by cases z⟩)
  · exact .inr h
section
variable {K : PySem.W.Frag} {M : Addr → Prop} {H H' : Hp}
mutual
theorem Dv.fx (F : Fx M H H') : ∀ (d : PyData) (v : V), Dv K M H v d → Dv K M H' v d
  | .none, _, h => by cases h; exact .non
  | .bool b, _, h => by cases h; exact .bl b
  | .int i, _, h => by cases h; exact .int i
  | .str x, _, h => by cases h; exact .str x
  | .list ds, _, h => by
    cases h with
    | lst n s a => exact .lst n (F.seq n s) (DvAll.fx F ds _ a)
  | .tuple ds, _, h => by
    cases h with
    | tup n s a => exact .tup n (F.seqT n s) (DvAll.fx F ds _ a)
  | .dict _, _, h => by
    cases h with
    | dct n s => exact .dct n (F _ _ n s fun _ z => by cases z)
theorem DvAll.fx (F : Fx M H H') : ∀ (ds : List PyData) (vs : List V), DvAll K M H vs ds → DvAll K M H' vs ds
  | [], _, h => by cases h; exact .nil
  | d :: ds, _, h => by
    cases h with
    | cons a b => exact .cons (Dv.fx F d _ a) (DvAll.fx F ds _ b)
end
theorem Dv.fm {d : PyData} {v : V} (h : Dv K M H v d) (F : Fx M H H') : Dv K M H' v d := Dv.fx F d v h
theorem DvAll.fm {ds : List PyData} {vs : List V} (h : DvAll K M H vs ds) (F : Fx M H H') : DvAll K M H' vs ds := DvAll.fx F ds vs h
end
theorem Sx.ext {a b : Addr} {cs : List Int} {n : Nat} {H H' : Hp} (S : Sx a b cs n H) (e : ExtN H H') : Sx a b cs n H' := by
  obtain ⟨t, r, S, h⟩ := S
  exact ⟨t, r, ⟨e _ _ S.ha (fun _ z => by cases z), e _ _ S.hb (fun _ z => by cases z), S.ht, S.hr⟩, h⟩
theorem lst_tbl {xs : List V} {ps : Array Value} : HO.lst xs ≠ .tbl ps := fun z => by cases z
/-- the tables stay where a list is written -/
theorem tabs_frm' {TS : List (Addr × Str)} {a : Addr} {xs : List V} {H H' : Hp} (t : Tabs TS H) (F : Frm (· = a) H H') (ha : H a = some (.lst xs)) : Tabs TS H' := fun p hp => by
  obtain ⟨ps, h1, h2, h3⟩ := t p hp
  refine ⟨ps, F _ _ (fun z => ?_) h1, h2, fun pos cv hc => ?_⟩
  · rw [z, ha] at h1
    cases h1
  · obtain ⟨c, e1, e2⟩ := h3 pos cv hc
    refine ⟨c, e1, F _ _ (fun z => ?_) e2⟩
    rw [z, ha] at e2
    cases Option.some.inj e2
theorem tabs_draw {TS : List (Addr × Str)} {a b : Addr} {cs : List Int} {n : Nat} {H H' : Hp} (t : Tabs TS H) (F : Frm (· = a) H H') (S : Sx a b cs n H) : Tabs TS H' := by
  obtain ⟨_, _, S, _⟩ := S
  exact tabs_frm' t F S.ha
/-! ### one of a list, or of a text's signs -/
def spPickA (K : PySem.W.Frag) : Sp := fun vs H Q E => spPick K vs H Q E ∨ ∃ (a b : Addr) (cs : List Int) (n : Nat) (z : Str), vs = [.ref a, .str z] ∧ Sx a b cs n H ∧ n ≤ 1000000 ∧ 0 < z.length ∧ z.length ≤ 1000 ∧
  ∀ H' c, Frm (· = a) H H' → Sx a b cs (n + 1) H' → c ∈ z.cps.toList → Q (.str ⟨#[c]⟩) H'
theorem ix_or {X : Cx} {r1 r2 : V → V → Hp → VK → Prop} (h1 : IxR X r1) (h2 : IxR X r2) : IxR X (fun x y H Q => r1 x y H Q ∨ r2 x y H Q) := by
  intro va sc pins s σ H x y v u Q I rx ry h e
  rcases h with h | h
  · exact h1 va sc pins s σ H x y v u Q I rx ry h e
  · exact h2 va sc pins s σ H x y v u Q I rx ry h e
theorem call_or {X : Cx} {f : Value} {r1 r2 : List V → Hp → VK → Prop} (h1 : CallR X f r1) (h2 : CallR X f r2) : CallR X f (fun xs H Q => r1 xs H Q ∨ r2 xs H Q) := by
  intro pins s σ H xs us Q I r h
  rcases h with h | h
  · exact h1 pins s σ H xs us Q I r h
  · exact h2 pins s σ H xs us Q I r h
theorem sign_some {z : Str} {d : Int} (h0 : 0 ≤ d) (h1 : d < (z.length : Int)) : ∃ c, c ∈ z.cps.toList ∧ atI z.cps.toList d = some c := by
  obtain ⟨j, rfl⟩ : ∃ j : Nat, d = j := ⟨_, (Int.toNat_of_nonneg h0).symm⟩
  have hj : j < z.cps.toList.length := by
    have : z.length = z.cps.toList.length := TL.len_tl z
    omega
  exact ⟨_, List.getElem_mem hj, atI_nat (List.getElem?_eq_getElem hj)⟩
end MT
/-! a law's end, with any number of tables of code objects -/
namespace MT
open PySem PySem.Spec PyProof.Rows L2
def startHs (K : PySem.W.Frag) (Ps : List Addr) (a : Addr) (vs : List Value) (ns : List Int) : Hp := fun b =>
  if b ∈ Ps then some (.tbl #[]) else if b = a ∧ (K.lookup a).isNone = true then some (.frz (scriptO vs) (.lst (ns.map V.int))) else none
section
variable {K : PySem.W.Frag} {Ps : List Addr} {a b : Addr} {vs : List Value} {ns : List Int}
theorem startHs_tab (h : b ∈ Ps) : startHs K Ps a vs ns b = some (.tbl #[]) := if_pos h
theorem startHs_cases {u : HO} (h : startHs K Ps a vs ns b = some u) : (b ∈ Ps ∧ u = .tbl #[]) ∨ (b = a ∧ K.lookup a = none ∧ u = .frz (scriptO vs) (.lst (ns.map V.int))) := by
  unfold startHs at h
  split at h
  · rename_i e
    exact .inl ⟨e, (Option.some.inj h).symm⟩
  · split at h
    · rename_i e
      exact .inr ⟨e.1, by simpa using e.2, (Option.some.inj h).symm⟩
    · cases h
theorem startHs_none (h1 : b ∉ Ps) (h2 : b = a → K.lookup a ≠ none) : startHs K Ps a vs ns b = none := by
  cases e : startHs K Ps a vs ns b with
  | none => rfl
  | some u =>
    rcases startHs_cases e with ⟨w, _⟩ | ⟨w, n, _⟩
    · exact absurd w h1
    · exact absurd n (h2 w)
end
theorem runGs {P : Program} {w : World} {K : PySem.W.Frag} {mg mb : Str → Option Value} {k : Nat} {fa a : Addr} {cp : List (Addr × Addr)} {fd : FuncData} {x : Str} {sp : Sp} {st : Shared} {vs : List Value} {ns : List Int} (inK : K.In st.heap) (glob : st.heap.Ns mainGlobals mg)
    (blt : st.heap.Ns builtinsNs mb) (boot : ∀ x : Str, x ≠ "__name__" → mb x = bootBuiltins x) (lim : st.heap.NoLimit) (gens : st.gens = #[]) (tab : ∀ q ∈ cp, st.heap.get? q.2 = some { cls := .none, data := .fields #[] }) (noK : ∀ q ∈ cp, K.lookup q.2 = none) (code : ∀ q ∈ cp, PySem.W.CodeHd st.heap q.1 q.2)
    (bmain : ∃ (bm : Addr) (ob : Obj), mg "__builtins__" = some (.ref bm) ∧ bm ≠ builtinsNs ∧ st.heap.get? bm = some ob ∧ ob.cls = .type "module" ∧ ob.dict = some builtinsNs ∧ ob.data = .plain) (obj : st.heap.get? a = some (scriptO vs)) (areI : IntsAre vs ns)
    (len : ns.length ≤ sizeLine) (room : Room k callerA) (prom : ∀ base : Heap, K.In base → base.Ns mainGlobals mg → (∀ q ∈ cp, LamX.TabB base mg q.1 q.2) → FnG P w K mg base CX0 k fa fd [x] sp) (bind : ∀ (s : Shared) (u : Value), BindsTo s fd ⟨[u], []⟩ [(x, u)])
    (told : ∀ H : Hp, (∀ q ∈ cp, H q.2 = some (.tbl #[])) → SqL K H a (ns.map V.int) → sp [.ref a] H (fun v _ => v = .bl true) fun _ _ _ => False) :
    codeAny (model P w) callerA (.call (.ref fa) ⟨[.ref a], []⟩) (fun r s' => r = .ok (.ret (.bool true)) ∧ OldK st.heap s'.heap ∧ s'.os = st.os ∧ AllBare s'.gens) st := by
  have rv := vals_ints areI
  have lv := areI.length
  obtain ⟨Ps, ePs⟩ : ∃ Ps, Ps = cp.map (·.2) := ⟨_, rfl⟩
  have inP : ∀ {b : Addr}, b ∈ Ps → ∃ q ∈ cp, q.2 = b := fun {b} h => by
    rw [ePs] at h
    exact List.mem_map.mp h
  have tabP : ∀ {b : Addr}, b ∈ Ps → st.heap.get? b = some { cls := .none, data := .fields #[] } := fun {b} h => by
    obtain ⟨q, hq, e⟩ := inP h
    rw [← e]
    exact tab q hq
  have ne : ∀ {b : Addr}, b ∈ Ps → b ≠ a := fun {b} h z => by
    have t := tabP h
    rw [z, obj] at t
    cases t
  obtain ⟨H, eH⟩ : ∃ H, H = startHs K Ps a vs ns := ⟨_, rfl⟩
  have HP : ∀ {b : Addr}, b ∈ Ps → H b = some (.tbl #[]) := fun {b} h => by rw [eH]; exact startHs_tab h
  -- what has other data is not tracked
  have free : ∀ {b : Addr} {o : Obj}, st.heap.get? b = some o → o ≠ { cls := .none, data := .fields #[] } → o ≠ scriptO vs → H b = none := fun {b o} e n1 n2 => by
    rw [eH]
    refine startHs_none (fun z => n1 ?_) fun z => absurd ?_ n2
    · have t := tabP z
      rw [t] at e
      exact (Option.some.inj e).symm
    · rw [z, obj] at e; exact (Option.some.inj e).symm
  have dicts : ∀ {b : Addr} {o : Obj} {es : Array DictEntry} {ep : Nat}, st.heap.get? b = some o → o.data = .dict es ep → H b = none := fun {b o es ep} e d =>
    free e (fun z => by rw [z] at d; cases d) (fun z => by rw [z] at d; cases d)
  have plain : ∀ {b : Addr} {o : Obj}, st.heap.get? b = some o → o.data = .plain → H b = none := fun {b o} e d =>
    free e (fun z => by rw [z] at d; cases d) (fun z => by rw [z] at d; cases d)
  have stay : ∀ {b : Addr} {m : Str → Option Value}, st.heap.Ns b m → (hidT st.heap H).Ns b m := fun {b m} ⟨o, es, ep, e, d, r⟩ => ⟨o, es, ep, hidT_get e (dicts e d), d, r⟩
  have inB : K.In (hidT st.heap H) := fun b o e => hidT_get (inK b o e) (by
    rw [eH]
    refine startHs_none (fun z => ?_) fun z q => ?_
    · obtain ⟨q, hq, eq⟩ := inP z
      have t := noK q hq
      rw [eq, e] at t
      cases t
    · rw [z, q] at e; cases e)
  have sq : SqL K H a (ns.map V.int) := by
    cases q : K.lookup a with
    | none => exact .inl (.inr ⟨scriptO vs, by rw [eH]; unfold startHs; rw [if_neg (fun z => ne z rfl), if_pos ⟨rfl, by rw [q]; rfl⟩]⟩)
    | some o =>
      have e := inK a o q
      rw [obj] at e
      cases e
      exact .inr ⟨_, vs.toArray, _, q, rfl, rfl, rfl, by rw [List.size_toArray, lv]; exact len, by simpa using rv⟩
  have ok : HOk P w H st.heap := fun b u e => by
    rw [eH] at e
    rcases startHs_cases e with ⟨hb, rfl⟩ | ⟨rfl, _, rfl⟩
    · exact tabP hb
    · exact ⟨obj, by rw [List.length_map]; exact len, vs, _, rv, obj⟩
  have tb : ∀ q ∈ cp, LamX.TabB (hidT st.heap H) mg q.1 q.2 := fun q hq => by
    have tq := tab q hq
    refine ⟨?_, ?_, fun z => ?_⟩
    · obtain ⟨o, us, file, tf, flags, tg, inF, text, tt, g0, rest⟩ := code q hq
      refine ⟨o, us, file, tf, flags, tg, inF, text, tt, hidT_get g0 (free g0 (fun z => ?_) fun z => ?_), rest⟩
      · have := rest.1
        rw [z] at this
        cases this
      · have := rest.2.1
        rw [z] at this
        cases this
    · obtain ⟨bm, ob, w1, w2, w3, w4, w5, w6⟩ := bmain
      refine ⟨bm, ob, w1, w2, fun z => ?_, fun z => ?_, hidT_get w3 (plain w3 w6), w4, w5, w6⟩
      · obtain ⟨o, es, ep, e, d, _⟩ := glob
        rw [z, e] at w3
        cases w3
        rw [w6] at d
        cases d
      · rw [z, tq] at w3
        cases w3
        cases w6
    · obtain ⟨o, es, ep, e, d, _⟩ := glob
      rw [z, tq] at e
      cases e
      cases d
  have en : Env0 P w K mg (hidT st.heap H) callerA [] st H := ⟨rfl, ⟨inB, stay glob, ⟨mb, stay blt, boot⟩, let ⟨mc, z1, z2⟩ := lim; ⟨mc, stay z1, z2⟩⟩, fun b o e => of_hidT e, Nat.le_of_eq (hidT_size _ _), trivial, fun b z => absurd (show b ∈ ([] : List Addr) from z) (by simp), ok, .of_eq gens⟩
  refine codeAny_mono ((prom _ inB (stay glob) tb).run callerA [] st H ⟨[.ref a], []⟩ [.ref a] [.ref a] _ _ rfl room en (bind st _) (.cons rfl .nil) (told H (fun q hq => HP (by rw [ePs]; exact List.mem_map.mpr ⟨q, hq, rfl⟩)) sq)) fun r s' z => ?_
  cases r with
  | error e => exact (show False from z).elim
  | ok fl =>
    cases fl with
    | next => exact z.elim
    | brk => exact z.elim
    | cont => exact z.elim
    | ret u =>
      obtain ⟨v, H', so, bare, un, ok', ru, qv⟩ := z
      obtain rfl : v = .bl true := qv
      obtain rfl : u = Value.bool true := ru
      have grown : ∀ {b : Addr}, b ∈ Ps → ∃ more : Array Value, s'.heap.get? b = some { cls := .none, data := .fields (#[] ++ more) } := fun {b} h => by
        obtain ⟨more, tm⟩ := un.tbls b #[] (HP h)
        exact ⟨more, ok' b _ tm⟩
      have kept : ∀ b o, b ∉ Ps → st.heap.get? b = some o → s'.heap.get? b = some o := fun b o nb e => by
        cases q : H b with
        | none => exact un.keep b o e q (fun z => nomatch (show b ∈ ([] : List Addr) from z)) (by simp)
        | some u =>
          have q0 := q
          rw [eH] at q0
          rcases startHs_cases q0 with ⟨w1, _⟩ | ⟨_, _, rfl⟩
          · exact absurd w1 nb
          · have e1 := (ok b _ q).1
            have e2 := (ok' b _ (un.frzs b _ _ q)).1
            rw [e] at e1
            rw [e1]
            exact e2
      refine ⟨rfl, ⟨fun b o e => ?_, fun b o e => ?_⟩, so, bare⟩
      · by_cases nb : b ∈ Ps
        · have t := tabP nb
          rw [t] at e
          cases e
          obtain ⟨q, hq, eq⟩ := inP nb
          obtain ⟨more, g'⟩ := grown nb
          exact .inr (.inl ⟨by rw [← eq]; exact ((code q hq).tab (tab q hq)).isCodeTable, rfl, #[], more, rfl, g'⟩)
        · exact .inl (kept b o nb e)
      · by_cases nb : b ∈ Ps
        · obtain ⟨more, g'⟩ := grown nb
          exact ⟨_, g'⟩
        · exact ⟨o, kept b o nb e⟩
/-- what the law's end wants at the head's heap -/
def LawGs (l : PySem.W.OpenLaw) (w : World) (K : PySem.W.Frag) (k n : Nat) (x : Str) (mg : Str → Option Value) (fa : Addr) (h : Heap) : Prop :=
  ∃ (fd : FuncData) (sp : Sp) (cp : List (Addr × Addr)), (∀ q ∈ cp, h.get? q.2 = some { cls := .none, data := .fields #[] }) ∧ (∀ q ∈ cp, K.lookup q.2 = none) ∧ (∀ q ∈ cp, PySem.W.CodeHd h q.1 q.2) ∧ (∀ (s : Shared) (u : Value), BindsTo s fd ⟨[u], []⟩ [(x, u)]) ∧
    (∀ (H : Hp) (a : Addr) (ns : List Int), ns.length ≤ n → (∀ q ∈ cp, H q.2 = some (.tbl #[])) → SqL K H a (ns.map V.int) → sp [.ref a] H (fun v _ => v = .bl true) fun _ _ _ => False) ∧
    ∀ base : Heap, K.In base → base.Ns mainGlobals mg → (∀ q ∈ cp, LamX.TabB base mg q.1 q.2) → FnG l.prog w K mg base CX0 k fa fd [x] sp
theorem walkGs {l : PySem.W.OpenLaw} {n k : Nat} {q : Program} {loose : List Str} {XP : (Str → Option Value) → Heap → Prop} {YP : World → Heap → Prop} {d : DefRec} {K : Params → PySem.W.Frag} {x : Str} (hn : l.most = some n) (big : n ≤ sizeLine) (hdf : d.params.defaults = []) (room : Room k callerA)
    (inK : ∀ (w : World) (h : Heap), YP w h → (K w.params).In h) (F : ∀ (w : World) (mg : Str → Option Value) (fa : Addr) (h : Heap), YP w h → (K w.params).In h → h.Ns mainGlobals mg → mg d.name = some (.ref fa) → LawGs l w (K w.params) k n x mg fa h) :
    PySem.W.WalkO q loose XP YP l.row.toRowW d [] (fun f vs => PySem.call f vs) :=
  Att.attach_callB hn hdf fun w s0 s1 mg mb fa o pm cd doc a vs ns G Y _ _ _ gmg gobj gints glen _ gg => by
    have X := inK w _ Y
    obtain ⟨fd, sp, cp, w1, w2, w3, w4, w5, w6⟩ := F w mg fa _ Y X G.T.g gmg
    exact runGs X G.T.g G.T.b G.T.builtins G.T.nolimit gg w1 w2 w3 G.T.bmain gobj gints (Nat.le_trans glen big) room w6 w4 fun H h1 h2 => w5 H a ns glen h1 h2
end MT
/-! paths and their texts -/
namespace MT
open PySem L2 TL
def spotD (d : PyData) : Bool := match seqD d with
  | none => false
  | some ds => decide (ds.length ≤ 6) && ds.all nameD
theorem tl_slash : tl ("/" : Str) = [47] := by decide +kernel
theorem len_nil {z : Str} (h : z.length = 0) : z = "" := by
  refine ext_tl ?_
  rw [len_tl] at h
  rw [List.eq_nil_of_length_eq_zero h]
  decide +kernel
theorem name_len {z : Str} (h : nameD (.str z) = true) : 1 ≤ z.length ∧ z.length ≤ 12 := by
  have h : (decide (1 ≤ z.length) && decide (z.length ≤ 12) && z.cps.toList.all nameSign) = true := h
  simp only [Bool.and_eq_true, decide_eq_true_eq] at h
  exact h.1
theorem name_signs {z : Str} (h : nameD (.str z) = true) : (tl z).all nameSign = true := by
  have h : (decide (1 ≤ z.length) && decide (z.length ≤ 12) && z.cps.toList.all nameSign) = true := h
  rw [Bool.and_eq_true] at h
  exact h.2
theorem name_slash {z : Str} (h : nameD (.str z) = true) : 47 ∉ tl z := fun m => by
  have q := List.all_eq_true.mp (name_signs h) 47 m
  revert q
  decide
theorem name_mk {z : Str} (h1 : 1 ≤ z.length) (h2 : z.length ≤ 12) (h3 : (tl z).all nameSign = true) : nameD (.str z) = true := by
  rw [nameD_good h3, decide_eq_true h1, decide_eq_true h2]
  rfl
/-- the text of a path -/
def pathT (ns : List Str) : Str := ("/" : Str) ++ Txt.join "/" ns
theorem tl_pathT (ns : List Str) : tl (pathT ns) = 47 :: joinL [47] (ns.map tl) := by
  unfold pathT
  rw [tl_append, tl_slash, join_eq, tl_join, tl_slash]
  rfl
theorem split_back {ns : List Str} (h0 : ns ≠ []) (h : ∀ z ∈ ns, nameD (.str z) = true) : Txt.split (Txt.join "/" ns) "/" = ns :=
  split_join tl_slash (by decide +kernel) h0 fun z hz => name_slash (h z hz)
theorem cut_one (z : Str) : tl (cutS z (some 1) none) = (tl z).drop 1 := tl_cut_hi (i := 1) (by decide)
theorem cut_pathT (ns : List Str) : cutS (pathT ns) (some 1) none = Txt.join "/" ns := by
  refine ext_tl ?_
  rw [cut_one, tl_pathT, join_eq, tl_join, tl_slash]
  rfl
theorem cut_head (z : Str) : tl (cutS z none (some 1)) = (tl z).take 1 := tl_cut_lo (i := 1) (by decide)
theorem starts_iff (z : Str) : Txt.startswith z "/" = true ↔ cutS z none (some 1) = "/" := by
  have e : Txt.startswith z "/" = ((tl z).take 1 == [47]) := by
    have one : ("/" : Str).length = 1 := by decide +kernel
    have q : Txt.startswith z "/" = (decide (0 + ("/" : Str).length ≤ z.length) && ((tl z).drop 0).take ("/" : Str).length == tl ("/" : Str)) := by
      unfold Txt.startswith
      rw [StrLaws.subAt_eq]
    rw [q, one, tl_slash, List.drop_zero]
    cases h : tl z with
    | nil =>
      have w : (List.take 1 ([] : List Nat) == [47]) = false := rfl
      rw [w, Bool.and_false]
    | cons c r =>
      have hz : 0 + 1 ≤ z.length := by rw [len_tl, h, List.length_cons]; omega
      rw [decide_eq_true hz]
      rfl
  rw [e]
  constructor
  · intro h
    refine ext_tl ?_
    rw [cut_head, tl_slash]
    exact eq_of_beq h
  · intro h
    have q : tl (cutS z none (some 1)) = tl ("/" : Str) := by rw [h]
    rw [cut_head, tl_slash] at q
    rw [q]
    rfl
theorem pathT_starts (ns : List Str) : Txt.startswith (pathT ns) "/" = true := by
  refine (starts_iff _).mpr (ext_tl ?_)
  rw [cut_head, tl_pathT, tl_slash]
  rfl
theorem starts_mk {z : Str} (h : Txt.startswith z "/" = true) : z = ("/" : Str) ++ cutS z (some 1) none := by
  have q : tl (cutS z none (some 1)) = tl ("/" : Str) := by rw [(starts_iff z).mp h]
  rw [cut_head, tl_slash] at q
  refine ext_tl ?_
  rw [tl_append, cut_one, tl_slash, ← q]
  exact (List.take_append_drop 1 (tl z)).symm
theorem joinL_ne {S : List Nat} : ∀ {l : List (List Nat)}, l ≠ [] → (∀ p ∈ l, p ≠ []) → joinL S l ≠ []
  | [], h, _ => absurd rfl h
  | [p], _, h => h p (List.mem_singleton.mpr rfl)
  | p :: q :: r, _, h => by
    intro e
    have e : p ++ (S ++ joinL S (q :: r)) = [] := e
    exact h p List.mem_cons_self (List.append_eq_nil_iff.mp e).1
theorem name_ne {z : Str} (h : nameD (.str z) = true) : tl z ≠ [] := fun e => by
  have q := (name_len h).1
  rw [len_tl, e] at q
  exact absurd q (by decide)
theorem pathT_root {ns : List Str} (h : ∀ z ∈ ns, nameD (.str z) = true) : pathT ns = "/" ↔ ns = [] := by
  constructor
  · intro e
    cases ns with
    | nil => rfl
    | cons z r =>
      have q : tl (pathT (z :: r)) = tl ("/" : Str) := by rw [e]
      rw [tl_pathT, tl_slash] at q
      injection q with _ q
      refine absurd q (joinL_ne (by simp) fun p hp => ?_)
      obtain ⟨y, hy, rfl⟩ := List.mem_map.mp hp
      exact name_ne (h y hy)
  · rintro rfl
    refine ext_tl ?_
    rw [tl_pathT, tl_slash]
    rfl
/-- the path whose text this is, as the program reads it -/
def readP (x : Str) : Option (List Str) := if Txt.startswith x "/" = true then (if x = "/" then some [] else
  if spotD (.tuple ((Txt.split (cutS x (some 1) none) "/").map PyData.str)) = true then some (Txt.split (cutS x (some 1) none) "/") else none) else none
theorem spot_strs (ns : List Str) : spotD (.tuple (ns.map PyData.str)) = (decide (ns.length ≤ 6) && ns.all fun z => nameD (.str z)) := by
  show (decide ((ns.map PyData.str).length ≤ 6) && (ns.map PyData.str).all nameD) = _
  rw [List.length_map, List.all_map]
  rfl
theorem spot_good {ns : List Str} (h : spotD (.tuple (ns.map PyData.str)) = true) : ns.length ≤ 6 ∧ ∀ z ∈ ns, nameD (.str z) = true := by
  rw [spot_strs, Bool.and_eq_true, decide_eq_true_iff, List.all_eq_true] at h
  exact h
theorem spot_mk {ns : List Str} (h1 : ns.length ≤ 6) (h2 : ∀ z ∈ ns, nameD (.str z) = true) : spotD (.tuple (ns.map PyData.str)) = true := by
  rw [spot_strs, Bool.and_eq_true, decide_eq_true_iff, List.all_eq_true]
  exact ⟨h1, h2⟩
/-- a path's text is read back -/
theorem read_back {ns : List Str} (h1 : ns.length ≤ 6) (h2 : ∀ z ∈ ns, nameD (.str z) = true) : readP (pathT ns) = some ns := by
  unfold readP
  rw [if_pos (pathT_starts ns)]
  by_cases e : ns = []
  · rw [if_pos ((pathT_root h2).mpr e), e]
  · rw [if_neg (fun z => e ((pathT_root h2).mp z)), cut_pathT, split_back e h2, if_pos (spot_mk h1 h2)]
theorem read_text {x : Str} {ns : List Str} (h : readP x = some ns) : pathT ns = x ∧ ns.length ≤ 6 ∧ ∀ z ∈ ns, nameD (.str z) = true := by
  unfold readP at h
  split at h
  · rename_i hs
    split at h
    · rename_i e
      cases h
      exact ⟨by rw [e]; exact (pathT_root (by simp)).mpr rfl, Nat.zero_le _, by simp⟩
    · split at h
      · rename_i g
        cases h
        refine ⟨?_, spot_good g⟩
        unfold pathT
        rw [join_eq, StrLaws.join_split]
        exact (starts_mk hs).symm
      · cases h
  · cases h
theorem pathT_inj {ns ms : List Str} (h1 : ns.length ≤ 6) (h2 : ∀ z ∈ ns, nameD (.str z) = true) (g1 : ms.length ≤ 6) (g2 : ∀ z ∈ ms, nameD (.str z) = true) (e : pathT ns = pathT ms) : ns = ms := by
  have q := read_back h1 h2
  rw [e, read_back g1 g2] at q
  exact (Option.some.inj q).symm
/-! ### the law's own reading -/
def okSign (c : Nat) : Bool := decide (c = 47) || nameSign c
def badName (z : Str) : Bool := decide (z = "") || decide (12 < z.length)
def readL (x : Str) : Option (List Str) := if cutS x none (some 1) ≠ "/" then none else if x = "/" then some [] else
  if 6 < (Txt.split (cutS x (some 1) none) "/").length ∨ (Txt.split (cutS x (some 1) none) "/").any badName = true then none else
  if (tl x).all okSign = true then some (Txt.split (cutS x (some 1) none) "/") else none
theorem spl_free1 {s : Nat} : ∀ (l acc : List Nat), s ∉ acc → ∀ p ∈ spl [s] 0 acc l, s ∉ p
  | [], acc, h, p, hp => by
    rw [spl_nil] at hp
    rw [List.mem_singleton.mp hp]
    exact h
  | c :: r, acc, h, p, hp => by
    by_cases e : c = s
    · subst e
      have hit : pre [c] (c :: r) = true := by simp [pre]
      rw [spl_hit hit] at hp
      rcases List.mem_cons.mp hp with q | q
      · rw [q]; exact h
      · exact spl_free1 r [] (fun m => nomatch m) p q
    · rw [spl_miss (pre_of_head [] r e)] at hp
      refine spl_free1 r (acc ++ [c]) (fun m => ?_) p hp
      rcases List.mem_append.mp m with q | q
      · exact h q
      · exact e (List.mem_singleton.mp q).symm
theorem spl_all1 {s : Nat} {q : Nat → Bool} : ∀ (l acc : List Nat), (∀ c ∈ l, c = s ∨ q c = true) → (∀ c ∈ acc, q c = true) → ∀ p ∈ spl [s] 0 acc l, ∀ c ∈ p, q c = true
  | [], acc, _, h, p, hp => by
    rw [spl_nil] at hp
    rw [List.mem_singleton.mp hp]
    exact h
  | c :: r, acc, hl, h, p, hp => by
    have hr : ∀ c ∈ r, c = s ∨ q c = true := fun x hx => hl x (List.mem_cons_of_mem _ hx)
    by_cases e : c = s
    · subst e
      have hit : pre [c] (c :: r) = true := by simp [pre]
      rw [spl_hit hit] at hp
      rcases List.mem_cons.mp hp with w | w
      · rw [w]; exact h
      · exact spl_all1 r [] hr (fun _ m => nomatch m) p w
    · rw [spl_miss (pre_of_head [] r e)] at hp
      refine spl_all1 r (acc ++ [c]) hr (fun x m => ?_) p hp
      rcases List.mem_append.mp m with w | w
      · exact h x w
      · rw [List.mem_singleton.mp w]
        exact (hl c List.mem_cons_self).resolve_left e
theorem joinL_all {q : Nat → Bool} {s : Nat} (hs : q s = true) : ∀ {l : List (List Nat)}, (∀ p ∈ l, ∀ c ∈ p, q c = true) → ∀ c ∈ joinL [s] l, q c = true
  | [], _, c, m => absurd m (by show c ∉ ([] : List Nat); simp)
  | [p], h, c, m => h p (List.mem_singleton.mpr rfl) c m
  | (p :: r :: t), h, c, m => by
    have m : c ∈ p ++ ([s] ++ joinL [s] (r :: t)) := m
    rcases List.mem_append.mp m with w | w
    · exact h p List.mem_cons_self c w
    · rcases List.mem_append.mp w with w | w
      · rw [List.mem_singleton.mp w]; exact hs
      · exact joinL_all hs (fun z hz => h z (List.mem_cons_of_mem _ hz)) c w
theorem bad_name {z : Str} (h : badName z = false) : 1 ≤ z.length ∧ z.length ≤ 12 := by
  unfold badName at h
  rw [Bool.or_eq_false_iff, decide_eq_false_iff_not, decide_eq_false_iff_not] at h
  refine ⟨?_, by omega⟩
  rcases Nat.eq_zero_or_pos z.length with e | e
  · exact absurd (len_nil e) h.1
  · exact e
theorem name_bad {z : Str} (h : nameD (.str z) = true) : badName z = false := by
  have q := name_len h
  unfold badName
  rw [Bool.or_eq_false_iff, decide_eq_false_iff_not, decide_eq_false_iff_not]
  refine ⟨fun e => ?_, by omega⟩
  rw [e] at q
  exact absurd q.1 (by decide +kernel)
theorem split_tl (r : Str) : (Txt.split r "/").map tl = spl [47] 0 [] (tl r) := by
  have e := split_spl r "/" (by rw [tl_slash]; simp) (kind_ok (by decide +kernel))
  rw [tl_slash] at e
  exact e
theorem readL_eq (x : Str) : readL x = readP x := by
  unfold readL readP
  by_cases hs : Txt.startswith x "/" = true
  · rw [if_neg (not_not_intro ((starts_iff x).mp hs)), if_pos hs]
    by_cases hr : x = "/"
    · rw [if_pos hr, if_pos hr]
    · rw [if_neg hr, if_neg hr]
      have hx := starts_mk hs
      revert hx
      generalize cutS x (some 1) none = r
      intro hx
      have st := split_tl r
      by_cases g : spotD (.tuple ((Txt.split r "/").map PyData.str)) = true
      · obtain ⟨g1, g2⟩ := spot_good g
        rw [if_pos g, if_neg, if_pos]
        · rw [List.all_eq_true]
          intro c hc
          rw [hx, tl_append, tl_slash] at hc
          rcases List.mem_append.mp hc with m | m
          · rw [List.mem_singleton.mp m]; rfl
          · have e : tl r = joinL [47] ((Txt.split r "/").map tl) := by
              have q := StrLaws.join_split r "/"
              rw [← tl_slash, ← tl_join, q]
            rw [e] at m
            refine joinL_all (q := okSign) (by rfl) (fun p hp c hc => ?_) c m
            obtain ⟨z, hz, rfl⟩ := List.mem_map.mp hp
            unfold okSign
            rw [List.all_eq_true.mp (name_signs (g2 z hz)) c hc, Bool.or_true]
        · rintro (w | w)
          · omega
          · obtain ⟨z, hz, q⟩ := List.any_eq_true.mp w
            rw [name_bad (g2 z hz)] at q
            cases q
      · rw [if_neg g]
        split
        · rfl
        · rename_i nb
          split
          · rename_i al
            refine absurd (spot_mk (by omega) fun z hz => ?_) g
            have hb : badName z = false := by
              cases q : badName z with
              | false => rfl
              | true => exact absurd (.inr (List.any_eq_true.mpr ⟨z, hz, q⟩)) nb
            obtain ⟨b1, b2⟩ := bad_name hb
            refine name_mk b1 b2 (List.all_eq_true.mpr fun c hc => ?_)
            have mp : tl z ∈ spl [47] 0 [] (tl r) := by rw [← st]; exact List.mem_map.mpr ⟨z, hz, rfl⟩
            refine spl_all1 (q := nameSign) (tl r) [] (fun c hc => ?_) (fun _ m => nomatch m) _ mp c hc
            have q : okSign c = true := List.all_eq_true.mp al c (by rw [hx, tl_append]; exact List.mem_append_right _ hc)
            unfold okSign at q
            rw [Bool.or_eq_true, decide_eq_true_iff] at q
            exact q
          · rfl
  · have e : cutS x none (some 1) ≠ "/" := fun z => hs ((starts_iff x).mpr z)
    rw [if_pos e, if_neg hs]
end MT
/-! signs of a text that are kept; lists unlike the empty one -/
namespace MT
open PySem L2
section
variable {K : PySem.W.Frag} {M : Addr → Prop} {H : Hp}
theorem lc_strK {z : Str} {g : TG} {tt : TT} {te : TE} {vs : List Nat} {σ : L2.St} {H1 : Hp} {D : Addr} {Qd : Hp → Prop} (p : Nat → Bool)
    (hD : H1 D = none) (hlen : z.length ≤ 10000000)
    (hs : ∀ c H, c ∈ z.cps.toList → Same H1 H → ∀ (Ky : VK) (Kn : Hp → Prop), (p c = true → ∀ H', Same H H' → Ky (.str ⟨#[c]⟩) H') → (p c = false → ∀ H', Same H H' → Kn H') → LcStep g tt te vs σ (.str ⟨#[c]⟩) H Ky Kn)
    (hd : ∀ H, Same H1 H → H D = some (.lst ((z.cps.toList.filter p).map fun c => V.str ⟨#[c]⟩)) → Qd H) : LcW (Its z) g tt te vs σ H1 D Qd := by
  have hz : z.length = z.cps.toList.length := by simp [Str.length]
  have hz2 : z.cps.size = z.cps.toList.length := by simp
  have few : ∀ i, ((z.cps.toList.take i).filter p).length ≤ z.cps.toList.length := fun i => Nat.le_trans (List.length_filter_le _ _) (by rw [List.length_take]; exact Nat.min_le_right _ _)
  refine ⟨fun i m H => m = z.cps.toList.length - i ∧ i ≤ z.cps.toList.length ∧ Same H1 H ∧ H D = some (.lst (((z.cps.toList.take i).filter p).map fun c => V.str ⟨#[c]⟩)), ⟨_, by omega, Nat.zero_le _, same_new hD, by rw [upd_same]; rfl⟩, ?_⟩
  rintro i m H ⟨rfl, hi, s, hDa⟩
  by_cases hlt : i < z.cps.toList.length
  · refine .inr ⟨by show i < z.cps.size; omega, fun H' => i + 1 ≤ z.cps.toList.length ∧ Same H1 H' ∧ H' D = some (.lst (((z.cps.toList.take (i + 1)).filter p).map fun c => V.str ⟨#[c]⟩)), fun H' q => ⟨_, by omega, rfl, q⟩, ?_⟩
    rintro v H' ⟨rfl, c, hc, rfl⟩
    have hc2 : z.cps.toList[i]? = some c := by simpa using hc
    have e := take_filter_next (p := p) hc2
    refine hs c _ (List.mem_of_getElem? hc2) s _ _ (fun hp H' s' => ?_) (fun hp H' s' => ?_)
    · refine ⟨_, s' _ _ hDa, ?_, hlt, ?_, ?_⟩
      · have := few i
        rw [sizeLine_eq, List.length_map]
        omega
      · exact same_frm ((frm_same (s.trans s')).updD hD)
      · rw [upd_same, e, if_pos hp, List.map_append]
        rfl
    · refine ⟨hlt, s.trans s', ?_⟩
      rw [e, if_neg (by rw [hp]; exact Bool.false_ne_true), List.append_nil]
      exact s' _ _ hDa
  · have e : i = z.cps.toList.length := by omega
    subst e
    refine .inl ⟨by show z.cps.size ≤ _; omega, hd H s ?_⟩
    rw [hDa, List.take_of_length_le (Nat.le_refl _)]
theorem ne_nil' {p l : Addr} {ys : List V} {ds : List PyData} {Q : VK} {b : Bool} (hp : SqL K H p ys) (hd : DvAll K M H ys ds) (t : ds.all tame = true) (hl : SqL K H l []) (e : (!ds.isEmpty) = b) (q : Q (.bl b) H) : rNeD K (.ref p) (.ref l) H Q :=
  ⟨.list ds, .list [], .lst hp (hd.dpAll t), .lst hl .nil, shaped_list t, shaped_ints [], by subst e; cases ds <;> exact q⟩
theorem tame_strs {ns : List Str} (h : ∀ z ∈ ns, PyData.strOk z = true) : (ns.map PyData.str).all tame = true := by
  rw [List.all_map, List.all_eq_true]
  intro n hn
  show tame (.str n) = true
  simp [tame, PyData.canLay0, PyData.depth, h n hn]
theorem dva_strs : ∀ ns : List Str, DvAll K M H (ns.map V.str) (ns.map PyData.str)
  | [] => .nil
  | z :: ns => .cons (.str z) (dva_strs ns)
theorem dva_signs (l : List Nat) : DvAll K M H (l.map fun c => V.str ⟨#[c]⟩) ((l.map fun c => (⟨#[c]⟩ : Str)).map PyData.str) := by
  have := dva_strs (K := K) (M := M) (H := H) (l.map fun c => (⟨#[c]⟩ : Str))
  rw [List.map_map] at this
  exact this
theorem filter_any {α : Type} (p : α → Bool) (l : List α) : (!(l.filter p).isEmpty) = l.any p := by
  induction l with
  | nil => rfl
  | cons x r ih =>
    rw [List.any_cons, ← ih]
    cases e : p x with
    | true => rw [List.filter_cons_of_pos e]; rfl
    | false => rw [List.filter_cons_of_neg (by rw [e]; exact Bool.false_ne_true)]; rfl
end
end MT
/-! a def that makes lambdas, called while no repr is under way; repr of names -/
namespace MT
open PySem L2
theorem fnG_of {P : Program} {w : World} {K : PySem.W.Frag} {mg : Str → Option Value} {base : Heap} {k : Nat} {f : Addr} {name qual : Str} {params : Arguments} {body : List Stmt} {scope : Scope} {dV kV doc pm cdv ct oc : Value} {an od : Option Addr}
    {osl : Array (Option Value)} {N ps : List Str} {sp : Sp} (lk : K.lookup f = some ⟨oc, od, .func (PySem.W.fnOf name qual params body scope dV kV doc pm an cdv ct), osl⟩) (hcd : PySem.W.codeIn K cdv qual = true) (S : FnScope N ps scope) (len : ∀ vs H Q E, sp vs H Q E → vs.length = ps.length)
    (inner : ∀ (A : Around) (outer : List Env) (s : Shared) (H : Hp) (vs : List V) (Q : VK) (E : XK), (A.deeper (PyProof.Rows.envOfC qual scope s.heap.objs.size f cdv)).guards = some [] → Room k (A.deeper (PyProof.Rows.envOfC qual scope s.heap.objs.size f cdv)) → sp vs H Q E →
      ∃ t, PSs (cxOf CX0 P w K mg base N qual scope f cdv A outer s H E).nox body t ∧ t { nx := fun _ H' => Q .non H', rt := Q } (L2.start N vs) H) :
    FnG P w K mg base CX0 (k + 1) f (PySem.W.fnOf name qual params body scope dV kV doc pm an cdv ct) ps sp :=
  ⟨len, fun A outer s H args us vs Q E hg hr e0 hb r h => LamX.run_ofS lk hcd S hr e0 hb r (len _ _ _ _ h) fun hr' => by
    obtain ⟨t, w1, w2⟩ := inner A outer s H vs Q E hg hr' h
    exact ⟨t, w1.nox, w2⟩⟩
theorem iteD {p A B : Prop} [Decidable p] (h : p) (a : A) : if decide p = true then A else B := by
  rw [if_pos (decide_eq_true h)]
  exact a
theorem weight_strs : ∀ {ns : List Str} {n : Nat}, (∀ z ∈ ns, z.length ≤ n) → PyData.weightAll (ns.map PyData.str) ≤ ns.length * (n + 1)
  | [], _, _ => by simp [PyData.weightAll]
  | z :: r, n, h => by
    have ih := weight_strs (ns := r) (n := n) fun y hy => h y (List.mem_cons_of_mem _ hy)
    have q := h z List.mem_cons_self
    rw [List.map_cons, PyData.weightAll, PyData.weight, List.length_cons, Nat.add_mul]
    have : z.cps.size = z.length := rfl
    omega
theorem leaves_strs : ∀ {ns : List Str}, (∀ z ∈ ns, ∀ c ∈ TL.tl z, c < 1114112) → PyData.leavesShortAll 8 (ns.map PyData.str) = true
  | [], _ => by simp [PyData.leavesShortAll]
  | z :: r, h => by
    have ih := leaves_strs (ns := r) fun y hy => h y (List.mem_cons_of_mem _ hy)
    have q := h z List.mem_cons_self
    rw [List.map_cons, PyData.leavesShortAll, ih, Bool.and_true, PyData.leavesShort, List.all_eq_true]
    exact fun c hc => decide_eq_true (Nat.lt_of_lt_of_le (q c hc) (by decide))
theorem showable_strs : ∀ ns : List Str, PyData.showableAll (ns.map PyData.str) = true
  | [] => by simp [PyData.showableAll]
  | z :: r => by rw [List.map_cons, PyData.showableAll, showable_strs r]; simp [PyData.showable]
theorem name_chars {z : Str} (h : nameD (.str z) = true) : ∀ c ∈ TL.tl z, c < 1114112 := signs_lt (name_signs h)
theorem name_ok {z : Str} (h : nameD (.str z) = true) : PyData.strOk z = true := strOk_of (name_chars h)
theorem dp_strs {K : PySem.W.Frag} {H : Hp} : ∀ ns : List Str, DpAll K H (ns.map V.str) (ns.map PyData.str)
  | [] => .nil
  | z :: ns => .cons (.str z) (dp_strs ns)
/-- a tuple of names can be shown -/
theorem rp_names {K : PySem.W.Frag} {H : Hp} {p : Addr} {ns : List Str} (hp : SqT K H p (ns.map V.str)) (hb : ∀ z ∈ ns, nameD (.str z) = true) (hl : ns.length ≤ 6) :
    Dp K H (.ref p) (.tuple (ns.map PyData.str)) ∧ (PyData.tuple (ns.map PyData.str)).showable = true ∧ (PyData.tuple (ns.map PyData.str)).hasDict = false ∧ (PyData.tuple (ns.map PyData.str)).depth ≤ 64 ∧ (PyData.tuple (ns.map PyData.str)).shown.length ≤ sizeLine := by
  obtain ⟨c1, c2⟩ := tame_seq (tame_strs fun z hz => name_ok (hb z hz))
  refine ⟨.tup hp (dp_strs ns), ?_, PyData.hasDict_of_canLay _ (by simp only [PyData.canLay0, c1]), by simp only [PyData.depth]; omega, PyData.shown_fits (B := 8) (by decide) (by decide) ?_ ?_⟩
  · simp only [PyData.showable]
    exact showable_strs ns
  · rw [PyData.leavesShort]
    exact leaves_strs fun z hz => name_chars (hb z hz)
  · rw [PyData.weight]
    have q := weight_strs (ns := ns) (n := 12) fun z hz => (name_len (hb z hz)).2
    have : ns.length * (12 + 1) ≤ 6 * 13 := Nat.mul_le_mul hl (Nat.le_refl _)
    omega
/-- .. by a text that is not looked into -/
theorem rp_namesA : ∃ S : List Str → Str, ∀ {K : PySem.W.Frag} {H : Hp} {p : Addr} {ns : List Str}, SqT K H p (ns.map V.str) → (∀ z ∈ ns, nameD (.str z) = true) → ns.length ≤ 6 →
    ∃ d : PyData, Dp K H (.ref p) d ∧ d.showable = true ∧ d.hasDict = false ∧ d.depth ≤ 64 ∧ d.shown.length ≤ sizeLine ∧ d.shown = S ns :=
  ⟨fun ns => (PyData.tuple (ns.map PyData.str)).shown, fun hp hb hl => by
    obtain ⟨y1, y2, y3, y4, y5⟩ := rp_names hp hb hl
    exact ⟨_, y1, y2, y3, y4, y5, rfl⟩⟩
/-- a text's repr, by a text that is not looked into -/
theorem rp_textA : ∃ S : Str → Str, ∀ {K : PySem.W.Frag} {H : Hp} {z : Str}, (∀ c ∈ TL.tl z, c < 1114112) → z.length ≤ 100000 →
    ∃ d : PyData, Dp K H (.str z) d ∧ d.showable = true ∧ d.hasDict = false ∧ d.depth ≤ 64 ∧ d.shown.length ≤ sizeLine ∧ d.shown = S z :=
  ⟨fun z => (PyData.str z).shown, fun {K H z} hc hl => by
    refine ⟨.str z, .str z, by simp [PyData.showable], by simp [PyData.hasDict], by simp [PyData.depth], PyData.shown_fits (B := 8) (by decide) (by decide) ?_ ?_, rfl⟩
    · rw [PyData.leavesShort, List.all_eq_true]
      exact fun c h => decide_eq_true (Nat.lt_of_lt_of_le (hc c h) (by decide))
    · rw [PyData.weight]
      have : z.cps.size = z.length := rfl
      omega⟩
end MT
set_option maxHeartbeats 4000000
namespace K21
open PySem L2 MT RZ


local macro_rules | `(tactic| walk_at "sm") => `(tactic| first | exact Same.refl _ | assumption | exact New.same (by assumption) | exact Same.trans (by assumption) (by walk_at "sm") | exact Same.trans (New.same (by assumption)) (by walk_at "sm"))
local macro_rules | `(tactic| walk_at "fr") => `(tactic| first | exact Frm.refl | assumption | exact frm_same (New.same (by assumption)) | exact frm_same (by assumption) | exact Frm.trans (by assumption) (by walk_at "fr") | exact Frm.trans (frm_same (New.same (by assumption))) (by walk_at "fr") | exact Frm.trans (frm_same (by assumption)) (by walk_at "fr"))
local macro_rules | `(tactic| walk_at "dv") => `(tactic| first | exact Dv.int _ | exact Dv.bl _ | exact Dv.non | exact Dv.str _ | assumption | exact Dv.same (by assumption) (by walk_at "sm") | exact Dv.mono (by assumption) (by walk_at "fr"))
local macro_rules | `(tactic| walk_at "dvs") => `(tactic| first | exact DvAll.nil | exact DvAll.ints _ | (refine DvAll.cons ?_ ?_; walk_at "dv"; walk_at "dvs"))


theorem lc_boolsM {K : PySem.W.Frag} {M : Addr → Prop} {a : Addr} {xs : List V} {ds : List PyData} {J : It} {g : TG} {te : TE} {vs : List Nat} {σ : L2.St} {H1 : Hp} {D : Addr} {Qd : Hp → Prop} (p : PyData → Bool)
    (hD : H1 D = none) (hJ : SeqIt K a xs H1 J) (hda : DvAll K M H1 xs ds) (hlen : xs.length ≤ 10000000)
    (hs : ∀ x d H, d ∈ ds → Dv K M H x d → Same H1 H → ∀ Ky : VK, (∀ H', Same H H' → Ky (.bl (p d)) H') → g x (wipe σ vs) H fun σ2 H2 => wipe σ2 vs = wipe σ vs ∧ te σ2 H2 Ky)
    (hd : ∀ H, Same H1 H → H D = some (.lst ((ds.map p).map V.bl)) → Qd H) : LcW J g tYes te vs σ H1 D Qd := by
  refine lcg_seq (fun _ => False) (fun _ _ => True) (fun i acc _ => acc = ((ds.take i).map p).map V.bl) hD hJ (fun z => z) hlen (fun _ _ _ _ z => z) (fun _ _ _ _ _ z => z) trivial rfl ?_ ?_
  · intro i x acc H hx F hDa _ hA Ky Kn ky kn
    obtain ⟨d, hd1, hd2⟩ := hda.get hx
    have F2 := same_frm F
    refine hs x d H (List.mem_of_getElem? hd1) (hd2.same F2) F2 _ fun H' F' => ?_
    refine ky _ H' (F.trans (frm_same F')) (F' _ _ hDa) trivial ?_
    rw [hA, take_next hd1, List.map_append, List.map_append]
    rfl
  · intro H acc F hDa _ hA _
    refine hd H (same_frm F) ?_
    rw [hDa, hA, List.take_of_length_le (by rw [hda.length]; exact Nat.le_refl _)]
/-- its texts are not too long -/
def shortD (d : PyData) : Prop := ∀ ds, seqD d = some ds → ∀ x, PyData.str x ∈ ds → x.length ≤ 1000000
def spSpot (K : PySem.W.Frag) : Sp := fun vs H Q _ => ∃ (M : Addr → Prop) (v : V) (d : PyData), vs = [v] ∧ Dv K M H v d ∧ shortD d ∧ ∀ H', Same H H' → Q (.bl (spotD d)) H'
theorem nt_true {b : Bool} (h : (!b) = true) : b = false := by cases b with | true => cases h | false => rfl
theorem nt_false {b : Bool} (h : ¬ (!b) = true) : b = true := by cases b with | true => rfl | false => exact absurd rfl h
theorem bfalse {b : Bool} (h : ¬ b = true) : b = false := by cases b with | true => exact absurd rfl h | false => rfl
theorem spot_none {d : PyData} (h : seqD d = none) : spotD d = false := by unfold spotD; rw [h]
theorem spot_some {d : PyData} {ds : List PyData} (h : seqD d = some ds) : spotD d = (decide (ds.length ≤ 6) && ds.all nameD) := by unfold spotD; rw [h]
theorem names_of : ∀ {ds : List PyData}, ds.all nameD = true → ∃ ns : List Str, ds = ns.map PyData.str ∧ ∀ z ∈ ns, nameD (.str z) = true
  | [], _ => ⟨[], rfl, by simp⟩
  | d :: r, h => by
    rw [List.all_cons, Bool.and_eq_true] at h
    obtain ⟨ns, rfl, q⟩ := names_of h.2
    cases d with
    | str x =>
      refine ⟨x :: ns, rfl, fun z hz => ?_⟩
      rcases List.mem_cons.mp hz with e | e
      · rw [e]; exact h.1
      · exact q z e
    | _ => exact absurd h.1 (by simp [nameD])
theorem spot_of {d : PyData} (h : spotD d = true) : ∃ ns : List Str, seqD d = some (ns.map PyData.str) ∧ ns.length ≤ 6 ∧ ∀ z ∈ ns, nameD (.str z) = true := by
  cases e : seqD d with
  | none => rw [spot_none e] at h; cases h
  | some ds =>
    rw [spot_some e, Bool.and_eq_true, decide_eq_true_iff] at h
    obtain ⟨ns, rfl, q⟩ := names_of h.2
    exact ⟨ns, rfl, by rw [List.length_map] at h; exact h.1, q⟩
theorem strs_of_dv {K : PySem.W.Frag} {M : Addr → Prop} {H : Hp} : ∀ {ns : List Str} {xs : List V}, DvAll K M H xs (ns.map PyData.str) → xs = ns.map V.str
  | [], _, .nil => rfl
  | _ :: _, _, .cons (.str _) r => by rw [strs_of_dv r]; rfl
theorem dv_strs {K : PySem.W.Frag} {M : Addr → Prop} {H : Hp} : ∀ ns : List Str, DvAll K M H (ns.map V.str) (ns.map PyData.str)
  | [] => .nil
  | z :: ns => .cons (.str z) (dv_strs ns)


def spPathText (K : PySem.W.Frag) (C : Addr) : Sp := fun vs H Q E => ∃ (M : Addr → Prop) (v : V) (d : PyData), vs = [v] ∧ Dv K M H v d ∧ shortD d ∧
  (spotD d = false → ∀ a H', New H H' a (.xd [("part", .str "path")]) → E (.ref C) (some a) H') ∧
  (∀ ns : List Str, seqD d = some (ns.map PyData.str) → ns.length ≤ 6 → (∀ z ∈ ns, nameD (.str z) = true) → ∀ H', Same H H' → Q (.str (pathT ns)) H')
theorem sum_names : ∀ {ns : List Str}, (∀ z ∈ ns, nameD (.str z) = true) → (ns.map (·.length)).sum ≤ 12 * ns.length
  | [], _ => by simp
  | z :: r, h => by
    have ih := sum_names (ns := r) fun y hy => h y (List.mem_cons_of_mem _ hy)
    have q := name_len (h z List.mem_cons_self)
    rw [List.map_cons, List.sum_cons, List.length_cons]
    omega
theorem len_join {ns : List Str} (h1 : ns.length ≤ 6) (h : ∀ z ∈ ns, nameD (.str z) = true) : (ns.map (·.length)).sum + ns.length * ("/" : Str).length ≤ 78 := by
  have q := sum_names h
  have e : ("/" : Str).length = 1 := by decide +kernel
  rw [e]
  omega
theorem joinL_len {S : List Nat} : ∀ l : List (List Nat), (TL.joinL S l).length ≤ (l.map (·.length)).sum + l.length * S.length
  | [] => Nat.zero_le _
  | [p] => by simp [TL.joinL]
  | p :: q :: r => by
    have ih := joinL_len (S := S) (q :: r)
    show (p ++ (S ++ TL.joinL S (q :: r))).length ≤ _
    rw [List.length_append, List.length_append, List.map_cons, List.sum_cons, List.length_cons, Nat.add_mul]
    omega
theorem len_pathT {ns : List Str} (h1 : ns.length ≤ 6) (h : ∀ z ∈ ns, nameD (.str z) = true) : 1 ≤ (pathT ns).length ∧ (pathT ns).length ≤ 79 := by
  have q := len_join h1 h
  have e : ("/" : Str).length = 1 := by decide +kernel
  rw [e] at q
  have w := joinL_len (S := [47]) (ns.map TL.tl)
  have s : ((ns.map TL.tl).map (·.length)).sum = (ns.map (·.length)).sum := by
    rw [List.map_map]
    exact congrArg List.sum (List.map_congr_left fun z _ => (TL.len_tl z).symm)
  rw [s, List.length_map] at w
  have w : (TL.joinL [47] (ns.map TL.tl)).length ≤ (ns.map (·.length)).sum + ns.length * 1 := w
  rw [TL.len_tl, tl_pathT, List.length_cons]
  omega
theorem len_joined {ns : List Str} (h1 : ns.length ≤ 6) (h : ∀ z ∈ ns, nameD (.str z) = true) : (Txt.join "/" ns).length ≤ 78 := by
  have q := (len_pathT h1 h).2
  unfold pathT at q
  have e : ("/" : Str).length = 1 := by decide +kernel
  rw [TL.len_tl, TL.tl_append, List.length_append, ← TL.len_tl, ← TL.len_tl, e] at q
  omega

def readD : PyData → Option (List Str)
  | .str x => readP x
  | _ => none
/-- none, or a tuple of the names at t -/
def Nv (K : PySem.W.Frag) (H : Hp) (v : V) (o : Option (List Str)) : Prop := (o = none ∧ v = .non) ∨ ∃ ns t, o = some ns ∧ v = .ref t ∧ SqT K H t (ns.map V.str)
def longD (d : PyData) : Prop := ∀ x, d = .str x → x.length ≤ 100000
def spTold (K : PySem.W.Frag) : Sp := fun vs H Q _ => ∃ (M : Addr → Prop) (v : V) (d : PyData), vs = [v] ∧ Dv K M H v d ∧ longD d ∧ ∀ v H', Same H H' → Nv K H' v (readD d) → Q v H'
def spPathOf (K : PySem.W.Frag) (C : Addr) : Sp := fun vs H Q E => ∃ (M : Addr → Prop) (v : V) (d : PyData), vs = [v] ∧ Dv K M H v d ∧ longD d ∧
  (readD d = none → ∀ a H', New H H' a (.xd [("item", .int 0), ("line", .int 0)]) → E (.ref C) (some a) H') ∧
  (∀ ns, readD d = some ns → ∀ t H', Same H H' → SqT K H' t (ns.map V.str) → Q (.ref t) H')
theorem read_no {d : PyData} (h : isStrD d = false) : readD d = none := by cases d <;> first | rfl | cases h
theorem split_few (r : Str) : (Txt.split r "/").length ≤ r.length + 2 := PyProof.Rows.split_le r "/"
theorem split_short {r z : Str} (h : z ∈ Txt.split r "/") : z.length ≤ r.length := by
  have m : TL.tl z ∈ TL.spl [47] 0 [] (TL.tl r) := by rw [← split_tl]; exact List.mem_map.mpr ⟨z, h, rfl⟩
  have key : ∀ (l acc p : List Nat), p ∈ TL.spl [47] 0 acc l → p.length ≤ acc.length + l.length := by
    intro l
    induction l with
    | nil =>
      intro acc p hp
      rw [TL.spl_nil] at hp
      rw [List.mem_singleton.mp hp]
      omega
    | cons c r ih =>
      intro acc p hp
      rw [List.length_cons]
      cases e : TL.pre [47] (c :: r) with
      | true =>
        rw [TL.spl_hit e] at hp
        rcases List.mem_cons.mp hp with q | q
        · rw [q]; omega
        · have := ih [] p q
          simp at this
          omega
      | false =>
        rw [TL.spl_miss e] at hp
        have := ih _ p hp
        rw [List.length_append, List.length_singleton] at this
        omega
  have q := key _ _ _ m
  rw [TL.len_tl, TL.len_tl]
  simpa using q
theorem cut_short (x : Str) : (cutS x (some 1) none).length ≤ x.length := by
  rw [TL.len_tl, cut_one, List.length_drop, TL.len_tl]
  omega

theorem ints_eq {K : PySem.W.Frag} {H : Hp} {p l : Addr} {cs : List Int} {Q : VK} (hp : SqL K H p (cs.map V.int)) (hl : SqL K H l []) (q : Q (.bl cs.isEmpty) H) : rEqD K (.ref p) (.ref l) H Q :=
  ⟨.list (cs.map .int), .list [], .lst hp (dp_ints cs), .lst hl .nil, shaped_ints cs, shaped_ints [], by cases cs <;> exact q⟩

def spName_ : Sp := fun vs H Q _ => ∃ (a b : Addr) (cs : List Int) (n : Nat), vs = [.ref a] ∧ Sx a b cs n H ∧ n ≤ 900000 ∧ ∀ H' z, Frm (· = a) H H' → Sx a b cs (n + 15) H' → nameD (.str z) = true → Q (.str z) H'

theorem Frm_free {a p : Addr} {H H' : Hp} {o : HO} (F : Frm (· = a) H H') (ha : H a = some o) {o' : HO} (ha' : H' a = some o') (h : H' p = none) : H p = none := by
  cases e : H p with
  | none => rfl
  | some u =>
    have ne : p ≠ a := fun z => by rw [z, ha'] at h; cases h
    rw [F p u ne e] at h
    cases h
def spSpot_ (K : PySem.W.Frag) : Sp := fun vs H Q _ => ∃ (a b : Addr) (cs : List Int) (n : Nat), vs = [.ref a, .int 0] ∧ Sx a b cs n H ∧ n ≤ 890000 ∧
  ∀ H' p (ns : List Str), Frm (· = a) H H' → Sx a b cs (n + 100) H' → SqT K H' p (ns.map V.str) → H p = none → p ≠ a → ns.length ≤ 6 → (∀ z ∈ ns, nameD (.str z) = true) → Q (.ref p) H'

def fineD (d : PyData) : Prop := ∀ x, d = .str x → x.length ≤ 100000 ∧ ∀ c ∈ TL.tl x, c < 1114112
theorem fineD.long {d : PyData} (h : fineD d) : longD d := fun x e => (h x e).1
theorem split_chars {r : Str} (h : ∀ c ∈ TL.tl r, c < 1114112) : ∀ z ∈ Txt.split r "/", PyData.strOk z = true := fun z hz => by
  refine strOk_of fun c hc => ?_
  have m : TL.tl z ∈ TL.spl [47] 0 [] (TL.tl r) := by rw [← split_tl]; exact List.mem_map.mpr ⟨z, hz, rfl⟩
  exact of_decide_eq_true (spl_all1 (q := fun c => decide (c < 1114112)) (TL.tl r) [] (fun c hc => .inr (decide_eq_true (h c hc))) (fun _ m => nomatch m) _ m c hc)
def spLRead (K : PySem.W.Frag) : Sp := fun vs H Q _ => ∃ (M : Addr → Prop) (v : V) (d : PyData), vs = [v] ∧ Dv K M H v d ∧ fineD d ∧ ∀ v H', Same H H' → Nv K H' v (readD d) → Q v H'

theorem filter_strs (p : PyData → Bool) (ns : List Str) : (ns.map PyData.str).filter p = (ns.filter fun z => p (.str z)).map PyData.str := by
  rw [List.filter_map]; rfl
def badD : PyData → Bool
  | .str z => badName z
  | _ => false
theorem ok_sign (c : Nat) : decide (c ∈ (("/abcdefghijklmnopqrstuvwxyz0123456789" : Str).cps.toList)) = okSign c := by
  have e : (("/abcdefghijklmnopqrstuvwxyz0123456789" : Str).cps.toList) = 47 :: [97, 98, 99, 100, 101, 102, 103, 104, 105, 106, 107, 108, 109, 110, 111, 112, 113, 114, 115, 116, 117, 118, 119, 120, 121, 122, 48, 49, 50, 51, 52, 53, 54, 55, 56, 57] := by decide +kernel
  rw [e, Bool.eq_iff_iff, decide_eq_true_iff, List.mem_cons, sign_mem]
  unfold okSign
  rw [Bool.or_eq_true, decide_eq_true_iff]
theorem readL_a {x : Str} (h : cutS x none (some 1) ≠ "/") : readL x = none := if_pos h
theorem readL_b {x : Str} (h : ¬ cutS x none (some 1) ≠ "/") (h2 : x = "/") : readL x = some [] := by unfold readL; rw [if_neg h, if_pos h2]
theorem readL_c {x : Str} (h : ¬ cutS x none (some 1) ≠ "/") (h2 : ¬ x = "/") (h3 : 6 < (Txt.split (cutS x (some 1) none) "/").length ∨ (Txt.split (cutS x (some 1) none) "/").any badName = true) : readL x = none := by unfold readL; rw [if_neg h, if_neg h2, if_pos h3]
theorem readL_d {x : Str} (h : ¬ cutS x none (some 1) ≠ "/") (h2 : ¬ x = "/") (h3 : ¬ (6 < (Txt.split (cutS x (some 1) none) "/").length ∨ (Txt.split (cutS x (some 1) none) "/").any badName = true)) :
    readL x = if (TL.tl x).all okSign = true then some (Txt.split (cutS x (some 1) none) "/") else none := by unfold readL; rw [if_neg h, if_neg h2, if_neg h3]
theorem readL_e {x : Str} (h : readL x = none) : readD (.str x) = none := (readL_eq x).symm.trans h
theorem readL_f {x : Str} {ns : List Str} (h : readL x = some ns) : readD (.str x) = some ns := (readL_eq x).symm.trans h
theorem str_of_test {x y : Str} (h : decide (V.str x = V.str y) = true) : x = y := V.str.inj (of_decide_eq_true h)
theorem str_no_test {x y : Str} (h : ¬ decide (V.str x = V.str y) = true) : ¬ x = y := fun e => h (decide_eq_true (by rw [e]))

theorem cut_lo_len {z : Str} {i : Int} (h : 0 ≤ i) : (cutS z none (some i)).length ≤ z.length ∧ ∀ c ∈ TL.tl (cutS z none (some i)), c ∈ TL.tl z := by
  rw [TL.len_tl, tl_cut_lo h, TL.len_tl, List.length_take]
  exact ⟨Nat.min_le_right _ _, fun c hc => List.mem_of_mem_take hc⟩
theorem cut_hi_len {z : Str} {i : Int} (h : 0 ≤ i) : (cutS z (some i) none).length ≤ z.length ∧ ∀ c ∈ TL.tl (cutS z (some i) none), c ∈ TL.tl z := by
  rw [TL.len_tl, tl_cut_hi h, TL.len_tl, List.length_drop]
  exact ⟨by omega, fun c hc => List.mem_of_mem_drop hc⟩
theorem len_cat (x y : Str) : (x ++ y).length = x.length + y.length := by
  rw [TL.len_tl, TL.tl_append, List.length_append, ← TL.len_tl, ← TL.len_tl]
/-- short, of signs -/
def Fine (z : Str) (n : Nat) : Prop := z.length ≤ n ∧ ∀ c ∈ TL.tl z, c < 1114112
theorem Fine.lo {z : Str} {n : Nat} {i : Int} (h : Fine z n) (hi : 0 ≤ i) : Fine (cutS z none (some i)) n := by
  obtain ⟨q1, q2⟩ := cut_lo_len (z := z) hi
  exact ⟨Nat.le_trans q1 h.1, fun c hc => h.2 c (q2 c hc)⟩
theorem Fine.hi {z : Str} {n : Nat} {i : Int} (h : Fine z n) (hi : 0 ≤ i) : Fine (cutS z (some i) none) n := by
  obtain ⟨q1, q2⟩ := cut_hi_len (z := z) hi
  exact ⟨Nat.le_trans q1 h.1, fun c hc => h.2 c (q2 c hc)⟩
theorem Fine.cat {x y : Str} {n m : Nat} (h : Fine x n) (g : Fine y m) : Fine (x ++ y) (n + m) := ⟨by rw [len_cat]; have := h.1; have := g.1; omega, fun c hc => by
  rw [TL.tl_append] at hc
  rcases List.mem_append.mp hc with q | q
  · exact h.2 c q
  · exact g.2 c q⟩
theorem Fine.le {z : Str} {n m : Nat} (h : Fine z n) (e : n ≤ m) : Fine z m := ⟨Nat.le_trans h.1 e, h.2⟩
theorem fine_by {z : Str} {n : Nat} (h : (decide (z.length ≤ n) && (TL.tl z).all fun c => decide (c < 1114112)) = true) : Fine z n := by
  rw [Bool.and_eq_true, decide_eq_true_iff, List.all_eq_true] at h
  exact ⟨h.1, fun c hc => of_decide_eq_true (h.2 c hc)⟩
theorem Fine.fineD {z : Str} {n : Nat} (h : Fine z n) (hn : n ≤ 100000) : K21.fineD (.str z) := fun x e => by
  cases e
  exact ⟨Nat.le_trans h.1 hn, h.2⟩
def spBent : Sp := fun vs H Q _ => ∃ (a b : Addr) (cs : List Int) (n : Nat) (z : Str), vs = [.ref a, .str z] ∧ Sx a b cs n H ∧ n ≤ 900000 ∧ 1 ≤ z.length ∧ Fine z 79 ∧
  ∀ H' y, Frm (· = a) H H' → Sx a b cs (n + 3) H' → Fine y 200 → Q (.str y) H'

/-- what _law_heard makes of the reading of ask -/
def TTh (CP CT : Addr) : (XK → Hp → VK → Prop) → Hp → VK → Prop := fun tl H Q =>
  tl (fun cls d H' => (cls = .ref CT ∧ ∃ (dd : Addr) (l i : V), d = some dd ∧ H' dd = some (.xd [("item", i), ("line", l)]) ∧ ∀ p H'', New H' H'' p (.tup [.str "text", l, i]) → Q (.ref p) H'') ∨
    (cls = .ref CP ∧ ∃ (dd : Addr) (v : V), d = some dd ∧ H' dd = some (.xd [("part", v)]) ∧ ∀ p H'', New H' H'' p (.tup [.str "path", v]) → Q (.ref p) H'')) H (fun _ H' => Q .non H')

theorem strs_inj : ∀ {ns ms : List Str}, ns.map PyData.str = ms.map PyData.str → ns = ms
  | [], [], _ => rfl
  | [], _ :: _, h => by cases h
  | _ :: _, [], h => by cases h
  | n :: r, m :: t, h => by
    rw [List.map_cons, List.map_cons] at h
    injection h with h1 h2
    injection h1 with h1
    rw [h1, strs_inj h2]
abbrev lamQ : Str := (("_law_text_right" : Str) ++ ".<locals>.") ++ "<lambda>"
abbrev lamQ2 : Str := (("law" : Str) ++ ".<locals>.") ++ "<lambda>"
abbrev TSs (PT PT2 : Addr) : List (Addr × Str) := [(PT, lamQ), (PT2, lamQ2)]
theorem uni1 {PT PT2 : Addr} (ne : PT ≠ PT2) : ∀ p ∈ TSs PT PT2, p.1 = PT → p.2 = lamQ := fun p hp e => by
  rcases List.mem_cons.mp hp with q | q
  · rw [q]
  · rw [List.mem_singleton.mp q] at e
    exact absurd e.symm ne
theorem uni2 {PT PT2 : Addr} (ne : PT ≠ PT2) : ∀ p ∈ TSs PT PT2, p.1 = PT2 → p.2 = lamQ2 := fun p hp e => by
  rcases List.mem_cons.mp hp with q | q
  · rw [q] at e
    exact absurd e ne
  · rw [List.mem_singleton.mp q]
def spRight (K : PySem.W.Frag) (PT PT2 : Addr) : Sp := fun vs H Q _ => ∃ (M : Addr → Prop) (v : V) (d : PyData), vs = [v] ∧ Dv K M H v d ∧ fineD d ∧ LamX.Tabs (TSs PT PT2) H ∧
  ∀ H', LamX.ExtN H H' → LamX.Tabs (TSs PT PT2) H' → Q (.bl true) H'
theorem spRight_len {K : PySem.W.Frag} {PT PT2 : Addr} : ∀ vs H Q E, spRight K PT PT2 vs H Q E → vs.length = 1 := fun vs H Q E h => by
  obtain ⟨M, v, d, rfl, _⟩ := h
  rfl
theorem tabs_same {TS : List (Addr × Str)} {H H' : Hp} (t : LamX.Tabs TS H) (s : Same H H') : LamX.Tabs TS H' := t.ext fun b o e => s _ _ e

theorem eqv_strs : ∀ ns ms : List Str, PyData.eqvAll (ns.map PyData.str) (ms.map PyData.str) = decide (ns = ms)
  | [], [] => by simp [PyData.eqvAll]
  | [], _ :: _ => by simp [PyData.eqvAll]
  | _ :: _, [] => by simp [PyData.eqvAll]
  | n :: ns, m :: ms => by
    have ih := eqv_strs ns ms
    simp only [List.map_cons, PyData.eqvAll, PyData.eqv, ih, List.cons.injEq]
    by_cases e : n = m
    · simp [e]
    · simp [e]
theorem depth_strs : ∀ ns : List Str, PyData.depthAll (ns.map PyData.str) = 0
  | [] => by simp [PyData.depthAll]
  | n :: ns => by simp [PyData.depthAll, PyData.depth, depth_strs ns]
theorem op_eqDK {X : Cx} {K : PySem.W.Frag} (e : X.K = K) (hu : X.A.units + 64 < cLine) : OpR X (compareOp .Eq) (rEqD K) := e ▸ op_eqD hu
/-- what is written down of a path -/
def pairD (ns : List Str) : PyData := .tuple [.tuple (ns.map PyData.str), .str (pathT ns)]
def okP (ns : List Str) : Prop := ns.length ≤ 6 ∧ ∀ z ∈ ns, nameD (.str z) = true
structure Keep (K : PySem.W.Frag) (TS : List (Addr × Str)) (a b : Addr) (cs : List Int) (D : Addr) (ps : List (List Str)) (n : Nat) (H : Hp) : Prop where
  S : Sx a b cs n H
  t : LamX.Tabs TS H
  ne : D ≠ a
  nb : D ≠ b
  l : ∃ ys, H D = some (.lst ys) ∧ DvAll K (fun c => c = a ∨ c = D) H ys (ps.map pairD)
theorem Keep.go {K : PySem.W.Frag} {TS : List (Addr × Str)} {a b : Addr} {cs : List Int} {D : Addr} {ps : List (List Str)} {n m : Nat} {H H' : Hp} (k : Keep K TS a b cs D ps n H) (F : Fx (· = a) H H') (S : Sx a b cs m H') (t : LamX.Tabs TS H') : Keep K TS a b cs D ps m H' := by
  obtain ⟨ys, h1, h2⟩ := k.l
  exact ⟨S, t, k.ne, k.nb, ys, F _ _ k.ne h1 (fun _ z => by cases z), h2.fm (fun c o h e q => F c o (fun z => h (.inl z)) e q)⟩
theorem Keep.same {K : PySem.W.Frag} {TS : List (Addr × Str)} {a b : Addr} {cs : List Int} {D : Addr} {ps : List (List Str)} {n : Nat} {H H' : Hp} (k : Keep K TS a b cs D ps n H) (s : Same H H') : Keep K TS a b cs D ps n H' := k.go (fx_same s) (k.S.same s) (tabs_same k.t s)
theorem Keep.ext {K : PySem.W.Frag} {TS : List (Addr × Str)} {a b : Addr} {cs : List Int} {D : Addr} {ps : List (List Str)} {n : Nat} {H H' : Hp} (k : Keep K TS a b cs D ps n H) (s : LamX.ExtN H H') (t : LamX.Tabs TS H') : Keep K TS a b cs D ps n H' := k.go (fx_ext s) (k.S.ext s) t
theorem Keep.draw {K : PySem.W.Frag} {TS : List (Addr × Str)} {a b : Addr} {cs : List Int} {D : Addr} {ps : List (List Str)} {n m : Nat} {H H' : Hp} (k : Keep K TS a b cs D ps n H) (s : Frm (· = a) H H') (S : Sx a b cs m H') : Keep K TS a b cs D ps m H' := k.go (fx_frm s) S (tabs_draw k.t s k.S)
theorem Keep.le {K : PySem.W.Frag} {TS : List (Addr × Str)} {a b : Addr} {cs : List Int} {D : Addr} {ps : List (List Str)} {n m : Nat} {H : Hp} (k : Keep K TS a b cs D ps n H) (e : n ≤ m) : Keep K TS a b cs D ps m H := ⟨k.S.le e, k.t, k.ne, k.nb, k.l⟩
def spLawT (K : PySem.W.Frag) (PT PT2 : Addr) : Sp := fun vs H Q _ => ∃ (a : Addr) (ns : List Int), vs = [.ref a] ∧ SqL K H a (ns.map V.int) ∧ ns.length ≤ 63 ∧ H PT = some (.tbl #[]) ∧ H PT2 = some (.tbl #[]) ∧ ∀ H', Q (.bl true) H'
theorem spLawT_len {K : PySem.W.Frag} {PT PT2 : Addr} : ∀ vs H Q E, spLawT K PT PT2 vs H Q E → vs.length = 1 := fun vs H Q E h => by
  obtain ⟨a, ns, rfl, _⟩ := h
  rfl
theorem tabs_two {H : Hp} {PT PT2 : Addr} (h1 : H PT = some (.tbl #[])) (h2 : H PT2 = some (.tbl #[])) : LamX.Tabs (TSs PT PT2) H := fun p hp => by
  rcases List.mem_cons.mp hp with q | q
  · rw [q]; exact LamX.TabS.nil h1
  · rw [List.mem_singleton.mp q]; exact LamX.TabS.nil h2

theorem shortD_of {d : PyData} (h : (match seqD d with | none => true | some ds => ds.all fun e => match e with | .str x => decide (x.length ≤ 1000000) | _ => true) = true) : shortD d := fun ds q y hy => by
  rw [q] at h
  exact of_decide_eq_true (List.all_eq_true.mp h _ hy)
theorem short_names {d : PyData} {ns : List Str} (e : seqD d = some (ns.map PyData.str)) (h : ∀ z ∈ ns, nameD (.str z) = true) : shortD d := fun ds q y hy => by
  rw [e] at q
  cases q
  obtain ⟨z, hz, hz2⟩ := List.mem_map.mp hy
  cases hz2
  have := (name_len (h y hz)).2
  omega
theorem spot_names {d : PyData} {ns : List Str} (e : seqD d = some (ns.map PyData.str)) (h1 : ns.length ≤ 6) (h : ∀ z ∈ ns, nameD (.str z) = true) : spotD d = true := by
  have q := spot_mk h1 h
  rw [spot_some e]
  rw [spot_strs] at q
  rw [List.length_map, List.all_map]
  exact q
theorem chars_pathT {ns : List Str} (h : ∀ z ∈ ns, nameD (.str z) = true) : ∀ c ∈ TL.tl (pathT ns), c < 1114112 := fun c hc => by
  rw [tl_pathT] at hc
  rcases List.mem_cons.mp hc with q | q
  · rw [q]; decide
  · exact of_decide_eq_true (joinL_all (q := fun c => decide (c < 1114112)) (by decide) (fun p hp c hc => by
      obtain ⟨z, hz, rfl⟩ := List.mem_map.mp hp
      exact decide_eq_true (name_chars (h z hz) c hc)) c q)
theorem Keep.push {K : PySem.W.Frag} {TS : List (Addr × Str)} {a b : Addr} {cs : List Int} {D p q : Addr} {ps : List (List Str)} {ns : List Str} {n : Nat} {H : Hp} (k : Keep K TS a b cs D ps n H) (pa : p ≠ a) (pD : p ≠ D) (qa : q ≠ a) (qD : q ≠ D) (sp : SqT K H p (ns.map V.str)) (sq : H q = some (.tup [.ref p, .str (pathT ns)])) {ys : List V} (hy : H D = some (.lst ys)) :
    Keep K TS a b cs D (ps ++ [ns]) n (upd H D (.lst (ys ++ [.ref q]))) := by
  obtain ⟨ys', h1, h2⟩ := k.l
  rw [hy] at h1
  cases h1
  have F : Frm (fun c => c = a ∨ c = D) H (upd H D (.lst (ys ++ [.ref q]))) := Frm.mono (frm_upd (a := D)) fun c e => .inr e
  refine ⟨Sx.put (xs := ys) k.S k.ne k.nb, tabs_frm' k.t frm_upd hy, k.ne, k.nb, _, upd_same, ?_⟩
  rw [List.map_append]
  refine (h2.mono F).append (.cons (.tup (fun z => z.elim qa qD) (SqT.of (by rw [upd_ne qD]; exact sq)) (.cons (.tup (fun z => z.elim pa pD) (F.seqT (fun z => z.elim pa pD) sp) (dva_strs _)) (.cons (.str _) .nil))) .nil)
theorem pair_at {K : PySem.W.Frag} {M : Addr → Prop} {H : Hp} {ys : List V} {ps : List (List Str)} {i : Nat} {x : V} (h : DvAll K M H ys (ps.map pairD)) (e : ys[i]? = some x) : ∃ ns q p, ns ∈ ps ∧ x = .ref q ∧ SqT K H q [.ref p, .str (pathT ns)] ∧ Dv K M H (.ref p) (.tuple (ns.map PyData.str)) := by
  obtain ⟨d, hd, hv⟩ := h.get e
  obtain ⟨ns, hn, rfl⟩ := List.mem_map.mp (List.mem_of_getElem? hd)
  cases hv with
  | tup _ s a =>
    cases a with
    | cons v1 a2 =>
      cases a2 with
      | cons v2 a3 =>
        cases a3
        cases v2
        cases v1 with
        | tup m s1 a1 => exact ⟨ns, _, _, hn, rfl, s, .tup m s1 a1⟩

def top (i : Nat) : Stmt := PySem.Challenge.pw_meettrees_k21_path_texts_bent_anywhere.main.body.getD i (.Pass ⟨0, 0, 0, 0⟩)
abbrev s_is_list : Stmt := top 3
abbrev sl_is_list : List Str := ["value"]
theorem sc_is_list : FnScope sl_is_list ["value"] (defScope s_is_list) := ⟨rfl, rfl, rfl, by decide +kernel, rfl, by decide +kernel, by decide +kernel⟩
abbrev s_is_integer : Stmt := top 4
abbrev sl_is_integer : List Str := ["value"]
theorem sc_is_integer : FnScope sl_is_integer ["value"] (defScope s_is_integer) := ⟨rfl, rfl, rfl, by decide +kernel, rfl, by decide +kernel, by decide +kernel⟩
abbrev s_is_within : Stmt := top 5
abbrev sl_is_within : List Str := ["value", "least", "most"]
theorem sc_is_within : FnScope sl_is_within ["value", "least", "most"] (defScope s_is_within) := ⟨rfl, rfl, rfl, by decide +kernel, rfl, by decide +kernel, by decide +kernel⟩
abbrev s_is_name : Stmt := top 6
abbrev sl_is_name : List Str := ["value", "sign"]
theorem sc_is_name : FnScope sl_is_name ["value"] (defScope s_is_name) := ⟨rfl, rfl, rfl, by decide +kernel, rfl, by decide +kernel, by decide +kernel⟩
abbrev s_is_spot : Stmt := top 13
abbrev sl_is_spot : List Str := ["value", "part"]
theorem sc_is_spot : FnScope sl_is_spot ["value"] (defScope s_is_spot) := ⟨rfl, rfl, rfl, by decide +kernel, rfl, by decide +kernel, by decide +kernel⟩
abbrev s_path_text : Stmt := top 14
abbrev sl_path_text : List Str := ["path"]
theorem sc_path_text : FnScope sl_path_text ["path"] (defScope s_path_text) := ⟨rfl, rfl, rfl, by decide +kernel, rfl, by decide +kernel, by decide +kernel⟩
abbrev s_path_of : Stmt := top 15
abbrev sl_path_of : List Str := ["text", "spot"]
theorem sc_path_of : FnScope sl_path_of ["text"] (defScope s_path_of) := ⟨rfl, rfl, rfl, by decide +kernel, rfl, by decide +kernel, by decide +kernel⟩
abbrev s_spot_told : Stmt := top 16
abbrev sl_spot_told : List Str := ["text", "names"]
theorem sc_spot_told : FnScope sl_spot_told ["text"] (defScope s_spot_told) := ⟨rfl, rfl, rfl, by decide +kernel, rfl, by decide +kernel, by decide +kernel⟩
abbrev s__law_purse : Stmt := top 18
abbrev sl__law_purse : List Str := ["script", "cell"]
theorem sc__law_purse : FnScope sl__law_purse ["script"] (defScope s__law_purse) := ⟨rfl, rfl, rfl, by decide +kernel, rfl, by decide +kernel, by decide +kernel⟩
abbrev s__law_coin : Stmt := top 19
abbrev sl__law_coin : List Str := ["purse", "many", "rest", "at", "cell", "mixed"]
theorem sc__law_coin : FnScope sl__law_coin ["purse", "many"] (defScope s__law_coin) := ⟨rfl, rfl, rfl, by decide +kernel, rfl, by decide +kernel, by decide +kernel⟩
abbrev s__law_any : Stmt := top 20
abbrev sl__law_any : List Str := ["purse", "some"]
theorem sc__law_any : FnScope sl__law_any ["purse", "some"] (defScope s__law_any) := ⟨rfl, rfl, rfl, by decide +kernel, rfl, by decide +kernel, by decide +kernel⟩
abbrev s__law_name : Stmt := top 21
abbrev sl__law_name : List Str := ["purse", "signs", "turn"]
theorem sc__law_name : FnScope sl__law_name ["purse"] (defScope s__law_name) := ⟨rfl, rfl, rfl, by decide +kernel, rfl, by decide +kernel, by decide +kernel⟩
abbrev s__law_spot : Stmt := top 22
abbrev sl__law_spot : List Str := ["purse", "least", "many", "turn"]
theorem sc__law_spot : FnScope sl__law_spot ["purse", "least"] (defScope s__law_spot) := ⟨rfl, rfl, rfl, by decide +kernel, rfl, by decide +kernel, by decide +kernel⟩
abbrev s__law_read : Stmt := top 23
abbrev sl__law_read : List Str := ["text", "names", "name", "sign"]
theorem sc__law_read : FnScope sl__law_read ["text"] (defScope s__law_read) := ⟨rfl, rfl, rfl, by decide +kernel, rfl, by decide +kernel, by decide +kernel⟩
abbrev s__law_bent : Stmt := top 24
abbrev sl__law_bent : List Str := ["purse", "text", "at", "way", "sign"]
theorem sc__law_bent : FnScope sl__law_bent ["purse", "text"] (defScope s__law_bent) := ⟨rfl, rfl, rfl, by decide +kernel, rfl, by decide +kernel, by decide +kernel⟩
abbrev s__law_heard : Stmt := top 25
abbrev sl__law_heard : List Str := ["ask", "caught", "error"]
theorem sc__law_heard : FnScope sl__law_heard ["ask"] (defScope s__law_heard) := ⟨rfl, rfl, rfl, by decide +kernel, rfl, by decide +kernel, by decide +kernel⟩
abbrev s__law_text_right : Stmt := top 26
abbrev sl__law_text_right : List Str := ["text", "due"]
theorem sc__law_text_right : FnScope sl__law_text_right ["text"] (defScope s__law_text_right) := ⟨rfl, rfl, rfl, by decide +kernel, rfl, by decide +kernel, by decide +kernel⟩
abbrev s_law : Stmt := top 27
abbrev sl_law : List Str := ["script", "purse", "texts", "turn", "path", "text", "bend", "one", "its", "odd", "none", "other"]
theorem sc_law : FnScope sl_law ["script"] (defScope s_law) := ⟨rfl, rfl, rfl, by decide +kernel, rfl, by decide +kernel, by decide +kernel⟩
abbrev s_BadPath : Stmt := (clsBody (top 9)).getD 0 (.Pass ⟨0, 0, 0, 0⟩)
theorem sc_BadPath : FnScope ["self", "part"] ["self", "part"] (defScope s_BadPath) := ⟨rfl, rfl, rfl, by decide +kernel, rfl, by decide +kernel, by decide +kernel⟩
abbrev s_BadText : Stmt := (clsBody (top 10)).getD 0 (.Pass ⟨0, 0, 0, 0⟩)
theorem sc_BadText : FnScope ["self", "line", "item"] ["self", "line", "item"] (defScope s_BadText) := ⟨rfl, rfl, rfl, by decide +kernel, rfl, by decide +kernel, by decide +kernel⟩
def g_path_of_text {α : Type} : List α → List α → List α
  | [], [w0] => [w0]
  | _, _ => []
def g_path_text_path {α : Type} : List α → List α → List α
  | [], [w0] => [w0]
  | _, _ => []
structure Txt (K : PySem.W.Frag) (mg : Str → Option Value) (fa : Nat → Addr) (fd : Nat → FuncData) : Prop where
  F_is_list : Fun K "is_list" "is_list" s_is_list (fa 3) (fd 3)
  g_is_list : mg "is_list" = some (.ref (fa 3))
  b_is_list : Binds K (fd 3) ["value"] []
  F_is_integer : Fun K "is_integer" "is_integer" s_is_integer (fa 4) (fd 4)
  g_is_integer : mg "is_integer" = some (.ref (fa 4))
  b_is_integer : Binds K (fd 4) ["value"] []
  F_is_within : Fun K "is_within" "is_within" s_is_within (fa 5) (fd 5)
  g_is_within : mg "is_within" = some (.ref (fa 5))
  b_is_within : Binds K (fd 5) ["value", "least", "most"] []
  F_is_name : Fun K "is_name" "is_name" s_is_name (fa 6) (fd 6)
  g_is_name : mg "is_name" = some (.ref (fa 6))
  b_is_name : Binds K (fd 6) ["value"] []
  F_is_spot : Fun K "is_spot" "is_spot" s_is_spot (fa 13) (fd 13)
  g_is_spot : mg "is_spot" = some (.ref (fa 13))
  b_is_spot : Binds K (fd 13) ["value"] []
  F_path_text : Fun K "path_text" "path_text" s_path_text (fa 14) (fd 14)
  g_path_text : mg "path_text" = some (.ref (fa 14))
  b_path_text : Binds K (fd 14) ["path"] []
  F_path_of : Fun K "path_of" "path_of" s_path_of (fa 15) (fd 15)
  g_path_of : mg "path_of" = some (.ref (fa 15))
  b_path_of : Binds K (fd 15) ["text"] []
  F_spot_told : Fun K "spot_told" "spot_told" s_spot_told (fa 16) (fd 16)
  g_spot_told : mg "spot_told" = some (.ref (fa 16))
  b_spot_told : Binds K (fd 16) ["text"] []
  F__law_purse : Fun K "_law_purse" "_law_purse" s__law_purse (fa 18) (fd 18)
  g__law_purse : mg "_law_purse" = some (.ref (fa 18))
  b__law_purse : Binds K (fd 18) ["script"] []
  F__law_coin : Fun K "_law_coin" "_law_coin" s__law_coin (fa 19) (fd 19)
  g__law_coin : mg "_law_coin" = some (.ref (fa 19))
  b__law_coin : Binds K (fd 19) ["purse", "many"] []
  F__law_any : Fun K "_law_any" "_law_any" s__law_any (fa 20) (fd 20)
  g__law_any : mg "_law_any" = some (.ref (fa 20))
  b__law_any : Binds K (fd 20) ["purse", "some"] []
  F__law_name : Fun K "_law_name" "_law_name" s__law_name (fa 21) (fd 21)
  g__law_name : mg "_law_name" = some (.ref (fa 21))
  b__law_name : Binds K (fd 21) ["purse"] []
  F__law_spot : Fun K "_law_spot" "_law_spot" s__law_spot (fa 22) (fd 22)
  g__law_spot : mg "_law_spot" = some (.ref (fa 22))
  b__law_spot : Binds K (fd 22) ["purse", "least"] []
  F__law_read : Fun K "_law_read" "_law_read" s__law_read (fa 23) (fd 23)
  g__law_read : mg "_law_read" = some (.ref (fa 23))
  b__law_read : Binds K (fd 23) ["text"] []
  F__law_bent : Fun K "_law_bent" "_law_bent" s__law_bent (fa 24) (fd 24)
  g__law_bent : mg "_law_bent" = some (.ref (fa 24))
  b__law_bent : Binds K (fd 24) ["purse", "text"] []
  F__law_heard : Fun K "_law_heard" "_law_heard" s__law_heard (fa 25) (fd 25)
  g__law_heard : mg "_law_heard" = some (.ref (fa 25))
  b__law_heard : Binds K (fd 25) ["ask"] []
  F__law_text_right : Fun K "_law_text_right" "_law_text_right" s__law_text_right (fa 26) (fd 26)
  g__law_text_right : mg "_law_text_right" = some (.ref (fa 26))
  b__law_text_right : Binds K (fd 26) ["text"] []
  F_law : Fun K "law" "law" s_law (fa 27) (fd 27)
  g_law : mg "law" = some (.ref (fa 27))
  b_law : Binds K (fd 27) ["script"] []
  kb_path_of_text : KBn K (fd 15) ["text"] 0 ["text"] (fun us ws => g_path_of_text us ws) (fun us ws => g_path_of_text us ws)
  kb_path_text_path : KBn K (fd 14) ["path"] 0 ["path"] (fun us ws => g_path_text_path us ws) (fun us ws => g_path_text_path us ws)
  E_BadPath : ErrC K mg "BadPath" (fa 9) (fa 109) "part"
  F_BadPath : Fun K "__init__" "BadPath.__init__" s_BadPath (fa 109) (fd 109)
  b_BadPath : Binds K (fd 109) ["self", "part"] []
  E_BadText : ErrC2 K mg "BadText" (fa 10) (fa 110) "line" "item"
  F_BadText : Fun K "__init__" "BadText.__init__" s_BadText (fa 110) (fd 110)
  b_BadText : Binds K (fd 110) ["self", "line", "item"] []
  M_MeetError : mg "MeetError" = some (.ref (fa 8))
  X_BadPath : ExcC K (fa 9)
  kitN_BadPath : PySem.W.kitOne K (.type "NoneType") (.ref (fa 9)) = some false
  exm_BadPath_MeetError : PySem.W.exmOne K (.ref (fa 9)) (.ref (fa 8)) = some true
  kit_BadPath_BadText : PySem.W.kitOne K (.ref (fa 9)) (.ref (fa 10)) = some false
  X_BadText : ExcC K (fa 10)
  kitN_BadText : PySem.W.kitOne K (.type "NoneType") (.ref (fa 10)) = some false
  exm_BadText_MeetError : PySem.W.exmOne K (.ref (fa 10)) (.ref (fa 8)) = some true
  kit_BadText_BadPath : PySem.W.kitOne K (.ref (fa 10)) (.ref (fa 9)) = some false
  n_abs : mg "abs" = none
  n_all : mg "all" = none
  n_bool : mg "bool" = none
  n_int : mg "int" = none
  n_isinstance : mg "isinstance" = none
  n_len : mg "len" = none
  n_list : mg "list" = none
  n_max : mg "max" = none
  n_range : mg "range" = none
  n_repr : mg "repr" = none
  n_str : mg "str" = none
  n_tuple : mg "tuple" = none
  c_NAME_SIGNS : ∃ u, mg "NAME_SIGNS" = some u ∧ RelV (.str "abcdefghijklmnopqrstuvwxyz0123456789") u
  c_LONGEST_NAME : ∃ u, mg "LONGEST_NAME" = some u ∧ RelV (.int 12) u
  c_LONGEST_PATH : ∃ u, mg "LONGEST_PATH" = some u ∧ RelV (.int 6) u
theorem ok_BadPath {P : Program} {w : World} {K : PySem.W.Frag} {mg : Str → Option Value} {base : Heap} {fa : Nat → Addr} {fd : Nat → FuncData} (T : Txt K mg fa fd) : FnOk P w K mg base CX0 1 (fa 109) (fd 109) ["self", "part"] (spInit K "part") := by
  have nd := sc_BadPath.nd
  refine T.F_BadPath.ok sc_BadPath (fun vs H Q E h => ?_) (fun cdv A outer s H vs Q E hr h => ?_)
  · obtain ⟨a, C, p, rfl, _⟩ := h; rfl
  · obtain ⟨a, C, p, rfl, hC, hf, ha, k⟩ := h
    exact ⟨_, pss_one (ps_ost (pv 0) (pv 1)), _, rfl, _, rfl, _, _, rfl, hC, hf, .inl ⟨ha, k⟩⟩
theorem ok_BadText {P : Program} {w : World} {K : PySem.W.Frag} {mg : Str → Option Value} {base : Heap} {fa : Nat → Addr} {fd : Nat → FuncData} (T : Txt K mg fa fd) : FnOk P w K mg base CX0 1 (fa 110) (fd 110) ["self", "line", "item"] (spInit2 K "line" "item") := by
  have nd := sc_BadText.nd
  refine T.F_BadText.ok sc_BadText (fun vs H Q E h => ?_) (fun cdv A outer s H vs Q E hr h => ?_)
  · obtain ⟨a, C, p, q, rfl, _⟩ := h; rfl
  · obtain ⟨a, C, p, q, rfl, hC, hf, hg, ha, k⟩ := h
    exact ⟨_, pss_cons (ps_ost (pv 0) (pv 1)) (pss_one (ps_ost (pv 0) (pv 2))), _, rfl, _, rfl, _, _, rfl, hC, hf, .inl ⟨ha, fun dx nx ne => ⟨_, rfl, _, rfl, _, _, rfl, hC, hg, .inr ⟨dx, _, upd_same, (upd_ne ne).trans upd_same, (by show 1 ≤ 900; decide), k dx nx ne⟩⟩⟩⟩
theorem ok_is_list {P : Program} {w : World} {K : PySem.W.Frag} {mg : Str → Option Value} {base : Heap} {fa : Nat → Addr} {fd : Nat → FuncData} (T : Txt K mg fa fd) : FnOk P w K mg base CX0 1 (fa 3) (fd 3) ["value"] (spIsList K) := by
  have nd := sc_is_list.nd
  refine T.F_is_list.ok sc_is_list (fun vs H Q E h => ?_) (fun cdv A outer s H vs Q E hr h => ?_)
  · obtain ⟨M, v, d, rfl, _⟩ := h; rfl
  · obtain ⟨M, v, d, rfl, hv, k⟩ := h
    refine ⟨_, (pss_one (ps_ret (pe_callB call_isiT (by rfl) T.n_isinstance (by decide +kernel) (pa_cons (pv 0) (pa_cons (pe_tup (pa_cons (pe_bltn (v := .ty "list") (u := .type "list") (by rfl) T.n_list (by decide +kernel) rfl) (pa_cons (pe_bltn (v := .ty "tuple") (u := .type "tuple") (by rfl) T.n_tuple (by decide +kernel) rfl) pa_nil))) pa_nil))))), ?_⟩
    refine ⟨_, rfl, (by show 2 ≤ sizeLine; decide), fun t ht => ?_⟩
    have e := same_new (o := .tup [V.ty "list", V.ty "tuple"]) ht
    exact ⟨_, _, _, _, _, _, rfl, upd_same, .cons (.ty "list") (.cons (.ty "tuple") .nil), (hv.same e).ty, kit_seq d, k _ e⟩
theorem ok_is_integer {P : Program} {w : World} {K : PySem.W.Frag} {mg : Str → Option Value} {base : Heap} {fa : Nat → Addr} {fd : Nat → FuncData} (T : Txt K mg fa fd) : FnOk P w K mg base CX0 1 (fa 4) (fd 4) ["value"] (spIsInt K) := by
  have nd := sc_is_integer.nd
  refine T.F_is_integer.ok sc_is_integer (fun vs H Q E h => ?_) (fun cdv A outer s H vs Q E hr h => ?_)
  · obtain ⟨M, v, d, rfl, _⟩ := h; rfl
  · obtain ⟨M, v, d, rfl, hv, k⟩ := h
    refine ⟨_, (pss_one (ps_ret (pe_and (pe_callB call_isi (by rfl) T.n_isinstance (by decide +kernel) (pa_cons (pv 0) (pa_cons (pe_bltn (v := .ty "int") (u := .type "int") (by rfl) T.n_int (by decide +kernel) rfl) pa_nil))) (pe_one (pe_not (pe_callB call_isi (by rfl) T.n_isinstance (by decide +kernel) (pa_cons (pv 0) (pa_cons (pe_bltn (v := .ty "bool") (u := .type "bool") (by rfl) T.n_bool (by decide +kernel) rfl) pa_nil)))))))), ?_⟩
    refine ⟨_, rfl, _, _, _, _, _, rfl, .ty "int", hv.ty, kit_int d, _, rfl, ite2 (fun h => ?_) (fun h => ?_)⟩
    · refine ⟨_, rfl, _, _, _, _, _, rfl, .ty "bool", hv.ty, kit_bool d, _, rfl, qbl k ?_⟩
      cases d <;> first | rfl | cases h
    · refine qbl k ?_
      cases d <;> first | rfl | exact absurd rfl h
theorem ok_is_within {P : Program} {w : World} {K : PySem.W.Frag} {mg : Str → Option Value} {base : Heap} {fa : Nat → Addr} {fd : Nat → FuncData} (T : Txt K mg fa fd) : FnOk P w K mg base CX0 2 (fa 5) (fd 5) ["value", "least", "most"] (spWithin K) := by
  have nd := sc_is_within.nd
  refine T.F_is_within.ok sc_is_within (fun vs H Q E h => ?_) (fun cdv A outer s H vs Q E hr h => ?_)
  · obtain ⟨M, v, d, lo, hi, rfl, _⟩ := h; rfl
  · obtain ⟨M, v, d, lo, hi, rfl, hv, k⟩ := h
    refine ⟨_, (pss_cons (ps_if (pt_not (pt_val (pe_call (ok_is_integer T) (hr.mono (by decide)) rfl T.g_is_integer T.F_is_integer.kp T.b_is_integer .nil pass0 (pa_cons (pv 0) pa_nil))))
          (pss_one (ps_ret pe_bl))
          pss_nil)
        (pss_one (ps_ret (pe_and (pe_or (pe_cmpR op_isN (pv 1) pe_non (nomark _)) (pe_one (pe_cmpR op_ge (pv 0) (pv 1) (nomark _)))) (pe_one (pe_or (pe_cmpR op_isN (pv 2) pe_non (nomark _)) (pe_one (pe_cmpR op_le (pv 0) (pv 2) (nomark _))))))))), ?_⟩
    refine ⟨_, rfl, M, v, d, rfl, hv, _, rfl, ite2 (fun h => ?_) (fun h => ?_)⟩
    · refine qbl k ?_
      cases d <;> first | rfl | cases h
    · obtain ⟨i, rfl⟩ := isInt_eq (d := d) (by cases e : isIntD d with | true => rfl | false => exact absurd (by rw [e]; rfl) h)
      cases hv
      have lower : ∀ R : Bool → Prop, R (match lo with | none => true | some l => decide (l ≤ i)) → (match lo with | none => R true | some l => R (decide (l ≤ i))) := fun R q => by cases lo <;> exact q
      cases lo with
      | none =>
        refine ⟨_, rfl, rfl, _, rfl, iteT ⟨_, rfl, iteT ?_⟩⟩
        cases hi with
        | none => exact ⟨_, rfl, rfl, _, rfl, iteT k⟩
        | some u => exact ⟨_, rfl, rfl, _, rfl, iteF ⟨_, rfl, _, rfl, _, _, rfl, rfl, k⟩⟩
      | some l =>
        refine ⟨_, rfl, rfl, _, rfl, iteF ⟨_, rfl, _, rfl, _, _, rfl, rfl, _, rfl, ite2 (fun h1 => ?_) (fun h1 => ?_)⟩⟩
        · have h2 : decide (l ≤ i) = true := h1
          cases hi with
          | none => exact ⟨_, rfl, rfl, _, rfl, iteT (qbl k (by show true = (decide (l ≤ i) && true); rw [h2]; rfl))⟩
          | some u => exact ⟨_, rfl, rfl, _, rfl, iteF ⟨_, rfl, _, rfl, _, _, rfl, rfl, qbl k (by show _ = (decide (l ≤ i) && decide (i ≤ u)); rw [h2]; rfl)⟩⟩
        · have h2 : decide (l ≤ i) = false := by cases e : decide (l ≤ i) with | true => exact absurd e h1 | false => rfl
          exact qbl k (by show false = (decide (l ≤ i) && _); rw [h2]; rfl)
theorem ok_is_name {P : Program} {w : World} {K : PySem.W.Frag} {mg : Str → Option Value} {base : Heap} {fa : Nat → Addr} {fd : Nat → FuncData} (T : Txt K mg fa fd) : FnOk P w K mg base CX0 3 (fa 6) (fd 6) ["value"] (spName K) := by
  have nd := sc_is_name.nd
  obtain ⟨_, g_LONGEST_NAME, r_LONGEST_NAME⟩ := T.c_LONGEST_NAME
  obtain ⟨_, g_NAME_SIGNS, r_NAME_SIGNS⟩ := T.c_NAME_SIGNS
  refine T.F_is_name.ok sc_is_name (fun vs H Q E h => ?_) (fun cdv A outer s H vs Q E hr h => ?_)
  · obtain ⟨M, v, d, rfl, _⟩ := h; rfl
  · obtain ⟨M, v, d, rfl, hv, hz, k⟩ := h
    refine ⟨_, (pss_cons (ps_if (PW.pt (pw_or (pt_not (pt_val (pe_callB call_isi (by rfl) T.n_isinstance (by decide +kernel) (pa_cons (pv 0) (pa_cons (pe_bltn (v := .ty "str") (u := .type "str") (by rfl) T.n_str (by decide +kernel) rfl) pa_nil))))) (pw_or1 (pt_not (pt_val (pe_call (ok_is_within T) (hr.mono (by decide)) rfl T.g_is_within T.F_is_within.kp T.b_is_within .nil pass0 (pa_cons (pe_callB call_len_str (by rfl) T.n_len (by decide +kernel) (pa_cons (pv 0) pa_nil)) (pa_cons pe_int (pa_cons (pe_glob rfl g_LONGEST_NAME r_LONGEST_NAME) pa_nil)))))))))
          (pss_one (ps_ret pe_bl))
          pss_nil)
        (pss_one (ps_ret (pe_callB (cr_all rfl) (by rfl) T.n_all (by decide +kernel) (pa_cons (pe_lc (own := [("sign", 1)]) (g := (gName 1)) (by rfl) nd (pi_str (pv 0)) (blkOk_by (N := sl_is_name) (sc := defScope s_is_name) (by decide +kernel)) (fun _ _ _ _ _ => (pg_name (i := 1) nd rfl (Or.inl rfl))) (fun _ _ _ _ _ => pts_nil) (fun _ _ _ _ _ => (pe_cmpR op_in_sign (pv 1) (pe_glob rfl g_NAME_SIGNS r_NAME_SIGNS) (by rfl)))) pa_nil))))), ?_⟩
    refine ⟨_, rfl, _, _, _, _, _, rfl, .ty "str", hv.ty, kit_str d, _, rfl, ite2 (fun h => ?_) (fun h => ?_)⟩
    · refine iteT (qbl (k _ (Same.refl _)) ?_)
      cases d <;> first | rfl | cases h
    · obtain ⟨x, rfl⟩ : ∃ x, d = .str x := by cases d <;> first | exact ⟨_, rfl⟩ | exact absurd rfl h
      cases hv
      have hx := hz x rfl
      refine ⟨_, rfl, x, rfl, Nat.le_trans hx (by rw [sizeLine_eq]; decide), (fun _ => False), _, .int x.length, some 1, some 12, rfl, .int _, _, rfl, ite2 (fun h1 => ?_) (fun h1 => ?_)⟩
      · refine qbl (k _ (Same.refl _)) ?_
        rw [within_len] at h1
        show false = (_ && _ && _)
        cases e : (decide (1 ≤ x.length) && decide (x.length ≤ 12)) with
        | true => rw [e] at h1; exact absurd h1 (by decide)
        | false => rfl
      · rw [within_len] at h1
        have h2 : (decide (1 ≤ x.length) && decide (x.length ≤ 12)) = true := by
          cases e : (decide (1 ≤ x.length) && decide (x.length ≤ 12)) with
          | true => rfl
          | false => rw [e] at h1; exact absurd rfl h1
        refine ⟨_, rfl, x, rfl, fun D hD => lc_strP (fun c => V.bl (nameSign c)) hD (by omega) ?_ ?_⟩
        · intro c H2 _ s Ky ky
          refine ⟨rfl, _, rfl, c, _, rfl, rfl, ?_⟩
          exact qbl (ky _ (Same.refl _)) (sign_in c)
        · intro H2 e2 hD2
          refine ⟨D, x.cps.toList.map nameSign, rfl, SqL.of (by rw [hD2, List.map_map]; rfl), qbl (k _ e2) ?_⟩
          show _ = (_ && _ && _)
          rw [h2, List.all_map]
          rfl
theorem ok_is_spot {P : Program} {w : World} {K : PySem.W.Frag} {mg : Str → Option Value} {base : Heap} {fa : Nat → Addr} {fd : Nat → FuncData} (T : Txt K mg fa fd) : FnOk P w K mg base CX0 4 (fa 13) (fd 13) ["value"] (spSpot K) := by
  have nd := sc_is_spot.nd
  obtain ⟨_, g_LONGEST_PATH, r_LONGEST_PATH⟩ := T.c_LONGEST_PATH
  refine T.F_is_spot.ok sc_is_spot (fun vs H Q E h => ?_) (fun cdv A outer s H vs Q E hr h => ?_)
  · obtain ⟨M, v, d, rfl, _⟩ := h; rfl
  · obtain ⟨M, v, d, rfl, hv, hz, k⟩ := h
    refine ⟨_, (pss_one (ps_ret (pe_and (pe_call (ok_is_list T) (hr.mono (by decide)) rfl T.g_is_list T.F_is_list.kp T.b_is_list .nil pass0 (pa_cons (pv 0) pa_nil)) (pe_and (pe_cmpR op_le (pe_callB call_len_seq (by rfl) T.n_len (by decide +kernel) (pa_cons (pv 0) pa_nil)) (pe_glob rfl g_LONGEST_PATH r_LONGEST_PATH) (nomark _)) (pe_one (pe_callB (cr_all rfl) (by rfl) T.n_all (by decide +kernel) (pa_cons (pe_lc (own := [("part", 1)]) (g := (gName 1)) (by rfl) nd (pi_seq (pv 0)) (blkOk_by (N := sl_is_spot) (sc := defScope s_is_spot) (by decide +kernel)) (fun _ _ _ _ _ => (pg_name (i := 1) nd rfl (Or.inl rfl))) (fun _ _ _ _ _ => pts_nil) (fun _ _ _ _ _ => (pe_call (ok_is_name T) (hr.mono (by decide)) rfl T.g_is_name T.F_is_name.kp T.b_is_name .nil pass0 (pa_cons (pv 1) pa_nil)))) pa_nil))))))), ?_⟩
    refine ⟨_, rfl, M, v, d, rfl, hv, fun H1 e1 => ⟨_, rfl, ite2 (fun h => ?_) (fun h => ?_)⟩⟩
    · obtain ⟨ds, hds⟩ := Option.isSome_iff_exists.mp h
      obtain ⟨p, xs, rfl, nM, sq, hda⟩ := (hv.same e1).seq hds
      refine ⟨_, rfl, p, xs, rfl, sq, _, _, rfl, rfl, _, rfl, ite2 (fun h1 => ?_) (fun h1 => ?_)⟩
      · have h2 : ds.length ≤ 6 := by
          have q := of_decide_eq_true h1
          rw [hda.length] at q
          omega
        refine ⟨_, rfl, p, xs, rfl, sq, fun J hJ D hD => lc_boolsM (M := M) nameD hD hJ hda (by rw [hda.length]; omega) ?_ ?_⟩
        · intro x dx H2 hm hx _ Ky ky
          exact ⟨rfl, _, rfl, M, x, dx, rfl, hx, (fun z hz2 => hz _ hds z (by rw [← hz2]; exact hm)), ky⟩
        · intro H2 e2 hD2
          refine ⟨D, _, rfl, SqL.of hD2, qbl (k _ (e1.trans e2)) ?_⟩
          rw [spot_some hds, decide_eq_true h2, List.all_map]
          rfl
      · refine qbl (k _ e1) ?_
        have h2 : ¬ ds.length ≤ 6 := fun q => h1 (decide_eq_true (by rw [hda.length]; omega))
        rw [spot_some hds, decide_eq_false h2]
        rfl
    · refine qbl (k _ e1) ?_
      cases e : seqD d with
      | some ds => rw [e] at h; exact absurd rfl h
      | none => rw [spot_none e]
theorem ok_path_text {P : Program} {w : World} {K : PySem.W.Frag} {mg : Str → Option Value} {base : Heap} {fa : Nat → Addr} {fd : Nat → FuncData} (T : Txt K mg fa fd) : FnOk P w K mg base (L2.CX P w) 5 (fa 14) (fd 14) ["path"] (spPathText K (fa 9)) := by
  have nd := sc_path_text.nd
  refine T.F_path_text.okX sc_path_text (fun vs H Q E h => ?_) (fun cdv A outer s H vs Q E hr h => ?_)
  · obtain ⟨M, v, d, rfl, _⟩ := h; rfl
  · obtain ⟨M, v, d, rfl, hv, hz, kx, k⟩ := h
    refine ⟨_, (pss_cons (ps_if (pt_not (pt_val (pe_call (ok_is_spot T) (hr.mono (by decide)) rfl T.g_is_spot T.F_is_spot.kp T.b_is_spot .nil pass0 (pa_cons (pv 0) pa_nil))))
          (pss_one (ps_raise rfl (takes_of rfl rfl rfl rfl) (pmk_err T.E_BadPath (ok_BadPath T) (hr.mono (by decide)) T.b_BadPath pass0 rfl (pa_cons pe_str pa_nil))))
          pss_nil)
        (pss_one (ps_ret (pe_op op_add_str pe_str (pe_join pe_str (pv 0)))))), ?_⟩
    refine ⟨_, rfl, M, v, d, rfl, hv, hz, fun H1 e1 => ⟨_, rfl, ite2 (fun h1 => ⟨_, rfl, fun a H2 n2 => kx (nt_true h1) a H2 ⟨e1.trans n2.1, n2.2.1, e1.free n2.2.2⟩⟩) (fun h1 => ?_)⟩⟩
    obtain ⟨ns, hs, h2, h3⟩ := spot_of (nt_false h1)
    obtain ⟨p, xs, rfl, nM, sq, hda⟩ := (hv.same e1).seq hs
    have ex := strs_of_dv hda
    subst ex
    have q := len_join h2 h3
    refine ⟨⟨_, rfl⟩, _, rfl, _, p, ns, rfl, rfl, sq, by omega, _, _, rfl, rfl, ?_, k ns hs h2 h3 H1 e1⟩
    have w := len_joined h2 h3
    rw [sizeLine_eq]
    have e : ("/" : Str).length = 1 := by decide +kernel
    rw [e]
    omega
theorem ok_spot_told {P : Program} {w : World} {K : PySem.W.Frag} {mg : Str → Option Value} {base : Heap} {fa : Nat → Addr} {fd : Nat → FuncData} (T : Txt K mg fa fd) : FnOk P w K mg base CX0 5 (fa 16) (fd 16) ["text"] (spTold K) := by
  have nd := sc_spot_told.nd
  refine T.F_spot_told.ok sc_spot_told (fun vs H Q E h => ?_) (fun cdv A outer s H vs Q E hr h => ?_)
  · obtain ⟨M, v, d, rfl, _⟩ := h; rfl
  · obtain ⟨M, v, d, rfl, hv, hz, k⟩ := h
    refine ⟨_, (pss_cons (ps_if (PW.pt (pw_or (pt_not (pt_val (pe_callB call_isi (by rfl) T.n_isinstance (by decide +kernel) (pa_cons (pv 0) (pa_cons (pe_bltn (v := .ty "str") (u := .type "str") (by rfl) T.n_str (by decide +kernel) rfl) pa_nil))))) (pw_or1 (pt_not (pt_val (pe_m1 PySem.F.slot_str_startswith PySem.F.type_str_startswith mt_startswith (pv 0) pe_str))))))
          (pss_one (ps_ret pe_non))
          pss_nil)
        (pss_cons (ps_set (i := 1) nd rfl (Or.inl rfl) (pe_ifExp (pt_cmpR op_eq (pv 0) pe_str (nomark _)) (pe_tupN pa_nil) (pe_callTy call_tuple_ofN (by rfl) T.n_tuple (by decide +kernel) (pa_cons (pe_split (pe_slice sl_str (pv 0) (po_some pe_int) po_none) pe_str) pa_nil))))
        (pss_one (ps_ret (pe_ifExp (pt_val (pe_call (ok_is_spot T) (hr.mono (by decide)) rfl T.g_is_spot T.F_is_spot.kp T.b_is_spot .nil pass0 (pa_cons (pv 1) pa_nil))) (pv 1) pe_non))))), ?_⟩
    refine ⟨_, rfl, _, _, _, _, _, rfl, .ty "str", hv.ty, kit_str d, _, rfl, ite2 (fun h => iteT (k _ _ (Same.refl _) (.inl ⟨read_no (nt_true h), rfl⟩))) (fun h => ?_)⟩
    obtain ⟨x, rfl⟩ : ∃ x, d = .str x := by cases d <;> first | exact ⟨_, rfl⟩ | exact absurd rfl h
    cases hv
    have hx := hz x rfl
    refine ⟨_, rfl, ⟨_, rfl⟩, _, _, rfl, rfl, _, rfl, ite2 (fun h1 => k _ _ (Same.refl _) (.inl ⟨?_, rfl⟩)) (fun h1 => ?_)⟩
    · show readP x = none
      unfold readP
      rw [if_neg (by rw [nt_true h1]; exact Bool.false_ne_true)]
    have h1 := nt_false h1
    refine ⟨_, rfl, rfl, _, rfl, ite2 (fun h2 => ?_) (fun h2 => ?_)⟩
    · have h2 : x = "/" := V.str.inj (of_decide_eq_true h2)
      refine ⟨(by show 0 ≤ sizeLine; omega), fun p H2 n2 => ⟨_, rfl, nowhere, .ref p, .tuple ([].map PyData.str), rfl, .tup (fun z => z) (SqT.of n2.2.1) .nil, (fun ds e y m => by cases e; cases m), fun H3 s3 => ⟨_, rfl, ite2 (fun h3 => ⟨_, rfl, k _ _ (n2.1.trans s3) (.inr ⟨[], p, ?_, rfl, Same.seqT s3 (SqT.of n2.2.1)⟩)⟩) (fun h3 => absurd rfl h3)⟩⟩⟩
      show readP x = some []
      unfold readP
      rw [if_pos h1, if_pos h2]
    have h2 : ¬ x = "/" := fun e => h2 (decide_eq_true (by rw [e]))
    have big : sizeLine = 16777216 := sizeLine_eq
    refine ⟨_, rfl, _, rfl, x, rfl, by omega, ⟨_, rfl⟩, _, _, rfl, rfl, by decide +kernel, (by have := cut_short x; omega), fun p1 hp1 => ⟨p1, _, rfl, .inl ⟨SqL.of upd_same, fun p H2 n2 => ?_⟩⟩⟩
    have s2 : Same H H2 := (same_new hp1).trans n2.1
    refine ⟨_, rfl, nowhere, .ref p, .tuple ((Txt.split (cutS x (some 1) none) "/").map PyData.str), rfl, .tup (fun z => z) (SqT.of n2.2.1) (dv_strs _), (fun ds e y m => ?_), fun H3 s3 => ⟨_, rfl, ite2 (fun h3 => ⟨_, rfl, k _ _ (s2.trans s3) (.inr ⟨_, p, ?_, rfl, Same.seqT s3 (SqT.of n2.2.1)⟩)⟩) (fun h3 => k _ _ (s2.trans s3) (.inl ⟨?_, rfl⟩))⟩⟩
    · cases e
      obtain ⟨z, hz1, hz2⟩ := List.mem_map.mp m
      cases hz2
      have w1 := split_short hz1
      have w2 := cut_short x
      omega
    · show readP x = some _
      unfold readP
      rw [if_pos h1, if_neg h2, if_pos h3]
    · show readP x = none
      unfold readP
      rw [if_pos h1, if_neg h2, if_neg h3]
theorem ok_path_of {P : Program} {w : World} {K : PySem.W.Frag} {mg : Str → Option Value} {base : Heap} {fa : Nat → Addr} {fd : Nat → FuncData} (T : Txt K mg fa fd) : FnOk P w K mg base (L2.CX P w) 6 (fa 15) (fd 15) ["text"] (spPathOf K (fa 10)) := by
  have nd := sc_path_of.nd
  refine T.F_path_of.okX sc_path_of (fun vs H Q E h => ?_) (fun cdv A outer s H vs Q E hr h => ?_)
  · obtain ⟨M, v, d, rfl, _⟩ := h; rfl
  · obtain ⟨M, v, d, rfl, hv, hz, kx, k⟩ := h
    refine ⟨_, (pss_cons (ps_set (i := 1) nd rfl (Or.inl rfl) (pe_call (ok_spot_told T) (hr.mono (by decide)) rfl T.g_spot_told T.F_spot_told.kp T.b_spot_told .nil pass0 (pa_cons (pv 0) pa_nil)))
        (pss_cons (ps_if (pt_cmpR op_isN (pv 1) pe_non (nomark _))
          (pss_one (ps_raise rfl (takes_of rfl rfl rfl rfl) (pmk_err2 T.E_BadText (ok_BadText T) (hr.mono (by decide)) T.b_BadText pass0 rfl (pa_cons pe_int (pa_cons pe_int pa_nil)))))
          pss_nil)
        (pss_one (ps_ret (pv 1))))), ?_⟩
    refine ⟨_, rfl, M, v, d, rfl, hv, hz, fun v1 H1 s1 t1 => ⟨_, rfl, rfl, ?_⟩⟩
    rcases t1 with ⟨e, rfl⟩ | ⟨ns, t, e, rfl, sq⟩
    · exact ⟨_, rfl, iteT ⟨_, _, rfl, fun a H2 n2 => kx e a H2 ⟨s1.trans n2.1, n2.2.1, s1.free n2.2.2⟩⟩⟩
    · exact ⟨_, rfl, iteF ⟨_, rfl, k ns e t H1 s1 sq⟩⟩
theorem ok__law_purse {P : Program} {w : World} {K : PySem.W.Frag} {mg : Str → Option Value} {base : Heap} {fa : Nat → Addr} {fd : Nat → FuncData} (T : Txt K mg fa fd) : FnOk P w K mg base CX0 1 (fa 18) (fd 18) ["script"] (spStart K) := by
  have nd := sc__law_purse.nd
  refine T.F__law_purse.ok sc__law_purse (fun vs H Q E h => ?_) (fun cdv A outer s H vs Q E hr h => ?_)
  · obtain ⟨a, ns, rfl, _⟩ := h; rfl
  · obtain ⟨a, ns, rfl, hS, hlen, k⟩ := h
    refine ⟨_, (pss_one (ps_ret (pe_lstN (pa_cons (pe_lc (own := [("cell", 1)]) (g := (gName 1)) (by rfl) nd (pi_list (pe_slice sl_listN (pv 0) po_none (po_some pe_int))) (blkOk_by (N := sl__law_purse) (sc := defScope s__law_purse) (by decide +kernel)) (fun _ _ _ _ _ => (pg_name (i := 1) nd rfl (Or.inl rfl))) (fun _ _ _ _ _ => pts_nil) (fun _ _ _ _ _ => (pe_callTy call_int1 (by rfl) T.n_int (by decide +kernel) (pa_cons (pv 1) pa_nil)))) (pa_cons pe_int (pa_cons pe_int pa_nil)))))), ?_⟩
    refine ⟨_, rfl, _, rfl, a, _, rfl, hS, fun p H1 n1 => ?_⟩
    have ec : cutV (ns.map V.int) none (some 60) = (ns.take 60).map V.int := (cutN (ns.map V.int) 60).trans (List.map_take ..).symm
    have hl : ((ns.take 60).map V.int).length ≤ 10000000 := by rw [List.length_map, List.length_take]; omega
    rw [ec] at n1
    refine ⟨p, rfl, ⟨_, SqL.of n1.2.1⟩, fun D hD => lcg_list (fun _ => False) (fun _ _ => True) (fun i acc _ => acc = ((ns.take 60).map V.int).take i) hD (fun H F => (same_frm F).seq (SqL.of n1.2.1)) hl (fun _ _ _ _ z => z) (fun _ _ _ _ _ z => z) trivial rfl ?_ ?_⟩
    · intro i x acc H2 hx F hDa _ hA Ky Kn ky kn
      obtain ⟨z, rfl⟩ := int_at hx
      refine ⟨rfl, _, rfl, .inl ⟨_, rfl, ky _ H2 F hDa trivial ?_⟩⟩
      rw [hA, take_next hx]
    · intro H2 acc F hDa _ hA _
      rw [hA, List.take_of_length_le (Nat.le_refl _)] at hDa
      refine ⟨(by show 3 ≤ sizeLine; decide), fun l H3 n3 => k l D (ns.take 60) H3 ((n1.1.trans (same_frm F)).trans n3.1) ⟨0, 0, ⟨n3.2.1, n3.1 _ _ hDa, Int.le_refl _, Int.le_refl _⟩, Int.le_refl _⟩ ?_⟩
      exact (n1.1.trans (same_frm F)).free n3.2.2
theorem ok__law_coin {P : Program} {w : World} {K : PySem.W.Frag} {mg : Str → Option Value} {base : Heap} {fa : Nat → Addr} {fd : Nat → FuncData} (T : Txt K mg fa fd) : FnOk P w K mg base CX0 1 (fa 19) (fd 19) ["purse", "many"] spDraw := by
  have nd := sc__law_coin.nd
  refine T.F__law_coin.ok sc__law_coin (fun vs H Q E h => ?_) (fun cdv A outer s H vs Q E hr h => ?_)
  · obtain ⟨a, b, cs, n, m, rfl, _⟩ := h; rfl
  · obtain ⟨a, b, cs, n, m, rfl, ⟨t, r, S, htn⟩, hn, hm, hm2, k⟩ := h
    obtain ⟨ha, hb, ht, hr0⟩ := id S
    refine ⟨_, (pss_cons (ps_if (pt_cmpR op_gt (pe_ix ix_list (pv 0) pe_int (fun _ _ => rfl)) pe_int (nomark _))
          (pss_cons (ps_set (i := 2) nd rfl (Or.inl rfl) (pe_callTy call_int1 (by rfl) T.n_int (by decide +kernel) (pa_cons (pe_ix ix_list (pv 0) pe_int (fun _ _ => rfl)) pa_nil)))
        (pss_cons (ps_asg (pe_op op_fdivL (pv 2) (pv 1)) (pg_sub (pv 0) pe_int set_list))
        (pss_one (ps_ret (pe_op op_modL (pe_callTy call_int1 (by rfl) T.n_int (by decide +kernel) (pa_cons (pv 2) pa_nil)) (pv 1))))))
          pss_nil)
        (pss_cons (ps_set (i := 3) nd rfl (Or.inl rfl) (pe_ix ix_list (pv 0) pe_int (fun _ _ => rfl)))
        (pss_cons (ps_asg (pe_op op_add (pv 3) pe_int) (pg_sub (pv 0) pe_int set_list))
        (pss_cons (ps_if (pt_cmpR (op_eqD hr.units) (pe_ix ix_list (pv 0) pe_int (fun _ _ => rfl)) (pe_lst pa_nil) (nomark _))
          (pss_one (ps_ret pe_int))
          pss_nil)
        (pss_cons (ps_set (i := 4) nd rfl (Or.inl rfl) (pe_ix ix_list (pe_ix ix_list (pv 0) pe_int (fun _ _ => rfl)) (pe_op op_modL (pe_callTy call_int1 (by rfl) T.n_int (by decide +kernel) (pa_cons (pv 3) pa_nil)) (pe_callB call_len_seq (by rfl) T.n_len (by decide +kernel) (pa_cons (pe_ix ix_list (pv 0) pe_int (fun _ _ => rfl)) pa_nil))) (fun _ _ => rfl)))
        (pss_cons (ps_if (PW.pt (pw_and (pt_cmpR op_lt (pv 3) (pe_callB call_len_seq (by rfl) T.n_len (by decide +kernel) (pa_cons (pe_ix ix_list (pv 0) pe_int (fun _ _ => rfl)) pa_nil)) (nomark _)) (pw_and1 (pt_cmpR op_ge (pe_callB call_abs (by rfl) T.n_abs (by decide +kernel) (pa_cons (pv 4) pa_nil)) (pe_op op_powL pe_int pe_int) (nomark _)))))
          (pss_cons (ps_set (i := 2) nd rfl (Or.inl rfl) (pe_op op_add (pe_op op_mulL pe_int (pe_op op_sub (pe_callB call_abs (by rfl) T.n_abs (by decide +kernel) (pa_cons (pv 4) pa_nil)) (pe_op op_powL pe_int pe_int))) (pe_callTy call_int1 (by rfl) T.n_int (by decide +kernel) (pa_cons (pe_cmpR op_lt (pv 4) pe_int (nomark _)) pa_nil))))
        (pss_cons (ps_asg (pe_op op_fdivL (pe_callTy call_int1 (by rfl) T.n_int (by decide +kernel) (pa_cons (pv 2) pa_nil)) (pv 1)) (pg_sub (pv 0) pe_int set_list))
        (pss_one (ps_ret (pe_op op_modL (pe_callTy call_int1 (by rfl) T.n_int (by decide +kernel) (pa_cons (pv 2) pa_nil)) (pv 1))))))
          pss_nil)
        (pss_cons (ps_set (i := 5) nd rfl (Or.inl rfl) (pe_op op_modL (pe_callTy call_int1 (by rfl) T.n_int (by decide +kernel) (pa_cons (pe_op op_powL (pe_op op_add (pe_op op_add (pe_op op_modL (pe_callTy call_int1 (by rfl) T.n_int (by decide +kernel) (pa_cons (pv 4) pa_nil)) pe_int) (pe_op op_mulL pe_int (pv 3))) pe_int) pe_int) pa_nil)) pe_int))
        (pss_cons (ps_set (i := 5) nd rfl (Or.inl rfl) (pe_op op_modL (pe_callTy call_int1 (by rfl) T.n_int (by decide +kernel) (pa_cons (pe_op op_powL (pe_op op_add (pe_op op_add (pe_op op_mulL (pv 5) (pe_op op_add (pe_op op_mulL pe_int (pv 3)) pe_int)) (pe_op op_mulL (pe_op op_mulL pe_int (pv 3)) (pv 3))) pe_int) pe_int) pa_nil)) pe_int))
        (pss_one (ps_ret (pe_op op_modL (pe_callTy call_int1 (by rfl) T.n_int (by decide +kernel) (pa_cons (pe_op op_fdivL (pv 5) pe_int) pa_nil)) (pv 1)))))))))))), ?_⟩
    refine ⟨_, rfl, a, _, 2, _, rfl, rfl, SqL.of ha, rfl, _, _, rfl, rfl, _, rfl, ?_⟩
    refine ite2 (fun h1 => ?_) (fun h1 => ?_)
    · have h1 : 0 < r := of_decide_eq_true h1
      refine ⟨_, rfl, a, _, 2, _, rfl, rfl, SqL.of ha, rfl, .inl ⟨_, rfl, ?_⟩⟩
      refine ⟨_, rfl, _, rfl, _, _, rfl, rfl, draw_div hm hm2, fun r1 er1 => ?_⟩
      refine ⟨_, rfl, a, _, 2, 2, rfl, rfl, ha, rfl, ?_⟩
      refine ⟨_, rfl, .inl ⟨_, rfl, _, rfl, _, _, rfl, rfl, hm, fun d _ d0 d1 => ?_⟩⟩
      exact k _ _ frm_upd ⟨t, r1, S.upd ht (by rw [er1]; exact Int.ediv_nonneg hr0 (Int.le_of_lt hm)), by omega⟩ d0 d1
    · refine ⟨_, rfl, a, _, 1, _, rfl, rfl, SqL.of ha, rfl, ?_⟩
      refine ⟨_, rfl, _, _, rfl, rfl, ?_⟩
      refine ⟨_, rfl, a, _, 1, 1, rfl, rfl, ha, rfl, ?_⟩
      have S1 : Sat a b cs (t + 1) r (upd H a (.lst ([V.ref b, V.int t, V.int r].set 1 (.int (t + 1))))) := S.upd (by omega) hr0
      refine ⟨_, rfl, a, _, 0, _, rfl, rfl, SqL.of S1.ha, rfl, Nat.zero_le _, fun l hl => ?_⟩
      have E1 := same_new (o := .lst []) hl
      have S2 := S1.same E1
      have F2 : Frm (· = a) H _ := frm_upd.trans (frm_same E1)
      refine ints_eq (SqL.of S2.hb) (SqL.of upd_same) ⟨_, rfl, ?_⟩
      clear E1 hl
      revert S1 S2 F2
      generalize upd (upd H a (.lst ([V.ref b, V.int t, V.int r].set 1 (.int (t + 1))))) l (.lst []) = H2
      intro S1 S2 F2
      clear S1
      refine ite2 (fun h2 => k _ _ F2 ⟨_, _, S2, by omega⟩ (by decide) hm) (fun h2 => ?_)
      have h3 : cs ≠ [] := by intro e; subst e; exact h2 rfl
      have l0 : 0 < ((cs.map V.int).length : Int) := by
        cases cs with
        | nil => exact absurd rfl h3
        | cons c cs => exact Int.natCast_pos.mpr (Nat.succ_pos _)
      obtain ⟨c, hc⟩ := cell_at h3 t
      refine ⟨_, rfl, a, _, 0, _, rfl, rfl, SqL.of S2.ha, rfl, _, rfl, .inl ⟨_, rfl, _, rfl, a, _, 0, _, rfl, rfl, SqL.of S2.ha, rfl, b, _, rfl, .inl (SqL.of S2.hb), _, _, rfl, rfl, l0, fun z ez _ _ => ?_⟩⟩
      rw [← ez] at hc
      refine ⟨b, _, _, .int c, rfl, rfl, SqL.of S2.hb, hc, ?_⟩
      -- if turn < len(satchel[0]) and abs(cell) >= 10 ** 18
      refine ⟨_, rfl, _, rfl, a, _, 0, _, rfl, rfl, SqL.of S2.ha, rfl, b, _, rfl, .inl (SqL.of S2.hb), _, _, rfl, rfl, _, rfl, ?_⟩
      refine ite2 (fun h4 => ?_) (fun h4 => ?_)
      · refine ⟨_, rfl, _, rfl, _, _, rfl, rfl, ⟨by decide, by decide, by decide⟩, fun big hbig => ⟨_, _, rfl, rfl, _, rfl, ?_⟩⟩
        refine ite2 (fun h5 => ?_) (fun h5 => ?_)
        · have h5 := of_decide_eq_true h5
          refine ⟨_, rfl, _, rfl, _, _, rfl, rfl, ⟨by decide, by decide, by decide⟩, fun big2 hbig2 => ⟨_, _, rfl, rfl, _, _, rfl, rfl, .inl (by decide), fun y ey => ?_⟩⟩
          refine ⟨_, rfl, _, _, rfl, rfl, .inr ⟨_, rfl, _, _, rfl, rfl, ?_⟩⟩
          rw [← hbig2] at hbig
          refine ⟨_, rfl, .inl ⟨_, rfl, _, rfl, _, _, rfl, rfl, draw_div hm hm2, fun r1 er1 => ?_⟩⟩
          refine ⟨_, rfl, a, _, 2, 2, rfl, rfl, S2.ha, rfl, ?_⟩
          refine ⟨_, rfl, .inl ⟨_, rfl, _, rfl, _, _, rfl, rfl, hm, fun d _ d0 d1 => ?_⟩⟩
          refine k _ _ (F2.trans frm_upd) ⟨t + 1, r1, S2.upd S2.ht (by rw [er1]; exact Int.ediv_nonneg (draw_rest ey (by rw [← hbig]; exact h5)) (Int.le_of_lt hm)), by omega⟩ d0 d1
        · -- mixed = int((int(cell) % p + q * turn + k) ** 5) % p
          refine ⟨_, rfl, .inl ⟨_, rfl, _, _, rfl, rfl, by decide, fun z0 _ z1 z2 => ?_⟩⟩
          refine ⟨_, rfl, _, _, rfl, rfl, .inl (by decide), fun z3 z4 => ⟨_, _, rfl, rfl, _, _, rfl, rfl, _, _, rfl, rfl, ⟨by decide, by decide, ?_⟩, fun z5 _ => ?_⟩⟩
          · omega
          refine .inl ⟨_, rfl, _, _, rfl, rfl, by decide, fun mx _ m0 m1 => ?_⟩
          -- mixed = int((mixed * (2 * turn + k) + q * turn * turn + l) ** 3) % p
          refine ⟨_, rfl, _, rfl, _, _, rfl, rfl, .inl (by decide), fun y0 y1 => ⟨_, _, rfl, rfl, _, _, rfl, rfl, .inl ⟨by omega, by omega⟩, fun y2 y3 => ?_⟩⟩
          refine ⟨_, rfl, _, _, rfl, rfl, .inl (by decide), fun y4 y5 => ⟨_, rfl, _, _, rfl, rfl, .inl ⟨by omega, by omega⟩, fun y6 y7 => ?_⟩⟩
          have b1 := mul_bd (x := mx) (y := y0 + 5009) (A := 2147483648) (B := 3000000) m0 (by omega) (by omega) (by omega)
          have b2 := mul_bd (x := y4) (y := t) (A := 1000000000000) (B := 1000000) (by omega) (by omega) ht (by omega)
          rw [← y3] at b1
          rw [← y7] at b2
          refine ⟨_, _, rfl, rfl, _, _, rfl, rfl, _, _, rfl, rfl, ⟨by decide, by decide, ?_⟩, fun y8 _ => ?_⟩
          · clear y3 y7 y5 y1
            omega
          refine .inl ⟨_, rfl, _, _, rfl, rfl, by decide, fun my _ n0 n1 => ?_⟩
          -- return int(mixed // 64) % many
          refine ⟨_, rfl, _, _, rfl, rfl, ⟨by decide, by decide⟩, fun w0 _ => .inl ⟨_, rfl, _, rfl, _, _, rfl, rfl, hm, fun d _ d0 d1 => ?_⟩⟩
          exact k _ _ F2 ⟨_, _, S2, by omega⟩ d0 d1
      · refine iteF ?_
        -- mixed = int((int(cell) % p + q * turn + k) ** 5) % p
        refine ⟨_, rfl, .inl ⟨_, rfl, _, _, rfl, rfl, by decide, fun z0 _ z1 z2 => ?_⟩⟩
        refine ⟨_, rfl, _, _, rfl, rfl, .inl (by decide), fun z3 z4 => ⟨_, _, rfl, rfl, _, _, rfl, rfl, _, _, rfl, rfl, ⟨by decide, by decide, ?_⟩, fun z5 _ => ?_⟩⟩
        · omega
        refine .inl ⟨_, rfl, _, _, rfl, rfl, by decide, fun mx _ m0 m1 => ?_⟩
        -- mixed = int((mixed * (2 * turn + k) + q * turn * turn + l) ** 3) % p
        refine ⟨_, rfl, _, rfl, _, _, rfl, rfl, .inl (by decide), fun y0 y1 => ⟨_, _, rfl, rfl, _, _, rfl, rfl, .inl ⟨by omega, by omega⟩, fun y2 y3 => ?_⟩⟩
        refine ⟨_, rfl, _, _, rfl, rfl, .inl (by decide), fun y4 y5 => ⟨_, rfl, _, _, rfl, rfl, .inl ⟨by omega, by omega⟩, fun y6 y7 => ?_⟩⟩
        have b1 := mul_bd (x := mx) (y := y0 + 5009) (A := 2147483648) (B := 3000000) m0 (by omega) (by omega) (by omega)
        have b2 := mul_bd (x := y4) (y := t) (A := 1000000000000) (B := 1000000) (by omega) (by omega) ht (by omega)
        rw [← y3] at b1
        rw [← y7] at b2
        refine ⟨_, _, rfl, rfl, _, _, rfl, rfl, _, _, rfl, rfl, ⟨by decide, by decide, ?_⟩, fun y8 _ => ?_⟩
        · clear y3 y7 y5 y1
          omega
        refine .inl ⟨_, rfl, _, _, rfl, rfl, by decide, fun my _ n0 n1 => ?_⟩
        -- return int(mixed // 64) % many
        refine ⟨_, rfl, _, _, rfl, rfl, ⟨by decide, by decide⟩, fun w0 _ => .inl ⟨_, rfl, _, rfl, _, _, rfl, rfl, hm, fun d _ d0 d1 => ?_⟩⟩
        exact k _ _ F2 ⟨_, _, S2, by omega⟩ d0 d1
theorem ok__law_any {P : Program} {w : World} {K : PySem.W.Frag} {mg : Str → Option Value} {base : Heap} {fa : Nat → Addr} {fd : Nat → FuncData} (T : Txt K mg fa fd) : FnOk P w K mg base CX0 2 (fa 20) (fd 20) ["purse", "some"] (spPickA K) := by
  have nd := sc__law_any.nd
  refine T.F__law_any.ok sc__law_any (fun vs H Q E h => ?_) (fun cdv A outer s H vs Q E hr h => ?_)
  · rcases h with ⟨a, b, cs, n, p, xs, rfl, _⟩ | ⟨a, b, cs, n, z, rfl, _⟩ <;> rfl
  · have h0 := h
    refine ⟨_, (pss_one (ps_ret (pe_ix (ix_or ix_list ix_str) (pv 1) (pe_call (ok__law_coin T) (hr.mono (by decide)) rfl T.g__law_coin T.F__law_coin.kp T.b__law_coin .nil pass0 (pa_cons (pv 0) (pa_cons (pe_callB (call_or call_len_seq call_len_str) (by rfl) T.n_len (by decide +kernel) (pa_cons (pv 1) pa_nil)) pa_nil))) (fun _ _ => rfl)))), ?_⟩
    rcases h0 with ⟨a, b, cs, n, p, xs, rfl, S, hn, np, hs, hne, hz, k⟩ | ⟨a, b, cs, n, z, rfl, S, hn, z0, z1, k⟩
    · have l0 : 0 < (xs.length : Int) := by
        cases xs with
        | nil => exact absurd rfl hne
        | cons x r => exact Int.natCast_pos.mpr (Nat.succ_pos _)
      refine ⟨_, rfl, _, rfl, _, rfl, .inl ⟨p, xs, rfl, .inl hs, a, b, cs, n, _, rfl, S, hn, l0, by omega, fun H1 d F1 S1 d0 d1 => ?_⟩⟩
      obtain ⟨x, hx, ha⟩ := atI_some d0 d1
      exact .inl ⟨p, xs, d, x, rfl, rfl, F1.seq np hs, ha, k _ _ F1 S1 hx⟩
    · refine ⟨_, rfl, _, rfl, _, rfl, .inr ⟨z, rfl, (by rw [sizeLine_eq]; omega), a, b, cs, n, _, rfl, S, hn, by omega, by omega, fun H1 d F1 S1 d0 d1 => ?_⟩⟩
      obtain ⟨c, hc, ha⟩ := sign_some d0 d1
      exact .inr ⟨z, d, c, rfl, rfl, (by rw [sizeLine_eq]; omega), ha, k _ _ F1 S1 hc⟩
theorem ok__law_name {P : Program} {w : World} {K : PySem.W.Frag} {mg : Str → Option Value} {base : Heap} {fa : Nat → Addr} {fd : Nat → FuncData} (T : Txt K mg fa fd) : FnOk P w K mg base CX0 3 (fa 21) (fd 21) ["purse"] spName_ := by
  have nd := sc__law_name.nd
  refine T.F__law_name.ok sc__law_name (fun vs H Q E h => ?_) (fun cdv A outer s H vs Q E hr h => ?_)
  · obtain ⟨a, b, cs, n, rfl, _⟩ := h; rfl
  · obtain ⟨a, b, cs, n, rfl, S, hn, k⟩ := h
    refine ⟨_, (pss_cons (ps_if (pt_cmpR op_lt (pe_call (ok__law_coin T) (hr.mono (by decide)) rfl T.g__law_coin T.F__law_coin.kp T.b__law_coin .nil pass0 (pa_cons (pv 0) (pa_cons pe_int pa_nil))) pe_int (nomark _))
          (pss_one (ps_ret (pe_call (ok__law_any T) (hr.mono (by decide)) rfl T.g__law_any T.F__law_any.kp T.b__law_any .nil pass0 (pa_cons (pv 0) (pa_cons (pe_lstN (pa_cons pe_str (pa_cons pe_str (pa_cons pe_str (pa_cons pe_str (pa_cons pe_str pa_nil)))))) pa_nil)))))
          pss_nil)
        (pss_cons (ps_set (i := 1) nd rfl (Or.inr rfl) pe_str)
        (pss_one (ps_ret (pe_join pe_str (pe_lc (own := [("turn", 2)]) (g := (gName 2)) (by rfl) nd (pi_range1 rfl T.n_range (pa_cons (pe_call (ok__law_any T) (hr.mono (by decide)) rfl T.g__law_any T.F__law_any.kp T.b__law_any .nil pass0 (pa_cons (pv 0) (pa_cons (pe_lstN (pa_cons pe_int (pa_cons pe_int (pa_cons pe_int (pa_cons pe_int (pa_cons pe_int pa_nil)))))) pa_nil))) pa_nil)) (blkOk_by (N := sl__law_name) (sc := defScope s__law_name) (by decide +kernel)) (fun _ _ _ _ _ => (pg_name (i := 2) nd rfl (Or.inl rfl))) (fun _ _ _ _ _ => pts_nil) (fun _ _ _ _ _ => (pe_call (ok__law_any T) (hr.mono (by decide)) rfl T.g__law_any T.F__law_any.kp T.b__law_any .nil pass0 (pa_cons (pv 0) (pa_cons (pv 1) pa_nil)))))))))), ?_⟩
    refine ⟨_, rfl, a, b, cs, n, _, rfl, S, by omega, by decide, by decide, fun H1 d1 F1 S1 l1 u1 => ⟨_, _, rfl, rfl, _, rfl, ite2 (fun h1 => ?_) (fun h1 => ?_)⟩⟩
    · refine ⟨_, rfl, (by show 5 ≤ sizeLine; decide), fun p2 H2 n2 => .inl ⟨a, b, cs, _, p2, _, rfl, S1.new n2, by omega, S1.ne n2, SqL.of n2.2.1, (fun z => nomatch z), (by show 5 < 2 ^ 62; decide), fun H3 x F3 S3 hx => ?_⟩⟩
      obtain ⟨z, rfl, hz⟩ : ∃ z : Str, x = .str z ∧ nameD (.str z) = true := by
        simp only [List.mem_cons, List.not_mem_nil, or_false] at hx
        rcases hx with rfl | rfl | rfl | rfl | rfl <;> exact ⟨_, rfl, by decide +kernel⟩
      exact k H3 z (by walk_at "fr") (S3.le (by omega)) hz
    refine ⟨⟨_, rfl⟩, _, rfl, (by show 5 ≤ sizeLine; decide), fun p2 H2 n2 => .inl ⟨a, b, cs, _, p2, _, rfl, S1.new n2, by omega, S1.ne n2, SqL.of n2.2.1, (fun z => nomatch z), (by show 5 < 2 ^ 62; decide), fun H3 x F3 S3 hx => ?_⟩⟩
    obtain ⟨w, rfl, w0, w1⟩ : ∃ w : Int, x = .int w ∧ 1 ≤ w ∧ w ≤ 12 := by
      simp only [List.mem_cons, List.not_mem_nil, or_false] at hx
      rcases hx with rfl | rfl | rfl | rfl | rfl <;> exact ⟨_, rfl, by decide, by decide⟩
    have F13 : Frm (· = a) H H3 := by walk_at "fr"
    refine ⟨w, rfl, by omega, by omega, fun D hD => ?_⟩
    have neD := S3.neD hD
    refine lcg_range (· = a) (fun i H => Sx a b cs (n + 2 + i) H) (fun i acc _ => ∃ l : List Nat, acc = l.map (fun c => V.str ⟨#[c]⟩) ∧ l.length = i ∧ l.all nameSign = true) hD (by omega) (fun i H l F S' => S3.updD hD S') (fun _ _ _ _ _ z => z) (S3.le (by omega)) ⟨[], rfl, rfl, rfl⟩ ?_ ?_
    · rintro i acc H4 hi F hDa hS ⟨l, hl, hll, hla⟩ Ky Kn ky kn
      refine ⟨rfl, _, rfl, _, rfl, .inr ⟨a, b, cs, _, _, rfl, hS, by omega, (by decide +kernel), (by decide +kernel), fun H5 c F5 S5 hc => ?_⟩⟩
      have hc : nameSign c = true := by rw [← sign_in c]; exact decide_eq_true hc
      refine ky _ H5 (F.trans F5) (F5 D _ neD hDa) (S5.le (by omega)) ⟨l ++ [c], ?_, ?_, ?_⟩
      · rw [hl, List.map_append]; rfl
      · rw [List.length_append, hll]; rfl
      · rw [List.all_append, hla]; simp [hc]
    rintro H4 acc F4 hDa hS4 ⟨l, rfl, hll, hla⟩ _
    refine ⟨_, D, l.map (fun c => (⟨#[c]⟩ : Str)), rfl, rfl, .inl (SqL.of (by rw [List.map_map]; exact hDa)), ?_, ?_⟩
    · rw [sum_ones, List.length_map]
      show l.length + l.length * 0 ≤ _
      omega
    have hz : TL.tl (Txt.join "" (l.map fun c => (⟨#[c]⟩ : Str))) = l := tl_join_signs l
    refine k H4 _ (F13.trans F4) (hS4.le (by omega)) (name_mk ?_ ?_ ?_)
    · rw [TL.len_tl, hz, hll]; omega
    · rw [TL.len_tl, hz, hll]; omega
    · rw [hz]; exact hla
theorem ok__law_spot {P : Program} {w : World} {K : PySem.W.Frag} {mg : Str → Option Value} {base : Heap} {fa : Nat → Addr} {fd : Nat → FuncData} (T : Txt K mg fa fd) : FnOk P w K mg base CX0 4 (fa 22) (fd 22) ["purse", "least"] (spSpot_ K) := by
  have nd := sc__law_spot.nd
  refine T.F__law_spot.ok sc__law_spot (fun vs H Q E h => ?_) (fun cdv A outer s H vs Q E hr h => ?_)
  · obtain ⟨a, b, cs, n, rfl, _⟩ := h; rfl
  · obtain ⟨a, b, cs, n, rfl, S, hn, k⟩ := h
    refine ⟨_, (pss_cons (ps_set (i := 2) nd rfl (Or.inl rfl) (pe_callB (call_max2 rfl) (by rfl) T.n_max (by decide +kernel) (pa_cons (pv 1) (pa_cons (pe_call (ok__law_any T) (hr.mono (by decide)) rfl T.g__law_any T.F__law_any.kp T.b__law_any .nil pass0 (pa_cons (pv 0) (pa_cons (pe_lstN (pa_cons pe_int (pa_cons pe_int (pa_cons pe_int (pa_cons pe_int (pa_cons pe_int (pa_cons pe_int (pa_cons pe_int (pa_cons pe_int (pa_cons pe_int pa_nil)))))))))) pa_nil))) pa_nil))))
        (pss_one (ps_ret (pe_callTy call_tuple_ofN (by rfl) T.n_tuple (by decide +kernel) (pa_cons (pe_lc (own := [("turn", 3)]) (g := (gName 3)) (by rfl) nd (pi_range1 rfl T.n_range (pa_cons (pv 2) pa_nil)) (blkOk_by (N := sl__law_spot) (sc := defScope s__law_spot) (by decide +kernel)) (fun _ _ _ _ _ => (pg_name (i := 3) nd rfl (Or.inl rfl))) (fun _ _ _ _ _ => pts_nil) (fun _ _ _ _ _ => (pe_call (ok__law_name T) (hr.mono (by decide)) rfl T.g__law_name T.F__law_name.kp T.b__law_name .nil pass0 (pa_cons (pv 0) pa_nil)))) pa_nil))))), ?_⟩
    refine ⟨_, rfl, _, rfl, (by show 9 ≤ sizeLine; decide), fun p1 H1 n1 => .inl ⟨a, b, cs, _, p1, _, rfl, S.new n1, by omega, S.ne n1, SqL.of n1.2.1, (fun z => nomatch z), (by show 9 < 2 ^ 62; decide), fun H2 x F2 S2 hx => ?_⟩⟩
    obtain ⟨w, rfl, w0, w1⟩ : ∃ w : Int, x = .int w ∧ 0 ≤ w ∧ w ≤ 6 := by
      simp only [List.mem_cons, List.not_mem_nil, or_false] at hx
      rcases hx with rfl | rfl | rfl | rfl | rfl | rfl | rfl | rfl | rfl <;> exact ⟨_, rfl, by decide, by decide⟩
    have F12 : Frm (· = a) H H2 := by walk_at "fr"
    obtain ⟨m, em, m0, m1⟩ : ∃ m : Int, (if w > 0 then w else 0) = m ∧ 0 ≤ m ∧ m ≤ 6 := ⟨_, rfl, by split <;> omega, by split <;> omega⟩
    refine ⟨0, w, rfl, ?_⟩
    rw [em]
    refine ⟨_, rfl, m, rfl, by omega, by omega, fun D hD => ?_⟩
    have neD := S2.neD hD
    refine lcg_range (· = a) (fun i H => Sx a b cs (n + 1 + 15 * i) H) (fun i acc _ => ∃ ns : List Str, acc = ns.map V.str ∧ ns.length = i ∧ ∀ z ∈ ns, nameD (.str z) = true) hD (by omega) (fun i H l F S' => S2.updD hD S') (fun _ _ _ _ _ z => z) (S2.le (by omega)) ⟨[], rfl, rfl, by simp⟩ ?_ ?_
    · rintro i acc H4 hi F hDa hS ⟨l, hl, hll, hla⟩ Ky Kn ky kn
      refine ⟨rfl, _, rfl, a, b, cs, _, rfl, hS, by omega, fun H5 z F5 S5 hz => ?_⟩
      refine ky _ H5 (F.trans F5) (F5 D _ neD hDa) (S5.le (by omega)) ⟨l ++ [z], ?_, ?_, ?_⟩
      · rw [hl, List.map_append]; rfl
      · rw [List.length_append, hll]; rfl
      · intro y hy
        rcases List.mem_append.mp hy with q | q
        · exact hla y q
        · rw [List.mem_singleton.mp q]; exact hz
    rintro H4 acc F4 hDa hS4 ⟨l, rfl, hll, hla⟩ _
    obtain ⟨_, o1⟩ := S.at
    obtain ⟨_, o4⟩ := hS4.at
    refine ⟨D, _, rfl, .inl ⟨SqL.of hDa, fun p H5 n5 => k H5 p l ((F12.trans F4).trans (frm_same n5.1)) ((hS4.new n5).le (by omega)) (SqT.of n5.2.1) (Frm_free (F12.trans F4) o1 o4 n5.2.2) (hS4.ne n5) (by omega) hla⟩⟩
theorem ok__law_read {P : Program} {w : World} {K : PySem.W.Frag} {mg : Str → Option Value} {base : Heap} {fa : Nat → Addr} {fd : Nat → FuncData} (T : Txt K mg fa fd) : FnOk P w K mg base CX0 1 (fa 23) (fd 23) ["text"] (spLRead K) := by
  have nd := sc__law_read.nd
  refine T.F__law_read.ok sc__law_read (fun vs H Q E h => ?_) (fun cdv A outer s H vs Q E hr h => ?_)
  · obtain ⟨M, v, d, rfl, _⟩ := h; rfl
  · obtain ⟨M, v, d, rfl, hv, hz, k⟩ := h
    refine ⟨_, (pss_cons (ps_if (PW.pt (pw_or (pt_not (pt_val (pe_callB call_isi (by rfl) T.n_isinstance (by decide +kernel) (pa_cons (pv 0) (pa_cons (pe_bltn (v := .ty "str") (u := .type "str") (by rfl) T.n_str (by decide +kernel) rfl) pa_nil))))) (pw_or1 (pt_cmpR op_ne (pe_slice sl_str (pv 0) po_none (po_some pe_int)) pe_str (nomark _)))))
          (pss_one (ps_ret pe_non))
          pss_nil)
        (pss_cons (ps_if (pt_cmpR op_eq (pv 0) pe_str (nomark _))
          (pss_one (ps_ret (pe_tupN pa_nil)))
          pss_nil)
        (pss_cons (ps_set (i := 1) nd rfl (Or.inl rfl) (pe_split (pe_slice sl_str (pv 0) (po_some pe_int) po_none) pe_str))
        (pss_cons (ps_if (PW.pt (pw_or (pt_cmpR op_gt (pe_callB call_len_seq (by rfl) T.n_len (by decide +kernel) (pa_cons (pv 1) pa_nil)) pe_int (nomark _)) (pw_or1 (pt_cmpR (op_neD hr.units) (pe_lc (own := [("name", 2)]) (g := (gName 2)) (by rfl) nd (pi_list (pv 1)) (blkOk_by (N := sl__law_read) (sc := defScope s__law_read) (by decide +kernel)) (fun _ _ _ _ _ => (pg_name (i := 2) nd rfl (Or.inl rfl))) (fun _ _ _ _ _ => (pts_one (PW.pt (pw_or (pt_cmpR op_eq (pv 2) pe_str (nomark _)) (pw_or1 (pt_cmpR op_gt (pe_callB call_len_str (by rfl) T.n_len (by decide +kernel) (pa_cons (pv 2) pa_nil)) pe_int (nomark _))))))) (fun _ _ _ _ _ => (pv 2))) (pe_lstN pa_nil) (nomark _)))))
          (pss_one (ps_ret pe_non))
          pss_nil)
        (pss_one (ps_ret (pe_ifExp (pt_cmpR (op_eqD hr.units) (pe_lc (own := [("sign", 3)]) (g := (gName 3)) (by rfl) nd (pi_str (pv 0)) (blkOk_by (N := sl__law_read) (sc := defScope s__law_read) (by decide +kernel)) (fun _ _ _ _ _ => (pg_name (i := 3) nd rfl (Or.inl rfl))) (fun _ _ _ _ _ => (pts_one (pt_cmpR op_notIn_sign (pv 3) pe_str (by rfl)))) (fun _ _ _ _ _ => (pv 3))) (pe_lstN pa_nil) (nomark _)) (pe_callTy call_tuple_ofN (by rfl) T.n_tuple (by decide +kernel) (pa_cons (pv 1) pa_nil)) pe_non))))))), ?_⟩
    refine ⟨_, rfl, _, _, _, _, _, rfl, .ty "str", hv.ty, kit_str d, _, rfl, ite2 (fun h => iteT (k _ _ (Same.refl _) (.inl ⟨read_no (nt_true h), rfl⟩))) (fun h => ?_)⟩
    obtain ⟨x, rfl⟩ : ∃ x, d = .str x := by cases d <;> first | exact ⟨_, rfl⟩ | exact absurd rfl h
    cases hv
    obtain ⟨hx, hch⟩ := hz x rfl
    have big : sizeLine = 16777216 := sizeLine_eq
    refine ⟨_, rfl, _, rfl, x, rfl, by omega, rfl, _, rfl, ite2 (fun h1 => k _ _ (Same.refl _) (.inl ⟨readL_e (readL_a ?_), rfl⟩)) (fun h1 => ?_)⟩
    · exact str_no_test (fun q => by rw [nt_true h1] at q; cases q)
    have h1 : ¬ cutS x none (some 1) ≠ "/" := not_not_intro (str_of_test (nt_false h1))
    refine ⟨_, rfl, rfl, _, rfl, ite2 (fun h2 => ⟨(by show 0 ≤ sizeLine; omega), fun p H2 n2 => k _ _ n2.1 (.inr ⟨[], p, readL_f (readL_b h1 (str_of_test h2)), rfl, SqT.of n2.2.1⟩)⟩) (fun h2 => ?_)⟩
    have h2 := str_no_test h2
    refine ⟨_, rfl, _, rfl, x, rfl, by omega, ⟨_, rfl⟩, _, _, rfl, rfl, by decide +kernel, (by have := cut_short x; omega), fun p1 hp1 => ?_⟩
    have s1 := same_new (o := .lst ((Txt.split (cutS x (some 1) none) "/").map V.str)) hp1
    have q1 := SqL.of (K := K) (upd_same (H := H) (a := p1) (o := .lst ((Txt.split (cutS x (some 1) none) "/").map V.str)))
    have few := split_few (cutS x (some 1) none)
    have shr : ∀ z ∈ Txt.split (cutS x (some 1) none) "/", z.length ≤ x.length := fun z hz => Nat.le_trans (split_short hz) (cut_short x)
    have lx := cut_short x
    have sok := split_chars (r := cutS x (some 1) none) (fun c hc => hch c (by rw [cut_one] at hc; exact List.mem_of_mem_drop hc))
    have nc := fun h3 => readL_c h1 h2 h3
    have nd := fun h3 => readL_d h1 h2 h3
    revert s1 q1 few shr sok nc nd
    generalize upd H p1 (.lst ((Txt.split (cutS x (some 1) none) "/").map V.str)) = H1
    generalize Txt.split (cutS x (some 1) none) "/" = ns
    intro s1 q1 few shr sok nc nd
    refine ⟨_, rfl, p1, _, rfl, .inl q1, _, _, rfl, rfl, _, rfl, ite2 (fun h3 => iteT (k _ _ s1 (.inl ⟨readL_e (nc (.inl ?_)), rfl⟩))) (fun h3 => ?_)⟩
    · have q := of_decide_eq_true h3
      rw [List.length_map] at q
      omega
    have h3 : ¬ 6 < ns.length := fun w => h3 (decide_eq_true (by rw [List.length_map]; omega))
    refine ⟨_, rfl, p1, rfl, ⟨_, q1⟩, fun D hD => lc_keep (M := nowhere) badD hD (.inl ⟨rfl, q1⟩) (dva_strs ns) (by rw [List.length_map]; omega) ?_ ?_⟩
    · intro y dy H2 hm hy _ Ky Kn ky kn
      obtain ⟨z, hz, rfl⟩ := List.mem_map.mp hm
      cases hy
      have lz := shr z hz
      refine ⟨rfl, _, rfl, rfl, _, rfl, ite2 (fun h4 => ?_) (fun h4 => ?_)⟩
      · refine iteT ⟨_, rfl, ky ?_ _ (Same.refl _)⟩
        show badName z = true
        unfold badName
        rw [decide_eq_true (str_of_test h4), Bool.true_or]
      · have e0 : decide (z = "") = false := decide_eq_false (str_no_test h4)
        refine ⟨_, rfl, z, rfl, by omega, _, _, rfl, rfl, _, rfl, ite2 (fun h5 => ⟨_, rfl, ky ?_ _ (Same.refl _)⟩) (fun h5 => kn ?_ _ (Same.refl _))⟩
        · show badName z = true
          unfold badName
          rw [e0, decide_eq_true (show 12 < z.length by have q := of_decide_eq_true h5; omega), Bool.false_or]
        · show badName z = false
          unfold badName
          rw [e0, decide_eq_false (show ¬ 12 < z.length from fun w => h5 (decide_eq_true (by omega))), Bool.false_or]
    intro H2 ys s2 hD2 hda
    rw [filter_strs] at hda
    refine ⟨(by show 0 ≤ sizeLine; omega), fun l H3 n3 => ne_nil' (SqL.of (n3.1 _ _ hD2)) (hda.same n3.1) (tame_strs fun z hz => sok z (List.mem_filter.mp hz).1) (SqL.of n3.2.1) (b := ns.any badName) ?_ ⟨_, rfl, ite2 (fun h4 => k _ _ (s1.trans (s2.trans n3.1)) (.inl ⟨readL_e (nc (.inr h4)), rfl⟩)) (fun h4 => ?_)⟩⟩
    · rw [List.isEmpty_map]
      exact filter_any badName ns
    have e4 := nd (fun w => w.elim h3 h4)
    have s3 : Same H H3 := s1.trans (s2.trans n3.1)
    refine ⟨_, rfl, x, rfl, fun D hD => lc_strK (fun c => !okSign c) hD (by omega) ?_ ?_⟩
    · intro c H4 hc _ Ky Kn ky kn
      refine ⟨rfl, _, rfl, c, _, rfl, rfl, _, rfl, ?_⟩
      rw [ok_sign c]
      cases e : okSign c with
      | true => exact iteF (kn (by show (!okSign c) = false; rw [e]; rfl) _ (Same.refl _))
      | false => exact iteT ⟨_, rfl, ky (by show (!okSign c) = true; rw [e]; rfl) _ (Same.refl _)⟩
    intro H4 s4 hD4
    refine ⟨(by show 0 ≤ sizeLine; omega), fun l5 H5 n5 => eq_nil' (SqL.of (n5.1 _ _ hD4)) (dva_signs (M := nowhere) _) (tame_strs fun z hz => by
        obtain ⟨c, hc, rfl⟩ := List.mem_map.mp hz
        exact strOk_of fun y hy => by
          rw [tl_sign, List.mem_singleton] at hy
          rw [hy]
          exact hch c (List.mem_filter.mp hc).1) (SqL.of n5.2.1) (b := (TL.tl x).all okSign) ?_ ⟨_, rfl, ite2 (fun h5 => ?_) (fun h5 => ?_)⟩⟩
    · rw [← filter_none okSign (TL.tl x)]
      cases (TL.tl x).filter (fun c => !okSign c) <;> rfl
    · rw [if_pos h5] at e4
      have s5 := s2.trans (n3.1.trans (s4.trans n5.1))
      exact ⟨_, rfl, p1, _, rfl, .inl ⟨s5.seq q1, fun t H6 n6 => k _ _ (s1.trans (s5.trans n6.1)) (.inr ⟨ns, t, readL_f e4, rfl, SqT.of n6.2.1⟩)⟩⟩
    · rw [if_neg h5] at e4
      exact k _ _ (s3.trans (s4.trans n5.1)) (.inl ⟨readL_e e4, rfl⟩)
theorem ok__law_bent {P : Program} {w : World} {K : PySem.W.Frag} {mg : Str → Option Value} {base : Heap} {fa : Nat → Addr} {fd : Nat → FuncData} (T : Txt K mg fa fd) : FnOk P w K mg base CX0 3 (fa 24) (fd 24) ["purse", "text"] spBent := by
  have nd := sc__law_bent.nd
  refine T.F__law_bent.ok sc__law_bent (fun vs H Q E h => ?_) (fun cdv A outer s H vs Q E hr h => ?_)
  · obtain ⟨a, b, cs, n, z, rfl, _⟩ := h; rfl
  · obtain ⟨a, b, cs, n, z, rfl, S, hn, z1, fz, k⟩ := h
    refine ⟨_, (pss_cons (ps_par (i := 2) (j := 3) (by rfl) nd rfl rfl (by decide) rfl rfl (pa_cons (pe_call (ok__law_coin T) (hr.mono (by decide)) rfl T.g__law_coin T.F__law_coin.kp T.b__law_coin .nil pass0 (pa_cons (pv 0) (pa_cons (pe_callB call_len_str (by rfl) T.n_len (by decide +kernel) (pa_cons (pv 1) pa_nil)) pa_nil))) (pa_cons (pe_call (ok__law_coin T) (hr.mono (by decide)) rfl T.g__law_coin T.F__law_coin.kp T.b__law_coin .nil pass0 (pa_cons (pv 0) (pa_cons pe_int pa_nil))) pa_nil)) (by rfl))
        (pss_cons (ps_set (i := 4) nd rfl (Or.inl rfl) (pe_call (ok__law_any T) (hr.mono (by decide)) rfl T.g__law_any T.F__law_any.kp T.b__law_any .nil pass0 (pa_cons (pv 0) (pa_cons (pe_lstN (pa_cons pe_str (pa_cons pe_str (pa_cons pe_str (pa_cons pe_str (pa_cons pe_str (pa_cons pe_str (pa_cons pe_str (pa_cons pe_str (pa_cons pe_str (pa_cons pe_str (pa_cons pe_str (pa_cons pe_str (pa_cons pe_str (pa_cons pe_str pa_nil))))))))))))))) pa_nil))))
        (pss_cons (ps_if (pt_cmpR op_lt (pv 3) pe_int (nomark _))
          (pss_one (ps_ret (pe_op op_add_str (pe_op op_add_str (pe_slice sl_str (pv 1) po_none (po_some (pv 2))) (pv 4)) (pe_slice sl_str (pv 1) (po_some (pe_op op_add (pv 2) pe_int)) po_none))))
          pss_nil)
        (pss_cons (ps_if (pt_cmpR op_lt (pv 3) pe_int (nomark _))
          (pss_one (ps_ret (pe_op op_add_str (pe_op op_add_str (pe_slice sl_str (pv 1) po_none (po_some (pe_op op_sub (pe_op op_add (pv 2) (pv 3)) pe_int))) (pv 4)) (pe_slice sl_str (pv 1) (po_some (pe_op op_sub (pe_op op_add (pv 2) (pv 3)) pe_int)) po_none))))
          pss_nil)
        (pss_one (ps_ret (pe_ifExp (pt_cmpR op_eq (pv 3) pe_int (nomark _)) (pe_slice sl_str (pv 1) po_none (po_some (pv 2))) (pe_op op_add_str (pv 1) (pv 4))))))))), ?_⟩
    have big : sizeLine = 16777216 := sizeLine_eq
    have z2 := fz.1
    refine ⟨_, rfl, _, rfl, z, rfl, by omega, a, b, cs, n, _, rfl, S, by omega, by omega, by omega, fun H1 at_ F1 S1 l1 u1 => ⟨_, rfl, a, b, cs, _, _, rfl, S1, by omega, by decide, by decide, fun H2 way F2 S2 l2 u2 => ⟨_, _, rfl, ?_⟩⟩⟩
    refine ⟨_, rfl, (by show 14 ≤ sizeLine; omega), fun p3 H3 n3 => .inl ⟨a, b, cs, _, p3, _, rfl, S2.new n3, by omega, S2.ne n3, SqL.of n3.2.1, (fun z => nomatch z), (by show 14 < 2 ^ 62; decide), fun H4 x F4 S4 hx => ?_⟩⟩
    obtain ⟨o, rfl, fo⟩ : ∃ o : Str, x = .str o ∧ Fine o 20 := by
      simp only [List.mem_cons, List.not_mem_nil, or_false] at hx
      rcases hx with rfl | rfl | rfl | rfl | rfl | rfl | rfl | rfl | rfl | rfl | rfl | rfl | rfl | rfl <;> exact ⟨_, rfl, fine_by (by decide +kernel)⟩
    have F : Frm (· = a) H H4 := by walk_at "fr"
    have o1 := fo.1
    refine (show _ from ?_)
    have kk := fun y fy => k H4 y F (S4.le (by omega)) fy
    have f1 := fz.lo l1
    have f2 := fz.hi (i := at_ + 1) (by omega)
    have f1' := f1.1
    have f2' := f2.1
    refine ⟨_, rfl, _, _, rfl, rfl, _, rfl, ite2 (fun h1 => ?_) (fun h1 => ?_)⟩
    · have fa := f1.cat fo
      have fa' := fa.1
      have fb := fa.cat f2
      have fb' := fb.1
      exact ⟨_, rfl, _, rfl, _, rfl, z, rfl, by omega, _, rfl, _, _, rfl, rfl, by omega, _, rfl, _, rfl, _, _, rfl, rfl, _, rfl, z, rfl, by omega, _, _, rfl, rfl, by omega, kk _ (fb.le (by decide))⟩
    have h1 : ¬ way < 2 := fun w => h1 (decide_eq_true w)
    have g1 := fz.lo (i := at_ + way - 2) (by omega)
    have g2 := fz.hi (i := at_ + way - 2) (by omega)
    have g1' := g1.1
    have g2' := g2.1
    refine ⟨_, rfl, _, _, rfl, rfl, _, rfl, ite2 (fun h2 => ?_) (fun h2 => ?_)⟩
    · have fa := g1.cat fo
      have fa' := fa.1
      have fb := fa.cat g2
      have fb' := fb.1
      exact ⟨_, rfl, _, rfl, _, rfl, _, _, rfl, rfl, _, _, rfl, rfl, _, rfl, z, rfl, by omega, _, rfl, _, _, rfl, rfl, by omega, _, rfl, _, rfl, _, rfl, _, _, rfl, rfl, _, _, rfl, rfl, _, rfl, z, rfl, by omega, _, _, rfl, rfl, by omega, kk _ (fb.le (by decide))⟩
    refine ⟨_, rfl, rfl, _, rfl, ite2 (fun h3 => ?_) (fun h3 => ?_)⟩
    · exact ⟨_, rfl, _, rfl, _, rfl, z, rfl, by omega, kk _ (f1.le (by decide))⟩
    · have fa := fz.cat fo
      have fa' := fa.1
      exact ⟨_, rfl, _, rfl, _, _, rfl, rfl, by omega, kk _ (fa.le (by decide))⟩
theorem heard_gives {X : Cx} {fa : Nat → Addr} {fd : Nat → FuncData} (T : Txt X.K X.mg fa fd) {g : Addr} {cdg : Value} {q : Str} : GivesN X sl__law_heard "_law_heard" (defScope s__law_heard) g cdg (defBody s__law_heard) "ask" q (TTh (fa 9) (fa 10)) := by
  intro f c' s H Q tl act hc h
  have nd := sc__law_heard.nd
  refine ⟨_, pss_cons (ps_set (i := 1) nd rfl (Or.inl rfl) pe_non) (pss_cons (ps_try_keep (i := 2) (j := 1) (tb := fun W D σ H => ∃ Ech : XK, (∀ cls d H', Ech cls d H' → W cls d σ H') ∧ σ[0]? = some (some (.ref f)) ∧ H c' = some (LamX.CodeO c' q) ∧ ∃ R' : VK, (∀ x H', R' x H' → D.nx σ H') ∧ tl Ech H R')
    (Wout := fun _ _ _ _ => False) rfl rfl nd rfl rfl rfl (Or.inl rfl) (.inr rfl) rfl (Or.inl rfl) ⟨rfl, by decide, Or.inl T.M_MeetError⟩ takes0 (fun W pn xe tk _ => ?_)) (pss_cons (ps_if (pt_val (pe_callB call_isK (by rfl) T.n_isinstance (by decide +kernel) (pa_cons (pv 1) (pa_cons (pe_glob (v := .ref _) rfl T.E_BadText.one.gC rfl) pa_nil))))
          (pss_one (ps_ret (pe_tupN (pa_cons pe_str (pa_cons (pe_xfK (pv 1)) (pa_cons (pe_xfK (pv 1)) pa_nil))))))
          pss_nil)
        (pss_cons (ps_if (pt_val (pe_callB call_isK (by rfl) T.n_isinstance (by decide +kernel) (pa_cons (pv 1) (pa_cons (pe_glob (v := .ref _) rfl T.E_BadPath.gC rfl) pa_nil))))
          (pss_one (ps_ret (pe_tupN (pa_cons pe_str (pa_cons (pe_xfK (pv 1)) pa_nil)))))
          pss_nil)
        (pss_one (ps_ret (pe_ifExp (pt_cmpR op_isN (pv 1) pe_non (nomark _)) pe_non (pe_tupN (pa_cons pe_str pa_nil)))))))), ?_⟩
  · refine ⟨fun pins s' σ H' D I told => ?_⟩
    obtain ⟨Ech, hW, w1, w2, R', imp, w3⟩ := told
    exact (pss_one (ps_expr (PE.cl (act W pn xe _ _ tk)))).run pins s' σ H' D I ⟨R', imp, Ech, hW, w1, w2, w3⟩
  · refine ⟨_, ?_, rfl, hc, _, fun x H' q => ?_, h⟩
    · rintro cls d H' (⟨rfl, dd, l, i, rfl, hdd, k⟩ | ⟨rfl, dd, v, rfl, hdd, k⟩)
      · refine ⟨true, T.exm_BadText_MeetError, fun _ a na => ?_, fun z => Bool.noConfusion z⟩
        have s1 := same_new (o := keptO a (.ref (fa 10)) (some dd)) na
        have ka : (upd H' a (keptO a (.ref (fa 10)) (some dd))) a = some (keptO a (.ref (fa 10)) (some dd)) := upd_same
        have kd := s1 _ _ hdd
        refine ⟨_, rfl, _, _, true, rfl, .inr ⟨a, _, dd, _, rfl, ka, kd, T.X_BadText, kit_self⟩, _, rfl, iteT ?_⟩
        refine ⟨_, rfl, a, _, dd, _, l, rfl, ka, T.E_BadText.one.xf, T.E_BadText.one.noF, kd, rfl, _, rfl, a, _, dd, _, i, rfl, ka, T.E_BadText.one.xf, T.E_BadText.noG, kd, rfl, (by show 3 ≤ sizeLine; decide), fun p H2 n2 => ?_⟩
        exact k p H2 ⟨s1.trans n2.1, n2.2.1, s1.free n2.2.2⟩
      · refine ⟨true, T.exm_BadPath_MeetError, fun _ a na => ?_, fun z => Bool.noConfusion z⟩
        have s1 := same_new (o := keptO a (.ref (fa 9)) (some dd)) na
        have ka : (upd H' a (keptO a (.ref (fa 9)) (some dd))) a = some (keptO a (.ref (fa 9)) (some dd)) := upd_same
        have kd := s1 _ _ hdd
        refine ⟨_, rfl, _, _, false, rfl, .inr ⟨a, _, dd, _, rfl, ka, kd, T.X_BadPath, T.kit_BadPath_BadText⟩, _, rfl, iteF ?_⟩
        refine ⟨_, rfl, _, _, true, rfl, .inr ⟨a, _, dd, _, rfl, ka, kd, T.X_BadPath, kit_self⟩, _, rfl, iteT ?_⟩
        refine ⟨_, rfl, a, _, dd, _, v, rfl, ka, T.E_BadPath.xf, T.E_BadPath.noF, kd, rfl, (by show 2 ≤ sizeLine; decide), fun p H2 n2 => ?_⟩
        exact k p H2 ⟨s1.trans n2.1, n2.2.1, s1.free n2.2.2⟩
    · refine ⟨_, rfl, _, _, false, rfl, .inl ⟨rfl, T.kitN_BadText⟩, _, rfl, iteF ?_⟩
      refine ⟨_, rfl, _, _, false, rfl, .inl ⟨rfl, T.kitN_BadPath⟩, _, rfl, iteF ?_⟩
      exact ⟨_, rfl, rfl, _, rfl, iteT q⟩
theorem ok__law_text_right {P : Program} {w : World} {K : PySem.W.Frag} {mg : Str → Option Value} {base : Heap} {fa : Nat → Addr} {fd : Nat → FuncData} {c PT PT2 : Addr} (ne : PT ≠ PT2) (T : Txt K mg fa fd) (TB : LamX.TabB base mg c PT)
    {oc kV doc pm ct : Value} {od an : Option Addr} {osl : Array (Option Value)} (lk : K.lookup (fa 26) = some ⟨oc, od, .func (PySem.W.fnOf "_law_text_right" "_law_text_right" (defArgs s__law_text_right) (defBody s__law_text_right) (defScope s__law_text_right) .none kV doc pm an (.ref c) ct), osl⟩)
    (hcd : PySem.W.codeIn K (.ref c) "_law_text_right" = true) : FnG P w K mg base CX0 9 (fa 26) (PySem.W.fnOf "_law_text_right" "_law_text_right" (defArgs s__law_text_right) (defBody s__law_text_right) (defScope s__law_text_right) .none kV doc pm an (.ref c) ct) ["text"] (spRight K PT PT2) := by
  have nd := sc__law_text_right.nd
  obtain ⟨ocH, odH, kVH, docH, pmH, anH, cdH, ctH, oslH, eH, lkH, cgH⟩ := T.F__law_heard.ex
  have bH := T.b__law_heard
  rw [eH] at bH
  rw [eH] at lkH
  refine fnG_of lk hcd sc__law_text_right spRight_len fun A outer s H vs Q E hq hr h => ?_
  obtain ⟨M, v, d, rfl, hv, hf, ht, k⟩ := h
  refine ⟨_, (pss_cons (ps_set (i := 1) nd rfl (Or.inl rfl) (pe_call (ok__law_read T) (hr.mono (by decide)) rfl T.g__law_read T.F__law_read.kp T.b__law_read .nil pass0 (pa_cons (pv 0) pa_nil)))
      (pss_cons (ps_if (pt_cmpR op_isN (pv 1) pe_non (nomark _))
        (pss_one (ps_ret (pe_cmpR (op_eqD hr.units) (nf_call (g := fa 25) (TT := TTh (fa 9) (fa 10)) (TS := TSs PT PT2) (m := 6) (Ng := sl__law_heard) rfl T.g__law_heard T.F__law_heard.kp lkH cgH bH sc__law_heard rfl (Or.inl rfl) (heard_gives T) TB rfl List.mem_cons_self (uni1 ne) hr (LamX.lamS_by (sc := defScope s__law_text_right) (by decide +kernel)) rfl (fun _ _ _ _ _ => rfl) (fun A outer s H E f c' hr => pe_call (ok_path_of T) (hr.mono (by decide)) rfl T.g_path_of T.F_path_of.kp T.b_path_of .nil (passes_call (W := fun cls d _ H => E cls d H) (takes_of rfl rfl rfl rfl) (fun _ _ _ _ z => z)) (pa_cons (pv 0) pa_nil))) (pe_tupN (pa_cons pe_str (pa_cons pe_int (pa_cons pe_int pa_nil)))) (nomark _))))
        pss_nil)
      (pss_one (ps_ret (pe_and (pe_cmpR op_eq (pe_callB (call_reprD hq hr) (by rfl) T.n_repr (by decide +kernel) (pa_cons (pe_callN0 (ok_path_of T) (hr.mono (by decide)) rfl T.g_path_of T.F_path_of.kp T.kb_path_of_text passL (pk_cons (pv 0) pk_nil)) pa_nil)) (pe_callB (call_reprD hq hr) (by rfl) T.n_repr (by decide +kernel) (pa_cons (pv 1) pa_nil)) (nomark _)) (pe_one (pe_cmpR op_eq (pe_call (ok_path_text T) (hr.mono (by decide)) rfl T.g_path_text T.F_path_text.kp T.b_path_text .nil passL (pa_cons (pe_call (ok_path_of T) (hr.mono (by decide)) rfl T.g_path_of T.F_path_of.kp T.b_path_of .nil passL (pa_cons (pv 0) pa_nil)) pa_nil)) (pv 0) (nomark _)))))))), ?_⟩
  refine ⟨_, rfl, M, v, d, rfl, hv, hf, fun v1 H1 s1 t1 => ⟨_, rfl, rfl, ?_⟩⟩
  obtain ⟨Sh, hSh⟩ := rp_namesA
  have u1 := tabs_same ht s1
  rcases t1 with ⟨e, rfl⟩ | ⟨ns, t, e, rfl, sq⟩
  · refine ⟨_, rfl, iteT ⟨u1, fun H2 x2 u2 => ⟨_, rfl, M, v, d, rfl, (hv.same s1).fm (fx_ext x2), hf.long, fun _ a H3 n3 => .inl ⟨rfl, a, _, _, rfl, n3.2.1, fun p H4 n4 => ⟨(by show 3 ≤ sizeLine; decide), fun p5 H5 n5 => ?_⟩⟩, fun ns e2 => absurd (e.symm.trans e2) (by simp)⟩⟩⟩
    have x5 : LamX.ExtN H H5 := ((LamX.ExtN.of s1).trans x2).trans (LamX.ExtN.of (n3.1.trans (n4.1.trans n5.1)))
    have w4 : Dv K nowhere H5 (.ref p) (.tuple [.str "text", .int 0, .int 0]) := .tup (fun z => z) (SqT.of (n5.1 _ _ n4.2.1)) (.cons (.str _) (.cons (.int _) (.cons (.int _) .nil)))
    have w5 : Dv K nowhere H5 (.ref p5) (.tuple [.str "text", .int 0, .int 0]) := .tup (fun z => z) (SqT.of n5.2.1) (.cons (.str _) (.cons (.int _) (.cons (.int _) .nil)))
    exact eq_data w4 w5 (by decide +kernel) (by decide +kernel) (by decide +kernel) (k H5 x5 (tabs_same u2 (n3.1.trans (n4.1.trans n5.1))))
  · obtain ⟨x, rfl⟩ : ∃ x, d = .str x := by cases d <;> first | exact ⟨_, rfl⟩ | cases e
    obtain ⟨g1, g2, g3⟩ := read_text (show readP x = some ns from e)
    have hv1 : ∀ H', Dv K M H' v (.str x) := fun H' => by cases hv; exact .str x
    refine ⟨_, rfl, iteF ⟨_, rfl, rfl, rfl, M, v, .str x, rfl, hv1 _, hf.long, fun e2 => absurd (e2.symm.trans e) (by simp), fun ms e2 t2 H2 s2 sq2 => ?_⟩⟩
    have em : ms = ns := Option.some.inj (e2.symm.trans e)
    subst em
    obtain ⟨d1, y1, y2, y3, y4, y5, y6⟩ := hSh sq2 g3 g2
    obtain ⟨d2, w1, w2, w3, w4, w5, w6⟩ := hSh (Same.seqT s2 sq) g3 g2
    refine ⟨_, _, rfl, y1, y2, y3, y4, y5, _, rfl, _, _, rfl, w1, w2, w3, w4, w5, rfl, _, rfl, iteD (congrArg V.str (y6.trans w6.symm)) ?_⟩
    refine ⟨_, rfl, M, v, .str x, rfl, hv1 _, hf.long, fun e3 => absurd (e3.symm.trans e) (by simp), fun ms e3 t3 H3 s3 sq3 => ?_⟩
    have em : ms = _ := Option.some.inj (e3.symm.trans e)
    subst em
    refine ⟨nowhere, .ref t3, .tuple (ms.map PyData.str), rfl, .tup (fun z => z) sq3 (dva_strs _), (fun ds q y hy => ?_), fun e4 => absurd (e4.symm.trans (spot_mk g2 g3)) (by simp), fun ls q _ _ H4 s4 => ?_⟩
    · cases q
      obtain ⟨z, hz, hz2⟩ := List.mem_map.mp hy
      cases hz2
      have := (name_len (g3 y hz)).2
      omega
    have el : ls = ms := by
      have q : ms.map PyData.str = ls.map PyData.str := Option.some.inj q
      exact (strs_inj q).symm
    subst el
    have hx : v = .str x := by cases hv; rfl
    subst hx
    have s14 : Same H H4 := ((s1.trans s2).trans s3).trans s4
    exact ⟨_, rfl, rfl, qbl (k H4 (LamX.ExtN.of s14) (tabs_same ht s14)) (decide_eq_true (by rw [g1]))⟩
theorem ok_law {P : Program} {w : World} {K : PySem.W.Frag} {mg : Str → Option Value} {base : Heap} {fa : Nat → Addr} {fd : Nat → FuncData} {c PT PT2 : Addr} (ne : PT ≠ PT2) (T : Txt K mg fa fd) (TB : LamX.TabB base mg c PT2) (GR : FnG P w K mg base CX0 9 (fa 26) (fd 26) ["text"] (spRight K PT PT2))
    {oc kV doc pm ct : Value} {od an : Option Addr} {osl : Array (Option Value)} (lk : K.lookup (fa 27) = some ⟨oc, od, .func (PySem.W.fnOf "law" "law" (defArgs s_law) (defBody s_law) (defScope s_law) .none kV doc pm an (.ref c) ct), osl⟩)
    (hcd : PySem.W.codeIn K (.ref c) "law" = true) : FnG P w K mg base CX0 11 (fa 27) (PySem.W.fnOf "law" "law" (defArgs s_law) (defBody s_law) (defScope s_law) .none kV doc pm an (.ref c) ct) ["script"] (spLawT K PT PT2) := by
  have nd := sc_law.nd
  obtain ⟨ocH, odH, kVH, docH, pmH, anH, cdH, ctH, oslH, eH, lkH, cgH⟩ := T.F__law_heard.ex
  have bH := T.b__law_heard
  rw [eH] at bH
  rw [eH] at lkH
  refine fnG_of lk hcd sc_law spLawT_len fun A outer s H vs Q E hq hr h => ?_
  obtain ⟨a0, ns0, rfl, hS, hlen, hP1, hP2, k⟩ := h
  refine ⟨_, (pss_cons (ps_set (i := 1) nd rfl (Or.inl rfl) (pe_call (ok__law_purse T) (hr.mono (by decide)) rfl T.g__law_purse T.F__law_purse.kp T.b__law_purse .nil pass0 (pa_cons (pv 0) pa_nil)))
      (pss_cons (ps_set (i := 2) nd rfl (Or.inl rfl) (pe_lstN pa_nil))
      (pss_cons (ps_for PassesOwn.never rfl (pi_range1 rfl T.n_range (pa_cons pe_int pa_nil)) (pg_name (i := 3) nd rfl (Or.inl rfl))
        (pss_cons (ps_set (i := 4) nd rfl (Or.inl rfl) (pe_call (ok__law_spot T) (hr.mono (by decide)) rfl T.g__law_spot T.F__law_spot.kp T.b__law_spot .nil pass0 (pa_cons (pv 1) (pa_cons pe_int pa_nil))))
      (pss_cons (ps_set (i := 5) nd rfl (Or.inl rfl) (pe_callN0 (ok_path_text T) (hr.mono (by decide)) rfl T.g_path_text T.F_path_text.kp T.kb_path_text_path passL (pk_cons (pe_callTy call_list_ofN (by rfl) T.n_list (by decide +kernel) (pa_cons (pv 4) pa_nil)) pk_nil)))
      (pss_cons (ps_if (PW.pt (pw_or (pt_cmpR op_ne (pe_callB (call_reprD hq hr) (by rfl) T.n_repr (by decide +kernel) (pa_cons (pv 5) pa_nil)) (pe_callB (call_reprD hq hr) (by rfl) T.n_repr (by decide +kernel) (pa_cons (pe_op op_add_str pe_str (pe_join pe_str (pv 4))) pa_nil)) (nomark _)) (pw_or (pt_cmpR op_ne (pe_call (ok_path_text T) (hr.mono (by decide)) rfl T.g_path_text T.F_path_text.kp T.b_path_text .nil passL (pa_cons (pv 4) pa_nil)) (pv 5) (nomark _)) (pw_or1 (pt_cmpR op_ne (pe_callB (call_reprD hq hr) (by rfl) T.n_repr (by decide +kernel) (pa_cons (pe_call (ok_path_of T) (hr.mono (by decide)) rfl T.g_path_of T.F_path_of.kp T.b_path_of .nil passL (pa_cons (pv 5) pa_nil)) pa_nil)) (pe_callB (call_reprD hq hr) (by rfl) T.n_repr (by decide +kernel) (pa_cons (pv 4) pa_nil)) (nomark _))))))
        (pss_one (ps_ret pe_bl))
        pss_nil)
      (pss_cons (ps_expr (pe_bm PySem.F.plainAttrs_list PySem.F.slot_list_append PySem.F.type_list_append mt_append (pv 2) (pa_cons (pe_tupN (pa_cons (pv 4) (pa_cons (pv 5) pa_nil))) pa_nil)))
      (pss_one (ps_for PassesOwn.never rfl (pi_range1 rfl T.n_range (pa_cons pe_int pa_nil)) (pg_name (i := 6) nd rfl (Or.inl rfl))
        (pss_one (ps_if (pt_not (pt_val (pe_callG GR hq (hr.mono (by decide)) rfl T.g__law_text_right T.F__law_text_right.kp T.b__law_text_right .nil pass0 (pa_cons (pe_call (ok__law_bent T) (hr.mono (by decide)) rfl T.g__law_bent T.F__law_bent.kp T.b__law_bent .nil pass0 (pa_cons (pv 1) (pa_cons (pv 5) pa_nil))) pa_nil))))
        (pss_one (ps_ret pe_bl))
        pss_nil)))))))))
      (pss_cons (ps_for PassesOwn.never rfl (pi_list (pv 2)) (pg_tup (by rfl) (pgs_cons (pg_name (i := 7) nd rfl (Or.inr rfl)) (pgs_cons (pg_name (i := 8) nd rfl (Or.inr rfl)) pgs_nil)))
        (pss_one (ps_if (pt_cmpR (op_neD hr.units) (pe_lc (own := [("other", 11), ("text", 5)]) (g := (gTup K 2 (gCons (gName 11) (gCons (gName 5) gNil)))) (by rfl) nd (pi_list (pv 2)) (blkOk_by (N := sl_law) (sc := defScope s_law) (by decide +kernel)) (fun _ _ _ _ _ => (pg_tup (by rfl) (pgs_cons (pg_name (i := 11) nd rfl (Or.inl rfl)) (pgs_cons (pg_name (i := 5) nd rfl (Or.inl rfl)) pgs_nil)))) (fun _ _ _ _ _ => (pts_one (pt_cmpR op_ne (pe_cmpR (op_eqDK rfl hr.units) (pv 11) (pv 7) (nomark _)) (pe_cmpR op_eq (pv 5) (pv 8) (nomark _)) (nomark _)))) (fun _ _ _ _ _ => pe_int)) (pe_lstN pa_nil) (nomark _))
        (pss_one (ps_ret pe_bl))
        pss_nil)))
      (pss_cons (ps_set (i := 9) nd rfl (Or.inl rfl) (pe_call (ok__law_any T) (hr.mono (by decide)) rfl T.g__law_any T.F__law_any.kp T.b__law_any .nil pass0 (pa_cons (pv 1) (pa_cons (pe_lstN (pa_cons pe_non (pa_cons pe_int (pa_cons pe_bl (pa_cons (pe_tupN (pa_cons pe_str pa_nil)) (pa_cons (pe_lstN (pa_cons pe_str pa_nil)) (pa_cons pe_str (pa_cons pe_str (pa_cons pe_str (pa_cons pe_str (pa_cons pe_str (pa_cons pe_str (pa_cons (pe_op op_add_str pe_str (pe_op op_repS pe_str pe_int)) (pa_cons pe_str pa_nil)))))))))))))) pa_nil))))
      (pss_cons (ps_set (i := 10) nd rfl (Or.inr rfl) (pe_call (ok__law_any T) (hr.mono (by decide)) rfl T.g__law_any T.F__law_any.kp T.b__law_any .nil pass0 (pa_cons (pv 1) (pa_cons (pe_lstN (pa_cons pe_non (pa_cons pe_str (pa_cons pe_str (pa_cons (pe_lstN (pa_cons pe_str pa_nil)) (pa_cons (pe_lstN (pa_cons pe_str pa_nil)) (pa_cons (pe_op op_repN (pe_lstN (pa_cons pe_str pa_nil)) pe_int) (pa_cons pe_int (pa_cons pe_dnewK (pa_cons (pe_lstN (pa_cons pe_non pa_nil)) (pa_cons (pe_lstN (pa_cons (pe_tupN (pa_cons pe_str pa_nil)) pa_nil)) pa_nil))))))))))) pa_nil))))
      (pss_one (ps_ret (pe_and (pe_callG GR hq (hr.mono (by decide)) rfl T.g__law_text_right T.F__law_text_right.kp T.b__law_text_right .nil pass0 (pa_cons (pv 9) pa_nil)) (pe_one (pe_cmpR (op_eqD hr.units) (nf_call (g := fa 25) (TT := TTh (fa 9) (fa 10)) (TS := TSs PT PT2) (m := 8) (Ng := sl__law_heard) rfl T.g__law_heard T.F__law_heard.kp lkH cgH bH sc__law_heard rfl (Or.inl rfl) (heard_gives T) TB rfl (List.mem_cons_of_mem _ List.mem_cons_self) (uni2 ne) hr (LamX.lamS_by (sc := defScope s_law) (by decide +kernel)) rfl (fun _ _ _ _ _ => rfl) (fun A outer s H E f c' hr => pe_call (ok_path_text T) (hr.mono (by decide)) rfl T.g_path_text T.F_path_text.kp T.b_path_text .nil (passes_call (W := fun cls d _ H => E cls d H) (takes_of rfl rfl rfl rfl) (fun _ _ _ _ z => z)) (pa_cons (pv 10) pa_nil))) (pe_tupN (pa_cons pe_str (pa_cons pe_str pa_nil))) (nomark _)))))))))))), ?_⟩
  obtain ⟨Sh, hSh⟩ := rp_namesA
  obtain ⟨St, hSt⟩ := rp_textA
  have big : sizeLine = 16777216 := sizeLine_eq
  refine ⟨_, rfl, a0, ns0, rfl, hS, hlen, fun a b cs H1 s1 S1 na => ?_⟩
  refine ⟨(by show 0 ≤ sizeLine; omega), fun D H2 n2 => ?_⟩
  have K2 : Keep K (TSs PT PT2) a b cs D [] 0 H2 := ⟨S1.new n2, tabs_same (tabs_same (tabs_two hP1 hP2) s1) n2.1, S1.ne n2, (fun e => by
    obtain ⟨o, h⟩ := S1.atb
    exact n2.ne h e), [], n2.2.1, .nil⟩
  refine ⟨5, rfl, by decide, by decide, for_range (fun i σ H' => (∃ u3 u4 u5 u6 u7 u8 u9 u10 u11, σ = [some (.ref a0), some (.ref a), some (.ref D), u3, u4, u5, u6, u7, u8, u9, u10, u11]) ∧ ∃ ps, ps.length = i ∧ (∀ ns ∈ ps, okP ns) ∧ Keep K (TSs PT PT2) a b cs D ps (130 * i) H')
    ⟨⟨none, none, none, none, none, none, none, none, none, rfl⟩, [], rfl, by simp, K2⟩ ?_ ?_⟩
  · rintro i σ H3 hi ⟨⟨u3, u4, u5, u6, u7, u8, u9, u10, u11, rfl⟩, ps, hpl, hps, kp⟩
    have hi : i < 5 := hi
    refine ⟨_, rfl, a, b, cs, _, rfl, kp.S, by omega, fun H4 p ns F4 S4 sq fp np ln nm => ?_⟩
    have kp4 := kp.draw F4 S4
    obtain ⟨ys3, y31, _⟩ := kp.l
    have pD : p ≠ D := fun e => by rw [e, y31] at fp; cases fp
    have sn := fun (d : PyData) (e : seqD d = some (ns.map PyData.str)) => short_names e nm
    refine ⟨_, rfl, p, _, rfl, .inr sq, fun l H5 n5 => ⟨rfl, rfl, nowhere, .ref l, .list (ns.map PyData.str), rfl, .lst (fun z => z) (SqL.of n5.2.1) (dva_strs _), sn _ rfl, fun e => absurd (e.symm.trans (spot_names rfl ln nm)) (by simp), fun ms e _ _ H6 s6 => ?_⟩⟩
    have em : ms = ns := (strs_inj (Option.some.inj e)).symm
    subst em
    have s46 : Same H4 H6 := n5.1.trans s6
    have sq6 := Same.seqT s46 sq
    obtain ⟨d1, y1, y2, y3, y4, y5, y6⟩ := hSt (K := K) (H := H6) (chars_pathT nm) (by have := (len_pathT ln nm).2; omega)
    have lj := len_join ln nm
    have lj2 := len_joined ln nm
    have one : ("/" : Str).length = 1 := by decide +kernel
    refine ⟨_, rfl, _, d1, rfl, y1, y2, y3, y4, y5, ⟨_, rfl⟩, _, rfl, _, p, ms, rfl, rfl, .inr sq6, by omega, _, _, rfl, rfl, by omega, _, d1, rfl, y1, y2, y3, y4, y5, rfl, _, rfl, iteNS rfl ?_⟩
    refine ⟨_, rfl, nowhere, .ref p, .tuple (ms.map PyData.str), rfl, .tup (fun z => z) sq6 (dva_strs _), sn _ rfl, fun e => absurd (e.symm.trans (spot_names rfl ln nm)) (by simp), fun ls e _ _ H7 s7 => ?_⟩
    have em : ls = ms := (strs_inj (Option.some.inj e)).symm
    subst em
    refine ⟨_, rfl, rfl, _, rfl, iteNS rfl ?_⟩
    refine ⟨_, rfl, nowhere, .str (pathT ls), .str (pathT ls), rfl, .str _, (fun x e => by cases e; have := (len_pathT ln nm).2; omega), fun e => absurd (e.symm.trans (read_back ln nm)) (by simp), fun ms e t8 H8 s8 sq8 => ?_⟩
    have em : ms = ls := Option.some.inj (e.symm.trans (read_back ln nm))
    subst em
    obtain ⟨d3, w1, w2, w3, w4, w5, w6⟩ := hSh sq8 nm ln
    obtain ⟨d4, x1, x2, x3, x4, x5, x6⟩ := hSh (Same.seqT (s7.trans s8) sq6) nm ln
    refine ⟨_, d3, rfl, w1, w2, w3, w4, w5, _, rfl, _, d4, rfl, x1, x2, x3, x4, x5, rfl, _, rfl, iteNS (congrArg V.str (w6.trans x6.symm)) ?_⟩
    have s48 : Same H4 H8 := s46.trans (s7.trans s8)
    have kp8 := kp4.same s48
    obtain ⟨ys, yD, _⟩ := id kp8.l
    have hyl : ys.length ≤ 5 := by
      obtain ⟨ys', q1, q2⟩ := kp8.l
      rw [yD] at q1
      cases q1
      have := q2.length
      rw [List.length_map] at this
      omega
    refine ⟨_, rfl, .inl ⟨rfl, _, SqL.of yD⟩, _, rfl, _, rfl, (by show 2 ≤ sizeLine; omega), fun q H9 n9 => ⟨D, ys, _, rfl, rfl, n9.1 _ _ yD, by omega, ?_⟩⟩
    obtain ⟨oa, ha8⟩ := kp8.S.at
    have kp9 := (kp8.same n9.1).push (p := p) (q := q) (ns := ms) np pD (n9.ne ha8) (n9.ne yD) (Same.seqT (s48.trans n9.1) sq) n9.2.1 (n9.1 _ _ yD)
    have fz : Fine (pathT ms) 79 := ⟨(len_pathT ln nm).2, chars_pathT nm⟩
    refine ⟨3, rfl, by decide, by decide, for_range (fun j σ H' => (∃ u6, σ = [some (.ref a0), some (.ref a), some (.ref D), some (.int (0 + i)), some (.ref p), some (.str (pathT ms)), u6, u7, u8, u9, u10, u11]) ∧ Keep K (TSs PT PT2) a b cs D (ps ++ [ms]) (130 * i + 100 + 4 * j) H') ⟨⟨_, rfl⟩, kp9⟩ ?_ ?_⟩
    · rintro j σ H10 hj ⟨⟨u6, rfl⟩, kp10⟩
      have hj : j < 3 := hj
      refine ⟨_, rfl, _, rfl, a, b, cs, _, _, rfl, kp10.S, by omega, (len_pathT ln nm).1, fz, fun H11 y F11 S11 fy => ⟨nowhere, .str y, .str y, rfl, .str y, fy.fineD (by decide), (kp10.draw F11 S11).t, fun H12 x12 t12 => ⟨_, rfl, iteF ⟨⟨_, rfl⟩, ((kp10.draw F11 S11).ext x12 t12).le (by omega)⟩⟩⟩⟩
    · rintro σ H10 ⟨⟨u6, rfl⟩, kp10⟩
      exact ⟨⟨_, _, _, _, _, _, _, _, _, rfl⟩, ps ++ [ms], by rw [List.length_append, hpl]; rfl, (fun z hz => by
        rcases List.mem_append.mp hz with q | q
        · exact hps z q
        · rw [List.mem_singleton.mp q]; exact ⟨ln, nm⟩), kp10.le (by omega)⟩
  rintro σ H3 ⟨⟨u3, u4, u5, u6, u7, u8, u9, u10, u11, rfl⟩, ps, hpl, hps, kp⟩
  have hpl : ps.length = 5 := hpl
  obtain ⟨ys, yD, yv⟩ := id kp.l
  have hyl : ys.length = 5 := by
    have := yv.length
    rw [List.length_map] at this
    omega
  refine ⟨_, rfl, D, rfl, ⟨_, SqL.of yD⟩, for_list (xs := ys) (fun i σ H' => (∃ u3 u4 u5 u6 u7 u8 u9 u10 u11, σ = [some (.ref a0), some (.ref a), some (.ref D), u3, u4, u5, u6, u7, u8, u9, u10, u11]) ∧ Same H3 H') ⟨⟨u3, u4, u5, u6, u7, u8, u9, u10, u11, rfl⟩, Same.refl _⟩ (fun i σ H' _ ⟨_, s⟩ => s.seq (SqL.of yD)) ?_ ?_⟩
  · rintro i x σ H4 hx ⟨⟨u3, u4, u5, u6, u7, u8, u9, u10, u11, rfl⟩, s4⟩
    have yv4 := yv.same s4
    obtain ⟨ms, q, p, hm, rfl, sqq, vp⟩ := pair_at yv4 hx
    have yD4 := s4 _ _ yD
    refine ⟨q, _, rfl, sqq, rfl, _, _, rfl, _, _, rfl, rfl, ?_⟩
    refine ⟨_, rfl, D, rfl, ⟨_, SqL.of yD4⟩, fun D2 hD2 => lcg_list (xs := ys) (fun _ => False) (fun _ _ => True) (fun _ acc _ => acc = []) hD2 (fun H F => (same_frm F).seq (SqL.of yD4)) (by omega) (fun _ _ _ _ z => z) (fun _ _ _ _ _ z => z) trivial rfl ?_ ?_⟩
    · intro j y acc H5 hy F hDa _ hA Ky Kn ky kn
      have s5 := same_frm F
      obtain ⟨ls, q2, p2, hl, rfl, sq2, vp2⟩ := pair_at (yv4.same s5) hy
      refine ⟨q2, _, rfl, sq2, rfl, _, _, rfl, _, _, rfl, rfl, rfl, _, rfl, _, rfl, ?_⟩
      have o1 := hps _ hm
      have o2 := hps _ hl
      have tm := shaped_tup (tame_strs fun z hz => name_ok (o1.2 z hz))
      refine eq_data (b := decide (ls = ms)) vp2 (vp.same s5) ?_ ?_ ?_ ⟨_, rfl, _, rfl, rfl, rfl, _, rfl, iteNS ?_ (kn H5 F hDa trivial hA)⟩
      · obtain ⟨c1, c2⟩ := tame_seq (tame_strs fun z hz => name_ok (o2.2 z hz))
        have c3 := depth_strs ls
        unfold tame
        simp only [PyData.canLay0, c1, PyData.depth, c3]
        rfl
      · obtain ⟨c1, c2⟩ := tame_seq (tame_strs fun z hz => name_ok (o1.2 z hz))
        have c3 := depth_strs ms
        unfold tame
        simp only [PyData.canLay0, c1, PyData.depth, c3]
        rfl
      · simp only [PyData.eqv, eqv_strs]
      · by_cases e : ls = ms
        · rw [e]
          simp
        · rw [decide_eq_false e, decide_eq_false (fun z => e (pathT_inj o2.1 o2.2 o1.1 o1.2 (V.str.inj z)))]
    · intro H5 acc F hDa _ hA _
      have hA : acc = [] := hA
      subst hA
      have s5 := same_frm F
      refine ⟨(by show 0 ≤ sizeLine; omega), fun l H6 n6 => ne_nil' (M := nowhere) (ds := []) (SqL.of (n6.1 _ _ hDa)) .nil rfl (SqL.of n6.2.1) (b := false) rfl ⟨_, rfl, iteF ⟨⟨_, _, _, _, _, _, _, _, _, rfl⟩, s4.trans (s5.trans n6.1)⟩⟩⟩
  rintro σ H4 ⟨⟨u3, u4, u5, u6, u7, u8, u9, u10, u11, rfl⟩, s4⟩
  have kp4 := kp.same s4
  -- odd
  refine ⟨_, rfl, (by show 1 ≤ sizeLine; omega), fun p1 G1 m1 => ⟨(by show 1 ≤ sizeLine; omega), fun p2 G2 m2 => ?_⟩⟩
  refine ⟨"a", 13, rfl, rfl, by decide, by decide, by decide +kernel, by decide +kernel, by decide +kernel, _, _, rfl, rfl, (by decide +kernel), (by show 13 ≤ sizeLine; omega), fun p3 G3 m3 => ?_⟩
  have S1' := kp4.S.new m1
  have S2' := S1'.new m2
  have v1 := kp4.S.tup (K := K) m1 (.cons (.str _) .nil)
  have v2 := S1'.lst (K := K) m2 (.cons (.str _) .nil)
  have vs : DvAll K (· = a) G2 [.non, .int 5, .bl true, .ref p1, .ref p2, .str "", .str "a", .str "//", .str "/a/", .str " /a", .str "/a b", .str ("/" ++ repStr "a" 13), .str "/a/b/c/d/e/f/g"] _ :=
    .cons .non (.cons (.int _) (.cons (.bl _) (.cons (v1.same m2.1) (.cons v2 (.cons (.str _) (.cons (.str _) (.cons (.str _) (.cons (.str _) (.cons (.str _) (.cons (.str _) (.cons (.str _) (.cons (.str _) .nil))))))))))))
  refine .inl ⟨a, b, cs, _, p3, _, rfl, S2'.new m3, by decide, S2'.ne m3, SqL.of m3.2.1, (fun z => nomatch z), (by show 13 < 2 ^ 62; decide), fun G4 xO F4 S4' hO => ?_⟩
  obtain ⟨dO, mO, vO⟩ := ((vs.same m3.1).mono F4).mem hO
  have fO : fineD dO := by
    simp only [List.mem_cons, List.not_mem_nil, or_false] at mO
    rcases mO with rfl | rfl | rfl | rfl | rfl | rfl | rfl | rfl | rfl | rfl | rfl | rfl | rfl
    iterate 5 exact fun x e => by cases e
    all_goals exact (fine_by (n := 30) (by decide +kernel)).fineD (by decide)
  have kpO := ((kp4.same m1.1).same m2.1).same m3.1
  have kpG := kpO.draw F4 S4'
  -- none
  refine ⟨_, rfl, (by show 1 ≤ sizeLine; omega), fun r1 R1 g1 => ⟨(by show 1 ≤ sizeLine; omega), fun r2 R2 g2 => ⟨(by show 1 ≤ sizeLine; omega), fun r3 R3 g3 => ⟨r3, 7, _, rfl, rfl, g3.2.1, by decide, by decide, (by show 1 * 7 ≤ sizeLine; omega), fun r4 R4 g4 => ?_⟩⟩⟩⟩
  refine fun r5 hr5 => ⟨(by show 1 ≤ sizeLine; omega), fun r6 R6 g6 => ⟨(by show 1 ≤ sizeLine; omega), fun r7 R7 g7 => ⟨(by show 1 ≤ sizeLine; omega), fun r8 R8 g8 => ⟨(by show 10 ≤ sizeLine; omega), fun r9 R9 g9 => ?_⟩⟩⟩⟩
  have g4 : New R3 R4 r4 (.lst [.str "a", .str "a", .str "a", .str "a", .str "a", .str "a", .str "a"]) := g4
  have g5 := New.mk' (o := .dK []) hr5
  revert g5 g6
  generalize upd R4 r5 (.dK []) = R5
  intro g6 g5
  have T1 := kpG.S.new g1
  have T2 := T1.new g2
  have T3 := T2.new g3
  have T4 := T3.new g4
  have T5 := T4.new g5
  have T6 := T5.new g6
  have T7 := T6.new g7
  have T8 := T7.new g8
  have z1 := kpG.S.lst (K := K) g1 (.cons (.str _) .nil)
  have z2 := T1.lst (K := K) g2 (.cons (.str _) .nil)
  have z4 := T3.lst (K := K) g4 (.cons (.str _) (.cons (.str _) (.cons (.str _) (.cons (.str _) (.cons (.str _) (.cons (.str _) (.cons (.str _) .nil)))))))
  have z5 : Dv K (· = a) R5 (.ref r5) (.dict []) := .dct (T4.ne g5) g5.2.1
  have z6 := T5.lst (K := K) g6 (.cons .non .nil)
  have z7 := T6.tup (K := K) g7 (.cons (.str _) .nil)
  have z8 := T7.lst (K := K) g8 (.cons z7 .nil)
  have zs : DvAll K (· = a) R8 [.non, .str "a", .str "/a", .ref r1, .ref r2, .ref r4, .int 5, .ref r5, .ref r6, .ref r8] _ :=
    .cons .non (.cons (.str _) (.cons (.str _) (.cons (z1.same (by walk_at "sm")) (.cons (z2.same (by walk_at "sm")) (.cons (z4.same (by walk_at "sm")) (.cons (.int _) (.cons (z5.same (by walk_at "sm")) (.cons (z6.same (by walk_at "sm")) (.cons z8 .nil)))))))))
  refine .inl ⟨a, b, cs, _, r9, _, rfl, T8.new g9, by decide, T8.ne g9, SqL.of g9.2.1, (fun z => nomatch z), (by show 10 < 2 ^ 62; decide), fun G5 xN F5 S5' hN => ?_⟩
  obtain ⟨dN, mN, vN⟩ := ((zs.same g9.1).mono F5).mem hN
  have fN : shortD dN ∧ spotD dN = false := by
    simp only [List.mem_cons, List.not_mem_nil, or_false] at mN
    rcases mN with rfl | rfl | rfl | rfl | rfl | rfl | rfl | rfl | rfl | rfl <;> exact ⟨shortD_of (by decide +kernel), by decide +kernel⟩
  have sR : Same G4 R9 := by walk_at "sm"
  have kpR := (kpG.same sR).draw F5 S5'
  have vO5 := (vO.same sR).mono F5
  refine ⟨_, rfl, (· = a), xO, dO, rfl, vO5, fO, kpR.t, fun L1 x1 t1 => ⟨_, rfl, iteT ⟨t1, fun L2 x2 t2 => ⟨_, rfl, (· = a), xN, dN, rfl, (vN.fm (fx_ext x1)).fm (fx_ext x2), fN.1, fun _ e L3 n3 => .inr ⟨rfl, e, _, rfl, n3.2.1, fun p L4 n4 => ⟨(by show 2 ≤ sizeLine; omega), fun p5 L5 n5 => ?_⟩⟩, fun ms e h1 h2 => absurd ((spot_names e h1 h2).symm.trans fN.2) (by simp)⟩⟩⟩⟩
  have w4 : Dv K nowhere L5 (.ref p) (.tuple [.str "path", .str "path"]) := .tup (fun z => z) (SqT.of (n5.1 _ _ n4.2.1)) (.cons (.str _) (.cons (.str _) .nil))
  have w5 : Dv K nowhere L5 (.ref p5) (.tuple [.str "path", .str "path"]) := .tup (fun z => z) (SqT.of n5.2.1) (.cons (.str _) (.cons (.str _) .nil))
  exact eq_data w4 w5 (by decide +kernel) (by decide +kernel) (by decide +kernel) (k L5)
theorem grel_path_of_text : ∀ {vs zs : List V} {us ws : List Value}, Vals vs us → Vals zs ws → Vals (g_path_of_text vs zs) (g_path_of_text us ws)
  | _, _, _, _, .nil, .nil => .nil
  | _, _, _, _, .nil, (.cons b0 .nil) => (.cons b0 .nil)
  | _, _, _, _, .nil, (.cons _ (.cons _ _)) => .nil
  | _, _, _, _, (.cons _ _), .nil => .nil
  | _, _, _, _, (.cons _ _), (.cons _ .nil) => .nil
  | _, _, _, _, (.cons _ _), (.cons _ (.cons _ _)) => .nil
theorem grel_path_text_path : ∀ {vs zs : List V} {us ws : List Value}, Vals vs us → Vals zs ws → Vals (g_path_text_path vs zs) (g_path_text_path us ws)
  | _, _, _, _, .nil, .nil => .nil
  | _, _, _, _, .nil, (.cons b0 .nil) => (.cons b0 .nil)
  | _, _, _, _, .nil, (.cons _ (.cons _ _)) => .nil
  | _, _, _, _, (.cons _ _), .nil => .nil
  | _, _, _, _, (.cons _ _), (.cons _ .nil) => .nil
  | _, _, _, _, (.cons _ _), (.cons _ (.cons _ _)) => .nil
def fd0 : FuncData := PySem.W.fnOf "" "" (defArgs s_law) [] (defScope s_law) .none .none .none .none none .none .none
theorem kit_none {K : PySem.W.Frag} {C : Addr} {b : Bool} (hc : (PySem.W.clsIn K C).isSome = true) (ht : PySem.W.typeIn K (.ref C) = some (.type "type")) (e : PySem.W.subIn K (.type "NoneType") (.ref C) = some b) : PySem.W.kitOne K (.type "NoneType") (.ref C) = some b := by
  unfold PySem.W.kitOne PySem.W.kitCls
  have ne : (Value.type "NoneType" == Value.ref C) = false := rfl
  rw [ne]
  simp [hc, ht, e]
theorem all_mk {l : PySem.W.OpenLaw} {w : World} {K : PySem.W.Frag} {h : Heap} {mg : Str → Option Value} {fL fM f3 f4 f5 f6 f13 f14 f15 f16 f18 f19 f20 f21 f22 f23 f24 f25 f26 f27 f9 f109 n9 f10 f110 n10 c1 PT1 c2 PT2 : Addr} (X : K.In h) (G : h.Ns mainGlobals mg) (hfa : mg "law" = some (.ref fL))
    {od3 an3 od4 an4 od5 an5 od6 an6 od13 an13 od14 an14 od15 an15 od16 an16 od18 an18 od19 an19 od20 an20 od21 an21 od22 an22 od23 an23 od24 an24 od25 an25 od26 an26 od27 an27 od109 an109 od110 an110 : Option Addr} {sl3 sl4 sl5 sl6 sl13 sl14 sl15 sl16 sl18 sl19 sl20 sl21 sl22 sl23 sl24 sl25 sl26 sl27 sl109 sl110 : Array (Option Value)} {oc3 kV3 dc3 pm3 ct3 cd3 oc4 kV4 dc4 pm4 ct4 cd4 oc5 kV5 dc5 pm5 ct5 cd5 oc6 kV6 dc6 pm6 ct6 cd6 oc13 kV13 dc13 pm13 ct13 cd13 oc14 kV14 dc14 pm14 ct14 cd14 oc15 kV15 dc15 pm15 ct15 cd15 oc16 kV16 dc16 pm16 ct16 cd16 oc18 kV18 dc18 pm18 ct18 cd18 oc19 kV19 dc19 pm19 ct19 cd19 oc20 kV20 dc20 pm20 ct20 cd20 oc21 kV21 dc21 pm21 ct21 cd21 oc22 kV22 dc22 pm22 ct22 cd22 oc23 kV23 dc23 pm23 ct23 cd23 oc24 kV24 dc24 pm24 ct24 cd24 oc25 kV25 dc25 pm25 ct25 cd25 oc26 kV26 dc26 pm26 ct26 oc27 kV27 dc27 pm27 ct27 oc109 kV109 dc109 pm109 ct109 cd109 oc110 kV110 dc110 pm110 ct110 cd110 : Value}
    {odC1 : Option Addr} {slC1 : Array (Option Value)} {us1 : Array Value}
    {odC2 : Option Addr} {slC2 : Array (Option Value)} {us2 : Array Value}
    {nm9 qn9 : Str} {bs9 : List Value} {sn9 : List Str} {sb9 : List Value} {ab9 : Bool} {co9 : Option Bool} {dd9 : Option Addr} {p9 q9 r9 s9 t9 : Option Value}
    {nm10 qn10 : Str} {bs10 : List Value} {sn10 : List Str} {sb10 : List Value} {ab10 : Bool} {co10 : Option Bool} {dd10 : Option Addr} {p10 q10 r10 s10 t10 : Option Value}
    (a3 : PySem.W.nsIn K mainGlobals "is_list" = some (some (.ref f3)))
    (l3 : K.lookup f3 = some ⟨oc3, od3, .func (PySem.W.fnOf "is_list" "is_list" (defArgs s_is_list) (defBody s_is_list) (defScope s_is_list) .none kV3 dc3 pm3 an3 cd3 ct3), sl3⟩)
    (w3 : PySem.W.codeIn K cd3 "is_list" = true)
    (k3 : PySem.W.keepIn K (.ref f3) = true)
    (a4 : PySem.W.nsIn K mainGlobals "is_integer" = some (some (.ref f4)))
    (l4 : K.lookup f4 = some ⟨oc4, od4, .func (PySem.W.fnOf "is_integer" "is_integer" (defArgs s_is_integer) (defBody s_is_integer) (defScope s_is_integer) .none kV4 dc4 pm4 an4 cd4 ct4), sl4⟩)
    (w4 : PySem.W.codeIn K cd4 "is_integer" = true)
    (k4 : PySem.W.keepIn K (.ref f4) = true)
    (a5 : PySem.W.nsIn K mainGlobals "is_within" = some (some (.ref f5)))
    (l5 : K.lookup f5 = some ⟨oc5, od5, .func (PySem.W.fnOf "is_within" "is_within" (defArgs s_is_within) (defBody s_is_within) (defScope s_is_within) .none kV5 dc5 pm5 an5 cd5 ct5), sl5⟩)
    (w5 : PySem.W.codeIn K cd5 "is_within" = true)
    (k5 : PySem.W.keepIn K (.ref f5) = true)
    (a6 : PySem.W.nsIn K mainGlobals "is_name" = some (some (.ref f6)))
    (l6 : K.lookup f6 = some ⟨oc6, od6, .func (PySem.W.fnOf "is_name" "is_name" (defArgs s_is_name) (defBody s_is_name) (defScope s_is_name) .none kV6 dc6 pm6 an6 cd6 ct6), sl6⟩)
    (w6 : PySem.W.codeIn K cd6 "is_name" = true)
    (k6 : PySem.W.keepIn K (.ref f6) = true)
    (a13 : PySem.W.nsIn K mainGlobals "is_spot" = some (some (.ref f13)))
    (l13 : K.lookup f13 = some ⟨oc13, od13, .func (PySem.W.fnOf "is_spot" "is_spot" (defArgs s_is_spot) (defBody s_is_spot) (defScope s_is_spot) .none kV13 dc13 pm13 an13 cd13 ct13), sl13⟩)
    (w13 : PySem.W.codeIn K cd13 "is_spot" = true)
    (k13 : PySem.W.keepIn K (.ref f13) = true)
    (a14 : PySem.W.nsIn K mainGlobals "path_text" = some (some (.ref f14)))
    (l14 : K.lookup f14 = some ⟨oc14, od14, .func (PySem.W.fnOf "path_text" "path_text" (defArgs s_path_text) (defBody s_path_text) (defScope s_path_text) .none kV14 dc14 pm14 an14 cd14 ct14), sl14⟩)
    (w14 : PySem.W.codeIn K cd14 "path_text" = true)
    (k14 : PySem.W.keepIn K (.ref f14) = true)
    (a15 : PySem.W.nsIn K mainGlobals "path_of" = some (some (.ref f15)))
    (l15 : K.lookup f15 = some ⟨oc15, od15, .func (PySem.W.fnOf "path_of" "path_of" (defArgs s_path_of) (defBody s_path_of) (defScope s_path_of) .none kV15 dc15 pm15 an15 cd15 ct15), sl15⟩)
    (w15 : PySem.W.codeIn K cd15 "path_of" = true)
    (k15 : PySem.W.keepIn K (.ref f15) = true)
    (a16 : PySem.W.nsIn K mainGlobals "spot_told" = some (some (.ref f16)))
    (l16 : K.lookup f16 = some ⟨oc16, od16, .func (PySem.W.fnOf "spot_told" "spot_told" (defArgs s_spot_told) (defBody s_spot_told) (defScope s_spot_told) .none kV16 dc16 pm16 an16 cd16 ct16), sl16⟩)
    (w16 : PySem.W.codeIn K cd16 "spot_told" = true)
    (k16 : PySem.W.keepIn K (.ref f16) = true)
    (a18 : PySem.W.nsIn K mainGlobals "_law_purse" = some (some (.ref f18)))
    (l18 : K.lookup f18 = some ⟨oc18, od18, .func (PySem.W.fnOf "_law_purse" "_law_purse" (defArgs s__law_purse) (defBody s__law_purse) (defScope s__law_purse) .none kV18 dc18 pm18 an18 cd18 ct18), sl18⟩)
    (w18 : PySem.W.codeIn K cd18 "_law_purse" = true)
    (k18 : PySem.W.keepIn K (.ref f18) = true)
    (a19 : PySem.W.nsIn K mainGlobals "_law_coin" = some (some (.ref f19)))
    (l19 : K.lookup f19 = some ⟨oc19, od19, .func (PySem.W.fnOf "_law_coin" "_law_coin" (defArgs s__law_coin) (defBody s__law_coin) (defScope s__law_coin) .none kV19 dc19 pm19 an19 cd19 ct19), sl19⟩)
    (w19 : PySem.W.codeIn K cd19 "_law_coin" = true)
    (k19 : PySem.W.keepIn K (.ref f19) = true)
    (a20 : PySem.W.nsIn K mainGlobals "_law_any" = some (some (.ref f20)))
    (l20 : K.lookup f20 = some ⟨oc20, od20, .func (PySem.W.fnOf "_law_any" "_law_any" (defArgs s__law_any) (defBody s__law_any) (defScope s__law_any) .none kV20 dc20 pm20 an20 cd20 ct20), sl20⟩)
    (w20 : PySem.W.codeIn K cd20 "_law_any" = true)
    (k20 : PySem.W.keepIn K (.ref f20) = true)
    (a21 : PySem.W.nsIn K mainGlobals "_law_name" = some (some (.ref f21)))
    (l21 : K.lookup f21 = some ⟨oc21, od21, .func (PySem.W.fnOf "_law_name" "_law_name" (defArgs s__law_name) (defBody s__law_name) (defScope s__law_name) .none kV21 dc21 pm21 an21 cd21 ct21), sl21⟩)
    (w21 : PySem.W.codeIn K cd21 "_law_name" = true)
    (k21 : PySem.W.keepIn K (.ref f21) = true)
    (a22 : PySem.W.nsIn K mainGlobals "_law_spot" = some (some (.ref f22)))
    (l22 : K.lookup f22 = some ⟨oc22, od22, .func (PySem.W.fnOf "_law_spot" "_law_spot" (defArgs s__law_spot) (defBody s__law_spot) (defScope s__law_spot) .none kV22 dc22 pm22 an22 cd22 ct22), sl22⟩)
    (w22 : PySem.W.codeIn K cd22 "_law_spot" = true)
    (k22 : PySem.W.keepIn K (.ref f22) = true)
    (a23 : PySem.W.nsIn K mainGlobals "_law_read" = some (some (.ref f23)))
    (l23 : K.lookup f23 = some ⟨oc23, od23, .func (PySem.W.fnOf "_law_read" "_law_read" (defArgs s__law_read) (defBody s__law_read) (defScope s__law_read) .none kV23 dc23 pm23 an23 cd23 ct23), sl23⟩)
    (w23 : PySem.W.codeIn K cd23 "_law_read" = true)
    (k23 : PySem.W.keepIn K (.ref f23) = true)
    (a24 : PySem.W.nsIn K mainGlobals "_law_bent" = some (some (.ref f24)))
    (l24 : K.lookup f24 = some ⟨oc24, od24, .func (PySem.W.fnOf "_law_bent" "_law_bent" (defArgs s__law_bent) (defBody s__law_bent) (defScope s__law_bent) .none kV24 dc24 pm24 an24 cd24 ct24), sl24⟩)
    (w24 : PySem.W.codeIn K cd24 "_law_bent" = true)
    (k24 : PySem.W.keepIn K (.ref f24) = true)
    (a25 : PySem.W.nsIn K mainGlobals "_law_heard" = some (some (.ref f25)))
    (l25 : K.lookup f25 = some ⟨oc25, od25, .func (PySem.W.fnOf "_law_heard" "_law_heard" (defArgs s__law_heard) (defBody s__law_heard) (defScope s__law_heard) .none kV25 dc25 pm25 an25 cd25 ct25), sl25⟩)
    (w25 : PySem.W.codeIn K cd25 "_law_heard" = true)
    (k25 : PySem.W.keepIn K (.ref f25) = true)
    (a26 : PySem.W.nsIn K mainGlobals "_law_text_right" = some (some (.ref f26)))
    (l26 : K.lookup f26 = some ⟨oc26, od26, .func (PySem.W.fnOf "_law_text_right" "_law_text_right" (defArgs s__law_text_right) (defBody s__law_text_right) (defScope s__law_text_right) .none kV26 dc26 pm26 an26 (.ref c1) ct26), sl26⟩)
    (w26 : PySem.W.codeIn K (.ref c1) "_law_text_right" = true)
    (k26 : PySem.W.keepIn K (.ref f26) = true)
    (a27 : PySem.W.nsIn K mainGlobals "law" = some (some (.ref f27)))
    (l27 : K.lookup f27 = some ⟨oc27, od27, .func (PySem.W.fnOf "law" "law" (defArgs s_law) (defBody s_law) (defScope s_law) .none kV27 dc27 pm27 an27 (.ref c2) ct27), sl27⟩)
    (w27 : PySem.W.codeIn K (.ref c2) "law" = true)
    (k27 : PySem.W.keepIn K (.ref f27) = true)
    (A9 : PySem.W.nsIn K mainGlobals "BadPath" = some (some (.ref f9)))
    (L9 : K.lookup f9 = some (excClassObj nm9 qn9 f9 n9 bs9 [.ref fM, .type "ValueError", .type "Exception", .type "BaseException", .type "object"] true sn9 sb9 ab9 co9 dd9 p9 q9 r9 s9 t9 "ValueError.__new__"))
    (sa9 : PySem.W.findIn K (.ref f9) "__setattr__" = some (some (.builtin "object.__setattr__")))
    (ga9 : PySem.W.findIn K (.ref f9) "__getattribute__" = some (some (.builtin "BaseException.__getattribute__")))
    (gg9 : PySem.W.findIn K (.ref f9) "__getattr__" = some none)
    (nf9 : PySem.W.findIn K (.ref f9) "part" = some none)
    (ii9 : PySem.W.findIn K (.ref f9) "__init__" = some (some (.ref f109)))
    (ti9 : PySem.W.typeIn K (.ref f109) = some (.type "function"))
    (l109 : K.lookup f109 = some ⟨oc109, od109, .func (PySem.W.fnOf "__init__" "BadPath.__init__" (defArgs s_BadPath) (defBody s_BadPath) (defScope s_BadPath) .none kV109 dc109 pm109 an109 cd109 ct109), sl109⟩)
    (w109 : PySem.W.codeIn K cd109 "BadPath.__init__" = true)
    (k109 : PySem.W.keepIn K (.ref f109) = true)
    (kC9 : PySem.W.keepIn K (.ref f9) = true)
    (eC9 : PySem.W.subIn K (.ref f9) (.type "BaseException") = some true)
    (tC9 : PySem.W.typeIn K (.ref f9) = some (.type "type"))
    (hC9 : PySem.W.hasDictIn K f9 = true)
    (cc9 : PySem.W.findIn K (.ref f9) "__class__" = some (some (.builtin "object.__class__")))
    (oo9 : PySem.W.mroIn K f9 (.type "object") = some true)
    (sM9 : PySem.W.subIn K (.ref f9) (.ref fM) = some true)
    (sN9 : PySem.W.subIn K (.type "NoneType") (.ref f9) = some false)
    (A10 : PySem.W.nsIn K mainGlobals "BadText" = some (some (.ref f10)))
    (L10 : K.lookup f10 = some (excClassObj nm10 qn10 f10 n10 bs10 [.ref fM, .type "ValueError", .type "Exception", .type "BaseException", .type "object"] true sn10 sb10 ab10 co10 dd10 p10 q10 r10 s10 t10 "ValueError.__new__"))
    (sa10 : PySem.W.findIn K (.ref f10) "__setattr__" = some (some (.builtin "object.__setattr__")))
    (ga10 : PySem.W.findIn K (.ref f10) "__getattribute__" = some (some (.builtin "BaseException.__getattribute__")))
    (gg10 : PySem.W.findIn K (.ref f10) "__getattr__" = some none)
    (nf10 : PySem.W.findIn K (.ref f10) "line" = some none)
    (nf10b : PySem.W.findIn K (.ref f10) "item" = some none)
    (ii10 : PySem.W.findIn K (.ref f10) "__init__" = some (some (.ref f110)))
    (ti10 : PySem.W.typeIn K (.ref f110) = some (.type "function"))
    (l110 : K.lookup f110 = some ⟨oc110, od110, .func (PySem.W.fnOf "__init__" "BadText.__init__" (defArgs s_BadText) (defBody s_BadText) (defScope s_BadText) .none kV110 dc110 pm110 an110 cd110 ct110), sl110⟩)
    (w110 : PySem.W.codeIn K cd110 "BadText.__init__" = true)
    (k110 : PySem.W.keepIn K (.ref f110) = true)
    (kC10 : PySem.W.keepIn K (.ref f10) = true)
    (eC10 : PySem.W.subIn K (.ref f10) (.type "BaseException") = some true)
    (tC10 : PySem.W.typeIn K (.ref f10) = some (.type "type"))
    (hC10 : PySem.W.hasDictIn K f10 = true)
    (cc10 : PySem.W.findIn K (.ref f10) "__class__" = some (some (.builtin "object.__class__")))
    (oo10 : PySem.W.mroIn K f10 (.type "object") = some true)
    (sM10 : PySem.W.subIn K (.ref f10) (.ref fM) = some true)
    (sN10 : PySem.W.subIn K (.type "NoneType") (.ref f10) = some false)
    (oG : PySem.W.specialIn K (.builtin "object.__class__") "__get__" = some (some (.builtin "getset_descriptor.__get__")))
    (oT : PySem.W.takesIn K (.builtin "object.__class__") = some true)
    (x9_10 : PySem.W.subIn K (.ref f9) (.ref f10) = some false)
    (xne9_10 : f9 ≠ f10)
    (x10_9 : PySem.W.subIn K (.ref f10) (.ref f9) = some false)
    (xne10_9 : f10 ≠ f9)
    (AM : PySem.W.nsIn K mainGlobals "MeetError" = some (some (.ref fM)))
    (eM : PySem.W.subIn K (.ref fM) (.type "BaseException") = some true)
    (hM : PySem.W.hasDictIn K fM = true)
    (tM : PySem.W.typeIn K (.ref fM) = some (.type "type"))
    (z_abs : PySem.W.nsIn K mainGlobals "abs" = some none)
    (z_all : PySem.W.nsIn K mainGlobals "all" = some none)
    (z_bool : PySem.W.nsIn K mainGlobals "bool" = some none)
    (z_int : PySem.W.nsIn K mainGlobals "int" = some none)
    (z_isinstance : PySem.W.nsIn K mainGlobals "isinstance" = some none)
    (z_len : PySem.W.nsIn K mainGlobals "len" = some none)
    (z_list : PySem.W.nsIn K mainGlobals "list" = some none)
    (z_max : PySem.W.nsIn K mainGlobals "max" = some none)
    (z_range : PySem.W.nsIn K mainGlobals "range" = some none)
    (z_repr : PySem.W.nsIn K mainGlobals "repr" = some none)
    (z_str : PySem.W.nsIn K mainGlobals "str" = some none)
    (z_tuple : PySem.W.nsIn K mainGlobals "tuple" = some none)
    {t_NAME_SIGNS : Tok}
    (q_NAME_SIGNS : PySem.W.nsIn K mainGlobals "NAME_SIGNS" = some (some (.str "abcdefghijklmnopqrstuvwxyz0123456789" t_NAME_SIGNS)))
    {t_LONGEST_NAME : Tok}
    (q_LONGEST_NAME : PySem.W.nsIn K mainGlobals "LONGEST_NAME" = some (some (.int 12 t_LONGEST_NAME)))
    {t_LONGEST_PATH : Tok}
    (q_LONGEST_PATH : PySem.W.nsIn K mainGlobals "LONGEST_PATH" = some (some (.int 6 t_LONGEST_PATH)))
    (lC1 : K.lookup c1 = some ⟨.type "code", odC1, .fields us1, slC1⟩)
    (uu1 : us1[11]? = some (.ref PT1))
    (hd1 : PySem.W.codeHdIn K c1 PT1 = true)
    (noP1 : K.lookup PT1 = none)
    (tab1 : h.get? PT1 = some (PySem.W.tabObj #[]))
    (lC2 : K.lookup c2 = some ⟨.type "code", odC2, .fields us2, slC2⟩)
    (uu2 : us2[11]? = some (.ref PT2))
    (hd2 : PySem.W.codeHdIn K c2 PT2 = true)
    (noP2 : K.lookup PT2 = none)
    (tab2 : h.get? PT2 = some (PySem.W.tabObj #[]))
    (pne1_2 : PT1 ≠ PT2)
    : LawGs l w K 11 63 "script" mg fL h := by
  have e := hfa.symm.trans (PySem.W.mg_of X G a27)
  cases e
  have F3 := fun_mk (st := s_is_list) l3 w3 k3
  have F4 := fun_mk (st := s_is_integer) l4 w4 k4
  have F5 := fun_mk (st := s_is_within) l5 w5 k5
  have F6 := fun_mk (st := s_is_name) l6 w6 k6
  have F13 := fun_mk (st := s_is_spot) l13 w13 k13
  have F14 := fun_mk (st := s_path_text) l14 w14 k14
  have F15 := fun_mk (st := s_path_of) l15 w15 k15
  have F16 := fun_mk (st := s_spot_told) l16 w16 k16
  have F18 := fun_mk (st := s__law_purse) l18 w18 k18
  have F19 := fun_mk (st := s__law_coin) l19 w19 k19
  have F20 := fun_mk (st := s__law_any) l20 w20 k20
  have F21 := fun_mk (st := s__law_name) l21 w21 k21
  have F22 := fun_mk (st := s__law_spot) l22 w22 k22
  have F23 := fun_mk (st := s__law_read) l23 w23 k23
  have F24 := fun_mk (st := s__law_bent) l24 w24 k24
  have F25 := fun_mk (st := s__law_heard) l25 w25 k25
  have F26 := fun_mk (st := s__law_text_right) l26 w26 k26
  have F27 := fun_mk (st := s_law) l27 w27 k27
  have F109 := fun_mk (st := s_BadPath) l109 w109 k109
  have F110 := fun_mk (st := s_BadText) l110 w110 k110
  have E9 := errC_mk (x := "BadPath") (f := "part") X G A9 L9 sa9 ga9 gg9 nf9 ii9 ti9 kC9 eC9 tC9 hC9 cc9 oo9
  have XC9 : ExcC K f9 := ⟨ga9, gg9, eC9, hC9, cc9, oG, oT, oo9⟩
  have is9 : (PySem.W.clsIn K f9).isSome = true := by unfold PySem.W.clsIn; rw [L9]; rfl
  have E10 := errC_mk (x := "BadText") (f := "line") X G A10 L10 sa10 ga10 gg10 nf10 ii10 ti10 kC10 eC10 tC10 hC10 cc10 oo10
  have XC10 : ExcC K f10 := ⟨ga10, gg10, eC10, hC10, cc10, oG, oT, oo10⟩
  have is10 : (PySem.W.clsIn K f10).isSome = true := by unfold PySem.W.clsIn; rw [L10]; rfl
  have T : Txt K mg (fun i => ([0, 0, 0, f3, f4, f5, f6, 0, fM, f9, f10, 0, 0, f13, f14, f15, f16, 0, f18, f19, f20, f21, f22, f23, f24, f25, f26, fL, 0, 0, 0, 0, 0, 0, 0, 0, 0, 0, 0, 0, 0, 0, 0, 0, 0, 0, 0, 0, 0, 0, 0, 0, 0, 0, 0, 0, 0, 0, 0, 0, 0, 0, 0, 0, 0, 0, 0, 0, 0, 0, 0, 0, 0, 0, 0, 0, 0, 0, 0, 0, 0, 0, 0, 0, 0, 0, 0, 0, 0, 0, 0, 0, 0, 0, 0, 0, 0, 0, 0, 0, 0, 0, 0, 0, 0, 0, 0, 0, 0, f109, f110] : List Addr).getD i 0) (fun i => ([fd0, fd0, fd0, PySem.W.fnOf "is_list" "is_list" (defArgs s_is_list) (defBody s_is_list) (defScope s_is_list) .none kV3 dc3 pm3 an3 cd3 ct3, PySem.W.fnOf "is_integer" "is_integer" (defArgs s_is_integer) (defBody s_is_integer) (defScope s_is_integer) .none kV4 dc4 pm4 an4 cd4 ct4, PySem.W.fnOf "is_within" "is_within" (defArgs s_is_within) (defBody s_is_within) (defScope s_is_within) .none kV5 dc5 pm5 an5 cd5 ct5, PySem.W.fnOf "is_name" "is_name" (defArgs s_is_name) (defBody s_is_name) (defScope s_is_name) .none kV6 dc6 pm6 an6 cd6 ct6, fd0, fd0, fd0, fd0, fd0, fd0, PySem.W.fnOf "is_spot" "is_spot" (defArgs s_is_spot) (defBody s_is_spot) (defScope s_is_spot) .none kV13 dc13 pm13 an13 cd13 ct13, PySem.W.fnOf "path_text" "path_text" (defArgs s_path_text) (defBody s_path_text) (defScope s_path_text) .none kV14 dc14 pm14 an14 cd14 ct14, PySem.W.fnOf "path_of" "path_of" (defArgs s_path_of) (defBody s_path_of) (defScope s_path_of) .none kV15 dc15 pm15 an15 cd15 ct15, PySem.W.fnOf "spot_told" "spot_told" (defArgs s_spot_told) (defBody s_spot_told) (defScope s_spot_told) .none kV16 dc16 pm16 an16 cd16 ct16, fd0, PySem.W.fnOf "_law_purse" "_law_purse" (defArgs s__law_purse) (defBody s__law_purse) (defScope s__law_purse) .none kV18 dc18 pm18 an18 cd18 ct18, PySem.W.fnOf "_law_coin" "_law_coin" (defArgs s__law_coin) (defBody s__law_coin) (defScope s__law_coin) .none kV19 dc19 pm19 an19 cd19 ct19, PySem.W.fnOf "_law_any" "_law_any" (defArgs s__law_any) (defBody s__law_any) (defScope s__law_any) .none kV20 dc20 pm20 an20 cd20 ct20, PySem.W.fnOf "_law_name" "_law_name" (defArgs s__law_name) (defBody s__law_name) (defScope s__law_name) .none kV21 dc21 pm21 an21 cd21 ct21, PySem.W.fnOf "_law_spot" "_law_spot" (defArgs s__law_spot) (defBody s__law_spot) (defScope s__law_spot) .none kV22 dc22 pm22 an22 cd22 ct22, PySem.W.fnOf "_law_read" "_law_read" (defArgs s__law_read) (defBody s__law_read) (defScope s__law_read) .none kV23 dc23 pm23 an23 cd23 ct23, PySem.W.fnOf "_law_bent" "_law_bent" (defArgs s__law_bent) (defBody s__law_bent) (defScope s__law_bent) .none kV24 dc24 pm24 an24 cd24 ct24, PySem.W.fnOf "_law_heard" "_law_heard" (defArgs s__law_heard) (defBody s__law_heard) (defScope s__law_heard) .none kV25 dc25 pm25 an25 cd25 ct25, PySem.W.fnOf "_law_text_right" "_law_text_right" (defArgs s__law_text_right) (defBody s__law_text_right) (defScope s__law_text_right) .none kV26 dc26 pm26 an26 (.ref c1) ct26, PySem.W.fnOf "law" "law" (defArgs s_law) (defBody s_law) (defScope s_law) .none kV27 dc27 pm27 an27 (.ref c2) ct27, fd0, fd0, fd0, fd0, fd0, fd0, fd0, fd0, fd0, fd0, fd0, fd0, fd0, fd0, fd0, fd0, fd0, fd0, fd0, fd0, fd0, fd0, fd0, fd0, fd0, fd0, fd0, fd0, fd0, fd0, fd0, fd0, fd0, fd0, fd0, fd0, fd0, fd0, fd0, fd0, fd0, fd0, fd0, fd0, fd0, fd0, fd0, fd0, fd0, fd0, fd0, fd0, fd0, fd0, fd0, fd0, fd0, fd0, fd0, fd0, fd0, fd0, fd0, fd0, fd0, fd0, fd0, fd0, fd0, fd0, fd0, fd0, fd0, fd0, fd0, fd0, fd0, fd0, fd0, fd0, fd0, PySem.W.fnOf "__init__" "BadPath.__init__" (defArgs s_BadPath) (defBody s_BadPath) (defScope s_BadPath) .none kV109 dc109 pm109 an109 cd109 ct109, PySem.W.fnOf "__init__" "BadText.__init__" (defArgs s_BadText) (defBody s_BadText) (defScope s_BadText) .none kV110 dc110 pm110 an110 cd110 ct110] : List FuncData).getD i fd0) := {
    F_is_list := F3
    g_is_list := PySem.W.mg_of X G a3
    b_is_list := F3.binds (ps := ["value"]) fun _ _ _ _ _ _ us hl => match us, hl with | [_], _ => rfl
    F_is_integer := F4
    g_is_integer := PySem.W.mg_of X G a4
    b_is_integer := F4.binds (ps := ["value"]) fun _ _ _ _ _ _ us hl => match us, hl with | [_], _ => rfl
    F_is_within := F5
    g_is_within := PySem.W.mg_of X G a5
    b_is_within := F5.binds (ps := ["value", "least", "most"]) fun _ _ _ _ _ _ us hl => match us, hl with | [_, _, _], _ => rfl
    F_is_name := F6
    g_is_name := PySem.W.mg_of X G a6
    b_is_name := F6.binds (ps := ["value"]) fun _ _ _ _ _ _ us hl => match us, hl with | [_], _ => rfl
    F_is_spot := F13
    g_is_spot := PySem.W.mg_of X G a13
    b_is_spot := F13.binds (ps := ["value"]) fun _ _ _ _ _ _ us hl => match us, hl with | [_], _ => rfl
    F_path_text := F14
    g_path_text := PySem.W.mg_of X G a14
    b_path_text := F14.binds (ps := ["path"]) fun _ _ _ _ _ _ us hl => match us, hl with | [_], _ => rfl
    F_path_of := F15
    g_path_of := PySem.W.mg_of X G a15
    b_path_of := F15.binds (ps := ["text"]) fun _ _ _ _ _ _ us hl => match us, hl with | [_], _ => rfl
    F_spot_told := F16
    g_spot_told := PySem.W.mg_of X G a16
    b_spot_told := F16.binds (ps := ["text"]) fun _ _ _ _ _ _ us hl => match us, hl with | [_], _ => rfl
    F__law_purse := F18
    g__law_purse := PySem.W.mg_of X G a18
    b__law_purse := F18.binds (ps := ["script"]) fun _ _ _ _ _ _ us hl => match us, hl with | [_], _ => rfl
    F__law_coin := F19
    g__law_coin := PySem.W.mg_of X G a19
    b__law_coin := F19.binds (ps := ["purse", "many"]) fun _ _ _ _ _ _ us hl => match us, hl with | [_, _], _ => rfl
    F__law_any := F20
    g__law_any := PySem.W.mg_of X G a20
    b__law_any := F20.binds (ps := ["purse", "some"]) fun _ _ _ _ _ _ us hl => match us, hl with | [_, _], _ => rfl
    F__law_name := F21
    g__law_name := PySem.W.mg_of X G a21
    b__law_name := F21.binds (ps := ["purse"]) fun _ _ _ _ _ _ us hl => match us, hl with | [_], _ => rfl
    F__law_spot := F22
    g__law_spot := PySem.W.mg_of X G a22
    b__law_spot := F22.binds (ps := ["purse", "least"]) fun _ _ _ _ _ _ us hl => match us, hl with | [_, _], _ => rfl
    F__law_read := F23
    g__law_read := PySem.W.mg_of X G a23
    b__law_read := F23.binds (ps := ["text"]) fun _ _ _ _ _ _ us hl => match us, hl with | [_], _ => rfl
    F__law_bent := F24
    g__law_bent := PySem.W.mg_of X G a24
    b__law_bent := F24.binds (ps := ["purse", "text"]) fun _ _ _ _ _ _ us hl => match us, hl with | [_, _], _ => rfl
    F__law_heard := F25
    g__law_heard := PySem.W.mg_of X G a25
    b__law_heard := F25.binds (ps := ["ask"]) fun _ _ _ _ _ _ us hl => match us, hl with | [_], _ => rfl
    F__law_text_right := F26
    g__law_text_right := PySem.W.mg_of X G a26
    b__law_text_right := F26.binds (ps := ["text"]) fun _ _ _ _ _ _ us hl => match us, hl with | [_], _ => rfl
    F_law := F27
    g_law := PySem.W.mg_of X G a27
    b_law := F27.binds (ps := ["script"]) fun _ _ _ _ _ _ us hl => match us, hl with | [_], _ => rfl
    kb_path_of_text := MT.Fun.kbn F15 0 ["text"] (fun us ws => g_path_of_text us ws) (fun r1 r2 => grel_path_of_text r1 r2) fun _ _ _ _ _ _ us ws h1 h2 => match us, h1, ws, h2 with | [], _, [_], _ => rfl
    kb_path_text_path := MT.Fun.kbn F14 0 ["path"] (fun us ws => g_path_text_path us ws) (fun r1 r2 => grel_path_text_path r1 r2) fun _ _ _ _ _ _ us ws h1 h2 => match us, h1, ws, h2 with | [], _, [_], _ => rfl
    E_BadPath := E9
    F_BadPath := F109
    b_BadPath := F109.binds (ps := ["self", "part"]) fun _ _ _ _ _ _ us hl => match us, hl with | [_, _], _ => rfl
    X_BadPath := XC9
    exm_BadPath_MeetError := PySem.W.exm_ref eM hM tM sM9
    kitN_BadPath := kit_none is9 tC9 sN9
    kit_BadPath_BadText := kit_ref xne9_10 is10 tC10 x9_10
    E_BadText := ⟨E10, nf10b⟩
    F_BadText := F110
    b_BadText := F110.binds (ps := ["self", "line", "item"]) fun _ _ _ _ _ _ us hl => match us, hl with | [_, _, _], _ => rfl
    X_BadText := XC10
    exm_BadText_MeetError := PySem.W.exm_ref eM hM tM sM10
    kitN_BadText := kit_none is10 tC10 sN10
    kit_BadText_BadPath := kit_ref xne10_9 is9 tC9 x10_9
    M_MeetError := PySem.W.mg_of X G AM
    n_abs := PySem.W.mg_none_of X G z_abs
    n_all := PySem.W.mg_none_of X G z_all
    n_bool := PySem.W.mg_none_of X G z_bool
    n_int := PySem.W.mg_none_of X G z_int
    n_isinstance := PySem.W.mg_none_of X G z_isinstance
    n_len := PySem.W.mg_none_of X G z_len
    n_list := PySem.W.mg_none_of X G z_list
    n_max := PySem.W.mg_none_of X G z_max
    n_range := PySem.W.mg_none_of X G z_range
    n_repr := PySem.W.mg_none_of X G z_repr
    n_str := PySem.W.mg_none_of X G z_str
    n_tuple := PySem.W.mg_none_of X G z_tuple
    c_NAME_SIGNS := ⟨_, PySem.W.mg_of X G q_NAME_SIGNS, ⟨_, rfl⟩⟩
    c_LONGEST_NAME := ⟨_, PySem.W.mg_of X G q_LONGEST_NAME, ⟨_, rfl⟩⟩
    c_LONGEST_PATH := ⟨_, PySem.W.mg_of X G q_LONGEST_PATH, ⟨_, rfl⟩⟩
  }
  refine ⟨PySem.W.fnOf "law" "law" (defArgs s_law) (defBody s_law) (defScope s_law) .none kV27 dc27 pm27 an27 (.ref c2) ct27, spLawT K PT1 PT2, [(c1, PT1), (c2, PT2)], (fun q hq => by
    simp only [List.mem_cons, List.not_mem_nil, or_false] at hq
    rcases hq with rfl | rfl
    · exact tab1
    · exact tab2), (fun q hq => by
    simp only [List.mem_cons, List.not_mem_nil, or_false] at hq
    rcases hq with rfl | rfl
    · exact noP1
    · exact noP2), (fun q hq => by
    simp only [List.mem_cons, List.not_mem_nil, or_false] at hq
    rcases hq with rfl | rfl
    · exact PySem.W.codeHd_of_K X hd1
    · exact PySem.W.codeHd_of_K X hd2), fun s v => .of_eq rfl, fun H a ns hl hP hs => ⟨a, ns, rfl, hs, hl, hP (c1, PT1) List.mem_cons_self, hP (c2, PT2) (List.mem_cons_of_mem _ List.mem_cons_self), fun _ => rfl⟩, fun base _ _ TB => ok_law pne1_2 T (TB (c2, PT2) (List.mem_cons_of_mem _ List.mem_cons_self)) (ok__law_text_right pne1_2 T (TB (c1, PT1) List.mem_cons_self) l26 w26) l27 w27⟩
end K21
open PySem PySem.W PyProof.Rows in
set_option maxRecDepth 100000 in
set_option maxHeartbeats 0 in
theorem PySem.Challenge.cw_meettrees_k21_path_texts_bent_anywhere_holds : PySem.Challenge.rw_meettrees_k21_path_texts_bent_anywhere.Holds := by
  w_on; o_law; k_head; (case hw => w_witness2)
  k_fill
  refine MT.walkGs (l := PySem.Challenge.rw_meettrees_k21_path_texts_bent_anywhere) (n := 63) (k := 11) (x := "script") rfl (by decide) rfl ⟨rfl, by decide, by decide⟩ (fun w h Y => PySem.W.km_in_of Y) ?F
  case F =>
    intro w mg fa h Y KX G hmg
    refine' K21.all_mk KX G hmg ?a3 ?l3 ?w3 ?k3 ?a4 ?l4 ?w4 ?k4 ?a5 ?l5 ?w5 ?k5 ?a6 ?l6 ?w6 ?k6 ?a13 ?l13 ?w13 ?k13 ?a14 ?l14 ?w14 ?k14 ?a15 ?l15 ?w15 ?k15 ?a16 ?l16 ?w16 ?k16 ?a18 ?l18 ?w18 ?k18 ?a19 ?l19 ?w19 ?k19 ?a20 ?l20 ?w20 ?k20 ?a21 ?l21 ?w21 ?k21 ?a22 ?l22 ?w22 ?k22 ?a23 ?l23 ?w23 ?k23 ?a24 ?l24 ?w24 ?k24 ?a25 ?l25 ?w25 ?k25 ?a26 ?l26 ?w26 ?k26 ?a27 ?l27 ?w27 ?k27 ?A9 ?L9 ?sa9 ?ga9 ?gg9 ?nf9 ?ii9 ?ti9 ?l109 ?w109 ?k109 ?kC9 ?eC9 ?tC9 ?hC9 ?cc9 ?oo9 ?sM9 ?sN9 ?A10 ?L10 ?sa10 ?ga10 ?gg10 ?nf10 ?nf10b ?ii10 ?ti10 ?l110 ?w110 ?k110 ?kC10 ?eC10 ?tC10 ?hC10 ?cc10 ?oo10 ?sM10 ?sN10 ?oG ?oT ?x9_10 ?xne9_10 ?x10_9 ?xne10_9 ?AM ?eM ?hM ?tM ?z_abs ?z_all ?z_bool ?z_int ?z_isinstance ?z_len ?z_list ?z_max ?z_range ?z_repr ?z_str ?z_tuple ?q_NAME_SIGNS ?q_LONGEST_NAME ?q_LONGEST_PATH ?lC1 ?uu1 ?hd1 ?noP1 ?tab1 ?lC2 ?uu2 ?hd2 ?noP2 ?tab2 ?pne1_2
    (case a3 => k_is)
    (case l3 => k_is)
    (case w3 => k_is)
    (case k3 => k_is)
    (case a4 => k_is)
    (case l4 => k_is)
    (case w4 => k_is)
    (case k4 => k_is)
    (case a5 => k_is)
    (case l5 => k_is)
    (case w5 => k_is)
    (case k5 => k_is)
    (case a6 => k_is)
    (case l6 => k_is)
    (case w6 => k_is)
    (case k6 => k_is)
    (case a13 => k_is)
    (case l13 => k_is)
    (case w13 => k_is)
    (case k13 => k_is)
    (case a14 => k_is)
    (case l14 => k_is)
    (case w14 => k_is)
    (case k14 => k_is)
    (case a15 => k_is)
    (case l15 => k_is)
    (case w15 => k_is)
    (case k15 => k_is)
    (case a16 => k_is)
    (case l16 => k_is)
    (case w16 => k_is)
    (case k16 => k_is)
    (case a18 => k_is)
    (case l18 => k_is)
    (case w18 => k_is)
    (case k18 => k_is)
    (case a19 => k_is)
    (case l19 => k_is)
    (case w19 => k_is)
    (case k19 => k_is)
    (case a20 => k_is)
    (case l20 => k_is)
    (case w20 => k_is)
    (case k20 => k_is)
    (case a21 => k_is)
    (case l21 => k_is)
    (case w21 => k_is)
    (case k21 => k_is)
    (case a22 => k_is)
    (case l22 => k_is)
    (case w22 => k_is)
    (case k22 => k_is)
    (case a23 => k_is)
    (case l23 => k_is)
    (case w23 => k_is)
    (case k23 => k_is)
    (case a24 => k_is)
    (case l24 => k_is)
    (case w24 => k_is)
    (case k24 => k_is)
    (case a25 => k_is)
    (case l25 => k_is)
    (case w25 => k_is)
    (case k25 => k_is)
    (case a26 => k_is)
    (case l26 => k_is)
    (case w26 => k_is)
    (case k26 => k_is)
    (case a27 => k_is)
    (case l27 => k_is)
    (case w27 => k_is)
    (case k27 => k_is)
    (case A9 => k_is)
    (case L9 => k_is)
    (case sa9 => k_is)
    (case ga9 => k_is)
    (case gg9 => k_is)
    (case nf9 => k_is)
    (case ii9 => k_is)
    (case ti9 => k_is)
    (case l109 => k_is)
    (case w109 => k_is)
    (case k109 => k_is)
    (case kC9 => k_is)
    (case eC9 => k_is)
    (case tC9 => k_is)
    (case hC9 => k_is)
    (case cc9 => k_is)
    (case oo9 => k_is)
    (case sM9 => k_is)
    (case sN9 => k_is)
    (case A10 => k_is)
    (case L10 => k_is)
    (case sa10 => k_is)
    (case ga10 => k_is)
    (case gg10 => k_is)
    (case nf10 => k_is)
    (case nf10b => k_is)
    (case ii10 => k_is)
    (case ti10 => k_is)
    (case l110 => k_is)
    (case w110 => k_is)
    (case k110 => k_is)
    (case kC10 => k_is)
    (case eC10 => k_is)
    (case tC10 => k_is)
    (case hC10 => k_is)
    (case cc10 => k_is)
    (case oo10 => k_is)
    (case sM10 => k_is)
    (case sN10 => k_is)
    (case oG => k_is)
    (case oT => k_is)
    (case x9_10 => k_is)
    (case xne9_10 => decide)
    (case x10_9 => k_is)
    (case xne10_9 => decide)
    (case AM => k_is)
    (case eM => k_is)
    (case hM => k_is)
    (case tM => k_is)
    (case z_abs => k_is)
    (case z_all => k_is)
    (case z_bool => k_is)
    (case z_int => k_is)
    (case z_isinstance => k_is)
    (case z_len => k_is)
    (case z_list => k_is)
    (case z_max => k_is)
    (case z_range => k_is)
    (case z_repr => k_is)
    (case z_str => k_is)
    (case z_tuple => k_is)
    (case q_NAME_SIGNS => k_is)
    (case q_LONGEST_NAME => k_is)
    (case q_LONGEST_PATH => k_is)
    (case lC1 => k_is)
    (case uu1 => first | rfl | k_is)
    (case hd1 => first | rfl | k_is)
    (case noP1 => first | rfl | k_is)
    (case tab1 => exact PySem.W.km_tabs_of Y _ (by simp))
    (case lC2 => k_is)
    (case uu2 => first | rfl | k_is)
    (case hd2 => first | rfl | k_is)
    (case noP2 => first | rfl | k_is)
    (case tab2 => exact PySem.W.km_tabs_of Y _ (by simp))
    (case pne1_2 => decide)
