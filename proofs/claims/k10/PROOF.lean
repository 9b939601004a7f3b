import PyProof.Rows.All
import Wide.All
import OpenK.AllK
import Wide.FinOn
import HandS.ForMost
import HandS.Wide
import HandS.IsInst
import HandS.Defaults
import HandS.MakeKwOnly
import HandS.SortInts
import HandS.RaiseMore
import HandS.Zip
import HandS.TupAny
import HandS.Lambda
import HandS.EndTab
import HandS.ForExc
import HandS.ExcInit
import HandS.ExcField
import HandS.ExcIs
import KE.KExcIs
import KE.KUnpackStar
import HandS.TupMul
import HandS.ExcValue
import KE.KDflt
import HandS.Style
import KE.KNestM
import PyProof.ReprLen
import PyProof.Rows.RegStrFacts
import PySem.Challenge.RW_meettrees_k10_heads_that_hold
set_option Elab.async false
set_option linter.all false
set_option maxRecDepth 100000
/-! what all laws share: frames, what draws, calls by names alone -/
namespace MT
open PySem L2

/-! ### frames -/
/-- all but what M names stays -/
def Frm (M : Addr → Prop) (H H' : Hp) : Prop := ∀ c o, ¬ M c → H c = some o → H' c = some o
theorem Frm.refl {M : Addr → Prop} {H : Hp} : Frm M H H := fun _ _ _ h => h
theorem Frm.trans {M : Addr → Prop} {H H1 H2 : Hp} (a : Frm M H H1) (b : Frm M H1 H2) : Frm M H H2 := fun c o n h => b c o n (a c o n h)
theorem Frm.mono {M N : Addr → Prop} {H H' : Hp} (a : Frm M H H') (h : ∀ c, M c → N c) : Frm N H H' := fun c o n e => a c o (fun m => n (h c m)) e
theorem frm_same {M : Addr → Prop} {H H' : Hp} (s : Same H H') : Frm M H H' := fun c o _ h => s c o h
theorem same_new {H : Hp} {p : Addr} {o : HO} (h : H p = none) : Same H (upd H p o) := fun c u e => by
  rw [upd_ne (ne_of_none e h)]
  exact e
/-- a list in any heap behind -/
theorem Frm.seq {M : Addr → Prop} {K : PySem.W.Frag} {H H' : Hp} {a : Addr} {xs : List V} (e : Frm M H H') (n : ¬ M a) (h : SqL K H a xs) : SqL K H' a xs := by
  rcases h with (h | ⟨o, h⟩) | h
  · exact .inl (.inl (e _ _ n h))
  · exact .inl (.inr ⟨o, e _ _ n h⟩)
  · exact .inr h

/-! ### what draws -/
structure Sat (a b : Addr) (cs : List Int) (t r : Int) (H : Hp) : Prop where
  ha : H a = some (.lst [.ref b, .int t, .int r])
  hb : H b = some (.lst (cs.map V.int))
  ht : 0 ≤ t
  hr : 0 ≤ r
/-- at a stands what draws: at most n draws were made -/
def Sx (a b : Addr) (cs : List Int) (n : Nat) (H : Hp) : Prop := ∃ t r, Sat a b cs t r H ∧ t ≤ (n : Int)
theorem Sat.ne {a b : Addr} {cs : List Int} {t r : Int} {H : Hp} (s : Sat a b cs t r H) : b ≠ a := ne_of s.hb s.ha fun e => by
  injection e with e
  cases cs with
  | nil => cases e
  | cons x xs => injection e with e1 _; cases e1
theorem Sat.same {a b : Addr} {cs : List Int} {t r : Int} {H H' : Hp} (s : Sat a b cs t r H) (e : Same H H') : Sat a b cs t r H' := ⟨e _ _ s.ha, e _ _ s.hb, s.ht, s.hr⟩
theorem Sx.same {a b : Addr} {cs : List Int} {n : Nat} {H H' : Hp} (s : Sx a b cs n H) (e : Same H H') : Sx a b cs n H' := by
  obtain ⟨t, r, s, h⟩ := s
  exact ⟨t, r, s.same e, h⟩
theorem Sx.le {a b : Addr} {cs : List Int} {n m : Nat} {H : Hp} (s : Sx a b cs n H) (e : n ≤ m) : Sx a b cs m H := by
  obtain ⟨t, r, s, h⟩ := s
  exact ⟨t, r, s, by omega⟩
theorem Sat.upd {a b : Addr} {cs : List Int} {t r t' r' : Int} {H : Hp} (s : Sat a b cs t r H) (h1 : 0 ≤ t') (h2 : 0 ≤ r') : Sat a b cs t' r' (L2.upd H a (.lst [.ref b, .int t', .int r'])) := ⟨upd_same, by rw [upd_ne s.ne]; exact s.hb, h1, h2⟩
theorem frm_upd {H : Hp} {a : Addr} {o : HO} : Frm (· = a) H (L2.upd H a o) := fun c u n h => by rw [upd_ne n]; exact h
/-- the promise of a draw below m -/
def spDraw : Sp := fun vs H Q _ => ∃ (a b : Addr) (cs : List Int) (n : Nat) (m : Int), vs = [.ref a, .int m] ∧ Sx a b cs n H ∧ n ≤ 1000000 ∧ 0 < m ∧ m < 2 ^ 62 ∧
  ∀ H' d, Frm (· = a) H H' → Sx a b cs (n + 1) H' → 0 ≤ d → d < m → Q (.int d) H'
/-- the promise of a draw of one of some -/
def spPick (K : PySem.W.Frag) : Sp := fun vs H Q _ => ∃ (a b : Addr) (cs : List Int) (n : Nat) (p : Addr) (xs : List V), vs = [.ref a, .ref p] ∧ Sx a b cs n H ∧ n ≤ 1000000 ∧ p ≠ a ∧ SqL K H p xs ∧ xs ≠ [] ∧ xs.length < 2 ^ 62 ∧
  ∀ H' x, Frm (· = a) H H' → Sx a b cs (n + 1) H' → x ∈ xs → Q x H'

theorem draw_div {r m : Int} (h : 0 < m) (h2 : m < 2 ^ 62) : CDivW r m := wide_div (b := 62) h (by omega) (by decide) (by decide)
theorem canLay_ints : ∀ cs : List Int, PyData.canLayAll0 (cs.map PyData.int) = true
  | [] => by simp [PyData.canLayAll0]
  | c :: cs => by
    simp only [List.map_cons, PyData.canLayAll0, PyData.canLay0, canLay_ints cs, Bool.and_self]
theorem depth_ints : ∀ cs : List Int, PyData.depthAll (cs.map PyData.int) = 0
  | [] => by simp [PyData.depthAll]
  | c :: cs => by simp [PyData.depthAll, PyData.depth, depth_ints cs]
theorem shaped_ints (cs : List Int) : SeqAt.shaped (.list (cs.map PyData.int)) = true := by
  simp [SeqAt.shaped, PyData.canLay0, PyData.depth, canLay_ints, depth_ints]
theorem shaped_tints (cs : List Int) : SeqAt.shaped (.tuple (cs.map PyData.int)) = true := by
  simp [SeqAt.shaped, PyData.canLay0, PyData.depth, canLay_ints, depth_ints]
theorem dp_ints {K : PySem.W.Frag} {H : Hp} : ∀ cs : List Int, DpAll K H (cs.map V.int) (cs.map PyData.int)
  | [] => .nil
  | c :: cs => .cons (.int c) (dp_ints cs)
theorem ints_ne {K : PySem.W.Frag} {H : Hp} {p l : Addr} {cs : List Int} {Q : VK} (hp : SqL K H p (cs.map V.int)) (hl : SqL K H l []) (q : Q (.bl (!cs.isEmpty)) H) : rNeD K (.ref p) (.ref l) H Q :=
  ⟨.list (cs.map .int), .list [], .lst hp (dp_ints cs), .lst hl .nil, shaped_ints cs, shaped_ints [], by cases cs <;> exact q⟩
theorem mul_bd {x y A B : Int} (h0 : 0 ≤ x) (h1 : x ≤ A) (h2 : 0 ≤ y) (h3 : y ≤ B) : 0 ≤ x * y ∧ x * y ≤ A * B :=
  ⟨Int.mul_nonneg h0 h2, Int.le_trans (Int.mul_le_mul_of_nonneg_right h1 h2) (Int.mul_le_mul_of_nonneg_left h3 (Int.le_trans h0 h1))⟩
theorem cell_at {cs : List Int} (h : cs ≠ []) (t : Int) : ∃ c, atI (cs.map V.int) (t % ((cs.map V.int).length : Int)) = some (.int c) := by
  have l0 : 0 < cs.length := by cases cs with | nil => exact absurd rfl h | cons c cs => exact Nat.succ_pos _
  have e : ((cs.map V.int).length : Int) = cs.length := by rw [List.length_map]
  rw [e]
  have h1 : 0 ≤ t % (cs.length : Int) := Int.emod_nonneg _ (by omega)
  have h2 : t % (cs.length : Int) < cs.length := Int.emod_lt_of_pos _ (by omega)
  obtain ⟨j, hj⟩ : ∃ j : Nat, t % (cs.length : Int) = j := ⟨_, (Int.toNat_of_nonneg h1).symm⟩
  rw [hj]
  refine ⟨cs[j]'(by omega), atI_nat ?_⟩
  rw [List.getElem?_map, List.getElem?_eq_getElem (by omega)]
  rfl
theorem draw_rest {y v b : Int} {c : Bool} (e : y = 2 * (v - b)) (h : b ≤ v) : 0 ≤ y + (if c = true then 1 else 0) := by
  cases c
  · simp only [Bool.false_eq_true, if_false]; omega
  · simp only [if_true]; omega
/-! ### numbers as letters -/
section
variable {X : Cx}
theorem op_modL : OpR X (binaryOp .Mod) (fun x y H Q => ∃ i j, x = .int i ∧ y = .int j ∧ 0 < j ∧ ∀ z, z = i % j → 0 ≤ z → z < j → Q (.int z) H) := by
  intro pins s σ H x y v u Q I rx ry h
  obtain ⟨i, j, ex, ey, hj, q⟩ := h
  exact op_mod pins s σ H x y v u Q I rx ry ⟨i, j, ex, ey, hj, q _ rfl (Int.emod_nonneg _ (by omega)) (Int.emod_lt_of_pos _ hj)⟩
theorem op_mulL : OpR X (binaryOp .Mult) (fun x y H Q => ∃ i j, x = .int i ∧ y = .int j ∧ CMul i j ∧ ∀ z, z = i * j → Q (.int z) H) := by
  intro pins s σ H x y v u Q I rx ry h
  obtain ⟨i, j, ex, ey, hj, q⟩ := h
  exact op_mul pins s σ H x y v u Q I rx ry ⟨i, j, ex, ey, hj, q _ rfl⟩
theorem op_powL : OpR X (binaryOp .Pow) (fun x y H Q => ∃ i j, x = .int i ∧ y = .int j ∧ CPow i j ∧ ∀ z, z = i ^ j.toNat → Q (.int z) H) := by
  intro pins s σ H x y v u Q I rx ry h
  obtain ⟨i, j, ex, ey, hj, q⟩ := h
  exact op_pow pins s σ H x y v u Q I rx ry ⟨i, j, ex, ey, hj, q _ rfl⟩
theorem op_fdivL : OpR X (binaryOp .FloorDiv) (fun x y H Q => ∃ i j, x = .int i ∧ y = .int j ∧ CDivW i j ∧ ∀ z, z = i / j → Q (.int z) H) := by
  intro pins s σ H x y v u Q I rx ry h
  obtain ⟨i, j, ex, ey, hj, q⟩ := h
  exact op_fdivW pins s σ H x y v u Q I rx ry ⟨i, j, ex, ey, hj, q _ rfl⟩
end
/-! ### a call by names alone -/
section
variable {X : Cx} {CX : CXT} {k n : Nat} {f : Addr} {fd : FuncData} {ps ks : List Str} {sp : Sp} {E : XK} {x : Str} {p pos : Pos} {kws : List Keyword} {tk : TA} {g : List Value → List Value → List Value} {gV : List V → List V → List V}
theorem pe_callN0 (F : FnOk X.prog X.w X.K X.mg X.base CX k f fd ps sp) (hr : Room k X.A) (hg : Gl X x) (hm : X.mg x = some (.ref f)) (hk : PySem.W.keepIn X.K (.ref f) = true) (hb : KBn X.K fd ps 0 ks g gV) (hx : Passes CX X E)
    (hkw : PK X kws tk) (some_ : (backToKw pos (keywordEach kws X.env)).all (·.1.isSome) = true := by rfl) (names : (backToKw pos (keywordEach kws X.env)).filterMap (·.1) = ks := by rfl)
    (dbg : (x == ("__debug__" : Str)) = false := by decide)
    (plain : ((backTo pos (starEach [] X.env)).any (·.1) || (backToKw pos (keywordEach kws X.env)).any (·.1.isNone)) = false := by exact rfl) :
    PE X (.Call (.Name x p) [] kws pos) (tCallN 0 ks.length sp gV E tNil tk) :=
  ⟨fun pns st sl Hs Q I0 told => wpAny_Call_Name_kw (ld_glob I0 hg hm (PySem.W.callWith_KW0 (h₀ := X.base) I0.ok.mod.kin hk some_
    (thn (hkw.run pos pns st sl Hs _ I0 told) fun ws st2 ⟨zs, Ht, J, rel, _, len, go⟩ => ⟨J.kIn, by rw [names]; exact run_fnN (us := []) (vs := []) F hr hb hx J .nil rel rfl len go⟩) plain) dbg)⟩
end
theorem Fun.kbn {K : PySem.W.Frag} {x qual : Str} {st : Stmt} {f : Addr} {fd : FuncData} {ps : List Str} (F : Fun K x qual st f fd) (n : Nat) (ks : List Str) (g : {α : Type} → List α → List α → List α)
    (hrel : ∀ {vs zs : List V} {us ws : List Value}, Vals vs us → Vals zs ws → Vals (g vs zs) (g us ws))
    (h : ∀ (kV doc pm : Value) (an : Option Addr) (cdv ct : Value) (us ws : List Value), us.length = n → ws.length = ks.length → bindArgs (PySem.W.fnOf x qual (defArgs st) (defBody st) (defScope st) .none kV doc pm an cdv ct) ⟨us, ks.zip ws⟩ = pure (ps.zip (g us ws))) :
    KBn K fd ps n ks (fun us ws => g us ws) (fun vs zs => g vs zs) := by
  obtain ⟨oc, od, kV, doc, pm, an, cdv, ct, osl, rfl, lk, hcd⟩ := F.ex
  exact ⟨fun s us ws _ l1 l2 => BindsTo.of_eq (h kV doc pm an cdv ct us ws l1 l2), fun r1 r2 => hrel r1 r2⟩

/-! ### repr of a flag -/
def boolText (b : Bool) : Str := if b then "True" else "False"
theorem call_repr_bool {X : Cx} : CallR X (.builtin "repr") (fun xs H Q => ∃ b, xs = [.bl b] ∧ Q (.str (boolText b)) H) := by
  intro pins s σ H xs us Q I r h
  obtain ⟨b, rfl, q⟩ := h
  obtain ⟨u, rfl, r1⟩ := Vals.one r
  cases r1
  exact PySem.P.repr_of_bool ⟨.str (boolText b), H, I.tok _, ⟨_, rfl⟩, q⟩
theorem boolText_inj {a b : Bool} : decide (V.str (boolText a) = V.str (boolText b)) = (a == b) := by
  cases a <;> cases b <;> decide +kernel
end MT
/-! comprehensions over what may draw -/
namespace MT
open PySem L2

theorem Frm.updD {M : Addr → Prop} {H1 H : Hp} {D : Addr} {o : HO} (F : Frm M H1 H) (h : H1 D = none) : Frm M H1 (upd H D o) := fun c u n e => by
  rw [upd_ne (ne_of_none e h)]
  exact F c u n e
theorem Sx.updD {sa sb : Addr} {cs : List Int} {n m : Nat} {H1 H : Hp} {D : Addr} {o : HO} (S1 : Sx sa sb cs m H1) (h : H1 D = none) (S : Sx sa sb cs n H) : Sx sa sb cs n (upd H D o) := by
  obtain ⟨t, r, S, ht⟩ := S
  obtain ⟨t1, r1, S1, ht1⟩ := S1
  exact ⟨t, r, ⟨by rw [upd_ne (ne_of_none S1.ha h)]; exact S.ha, by rw [upd_ne (ne_of_none S1.hb h)]; exact S.hb, S.ht, S.hr⟩, ht⟩
/-- one turn: Ky of what is kept, Kn of what is passed by -/
def LcStep (g : TG) (tt : TT) (te : TE) (vs : List Nat) (σ : St) (x : V) (H : Hp) (Ky : VK) (Kn : Hp → Prop) : Prop :=
  g x (wipe σ vs) H fun σ2 H2 => wipe σ2 vs = wipe σ vs ∧ tt σ2 H2 fun b H3 => if b = true then te σ2 H3 Ky else Kn H3
/-- the walk J of a comprehension that fills the list at D, then Qd -/
def LcW (J : It) (g : TG) (tt : TT) (te : TE) (vs : List Nat) (σ : St) (H1 : Hp) (D : Addr) (Qd : Hp → Prop) : Prop :=
  ∃ Wd : Nat → Nat → Hp → Prop, (∃ left, Wd 0 left (upd H1 D (.lst []))) ∧ ∀ at_ left Hc, Wd at_ left Hc →
    (J.stop at_ Hc ∧ Qd Hc) ∨ (J.go at_ Hc ∧ ∃ Go : Hp → Prop, (∀ Hn, Go Hn → ∃ less, less < left ∧ Wd (at_ + 1) less Hn) ∧
      ∀ item Hn, J.yld at_ Hc item Hn → g item (wipe σ vs) Hn fun σt Ht => wipe σt vs = wipe σ vs ∧ tt σt Ht fun kept Hk =>
        if kept = true then te σt Hk fun new He => ∃ made, He D = some (.lst made) ∧ made.length < sizeLine ∧ Go (upd He D (.lst (made ++ [new]))) else Go Hk)
/-- over a list -/
theorem lcg_list {K : PySem.W.Frag} {a : Addr} {xs : List V} {g : TG} {tt : TT} {te : TE} {vs : List Nat} {σ : St} {H1 : Hp} {D : Addr} {Qd : Hp → Prop} (M : Addr → Prop) (St : Nat → Hp → Prop) (A : Nat → List V → Hp → Prop)
    (hD : H1 D = none) (src : ∀ H, Frm M H1 H → SqL K H a xs) (hlen : xs.length ≤ 10000000)
    (hup : ∀ i H l, Frm M H1 H → St i H → St i (upd H D (.lst l))) (hmono : ∀ i acc H l, Frm M H1 H → A i acc H → A i acc (upd H D (.lst l)))
    (h0 : St 0 H1) (hA0 : A 0 [] H1)
    (hs : ∀ i x acc H, xs[i]? = some x → Frm M H1 H → H D = some (.lst acc) → St i H → A i acc H → ∀ (Ky : VK) (Kn : Hp → Prop),
      (∀ y H', Frm M H1 H' → H' D = some (.lst acc) → St (i + 1) H' → A (i + 1) (acc ++ [y]) H' → Ky y H') → (∀ H', Frm M H1 H' → H' D = some (.lst acc) → St (i + 1) H' → A (i + 1) acc H' → Kn H') → LcStep g tt te vs σ x H Ky Kn)
    (hd : ∀ H acc, Frm M H1 H → H D = some (.lst acc) → St xs.length H → A xs.length acc H → acc.length ≤ xs.length → Qd H) :
    LcW (Itl K a) g tt te vs σ H1 D Qd := by
  refine lc_list (fun i H => i ≤ xs.length ∧ ∃ acc, Frm M H1 H ∧ H D = some (.lst acc) ∧ St i H ∧ A i acc H ∧ acc.length ≤ i)
    ⟨Nat.zero_le _, [], Frm.refl.updD hD, upd_same, hup _ _ _ Frm.refl h0, hmono _ _ _ _ Frm.refl hA0, Nat.le_refl _⟩ (fun i H _ ⟨_, _, F, _⟩ => src H F) ?_ ?_
  · rintro i x H hx ⟨hi, acc, F, hDa, hS, hA, hlen2⟩
    have hi2 : i < xs.length := (List.getElem?_eq_some_iff.mp hx).1
    refine hs i x acc H hx F hDa hS hA _ _ (fun y H' F' hD' hS' hA' => ?_) (fun H' F' hD' hS' hA' => ?_)
    · refine ⟨acc, hD', ?_, hi2, acc ++ [y], F'.updD hD, upd_same, hup _ _ _ F' hS', hmono _ _ _ _ F' hA', ?_⟩
      · rw [sizeLine_eq]
        omega
      · rw [List.length_append, List.length_singleton]
        omega
    · exact ⟨hi2, acc, F', hD', hS', hA', by omega⟩
  · rintro H ⟨_, acc, F, hDa, hS, hA, hlen2⟩
    exact hd H acc F hDa hS hA hlen2
/-- over a tuple -/
theorem lcg_tup {K : PySem.W.Frag} {a : Addr} {xs : List V} {g : TG} {tt : TT} {te : TE} {vs : List Nat} {σ : St} {H1 : Hp} {D : Addr} {Qd : Hp → Prop} (M : Addr → Prop) (St : Nat → Hp → Prop) (A : Nat → List V → Hp → Prop)
    (hD : H1 D = none) (src : ∀ H, Frm M H1 H → SqT K H a xs) (hlen : xs.length ≤ 10000000)
    (hup : ∀ i H l, Frm M H1 H → St i H → St i (upd H D (.lst l))) (hmono : ∀ i acc H l, Frm M H1 H → A i acc H → A i acc (upd H D (.lst l)))
    (h0 : St 0 H1) (hA0 : A 0 [] H1)
    (hs : ∀ i x acc H, xs[i]? = some x → Frm M H1 H → H D = some (.lst acc) → St i H → A i acc H → ∀ (Ky : VK) (Kn : Hp → Prop),
      (∀ y H', Frm M H1 H' → H' D = some (.lst acc) → St (i + 1) H' → A (i + 1) (acc ++ [y]) H' → Ky y H') → (∀ H', Frm M H1 H' → H' D = some (.lst acc) → St (i + 1) H' → A (i + 1) acc H' → Kn H') → LcStep g tt te vs σ x H Ky Kn)
    (hd : ∀ H acc, Frm M H1 H → H D = some (.lst acc) → St xs.length H → A xs.length acc H → acc.length ≤ xs.length → Qd H) :
    LcW (Itt K a) g tt te vs σ H1 D Qd := by
  refine lc_tup (fun i H => i ≤ xs.length ∧ ∃ acc, Frm M H1 H ∧ H D = some (.lst acc) ∧ St i H ∧ A i acc H ∧ acc.length ≤ i)
    ⟨Nat.zero_le _, [], Frm.refl.updD hD, upd_same, hup _ _ _ Frm.refl h0, hmono _ _ _ _ Frm.refl hA0, Nat.le_refl _⟩ (fun i H _ ⟨_, _, F, _⟩ => src H F) ?_ ?_
  · rintro i x H hx ⟨hi, acc, F, hDa, hS, hA, hlen2⟩
    have hi2 : i < xs.length := (List.getElem?_eq_some_iff.mp hx).1
    refine hs i x acc H hx F hDa hS hA _ _ (fun y H' F' hD' hS' hA' => ?_) (fun H' F' hD' hS' hA' => ?_)
    · refine ⟨acc, hD', ?_, hi2, acc ++ [y], F'.updD hD, upd_same, hup _ _ _ F' hS', hmono _ _ _ _ F' hA', ?_⟩
      · rw [sizeLine_eq]
        omega
      · rw [List.length_append, List.length_singleton]
        omega
    · exact ⟨hi2, acc, F', hD', hS', hA', by omega⟩
  · rintro H ⟨_, acc, F, hDa, hS, hA, hlen2⟩
    exact hd H acc F hDa hS hA hlen2
/-- over a range -/
theorem lcg_range {lo : Int} {n : Nat} {g : TG} {tt : TT} {te : TE} {vs : List Nat} {σ : St} {H1 : Hp} {D : Addr} {Qd : Hp → Prop} (M : Addr → Prop) (St : Nat → Hp → Prop) (A : Nat → List V → Hp → Prop)
    (hD : H1 D = none)  (hlen : n ≤ 10000000)
    (hup : ∀ i H l, Frm M H1 H → St i H → St i (upd H D (.lst l))) (hmono : ∀ i acc H l, Frm M H1 H → A i acc H → A i acc (upd H D (.lst l)))
    (h0 : St 0 H1) (hA0 : A 0 [] H1)
    (hs : ∀ i  acc H, i < n → Frm M H1 H → H D = some (.lst acc) → St i H → A i acc H → ∀ (Ky : VK) (Kn : Hp → Prop),
      (∀ y H', Frm M H1 H' → H' D = some (.lst acc) → St (i + 1) H' → A (i + 1) (acc ++ [y]) H' → Ky y H') → (∀ H', Frm M H1 H' → H' D = some (.lst acc) → St (i + 1) H' → A (i + 1) acc H' → Kn H') → LcStep g tt te vs σ (.int (lo + i)) H Ky Kn)
    (hd : ∀ H acc, Frm M H1 H → H D = some (.lst acc) → St n H → A n acc H → acc.length ≤ n → Qd H) :
    LcW (Itr lo n) g tt te vs σ H1 D Qd := by
  refine lc_range (fun i H => i ≤ n ∧ ∃ acc, Frm M H1 H ∧ H D = some (.lst acc) ∧ St i H ∧ A i acc H ∧ acc.length ≤ i)
    ⟨Nat.zero_le _, [], Frm.refl.updD hD, upd_same, hup _ _ _ Frm.refl h0, hmono _ _ _ _ Frm.refl hA0, Nat.le_refl _⟩  ?_ ?_
  · rintro i  H hx ⟨hi, acc, F, hDa, hS, hA, hlen2⟩
    have hi2 : i < n := hx
    refine hs i  acc H hx F hDa hS hA _ _ (fun y H' F' hD' hS' hA' => ?_) (fun H' F' hD' hS' hA' => ?_)
    · refine ⟨acc, hD', ?_, hi2, acc ++ [y], F'.updD hD, upd_same, hup _ _ _ F' hS', hmono _ _ _ _ F' hA', ?_⟩
      · rw [sizeLine_eq]
        omega
      · rw [List.length_append, List.length_singleton]
        omega
    · exact ⟨hi2, acc, F', hD', hS', hA', by omega⟩
  · rintro H ⟨_, acc, F, hDa, hS, hA, hlen2⟩
    exact hd H acc F hDa hS hA hlen2
end MT
/-! values as data, whatever else the heap holds -/
namespace MT
open PySem L2

mutual
/-- the value v is the data d, none of it at an address of M; a dict's parts are not told -/
inductive Dv (K : PySem.W.Frag) (M : Addr → Prop) (H : Hp) : V → PyData → Prop
  | non : Dv K M H .non .none
  | bl (b : Bool) : Dv K M H (.bl b) (.bool b)
  | int (i : Int) : Dv K M H (.int i) (.int i)
  | str (x : Str) : Dv K M H (.str x) (.str x)
  | lst {p : Addr} {xs : List V} {ds : List PyData} : ¬ M p → SqL K H p xs → DvAll K M H xs ds → Dv K M H (.ref p) (.list ds)
  | tup {p : Addr} {xs : List V} {ds : List PyData} : ¬ M p → SqT K H p xs → DvAll K M H xs ds → Dv K M H (.ref p) (.tuple ds)
  | dct {p : Addr} {kvs : List (Key × V)} : ¬ M p → H p = some (.dK kvs) → Dv K M H (.ref p) (.dict [])
inductive DvAll (K : PySem.W.Frag) (M : Addr → Prop) (H : Hp) : List V → List PyData → Prop
  | nil : DvAll K M H [] []
  | cons {v : V} {vs : List V} {d : PyData} {ds : List PyData} : Dv K M H v d → DvAll K M H vs ds → DvAll K M H (v :: vs) (d :: ds)
end
theorem Frm.seqT {M : Addr → Prop} {K : PySem.W.Frag} {H H' : Hp} {a : Addr} {xs : List V} (e : Frm M H H') (n : ¬ M a) (h : SqT K H a xs) : SqT K H' a xs := by
  rcases h with (h | ⟨o, h⟩) | h
  · exact .inl (.inl (e _ _ n h))
  · exact .inl (.inr ⟨o, e _ _ n h⟩)
  · exact .inr h
section
variable {K : PySem.W.Frag} {M : Addr → Prop} {H H' : Hp}
mutual
theorem Dv.frm (F : Frm M H H') : ∀ (d : PyData) (v : V), Dv K M H v d → Dv K M H' v d
  | .none, _, h => by cases h; exact .non
  | .bool b, _, h => by cases h; exact .bl b
  | .int i, _, h => by cases h; exact .int i
  | .str x, _, h => by cases h; exact .str x
  | .list ds, _, h => by
    cases h with
    | lst n s a => exact .lst n (F.seq n s) (DvAll.frm F ds _ a)
  | .tuple ds, _, h => by
    cases h with
    | tup n s a => exact .tup n (F.seqT n s) (DvAll.frm F ds _ a)
  | .dict _, _, h => by
    cases h with
    | dct n s => exact .dct n (F _ _ n s)
theorem DvAll.frm (F : Frm M H H') : ∀ (ds : List PyData) (vs : List V), DvAll K M H vs ds → DvAll K M H' vs ds
  | [], _, h => by cases h; exact .nil
  | d :: ds, _, h => by
    cases h with
    | cons a b => exact .cons (Dv.frm F d _ a) (DvAll.frm F ds _ b)
end
theorem Dv.mono {d : PyData} {v : V} (h : Dv K M H v d) (F : Frm M H H') : Dv K M H' v d := Dv.frm F d v h
theorem DvAll.mono {ds : List PyData} {vs : List V} (h : DvAll K M H vs ds) (F : Frm M H H') : DvAll K M H' vs ds := DvAll.frm F ds vs h
theorem Dv.same {d : PyData} {v : V} (h : Dv K M H v d) (F : Same H H') : Dv K M H' v d := Dv.frm (frm_same F) d v h
theorem DvAll.same {ds : List PyData} {vs : List V} (h : DvAll K M H vs ds) (F : Same H H') : DvAll K M H' vs ds := DvAll.frm (frm_same F) ds vs h
theorem DvAll.length : ∀ {vs : List V} {ds : List PyData}, DvAll K M H vs ds → vs.length = ds.length
  | _, _, .nil => rfl
  | _, _, .cons _ t => congrArg Nat.succ (DvAll.length t)
theorem DvAll.get {vs : List V} {ds : List PyData} {i : Nat} {x : V} (h : DvAll K M H vs ds) (e : vs[i]? = some x) : ∃ d, ds[i]? = some d ∧ Dv K M H x d := by
  induction i generalizing vs ds with
  | zero => cases h with
    | nil => cases e
    | cons r _ => cases e; exact ⟨_, rfl, r⟩
  | succ i ih => cases h with
    | nil => cases e
    | cons _ t => exact ih t e
theorem DvAll.mem {vs : List V} {ds : List PyData} {x : V} (h : DvAll K M H vs ds) (m : x ∈ vs) : ∃ d, d ∈ ds ∧ Dv K M H x d := by
  obtain ⟨i, hi⟩ := List.mem_iff_getElem?.mp m
  obtain ⟨d, e, r⟩ := h.get hi
  exact ⟨d, List.mem_of_getElem? e, r⟩
theorem DvAll.append : ∀ {vs us : List V} {ds es : List PyData}, DvAll K M H vs ds → DvAll K M H us es → DvAll K M H (vs ++ us) (ds ++ es)
  | _, _, _, _, .nil, s => s
  | _, _, _, _, .cons r t, s => .cons r (DvAll.append t s)
theorem DvAll.set {x : V} {d : PyData} (r : Dv K M H x d) : ∀ {vs : List V} {ds : List PyData} (i : Nat), DvAll K M H vs ds → DvAll K M H (vs.set i x) (ds.set i d)
  | _, _, _, .nil => .nil
  | _, _, 0, .cons _ t => .cons r t
  | _, _, i + 1, .cons q t => .cons q (DvAll.set r i t)
theorem DvAll.ints : ∀ ns : List Int, DvAll K M H (ns.map V.int) (ns.map PyData.int)
  | [] => .nil
  | n :: ns => .cons (.int n) (DvAll.ints ns)
theorem DvAll.drop : ∀ {vs : List V} {ds : List PyData} (n : Nat), DvAll K M H vs ds → DvAll K M H (vs.drop n) (ds.drop n)
  | _, _, 0, h => h
  | _, _, _ + 1, .nil => .nil
  | _, _, n + 1, .cons _ t => DvAll.drop n t
theorem DvAll.take : ∀ {vs : List V} {ds : List PyData} (n : Nat), DvAll K M H vs ds → DvAll K M H (vs.take n) (ds.take n)
  | _, _, 0, _ => .nil
  | _, _, _ + 1, .nil => .nil
  | _, _, n + 1, .cons r t => .cons r (DvAll.take n t)

mutual
theorem Dv.dp : ∀ (d : PyData) (v : V), Dv K M H v d → d.canLay0 = true → Dp K H v d
  | .none, _, h, _ => by cases h; exact .non
  | .bool b, _, h, _ => by cases h; exact .bl b
  | .int i, _, h, _ => by cases h; exact .int i
  | .str x, _, h, _ => by cases h; exact .str x
  | .list ds, _, h, c => by
    cases h with
    | lst n s a => exact .lst s (DvAll.dp ds _ a (by simpa [PyData.canLay0] using c))
  | .tuple ds, _, h, c => by
    cases h with
    | tup n s a => exact .tup s (DvAll.dp ds _ a (by simpa [PyData.canLay0] using c))
  | .dict _, _, h, c => by simp [PyData.canLay0] at c
theorem DvAll.dp : ∀ (ds : List PyData) (vs : List V), DvAll K M H vs ds → PyData.canLayAll0 ds = true → DpAll K H vs ds
  | [], _, h, _ => by cases h; exact .nil
  | d :: ds, _, h, c => by
    have c' : d.canLay0 = true ∧ PyData.canLayAll0 ds = true := by simpa [PyData.canLayAll0] using c
    cases h with
    | cons a b => exact .cons (Dv.dp d _ a c'.1) (DvAll.dp ds _ b c'.2)
end

/-! ### types -/
def tyName : PyData → String
  | .dict _ => "dict" | .tuple _ => "tuple" | .list _ => "list" | .str _ => "str" | .int _ => "int" | .bool _ => "bool" | .none => "NoneType"
theorem tyx_lst {p : Addr} {xs : List V} (h : SqL K H p xs) : TyX K H (.ref p) (.type "list") := by
  rcases h with (h | ⟨o, h⟩) | ⟨o, _, _, h, c, _⟩
  · exact .base (.lst h)
  · exact .base (.frz h)
  · exact .kList h c
theorem tyx_tup {p : Addr} {xs : List V} (h : SqT K H p xs) : TyX K H (.ref p) (.type "tuple") := by
  rcases h with (h | ⟨o, h⟩) | ⟨o, _, _, h, c, _⟩
  · exact .base (.tup h)
  · exact .fTuple h
  · exact .kTuple h c
theorem Dv.ty {d : PyData} {v : V} (h : Dv K M H v d) : TyX K H v (.type (tyName d)) := by
  cases h with
  | non => exact .base .non
  | bl b => exact .base (.bl b)
  | int i => exact .base (.int i)
  | str x => exact .base (.str x)
  | lst _ s _ => exact tyx_lst s
  | tup _ s _ => exact tyx_tup s
  | dct _ s => exact .base (.dK s)
def isIntD : PyData → Bool
  | .int _ => true | _ => false
def isBoolD : PyData → Bool
  | .bool _ => true | _ => false
def isStrD : PyData → Bool
  | .str _ => true | _ => false
def seqD : PyData → Option (List PyData)
  | .list ds => some ds | .tuple ds => some ds | _ => none
theorem kit_tab : ∀ a ∈ ["NoneType", "bool", "int", "str", "list", "tuple", "dict"], ∀ b ∈ ["int", "bool", "str", "list", "tuple"], kitB a b = some (decide (a = b) || (decide (a = "bool") && decide (b = "int"))) := by decide +kernel
theorem tyName_mem (d : PyData) : tyName d ∈ ["NoneType", "bool", "int", "str", "list", "tuple", "dict"] := by cases d <;> simp [tyName]
theorem kit_tyN (d : PyData) {b : String} (h : b ∈ ["int", "bool", "str", "list", "tuple"]) : PySem.W.kitOne K (.type (tyName d)) (.type b) = some (decide (tyName d = b) || (decide (tyName d = "bool") && decide (b = "int"))) := kit_ty (kit_tab _ (tyName_mem d) _ h)
theorem kit_int (d : PyData) : PySem.W.kitOne K (.type (tyName d)) (.type "int") = some (isIntD d || isBoolD d) := by
  rw [kit_tyN d (by decide)]
  cases d <;> simp [tyName, isIntD, isBoolD]
theorem kit_bool (d : PyData) : PySem.W.kitOne K (.type (tyName d)) (.type "bool") = some (isBoolD d) := by
  rw [kit_tyN d (by decide)]
  cases d <;> simp [tyName, isIntD, isBoolD]
theorem kit_str (d : PyData) : PySem.W.kitOne K (.type (tyName d)) (.type "str") = some (isStrD d) := by
  rw [kit_tyN d (by decide)]
  cases d <;> simp [tyName, isStrD, isBoolD]
theorem kit_list (d : PyData) : ∃ b1 b2, PySem.W.kitOne K (.type (tyName d)) (.type "list") = some b1 ∧ PySem.W.kitOne K (.type (tyName d)) (.type "tuple") = some b2 ∧ (b1 || b2) = (seqD d).isSome := by
  refine ⟨_, _, kit_tyN d (by decide), kit_tyN d (by decide), ?_⟩
  cases d <;> simp [tyName, seqD]
theorem kit_seq (d : PyData) : PySem.W.kitAny K (.type (tyName d)) [.type "list", .type "tuple"] = some (seqD d).isSome := by
  obtain ⟨b1, b2, h1, h2, e⟩ := kit_list (K := K) d
  refine kitAny_cons h1 (fun q => kitAny_cons h2 (fun q2 => ?_) (fun q2 => ?_)) (fun q => ?_)
  · rw [← e, q, q2]; exact kitAny_nil
  · rw [← e, q2]; cases b1 <;> rfl
  · rw [← e, q]; rfl
theorem Dv.seq {d : PyData} {v : V} {ds : List PyData} (h : Dv K M H v d) (e : seqD d = some ds) : ∃ p xs, v = .ref p ∧ ¬ M p ∧ (SqL K H p xs ∨ SqT K H p xs) ∧ DvAll K M H xs ds := by
  cases h with
  | lst n s a => cases e; exact ⟨_, _, rfl, n, .inl s, a⟩
  | tup n s a => cases e; exact ⟨_, _, rfl, n, .inr s, a⟩
  | _ => cases e

/-! ### walks of lists and tuples -/
def SeqIt (K : PySem.W.Frag) (a : Addr) (xs : List V) (H1 : Hp) (J : It) : Prop := (J = Itl K a ∧ SqL K H1 a xs) ∨ (J = Itt K a ∧ SqT K H1 a xs)
def iSeq (K : PySem.W.Frag) (tl : TE) : TI := fun σ H R => tl σ H fun x H1 => ∃ a xs, x = .ref a ∧ (SqL K H1 a xs ∨ SqT K H1 a xs) ∧ ∀ J, SeqIt K a xs H1 J → R J H1
theorem pi_seq {X : Cx} {tg l : Expr} {tl : TE} (hl : PE X l tl) : PI X tg l (iSeq X.K tl) := by
  refine ⟨fun pns st sl Hs R I0 told => thn (hl.run pns st sl Hs _ I0 told) fun got st1 ⟨y, Ht, J, ry, a, xs, ey, sq, go⟩ => ?_⟩
  subst ey
  cases ry
  have free : ∀ b ∈ [st1.heap.objs.size], FpOk X pns Ht b := fun b hb => by
    rw [List.mem_singleton] at hb
    rw [hb]
    exact J.fpOk (Nat.le_refl _) (J.hok.fresh (Nat.le_refl _))
  rcases sq with isL | isT
  · obtain ⟨items, _, plain, _⟩ := J.list isL
    exact wpAny_pyIter_list plain.isList ⟨_, [st1.heap.objs.size], _, _, Ht, rfl, J.kept (t' := st1.toks) (fun _ _ e => Heap.get?_push_of_some _ e), turn_list a _, ⟨_, Heap.get?_push_size _ rfl, rfl, rfl⟩, free, go _ (.inl ⟨rfl, isL⟩)⟩
  · obtain ⟨items, _, plain, _⟩ := J.tuple isT
    exact wpAny_pyIter_tuple (show st1.heap.IsTuple a items.toArray from plain) ⟨_, [st1.heap.objs.size], _, _, Ht, rfl, J.kept (t' := st1.toks) (fun _ _ e => Heap.get?_push_of_some _ e), turn_tuple a _, ⟨_, Heap.get?_push_size _ rfl, rfl, rfl⟩, free, go _ (.inr ⟨rfl, isT⟩)⟩
theorem lcg_seq {a : Addr} {xs : List V} {J : It} {g : TG} {tt : TT} {te : TE} {vs : List Nat} {σ : St} {H1 : Hp} {D : Addr} {Qd : Hp → Prop} (M : Addr → Prop) (St : Nat → Hp → Prop) (A : Nat → List V → Hp → Prop)
    (hD : H1 D = none) (hJ : SeqIt K a xs H1 J) (nM : ¬ M a) (hlen : xs.length ≤ 10000000)
    (hup : ∀ i H l, Frm M H1 H → St i H → St i (upd H D (.lst l))) (hmono : ∀ i acc H l, Frm M H1 H → A i acc H → A i acc (upd H D (.lst l)))
    (h0 : St 0 H1) (hA0 : A 0 [] H1)
    (hs : ∀ i x acc H, xs[i]? = some x → Frm M H1 H → H D = some (.lst acc) → St i H → A i acc H → ∀ (Ky : VK) (Kn : Hp → Prop),
      (∀ y H', Frm M H1 H' → H' D = some (.lst acc) → St (i + 1) H' → A (i + 1) (acc ++ [y]) H' → Ky y H') → (∀ H', Frm M H1 H' → H' D = some (.lst acc) → St (i + 1) H' → A (i + 1) acc H' → Kn H') → LcStep g tt te vs σ x H Ky Kn)
    (hd : ∀ H acc, Frm M H1 H → H D = some (.lst acc) → St xs.length H → A xs.length acc H → acc.length ≤ xs.length → Qd H) : LcW J g tt te vs σ H1 D Qd := by
  rcases hJ with ⟨rfl, s⟩ | ⟨rfl, s⟩
  · exact lcg_list M St A hD (fun H F => F.seq nM s) hlen hup hmono h0 hA0 hs hd
  · exact lcg_tup M St A hD (fun H F => F.seqT nM s) hlen hup hmono h0 hA0 hs hd
theorem same_frm {H H' : Hp} (F : Frm (fun _ => False) H H') : Same H H' := fun c o h => F c o (fun z => z) h
/-- a list of flags: p of each item -/
theorem lc_bools {a : Addr} {xs : List V} {ds : List PyData} {J : It} {g : TG} {te : TE} {vs : List Nat} {σ : St} {H1 : Hp} {D : Addr} {Qd : Hp → Prop} (p : PyData → Bool)
    (hD : H1 D = none) (hJ : SeqIt K a xs H1 J) (hda : DvAll K M H1 xs ds) (hlen : xs.length ≤ 10000000)
    (hs : ∀ x d H, Dv K M H x d → Same H1 H → ∀ Ky : VK, (∀ H', Same H H' → Ky (.bl (p d)) H') → g x (wipe σ vs) H fun σ2 H2 => wipe σ2 vs = wipe σ vs ∧ te σ2 H2 Ky)
    (hd : ∀ H, Same H1 H → H D = some (.lst ((ds.map p).map V.bl)) → Qd H) : LcW J g tYes te vs σ H1 D Qd := by
  refine lcg_seq (fun _ => False) (fun _ _ => True) (fun i acc _ => acc = ((ds.take i).map p).map V.bl) hD hJ (fun z => z) hlen (fun _ _ _ _ z => z) (fun _ _ _ _ _ z => z) trivial rfl ?_ ?_
  · intro i x acc H hx F hDa _ hA Ky Kn ky kn
    obtain ⟨d, hd1, hd2⟩ := hda.get hx
    have F2 := same_frm F
    refine hs x d H (hd2.same F2) F2 _ fun H' F' => ?_
    refine ky _ H' (F.trans (frm_same F')) (F' _ _ hDa) trivial ?_
    rw [hA]
    have e : ds.take (i + 1) = ds.take i ++ [d] := by
      rw [List.take_add_one, hd1]
      rfl
    rw [e, List.map_append, List.map_append]
    rfl
  · intro H acc F hDa _ hA _
    refine hd H (same_frm F) ?_
    rw [hDa, hA, List.take_of_length_le (by rw [hda.length]; exact Nat.le_refl _)]
end
theorem qbl {Q : VK} {a b : Bool} {H : Hp} (q : Q (.bl b) H) (e : a = b) : Q (.bl a) H := e ▸ q
/-! ### what the checks answer, as data -/
def oI : Option Int → V
  | none => .non | some i => .int i
def withinD (d : PyData) (lo hi : Option Int) : Bool := match d with
  | .int i => (match lo with | none => true | some l => decide (l ≤ i)) && (match hi with | none => true | some u => decide (i ≤ u))
  | _ => false
def areIntsD (d : PyData) : Bool := match seqD d with
  | none => false | some ds => ds.all isIntD
def numbersD (d : PyData) (n m : Int) : Bool := match seqD d with
  | none => false | some ds => decide ((ds.length : Int) = n) && ds.all (fun x => withinD x (some 0) (some m))
def intOf : PyData → Int
  | .int i => i | _ => 0
def risesD : List PyData → Bool
  | x :: y :: r => decide (intOf x < intOf y) && risesD (y :: r)
  | _ => true
def lotD (d : PyData) (n : Int) : Bool := match seqD d with
  | none => false | some ds => ds.all (fun x => withinD x (some 0) (some (n - 1))) && risesD ds
def nameSign (c : Nat) : Bool := (decide (97 ≤ c) && decide (c ≤ 122)) || (decide (48 ≤ c) && decide (c ≤ 57))
def nameD : PyData → Bool
  | .str x => decide (1 ≤ x.length) && decide (x.length ≤ 12) && x.cps.toList.all nameSign
  | _ => false
theorem isInt_eq {d : PyData} (h : isIntD d = true) : ∃ i, d = .int i := by
  cases d <;> first | exact ⟨_, rfl⟩ | cases h
def spIsList (K : PySem.W.Frag) : Sp := fun vs H Q _ => ∃ (M : Addr → Prop) (v : V) (d : PyData), vs = [v] ∧ Dv K M H v d ∧ ∀ H', Same H H' → Q (.bl (seqD d).isSome) H'
def spIsInt (K : PySem.W.Frag) : Sp := fun vs H Q _ => ∃ (M : Addr → Prop) (v : V) (d : PyData), vs = [v] ∧ Dv K M H v d ∧ Q (.bl (isIntD d)) H
def spWithin (K : PySem.W.Frag) : Sp := fun vs H Q _ => ∃ (M : Addr → Prop) (v : V) (d : PyData) (lo hi : Option Int), vs = [v, oI lo, oI hi] ∧ Dv K M H v d ∧ Q (.bl (withinD d lo hi)) H
def spAreInts (K : PySem.W.Frag) : Sp := fun vs H Q _ => ∃ (M : Addr → Prop) (v : V) (d : PyData), vs = [v] ∧ Dv K M H v d ∧ (∀ ds, seqD d = some ds → ds.length ≤ 10000000) ∧ ∀ H', Same H H' → Q (.bl (areIntsD d)) H'
def spNumbers (K : PySem.W.Frag) : Sp := fun vs H Q _ => ∃ (M : Addr → Prop) (v : V) (d : PyData) (n m : Int), vs = [v, .int n, .int m] ∧ Dv K M H v d ∧ (∀ ds, seqD d = some ds → ds.length ≤ 10000000) ∧ ∀ H', Same H H' → Q (.bl (numbersD d n m)) H'
def spLot (K : PySem.W.Frag) : Sp := fun vs H Q _ => ∃ (M : Addr → Prop) (v : V) (d : PyData) (n : Int), vs = [v, .int n] ∧ Dv K M H v d ∧ (∀ ds, seqD d = some ds → ds.length ≤ 10000000) ∧ ∀ H', Same H H' → Q (.bl (lotD d n)) H'
def spName (K : PySem.W.Frag) : Sp := fun vs H Q _ => ∃ (M : Addr → Prop) (v : V) (d : PyData), vs = [v] ∧ Dv K M H v d ∧ (∀ x, d = .str x → x.length ≤ 1000000) ∧ ∀ H', Same H H' → Q (.bl (nameD d)) H'
end MT
/-! comprehensions over two at once, over signs -/
namespace MT
open PySem L2 RZ
section
variable {K : PySem.W.Frag} {M : Addr → Prop} {H H' : Hp}
def ZipIt (K : PySem.W.Frag) (a b : Addr) (xs ys : List V) (H1 : Hp) (J : It) : Prop := (J = Itz K a b ∧ SqL K H1 a xs ∧ SqL K H1 b ys) ∨ (J = ItzT K a b ∧ SqT K H1 a xs ∧ SqT K H1 b ys)
theorem Same.seqT {H H' : Hp} {a : Addr} {xs : List V} (e : Same H H') (h : SqT K H a xs) : SqT K H' a xs := Frm.seqT (M := fun _ => False) (frm_same e) (fun z => z) h
theorem lc_zipP {a b : Addr} {xs ys : List V} {J : It} {g : TG} {te : TE} {vs : List Nat} {σ : St} {H1 : Hp} {D : Addr} {Qd : Hp → Prop} (f : V × V → V)
    (hD : H1 D = none) (hJ : ZipIt K a b xs ys H1 J) (hlen : xs.length ≤ 10000000)
    (hs : ∀ (i : Nat) x y T H, xs[i]? = some x → ys[i]? = some y → Same H1 H → H T = some (.tup [x, y]) → ∀ Ky : VK, (∀ H', Same H H' → Ky (f (x, y)) H') → g (.ref T) (wipe σ vs) H fun σ2 H2 => wipe σ2 vs = wipe σ vs ∧ te σ2 H2 Ky)
    (hd : ∀ H, Same H1 H → H D = some (.lst ((xs.zip ys).map f)) → Qd H) : LcW J g tYes te vs σ H1 D Qd := by
  have key : ∀ (i m : Nat) (H : Hp), (m = (xs.zip ys).length - i ∧ i ≤ (xs.zip ys).length ∧ Same H1 H ∧ H D = some (.lst (((xs.zip ys).take i).map f))) →
      (xs.length ≤ i ∨ ys.length ≤ i) ∧ Qd H ∨ (∃ x y, xs[i]? = some x ∧ ys[i]? = some y ∧ ∀ T H', H' = upd H T (.tup [x, y]) → H T = none →
        g (.ref T) (wipe σ vs) H' fun σ2 H2 => wipe σ2 vs = wipe σ vs ∧ tYes σ2 H2 fun b H3 => if b = true then te σ2 H3 fun y H4 => ∃ acc, H4 D = some (.lst acc) ∧ acc.length < sizeLine ∧
          (i + 1 ≤ (xs.zip ys).length ∧ Same H1 (upd H4 D (.lst (acc ++ [y]))) ∧ (upd H4 D (.lst (acc ++ [y]))) D = some (.lst (((xs.zip ys).take (i + 1)).map f))) else (i + 1 ≤ (xs.zip ys).length ∧ Same H1 H3 ∧ H3 D = some (.lst (((xs.zip ys).take (i + 1)).map f)))) := by
    rintro i m H ⟨rfl, hi, s, hDa⟩
    have hl := List.length_zip (l₁ := xs) (l₂ := ys)
    by_cases hlt : i < (xs.zip ys).length
    · have h1 : i < xs.length := (by omega)
      have h2 : i < ys.length := (by omega)
      refine .inr ⟨xs[i], ys[i], List.getElem?_eq_getElem h1, List.getElem?_eq_getElem h2, fun T H' e hT => ?_⟩
      subst e
      have sT := same_new (o := .tup [xs[i], ys[i]]) hT
      refine hs i _ _ T _ (List.getElem?_eq_getElem h1) (List.getElem?_eq_getElem h2) (s.trans sT) upd_same _ fun H' s' => ?_
      refine ⟨_, s' _ _ (sT _ _ hDa), ?_, hlt, ?_, ?_⟩
      · rw [sizeLine_eq, List.length_map, List.length_take]
        omega
      · exact same_frm ((frm_same ((s.trans sT).trans s')).updD hD)
      · have e : (xs.zip ys).take (i + 1) = (xs.zip ys).take i ++ [(xs[i], ys[i])] := by
          rw [List.take_add_one, List.getElem?_eq_getElem hlt, List.getElem_zip]
          rfl
        rw [upd_same, e, List.map_append]
        rfl
    · have e : i = (xs.zip ys).length := by omega
      subst e
      refine .inl ⟨by omega, hd H s ?_⟩
      rw [hDa, List.take_of_length_le (Nat.le_refl _)]
  have st : (xs.zip ys).length = (xs.zip ys).length - 0 ∧ 0 ≤ (xs.zip ys).length ∧ Same H1 (upd H1 D (.lst [])) ∧ (upd H1 D (.lst [])) D = some (.lst (((xs.zip ys).take 0).map f)) :=
    ⟨by omega, Nat.zero_le _, same_new hD, by rw [upd_same]; rfl⟩
  rcases hJ with ⟨rfl, sa, sb⟩ | ⟨rfl, sa, sb⟩
  · refine ⟨fun i m H => m = (xs.zip ys).length - i ∧ i ≤ (xs.zip ys).length ∧ Same H1 H ∧ H D = some (.lst (((xs.zip ys).take i).map f)), ⟨_, st⟩, fun i m H w => ?_⟩
    obtain ⟨em, _, s, _⟩ := id w
    have q1 := s.seq sa
    have q2 := s.seq sb
    rcases key i m H w with ⟨z, q⟩ | ⟨x, y, hx, hy, q⟩
    · exact .inl ⟨⟨xs, ys, q1, q2, z⟩, q⟩
    · have hlt : i < (xs.zip ys).length := by
        rw [List.length_zip]
        exact Nat.lt_min.mpr ⟨(List.getElem?_eq_some_iff.mp hx).1, (List.getElem?_eq_some_iff.mp hy).1⟩
      refine .inr ⟨⟨xs, ys, x, y, q1, q2, hx, hy⟩, fun H' => i + 1 ≤ (xs.zip ys).length ∧ Same H1 H' ∧ H' D = some (.lst (((xs.zip ys).take (i + 1)).map f)), fun H' p => ⟨_, by omega, rfl, p⟩, ?_⟩
      rintro v H' ⟨T, x', y', rfl, hT, e, ax, ay⟩
      have ex := (ax xs q1).symm.trans hx
      have ey := (ay ys q2).symm.trans hy
      cases ex
      cases ey
      exact q T H' e hT
  · refine ⟨fun i m H => m = (xs.zip ys).length - i ∧ i ≤ (xs.zip ys).length ∧ Same H1 H ∧ H D = some (.lst (((xs.zip ys).take i).map f)), ⟨_, st⟩, fun i m H w => ?_⟩
    obtain ⟨em, _, s, _⟩ := id w
    have q1 := Same.seqT s sa
    have q2 := Same.seqT s sb
    rcases key i m H w with ⟨z, q⟩ | ⟨x, y, hx, hy, q⟩
    · exact .inl ⟨⟨xs, ys, q1, q2, z⟩, q⟩
    · have hlt : i < (xs.zip ys).length := by
        rw [List.length_zip]
        exact Nat.lt_min.mpr ⟨(List.getElem?_eq_some_iff.mp hx).1, (List.getElem?_eq_some_iff.mp hy).1⟩
      refine .inr ⟨⟨xs, ys, x, y, q1, q2, hx, hy⟩, fun H' => i + 1 ≤ (xs.zip ys).length ∧ Same H1 H' ∧ H' D = some (.lst (((xs.zip ys).take (i + 1)).map f)), fun H' p => ⟨_, by omega, rfl, p⟩, ?_⟩
      rintro v H' ⟨T, x', y', rfl, hT, e, ax, ay⟩
      have ex := (ax xs q1).symm.trans hx
      have ey := (ay ys q2).symm.trans hy
      cases ex
      cases ey
      exact q T H' e hT
/-- sign by sign -/
theorem lc_strP {z : Str} {g : TG} {te : TE} {vs : List Nat} {σ : St} {H1 : Hp} {D : Addr} {Qd : Hp → Prop} (f : Nat → V)
    (hD : H1 D = none) (hlen : z.length ≤ 10000000)
    (hs : ∀ c H, c ∈ z.cps.toList → Same H1 H → ∀ Ky : VK, (∀ H', Same H H' → Ky (f c) H') → g (.str ⟨#[c]⟩) (wipe σ vs) H fun σ2 H2 => wipe σ2 vs = wipe σ vs ∧ te σ2 H2 Ky)
    (hd : ∀ H, Same H1 H → H D = some (.lst (z.cps.toList.map f)) → Qd H) : LcW (Its z) g tYes te vs σ H1 D Qd := by
  have hz : z.length = z.cps.toList.length := by simp [Str.length]
  have hz2 : z.cps.size = z.cps.toList.length := by simp
  refine ⟨fun i m H => m = z.cps.toList.length - i ∧ i ≤ z.cps.toList.length ∧ Same H1 H ∧ H D = some (.lst ((z.cps.toList.take i).map f)), ⟨_, by omega, Nat.zero_le _, same_new hD, by rw [upd_same]; rfl⟩, ?_⟩
  rintro i m H ⟨rfl, hi, s, hDa⟩
  by_cases hlt : i < z.cps.toList.length
  · refine .inr ⟨by show i < z.cps.size; omega, fun H' => i + 1 ≤ z.cps.toList.length ∧ Same H1 H' ∧ H' D = some (.lst ((z.cps.toList.take (i + 1)).map f)), fun H' p => ⟨_, by omega, rfl, p⟩, ?_⟩
    rintro v H' ⟨rfl, c, hc, rfl⟩
    have hc2 : z.cps.toList[i]? = some c := by simpa using hc
    refine hs c _ (List.mem_of_getElem? hc2) s _ fun H' s' => ?_
    refine ⟨_, s' _ _ hDa, ?_, hlt, ?_, ?_⟩
    · rw [sizeLine_eq, List.length_map, List.length_take]
      omega
    · exact same_frm ((frm_same (s.trans s')).updD hD)
    · have e : z.cps.toList.take (i + 1) = z.cps.toList.take i ++ [c] := by
        rw [List.take_add_one, hc2]
        rfl
      rw [upd_same, e, List.map_append]
      rfl
  · have e : i = z.cps.toList.length := by omega
    subst e
    refine .inl ⟨by show z.cps.size ≤ _; omega, hd H s ?_⟩
    rw [hDa, List.take_of_length_le (Nat.le_refl _)]
theorem cutRest (xs : List V) : cutV xs (some (1 : Int)) none = List.drop 1 xs := by
  unfold cutV
  have e1 : HT.sIx xs.length 0 (some 1) = min 1 xs.length := HT.sIx_nat _ _ 1
  rw [e1, HT.sIx_none]
  have e2 : xs.drop (min 1 xs.length) = xs.drop 1 := by
    cases xs with
    | nil => rfl
    | cons x r =>
      have : min 1 (x :: r).length = 1 := by rw [List.length_cons]; omega
      rw [this]
  rw [e2]
  refine List.take_of_length_le ?_
  rw [List.length_drop]
  omega
theorem sl_seq {X : Cx} : SlR X (fun x lo hi H Q => rSlL X.K x lo hi H Q ∨ rSlA X.K x lo hi H Q) := sl_list.or sl_tupA
/-- the rest of a list or tuple behind its first one, as data -/
theorem rest_seq {a : Addr} {xs : List V} {H1 : Hp} {Q : VK} (sq : SqL K H1 a xs ∨ SqT K H1 a xs)
    (h : ∀ b H2, Same H1 H2 → ((SqL K H2 a xs ∧ SqL K H2 b (xs.drop 1)) ∨ (SqT K H2 a xs ∧ SqT K H2 b (xs.drop 1))) → Q (.ref b) H2) :
    rSlL K (.ref a) (some 1) none H1 Q ∨ rSlA K (.ref a) (some 1) none H1 Q := by
  rcases sq with s | s
  · refine .inl ⟨a, xs, rfl, s, fun p hp => ?_⟩
    have e := same_new (o := .lst (cutV xs (some 1) none)) hp
    refine h p _ e (.inl ⟨e.seq s, ?_⟩)
    rw [← cutRest]
    exact SqL.of upd_same
  · refine .inr ⟨a, xs, rfl, s, fun hw => ?_, fun _ p hp => ?_⟩
    · refine h a _ (Same.refl _) (.inr ⟨s, ?_⟩)
      have e1 : HT.sIx xs.length 0 (some 1) = min 1 xs.length := HT.sIx_nat _ _ 1
      have h0 := hw.1
      rw [e1] at h0
      cases xs with
      | nil => exact s
      | cons x r =>
        rw [List.length_cons] at h0
        omega
    · have e := same_new (o := .tup (cutV xs (some 1) none)) hp
      refine h p _ e (.inr ⟨Same.seqT e s, ?_⟩)
      rw [← cutRest]
      exact SqT.of upd_same
theorem all_rises : ∀ {xs : List V} {ds : List PyData}, DvAll K M H xs ds → ds.all isIntD = true → ∃ ns : List Int, xs = ns.map V.int ∧ ds = ns.map PyData.int
  | _, _, .nil, _ => ⟨[], rfl, rfl⟩
  | _, _, .cons (v := v) (d := d) h t, e => by
    rw [List.all_cons, Bool.and_eq_true] at e
    obtain ⟨i, rfl⟩ := isInt_eq e.1
    cases h
    obtain ⟨ns, e1, e2⟩ := all_rises t e.2
    exact ⟨i :: ns, by rw [e1]; rfl, by rw [e2]; rfl⟩
theorem rises_zip : ∀ ns : List Int, ((ns.zip (ns.drop 1)).all fun q => decide (q.1 < q.2)) = risesD (ns.map PyData.int)
  | [] => rfl
  | [_] => rfl
  | x :: y :: r => by
    have ih := rises_zip (y :: r)
    show (decide (x < y) && (((y :: r).zip r).all fun q => decide (q.1 < q.2))) = (decide (x < y) && risesD ((y :: r).map PyData.int))
    rw [← ih]
    rfl
def ltF : V × V → V
  | (.int i, .int j) => .bl (decide (i < j))
  | _ => .bl false
theorem int_at {ns : List Int} {i : Nat} {x : V} (h : (ns.map V.int)[i]? = some x) : ∃ z, x = .int z := by
  rw [List.getElem?_map] at h
  cases e : ns[i]? with
  | none => rw [e] at h; cases h
  | some z => rw [e] at h; exact ⟨z, (Option.some.inj h).symm⟩
theorem zip_lt (ns : List Int) : ((ns.map V.int).zip ((ns.map V.int).drop 1)).map ltF = ((ns.zip (ns.drop 1)).map fun q => decide (q.1 < q.2)).map V.bl := by
  rw [← List.map_drop, List.zip_map, List.map_map, List.map_map]
  rfl
theorem within_ints {ds : List PyData} {m : Int} (h : ds.all (fun x => withinD x (some 0) (some m)) = true) : ds.all isIntD = true := by
  rw [List.all_eq_true] at h ⊢
  intro d hd
  have q := h d hd
  cases d <;> first | rfl | cases q
theorem numbers_len {d : PyData} {ds : List PyData} {xs : List V} {m : Int} (h : seqD d = some ds) (hda : DvAll K M H xs ds) : numbersD d (xs.length : Int) m = ds.all (fun x => withinD x (some 0) (some m)) := by
  unfold numbersD
  rw [h, hda.length]
  show (decide ((ds.length : Int) = ds.length) && _) = _
  rw [decide_eq_true rfl]
  rfl
theorem within_len {n : Nat} : withinD (.int n) (some 1) (some 12) = (decide (1 ≤ n) && decide (n ≤ 12)) := by
  show (decide ((1 : Int) ≤ n) && decide ((n : Int) ≤ 12)) = _
  rw [Bool.eq_iff_iff]
  simp only [Bool.and_eq_true, decide_eq_true_eq]
  omega
theorem sign_mem (c : Nat) : (c ∈ [97, 98, 99, 100, 101, 102, 103, 104, 105, 106, 107, 108, 109, 110, 111, 112, 113, 114, 115, 116, 117, 118, 119, 120, 121, 122, 48, 49, 50, 51, 52, 53, 54, 55, 56, 57]) ↔ nameSign c = true := by
  unfold nameSign
  simp only [List.mem_cons, List.not_mem_nil, or_false, Bool.or_eq_true, Bool.and_eq_true, decide_eq_true_eq]
  omega
theorem sign_in (c : Nat) : decide (c ∈ (("abcdefghijklmnopqrstuvwxyz0123456789" : Str).cps.toList)) = nameSign c := by
  have e : (("abcdefghijklmnopqrstuvwxyz0123456789" : Str).cps.toList) = [97, 98, 99, 100, 101, 102, 103, 104, 105, 106, 107, 108, 109, 110, 111, 112, 113, 114, 115, 116, 117, 118, 119, 120, 121, 122, 48, 49, 50, 51, 52, 53, 54, 55, 56, 57] := by decide +kernel
  rw [e, Bool.eq_iff_iff, decide_eq_true_iff, sign_mem]
end
end MT
/-! what is made, told by what it is and not by how the heap is written -/
namespace MT
open PySem L2
section
variable {X : Cx} {e a : Expr} {es : List Expr} {t : TE} {ta : TA} {pos : Pos}
theorem PE.imp {t' : TE} (h : PE X e t) (i : ∀ σ H Q, t' σ H Q → t σ H Q) : PE X e t' := ⟨fun pins s σ H Q I q => h.run pins s σ H Q I (i σ H Q q)⟩
def clA (t : TA) : TA := fun σ H R => ∃ R', (∀ xs H1, R' xs H1 → R xs H1) ∧ t σ H R'
theorem PA.cl (h : PA X es ta) : PA X es (clA ta) := ⟨fun pos pins s σ H Q I ⟨R', i, q⟩ => thn (h.run pos pins s σ H R' I q) fun us s1 ⟨xs, H1, I1, r1, q1⟩ => ⟨xs, H1, I1, r1, i _ _ q1⟩⟩
/-- a new object o at p -/
def New (H H' : Hp) (p : Addr) (o : HO) : Prop := Same H H' ∧ H' p = some o ∧ H p = none
theorem New.mk' {H : Hp} {p : Addr} {o : HO} (h : H p = none) : New H (upd H p o) p o := ⟨same_new h, upd_same, h⟩
def tLstN (t : TA) : TE := fun σ H Q => t σ H fun xs H1 => xs.length ≤ sizeLine ∧ ∀ p H2, New H1 H2 p (.lst xs) → Q (.ref p) H2
theorem pe_lstN (h : PA X es ta) : PE X (.List es pos) (tLstN ta) := PE.imp (pe_lst (PA.cl h)) fun σ H Q q => ⟨_, fun xs H1 z => ⟨z.1, fun p hp => z.2 p _ (New.mk' hp)⟩, q⟩
def tTupN (t : TA) : TE := fun σ H Q => t σ H fun xs H1 => xs.length ≤ sizeLine ∧ ∀ p H2, New H1 H2 p (.tup xs) → Q (.ref p) H2
theorem pe_tupN {x1} (h : PA X es ta) : PE X (.Tuple es x1 pos) (tTupN ta) := PE.imp (pe_tup (PA.cl h)) fun σ H Q q => ⟨_, fun xs H1 z => ⟨z.1, fun p hp => z.2 p _ (New.mk' hp)⟩, q⟩
theorem sl_listN : SlR X (fun x lo hi H Q => ∃ a xs, x = .ref a ∧ SqL X.K H a xs ∧ ∀ p H2, New H H2 p (.lst (cutV xs lo hi)) → Q (.ref p) H2) := by
  intro pins s σ H x v vl vu lo hi sl Q I rx hs pl pu h
  obtain ⟨a, xs, ex, hx, q⟩ := h
  exact sl_list pins s σ H x v vl vu lo hi sl Q I rx hs pl pu ⟨a, xs, ex, hx, fun p hp => q p _ (New.mk' hp)⟩
theorem call_list_ofN : CallR X (.type "list") (fun xs H Q => ∃ p ys, xs = [.ref p] ∧ (SqL X.K H p ys ∨ SqT X.K H p ys) ∧ ∀ l H2, New H H2 l (.lst ys) → Q (.ref l) H2) := by
  intro pins s σ H xs us Q I r h
  obtain ⟨p, ys, e1, e2, q⟩ := h
  exact call_list_of pins s σ H xs us Q I r ⟨p, ys, e1, e2, fun l hl => q l _ (New.mk' hl)⟩
theorem call_tuple_ofN : CallR X (.type "tuple") (fun xs H Q => ∃ p ys, xs = [.ref p] ∧ ((SqL X.K H p ys ∧ ∀ l H2, New H H2 l (.tup ys) → Q (.ref l) H2) ∨ (SqT X.K H p ys ∧ Q (.ref p) H))) := by
  intro pins s σ H xs us Q I r h
  obtain ⟨p, ys, e1, q⟩ := h
  refine call_tuple_of pins s σ H xs us Q I r ⟨p, ys, e1, ?_⟩
  rcases q with ⟨h1, q⟩ | q
  · exact .inl ⟨h1, fun l hl => q l _ (New.mk' hl)⟩
  · exact .inr q
def clE (t : TE) : TE := fun σ H R => ∃ R', (∀ x H1, R' x H1 → R x H1) ∧ t σ H R'
theorem PE.cl (h : PE X e t) : PE X e (clE t) := ⟨fun pins s σ H Q I ⟨R', i, q⟩ => thn (h.run pins s σ H R' I q) fun u s1 ⟨x, H1, I1, r1, q1⟩ => ⟨x, H1, I1, r1, i _ _ q1⟩⟩
/-- {k: v}, one pair -/
theorem pe_disp1N {k v : Expr} {tk tv : TE} (hk : PE X k tk) (hv : PE X v tv) : PE X (.Dict [some k] [v] pos) (fun σ H Q => ∀ p H0, New H H0 p (.dK []) → tk σ H0 fun x H1 => tv σ H1 fun y H2 =>
    H2 p = some (.dK []) ∧ ∃ key : Key, x = kV key ∧ ∀ H3, (∀ c, c ≠ p → H3 c = H2 c) → H3 p = some (.dK [(key, y)]) → Q (.ref p) H3) := by
  refine PE.imp (pe_disp (pps_cons (PE.cl hk) (PE.cl hv) pps_nil) rfl rfl (fun z => by cases z) (show 1 ≤ 15 by decide)) fun σ H Q q p hp => ?_
  refine ⟨_, fun x H1 z => ⟨_, fun y H2 z2 => ?_, z⟩, q p _ (New.mk' hp)⟩
  obtain ⟨e, key, ex, q2⟩ := z2
  subst ex
  exact ⟨e, [(key, y)], rfl, (show 1 ≤ 15 by decide), q2 _ (fun c hc => upd_ne hc) upd_same⟩
end
section
variable {K : PySem.W.Frag} {M : Addr → Prop} {H H' : Hp}
theorem New.same {H H' : Hp} {p : Addr} {o : HO} (n : New H H' p o) : Same H H' := n.1
theorem New.ne {H H' : Hp} {p a : Addr} {o u : HO} (n : New H H' p o) (h : H a = some u) : p ≠ a := fun e => by
  have := n.2.2
  rw [e, h] at this
  cases this
theorem New.lst {H H' : Hp} {p a : Addr} {xs : List V} {ds : List PyData} {u : HO} (n : New H H' p (.lst xs)) (h : H a = some u) (hx : DvAll K (· = a) H xs ds) : Dv K (· = a) H' (.ref p) (.list ds) :=
  .lst (n.ne h) (SqL.of n.2.1) (hx.same n.1)
theorem New.tup {H H' : Hp} {p a : Addr} {xs : List V} {ds : List PyData} {u : HO} (n : New H H' p (.tup xs)) (h : H a = some u) (hx : DvAll K (· = a) H xs ds) : Dv K (· = a) H' (.ref p) (.tuple ds) :=
  .tup (n.ne h) (SqT.of n.2.1) (hx.same n.1)
theorem Sx.at {a b : Addr} {cs : List Int} {n : Nat} (S : Sx a b cs n H) : ∃ o, H a = some o := by
  obtain ⟨t, r, S, _⟩ := S
  exact ⟨_, S.ha⟩
theorem Sx.new {a b p : Addr} {cs : List Int} {n : Nat} {o : HO} (S : Sx a b cs n H) (e : New H H' p o) : Sx a b cs n H' := S.same e.1
theorem Sx.ne {a b p : Addr} {cs : List Int} {n : Nat} {o : HO} (S : Sx a b cs n H) (e : New H H' p o) : p ≠ a := by
  obtain ⟨u, h⟩ := S.at
  exact e.ne h
theorem Sx.lst {a b p : Addr} {cs : List Int} {n : Nat} {xs : List V} {ds : List PyData} (S : Sx a b cs n H) (e : New H H' p (.lst xs)) (hx : DvAll K (· = a) H xs ds) : Dv K (· = a) H' (.ref p) (.list ds) := by
  obtain ⟨u, h⟩ := S.at
  exact e.lst h hx
theorem Sx.tup {a b p : Addr} {cs : List Int} {n : Nat} {xs : List V} {ds : List PyData} (S : Sx a b cs n H) (e : New H H' p (.tup xs)) (hx : DvAll K (· = a) H xs ds) : Dv K (· = a) H' (.ref p) (.tuple ds) := by
  obtain ⟨u, h⟩ := S.at
  exact e.tup h hx
theorem New.filled {H H0 H2 H3 : Hp} {p : Addr} {o : HO} (n : New H H0 p o) (s : Same H0 H2) (h : ∀ c, c ≠ p → H3 c = H2 c) : Same H H3 := fun c u e => by
  rw [h c (fun z => n.ne e z.symm)]
  exact s _ _ (n.1 _ _ e)
theorem sIx_nat' (n d k : Nat) : HT.sIx n d (some (k : Int)) = min k n := HT.sIx_nat n d k
theorem cutN (xs : List V) (k : Nat) : cutV xs none (some (k : Int)) = xs.take k := by
  unfold cutV
  rw [HT.sIx_none, HT.sIx_nat, List.drop_zero, Nat.sub_zero]
  by_cases h : k ≤ xs.length
  · rw [Nat.min_eq_left h]
  · rw [Nat.min_eq_right (by omega), List.take_of_length_le (Nat.le_refl _), List.take_of_length_le (by omega)]
theorem atI_some {xs : List V} {d : Int} (h0 : 0 ≤ d) (h1 : d < (xs.length : Int)) : ∃ x, x ∈ xs ∧ atI xs d = some x := by
  obtain ⟨j, rfl⟩ : ∃ j : Nat, d = j := ⟨_, (Int.toNat_of_nonneg h0).symm⟩
  have hj : j < xs.length := by omega
  exact ⟨xs[j], List.getElem_mem hj, atI_nat (List.getElem?_eq_getElem hj)⟩
theorem take_next {α : Type} {xs : List α} {i : Nat} {x : α} (h : xs[i]? = some x) : xs.take (i + 1) = xs.take i ++ [x] := by
  rw [List.take_add_one, h]
  rfl
/-- few items, whatever it is -/
def fewD (d : PyData) : Prop := ∀ ds, seqD d = some ds → ds.length ≤ 10000000
theorem fewD_of {d : PyData} (h : match seqD d with | none => true | some ds => decide (ds.length ≤ 10000000)) : fewD d := fun ds e => by
  rw [e] at h
  exact of_decide_eq_true h
/-- the promises of what a law draws: the script's first n, a value of any kind -/
def spStart (K : PySem.W.Frag) : Sp := fun vs H Q _ => ∃ (a : Addr) (ns : List Int), vs = [.ref a] ∧ SqL K H a (ns.map V.int) ∧ ns.length ≤ 63 ∧ ∀ p b cs H', Same H H' → Sx p b cs 0 H' → H p = none → Q (.ref p) H'
def spValue (K : PySem.W.Frag) (c : Nat) : Sp := fun vs H Q _ => ∃ (a b : Addr) (cs : List Int) (n : Nat), vs = [.ref a] ∧ Sx a b cs n H ∧ n ≤ 900000 ∧ ∀ H' v d, Frm (· = a) H H' → Sx a b cs (n + c) H' → Dv K (· = a) H' v d → fewD d → Q v H'
theorem Sx.neD {a b D : Addr} {cs : List Int} {n : Nat} (S : Sx a b cs n H) (hD : H D = none) : D ≠ a := fun e => by
  obtain ⟨o, h⟩ := S.at
  rw [← e, hD] at h
  cases h
/-- a written list: at an address of its own the state of what draws stays -/
theorem Sx.put {a b p : Addr} {cs : List Int} {n : Nat} {xs ys : List V} (S : Sx a b cs n H) (h : p ≠ a) (hb : p ≠ b) : Sx a b cs n (upd H p (.lst ys)) := by
  obtain ⟨t, r, S, ht⟩ := S
  exact ⟨t, r, ⟨by rw [upd_ne h.symm]; exact S.ha, by rw [upd_ne hb.symm]; exact S.hb, S.ht, S.hr⟩, ht⟩
theorem Sx.atb {a b : Addr} {cs : List Int} {n : Nat} (S : Sx a b cs n H) : ∃ o, H b = some o := by
  obtain ⟨t, r, S, _⟩ := S
  exact ⟨_, S.hb⟩
def tame (e : PyData) : Bool := e.canLay0 && decide (e.depth ≤ 5)
theorem tame_seq : ∀ {ds : List PyData}, ds.all tame = true → PyData.canLayAll0 ds = true ∧ PyData.depthAll ds ≤ 5
  | [], _ => ⟨by simp [PyData.canLayAll0], by simp [PyData.depthAll]⟩
  | d :: ds, h => by
    rw [List.all_cons, Bool.and_eq_true] at h
    obtain ⟨h1, h2⟩ := tame_seq h.2
    unfold tame at h
    simp only [Bool.and_eq_true, decide_eq_true_eq] at h
    exact ⟨by simp only [PyData.canLayAll0, h.1.1, h1, Bool.and_self], by simp only [PyData.depthAll]; omega⟩
theorem shaped_list {ds : List PyData} (h : ds.all tame = true) : SeqAt.shaped (.list ds) = true := by
  obtain ⟨h1, h2⟩ := tame_seq h
  unfold SeqAt.shaped
  rw [Bool.and_eq_true]
  exact ⟨by simp only [PyData.canLay0, h1], decide_eq_true (by simp only [PyData.depth]; omega)⟩
theorem shaped_tup {ds : List PyData} (h : ds.all tame = true) : SeqAt.shaped (.tuple ds) = true := by
  obtain ⟨h1, h2⟩ := tame_seq h
  unfold SeqAt.shaped
  rw [Bool.and_eq_true]
  exact ⟨by simp only [PyData.canLay0, h1], decide_eq_true (by simp only [PyData.depth]; omega)⟩
theorem all_set {α : Type} {p : α → Bool} {x : α} (hx : p x = true) : ∀ {l : List α} (i : Nat), l.all p = true → (l.set i x).all p = true
  | [], _, h => h
  | y :: r, 0, h => by
    rw [List.all_cons, Bool.and_eq_true] at h
    rw [List.set_cons_zero, List.all_cons, hx, h.2]
    rfl
  | y :: r, i + 1, h => by
    rw [List.all_cons, Bool.and_eq_true] at h
    rw [List.set_cons_succ, List.all_cons, h.1, all_set hx i h.2]
    rfl
theorem tame_ints (ns : List Int) : (ns.map PyData.int).all tame = true := by
  rw [List.all_map, List.all_eq_true]
  intro n _
  rfl
theorem ixN_ok {n : Nat} {i : Int} (h0 : 0 ≤ i) (h1 : i < n) : ixN n i = some i.toNat := by
  unfold ixN
  rw [if_pos h0, if_pos h1]
def spRow (K : PySem.W.Frag) : Sp := fun vs H Q _ => ∃ (a b : Addr) (cs : List Int) (n : Nat) (m : Int), vs = [.ref a, .int m] ∧ Sx a b cs n H ∧ n ≤ 900000 ∧ 0 ≤ m ∧ m < 2 ^ 60 ∧
  ∀ H' v d ds, Frm (· = a) H H' → Sx a b cs (n + 8) H' → Dv K (· = a) H' v d → seqD d = some ds → ds.length ≤ 4 → ds.all tame = true → Q v H'
def spLaw (K : PySem.W.Frag) : Sp := fun vs H Q _ => ∃ (a : Addr) (ns : List Int), vs = [.ref a] ∧ SqL K H a (ns.map V.int) ∧ ns.length ≤ 63 ∧ ∀ H', Q (.bl true) H'
end
end MT
/-! what is kept of a list; lists of numbers that are equal, that rise -/
namespace MT
open PySem L2
section
variable {K : PySem.W.Frag} {M : Addr → Prop} {H H' : Hp}
theorem take_filter_next {α : Type} {p : α → Bool} {xs : List α} {i : Nat} {x : α} (h : xs[i]? = some x) : (xs.take (i + 1)).filter p = (xs.take i).filter p ++ (if p x then [x] else []) := by
  rw [take_next h, List.filter_append]
  by_cases e : p x = true
  · rw [if_pos e, List.filter_cons_of_pos e]; rfl
  · rw [if_neg e, List.filter_cons_of_neg e]; rfl
theorem lc_keep {a : Addr} {xs : List V} {ds : List PyData} {J : It} {g : TG} {tt : TT} {te : TE} {vs : List Nat} {σ : St} {H1 : Hp} {D : Addr} {Qd : Hp → Prop} (p : PyData → Bool)
    (hD : H1 D = none) (hJ : SeqIt K a xs H1 J) (hda : DvAll K M H1 xs ds) (hlen : xs.length ≤ 10000000)
    (hs : ∀ x d H, d ∈ ds → Dv K M H x d → Same H1 H → ∀ (Ky : VK) (Kn : Hp → Prop), (p d = true → ∀ H', Same H H' → Ky x H') → (p d = false → ∀ H', Same H H' → Kn H') → LcStep g tt te vs σ x H Ky Kn)
    (hd : ∀ H ys, Same H1 H → H D = some (.lst ys) → DvAll K M H ys (ds.filter p) → Qd H) : LcW J g tt te vs σ H1 D Qd := by
  refine lcg_seq (fun _ => False) (fun _ _ => True) (fun i acc H => DvAll K M H1 acc ((ds.take i).filter p)) hD hJ (fun z => z) hlen (fun _ _ _ _ z => z) (fun _ _ _ _ _ z => z) trivial .nil ?_ ?_
  · intro i x acc H hx F hDa _ hA Ky Kn ky kn
    obtain ⟨d, hd1, hd2⟩ := hda.get hx
    have F2 := same_frm F
    have e := take_filter_next (p := p) hd1
    refine hs x d H (List.mem_of_getElem? hd1) (hd2.same F2) F2 _ _ (fun hp H' F' => ?_) (fun hp H' F' => ?_)
    · refine ky _ H' (F.trans (frm_same F')) (F' _ _ hDa) trivial ?_
      rw [e, if_pos hp]
      exact hA.append (.cons hd2 .nil)
    · refine kn H' (F.trans (frm_same F')) (F' _ _ hDa) trivial ?_
      rw [e, if_neg (by rw [hp]; exact Bool.false_ne_true), List.append_nil]
      exact hA
  · intro H acc F hDa _ hA _
    rw [List.take_of_length_le (by rw [hda.length]; exact Nat.le_refl _)] at hA
    exact hd H acc (same_frm F) hDa (hA.same (same_frm F))
theorem DvAll.dpAll {vs : List V} {ds : List PyData} (h : DvAll K M H vs ds) (t : ds.all tame = true) : DpAll K H vs ds := DvAll.dp ds vs h (tame_seq t).1
theorem all_filter {α : Type} {p q : α → Bool} {l : List α} (h : l.all p = true) : (l.filter q).all p = true := by
  rw [List.all_eq_true] at h ⊢
  exact fun x hx => h x (List.mem_filter.mp hx).1
theorem eq_nil {p l : Addr} {ys : List V} {ds : List PyData} {Q : VK} (hp : SqL K H p ys) (hd : DvAll K M H ys ds) (t : ds.all tame = true) (hl : SqL K H l []) (q : Q (.bl ds.isEmpty) H) : rEqD K (.ref p) (.ref l) H Q :=
  ⟨.list ds, .list [], .lst hp (hd.dpAll t), .lst hl .nil, shaped_list t, shaped_ints [], by cases ds <;> exact q⟩
theorem eq_nil' {p l : Addr} {ys : List V} {ds : List PyData} {Q : VK} {b : Bool} (hp : SqL K H p ys) (hd : DvAll K M H ys ds) (t : ds.all tame = true) (hl : SqL K H l []) (e : ds.isEmpty = b) (q : Q (.bl b) H) : rEqD K (.ref p) (.ref l) H Q :=
  eq_nil hp hd t hl (e ▸ q)
theorem cr_sortedIN {X : Cx} : CallR X (.builtin "sorted") (fun vs H Q => ∃ (a : Addr) (ns : List Int), vs = [V.ref a] ∧ SqL X.K H a (ns.map V.int) ∧ ∀ (ns' : List Int) (p : Addr) (H2 : Hp), ns'.Perm ns → New H H2 p (.lst (ns'.map V.int)) → Q (.ref p) H2) := by
  intro pins s σ H xs us Q I r h
  obtain ⟨a, ns, e, hs, q⟩ := h
  exact cr_sortedI pins s σ H xs us Q I r ⟨a, ns, e, hs, fun ns' p hp _ hn => q ns' p _ hp (New.mk' hn)⟩
theorem op_in_seqK {X : Cx} (e : X.K = K) : OpR X (compareOp .In) (rIn K false) := e ▸ op_in_seq
theorem iteNE {a b : Bool} {A B : Prop} (e : a = b) (h : B) : if (!decide (V.str (boolText a) = V.str (boolText b))) = true then A else B := iteNS (by rw [e]) h
theorem eqv_ints : ∀ ns ms : List Int, PyData.eqvAll (ns.map PyData.int) (ms.map PyData.int) = decide (ns = ms)
  | [], [] => by simp [PyData.eqvAll]
  | [], _ :: _ => by simp [PyData.eqvAll]
  | _ :: _, [] => by simp [PyData.eqvAll]
  | n :: ns, m :: ms => by
    have ih := eqv_ints ns ms
    simp only [List.map_cons, PyData.eqvAll, PyData.eqv, ih, List.cons.injEq]
    by_cases e : n = m
    · simp [e]
    · simp [e]
theorem eq_ints {p l : Addr} {ns ms : List Int} {Q : VK} (hp : SqL K H p (ns.map V.int)) (hl : SqL K H l (ms.map V.int)) (q : Q (.bl (decide (ns = ms))) H) : rEqD K (.ref p) (.ref l) H Q :=
  ⟨.list (ns.map .int), .list (ms.map .int), .lst hp (dp_ints ns), .lst hl (dp_ints ms), shaped_ints ns, shaped_ints ms, by
    have e : PyData.eqv (.list (ns.map .int)) (.list (ms.map .int)) = decide (ns = ms) := by simp only [PyData.eqv, eqv_ints]
    exact e ▸ q⟩
theorem inV_ints (z : Int) (ns : List Int) : inV (.int z) (ns.map V.int) = decide (z ∈ ns) := by
  unfold inV
  rw [List.any_map, Bool.eq_iff_iff, List.any_eq_true, decide_eq_true_iff]
  constructor
  · rintro ⟨x, hx, e⟩
    have e2 : (x == z) = true := by simpa [eqV] using e
    rw [← beq_iff_eq.mp e2]
    exact hx
  · intro h
    exact ⟨z, h, by simp [eqV]⟩
theorem flat_ints (ns : List Int) : (ns.map V.int).all flatV = true := by
  rw [List.all_map, List.all_eq_true]
  intro n _
  rfl
/-! ### the facts of lots -/
def upto (k : Nat) : List Int := (List.range k).map fun i => ((i : Nat) : Int)
theorem rises_iff : ∀ ns : List Int, risesD (ns.map PyData.int) = true ↔ ns.Pairwise (· < ·)
  | [] => by simp [risesD]
  | [x] => by simp [risesD]
  | x :: y :: r => by
    have ih := rises_iff (y :: r)
    show (decide (x < y) && risesD ((y :: r).map PyData.int)) = true ↔ _
    rw [Bool.and_eq_true, ih, decide_eq_true_iff, List.pairwise_cons (a := x)]
    constructor
    · rintro ⟨h1, h2⟩
      refine ⟨fun z hz => ?_, h2⟩
      rcases List.mem_cons.mp hz with e | hz
      · rw [e]; exact h1
      · exact Int.lt_trans h1 ((List.pairwise_cons.mp h2).1 z hz)
    · rintro ⟨h1, h2⟩
      exact ⟨h1 y (List.mem_cons_self ..), h2⟩
theorem asc_ext : ∀ {l m : List Int}, l.Pairwise (· < ·) → m.Pairwise (· < ·) → (∀ x, x ∈ l ↔ x ∈ m) → l = m
  | [], [], _, _, _ => rfl
  | [], y :: m, _, _, h => absurd ((h y).mpr (List.mem_cons_self ..)) (by simp)
  | x :: l, [], _, _, h => absurd ((h x).mp (List.mem_cons_self ..)) (by simp)
  | x :: l, y :: m, p, q, h => by
    have hp := List.pairwise_cons.mp p
    have hq := List.pairwise_cons.mp q
    have e : x = y := by
      rcases List.mem_cons.mp ((h x).mp (List.mem_cons_self ..)) with e | hx
      · exact e
      · rcases List.mem_cons.mp ((h y).mpr (List.mem_cons_self ..)) with e | hy
        · exact e.symm
        · have h1 := hq.1 x hx
          have h2 := hp.1 y hy
          omega
    subst e
    have t : l = m := asc_ext hp.2 hq.2 fun z => by
      constructor
      · intro hz
        rcases List.mem_cons.mp ((h z).mp (List.mem_cons_of_mem _ hz)) with e | h1
        · have := hp.1 z hz
          omega
        · exact h1
      · intro hz
        rcases List.mem_cons.mp ((h z).mpr (List.mem_cons_of_mem _ hz)) with e | h1
        · have := hq.1 z hz
          omega
        · exact h1
    rw [t]
theorem upto_asc (k : Nat) : (upto k).Pairwise (· < ·) := by
  unfold upto
  rw [List.pairwise_map]
  exact List.pairwise_lt_range.imp fun h => Int.ofNat_lt.mpr h
theorem mem_upto {k : Nat} {x : Int} : x ∈ upto k ↔ 0 ≤ x ∧ x < k := by
  unfold upto
  rw [List.mem_map]
  constructor
  · rintro ⟨i, hi, rfl⟩
    have := List.mem_range.mp hi
    omega
  · rintro ⟨h0, h1⟩
    exact ⟨x.toNat, List.mem_range.mpr (by omega), by omega⟩
/-- a lot is what is picked of all numbers below k, in order -/
theorem lot_iff (ns : List Int) (k : Nat) : decide (ns = (upto k).filter fun x => decide (x ∈ ns)) = ((ns.map PyData.int).all (fun x => withinD x (some 0) (some ((k : Int) - 1))) && risesD (ns.map PyData.int)) := by
  rw [Bool.eq_iff_iff, decide_eq_true_iff, Bool.and_eq_true, rises_iff, List.all_map, List.all_eq_true]
  have hw : (∀ x ∈ ns, ((fun x => withinD x (some 0) (some ((k : Int) - 1))) ∘ PyData.int) x = true) ↔ ∀ x ∈ ns, 0 ≤ x ∧ x < k := by
    constructor
    · intro h x hx
      have q : (decide (0 ≤ x) && decide (x ≤ (k : Int) - 1)) = true := h x hx
      simp only [Bool.and_eq_true, decide_eq_true_eq] at q
      omega
    · intro h x hx
      have q := h x hx
      show (decide (0 ≤ x) && decide (x ≤ (k : Int) - 1)) = true
      simp only [Bool.and_eq_true, decide_eq_true_eq]
      omega
  rw [hw]
  constructor
  · intro e
    refine ⟨fun x hx => ?_, ?_⟩
    · rw [e] at hx
      exact mem_upto.mp (List.mem_filter.mp hx).1
    · rw [e]
      exact (upto_asc k).filter _
  · rintro ⟨h1, h2⟩
    refine asc_ext h2 ((upto_asc k).filter _) fun x => ?_
    rw [List.mem_filter, decide_eq_true_iff]
    exact ⟨fun hx => ⟨mem_upto.mpr (h1 x hx), hx⟩, fun h => h.2⟩
theorem filter_none {α : Type} (p : α → Bool) (l : List α) : (l.filter fun x => !p x).isEmpty = l.all p := by
  induction l with
  | nil => rfl
  | cons x r ih =>
    rw [List.all_cons, ← ih]
    cases e : p x with
    | true => rw [List.filter_cons_of_neg (by rw [e]; exact Bool.false_ne_true)]; rfl
    | false => rw [List.filter_cons_of_pos (by rw [e]; rfl)]; rfl
theorem len_eq {n : Nat} {m : Int} : decide (V.int (n : Int) = V.int m) = decide ((n : Int) = m) := by
  rw [Bool.eq_iff_iff, decide_eq_true_iff, decide_eq_true_iff]
  exact ⟨fun e => V.int.inj e, fun e => by rw [e]⟩
def spTrue (c : Nat) : Sp := fun vs H Q _ => ∃ (a b : Addr) (cs : List Int) (n : Nat), vs = [.ref a] ∧ Sx a b cs n H ∧ n ≤ 800000 ∧ ∀ H', Frm (· = a) H H' → Sx a b cs (n + c) H' → Q (.bl true) H'
end
end MT
/-! texts -/
namespace MT
open PySem L2 TL
section
variable {K : PySem.W.Frag} {M : Addr → Prop} {H H' : Hp}
theorem tl_sign (c : Nat) : tl (⟨#[c]⟩ : Str) = [c] := rfl
theorem joinL_ones : ∀ l : List Nat, joinL [] (l.map fun c => [c]) = l
  | [] => rfl
  | [c] => rfl
  | c :: d :: r => by
    have ih := joinL_ones (d :: r)
    show [c] ++ ([] ++ joinL [] ((d :: r).map fun c => [c])) = c :: d :: r
    rw [ih]
    rfl
theorem tl_join_signs (l : List Nat) : tl (Txt.join "" (l.map fun c => (⟨#[c]⟩ : Str))) = l := by
  rw [join_eq, tl_join, List.map_map]
  have e : tl ("" : Str) = [] := by decide +kernel
  rw [e]
  exact joinL_ones l
theorem sum_ones (l : List Nat) : ((l.map fun c => (⟨#[c]⟩ : Str)).map (·.length)).sum = l.length := by
  induction l with
  | nil => rfl
  | cons c r ih =>
    rw [List.map_cons, List.map_cons, List.sum_cons, ih, List.length_cons]
    show 1 + r.length = _
    omega
theorem tl_cut_lo {z : Str} {i : Int} (h0 : 0 ≤ i) : tl (cutS z none (some i)) = (tl z).take i.toNat := by
  obtain ⟨j, rfl⟩ : ∃ j : Nat, i = j := ⟨_, (Int.toNat_of_nonneg h0).symm⟩
  show (((tl z).drop (HT.sIx z.length 0 none)).take (HT.sIx z.length z.length (some (j : Int)) - HT.sIx z.length 0 none)) = _
  rw [HT.sIx_none, HT.sIx_nat, List.drop_zero, Nat.sub_zero, len_tl, Int.toNat_natCast]
  by_cases h : j ≤ (tl z).length
  · rw [Nat.min_eq_left h]
  · rw [Nat.min_eq_right (by omega), List.take_of_length_le (Nat.le_refl _), List.take_of_length_le (by omega)]
theorem tl_cut_hi {z : Str} {i : Int} (h0 : 0 ≤ i) : tl (cutS z (some i) none) = (tl z).drop i.toNat := by
  obtain ⟨j, rfl⟩ : ∃ j : Nat, i = j := ⟨_, (Int.toNat_of_nonneg h0).symm⟩
  show (((tl z).drop (HT.sIx z.length 0 (some (j : Int)))).take (HT.sIx z.length z.length none - HT.sIx z.length 0 (some (j : Int)))) = _
  rw [HT.sIx_none, HT.sIx_nat, len_tl, Int.toNat_natCast]
  by_cases h : j ≤ (tl z).length
  · rw [Nat.min_eq_left h, List.take_of_length_le]
    rw [List.length_drop]
    exact Nat.le_refl _
  · rw [Nat.min_eq_right (by omega), List.drop_of_length_le (Nat.le_refl _), List.drop_of_length_le (by omega)]
    exact List.take_nil
theorem signs_lt {z : Str} (h : (tl z).all nameSign = true) : ∀ c ∈ tl z, c < 1114112 := fun c hc => by
  have q := List.all_eq_true.mp h c hc
  unfold nameSign at q
  simp only [Bool.or_eq_true, Bool.and_eq_true, decide_eq_true_eq] at q
  omega
theorem strOk_of {z : Str} (h : ∀ c ∈ tl z, c < 1114112) : PyData.strOk z = true := by
  unfold PyData.strOk
  rw [← Array.all_toList, List.all_eq_true]
  exact fun c hc => decide_eq_true (h c hc)
theorem strOk_signs {z : Str} (h : (tl z).all nameSign = true) : PyData.strOk z = true := by
  unfold PyData.strOk
  rw [← Array.all_toList, List.all_eq_true]
  intro c hc
  have q := List.all_eq_true.mp h c hc
  unfold nameSign at q
  simp only [Bool.or_eq_true, Bool.and_eq_true, decide_eq_true_eq] at q
  exact decide_eq_true (by omega)
theorem eq_data {v u : V} {d e : PyData} {b : Bool} {Q : VK} (hv : Dv K M H v d) (hu : Dv K M H u e) (td : tame d = true) (te : tame e = true) (eb : PyData.eqv d e = b) (q : Q (.bl b) H) : rEqD K v u H Q := by
  have h : ∀ d : PyData, tame d = true → SeqAt.shaped d = true ∧ d.canLay0 = true := fun d h => by
    unfold tame at h
    simp only [Bool.and_eq_true, decide_eq_true_eq] at h
    exact ⟨by unfold SeqAt.shaped; rw [Bool.and_eq_true]; exact ⟨h.1, decide_eq_true (by omega)⟩, h.1⟩
  exact ⟨d, e, Dv.dp d v hv (h d td).2, Dv.dp e u hu (h e te).2, (h d td).1, (h e te).1, eb ▸ q⟩
theorem nameD_bad {z : Str} {c : Nat} (h : c ∈ tl z) (hc : nameSign c = false) : nameD (.str z) = false := by
  show (_ && _ && _) = false
  have e : z.cps.toList.all nameSign = false := by
    cases q : z.cps.toList.all nameSign with
    | false => rfl
    | true => rw [List.all_eq_true.mp q c h] at hc; cases hc
  rw [e, Bool.and_false]
theorem nameD_good {z : Str} (h : (tl z).all nameSign = true) : nameD (.str z) = (decide (1 ≤ z.length) && decide (z.length ≤ 12)) := by
  show (_ && _ && z.cps.toList.all nameSign) = _
  have e : z.cps.toList.all nameSign = true := h
  rw [e, Bool.and_true]
theorem letter_at {d : Int} (h0 : 0 ≤ d) (h1 : d < 36) : ∃ c, nameSign c = true ∧ atI (("abcdefghijklmnopqrstuvwxyz0123456789" : Str).cps.toList) d = some c := by
  have e : (("abcdefghijklmnopqrstuvwxyz0123456789" : Str).cps.toList) = [97, 98, 99, 100, 101, 102, 103, 104, 105, 106, 107, 108, 109, 110, 111, 112, 113, 114, 115, 116, 117, 118, 119, 120, 121, 122, 48, 49, 50, 51, 52, 53, 54, 55, 56, 57] := by decide +kernel
  obtain ⟨j, rfl⟩ : ∃ j : Nat, d = j := ⟨_, (Int.toNat_of_nonneg h0).symm⟩
  rw [e]
  have hj : j < ([97, 98, 99, 100, 101, 102, 103, 104, 105, 106, 107, 108, 109, 110, 111, 112, 113, 114, 115, 116, 117, 118, 119, 120, 121, 122, 48, 49, 50, 51, 52, 53, 54, 55, 56, 57] : List Nat).length := by
    show j < 36
    omega
  exact ⟨_, (sign_mem _).mp (List.getElem_mem hj), atI_nat (List.getElem?_eq_getElem hj)⟩
end
end MT
/-! promises of defs that are called while no repr is under way; repr of data -/
namespace MT
open PySem L2
/-- as FnOk, where no repr is under way -/
structure FnG (P : Program) (w : World) (K : PySem.W.Frag) (mg : Str → Option Value) (base : Heap) (CX : CXT) (k : Nat) (f : Addr) (fd : FuncData) (ps : List Str) (sp : Sp) : Prop where
  len : ∀ vs H Q E, sp vs H Q E → vs.length = ps.length
  run : ∀ (A : Around) (outer : List Env) (s : Shared) (H : Hp) (args : Args) (us : List Value) (vs : List V) (Q : VK) (E : XK), A.guards = some [] → Room k A → Env0 P w K mg base A outer s H → BindsTo s fd args (ps.zip us) → Vals vs us → sp vs H Q E →
    codeAny (model P w) A (.call (.ref f) args) (CR CX outer P w H s Q E) s
section
variable {P : Program} {w : World} {K : PySem.W.Frag} {mg : Str → Option Value} {base : Heap}
theorem okG {CX : CXT} {x qual : Str} {st : Stmt} {f : Addr} {fd : FuncData} {N ps : List Str} {k : Nat} {sp : Sp} (F : Fun K x qual st f fd) (S : FnScope N ps (defScope st)) (len : ∀ vs H Q E, sp vs H Q E → vs.length = ps.length)
    (hbody : ∀ (cdv : Value) (A : Around) (outer : List Env) (s : Shared) (H : Hp) (vs : List V) (Q : VK) (E : XK), (A.deeper (PyProof.Rows.envOfC qual (defScope st) s.heap.objs.size f cdv)).guards = some [] → Room k (A.deeper (PyProof.Rows.envOfC qual (defScope st) s.heap.objs.size f cdv)) → sp vs H Q E →
      ∃ t, PSs (cxOf CX P w K mg base N qual (defScope st) f cdv A outer s H E) (defBody st) t ∧ t { nx := fun _ H' => Q .non H', rt := Q } (L2.start N vs) H) : FnG P w K mg base CX (k + 1) f fd ps sp := by
  obtain ⟨_, _, _, _, _, _, cdv, _, _, rfl, lk, hcd⟩ := F.ex
  exact ⟨len, fun A outer s H args us vs Q E hg hr e0 hb r h => LamX.run_ofS lk hcd S hr e0 hb r (len _ _ _ _ h) fun hr' => hbody cdv A outer s H vs Q E hg hr' h⟩
end
section
variable {X : Cx} {CX : CXT} {k n : Nat} {f : Addr} {fd : FuncData} {ps ks : List Str} {sp : Sp} {E : XK} {x : Str} {p pos : Pos} {e : Expr} {es : List Expr} {kws : List Keyword} {t tk : TA} {g : List Value → List Value → List Value} {gV : List V → List V → List V} {ds : List Value} {dvs : List V}
theorem back {pins : List (Addr × Obj)} {σ : L2.St} {H : Hp} {s : Shared} {Q : VK} {v : Value} {args : Args} (I : Inv X pins σ H s) (hx : Passes CX X E)
    (c : codeAny (model X.prog X.w) X.A (.call v args) (CR CX X.stack X.prog X.w H s Q E) s) : codeAny (model X.prog X.w) X.A (.call v args) (fun r s' => match r with | .ok (.ret u) => EP X pins σ Q u s' | .ok _ => False | .error e => X.xe e s') s :=
  codeAny_mono c fun r s' q => by
    cases r with
    | error e => exact hx pins σ H s e s' I q
    | ok fl =>
      cases fl with
      | ret u => exact I.after q
      | _ => exact q.elim
theorem pe_callG (F : FnG X.prog X.w X.K X.mg X.base CX k f fd ps sp) (hq : X.A.guards = some []) (hr : Room k X.A) (hg : Gl X x) (hm : X.mg x = some (.ref f)) (hk : PySem.W.keepIn X.K (.ref f) = true) (hb : Binds X.K fd ps ds) (hd : Vals dvs ds) (hx : Passes CX X E)
    (ha : PA X (e :: es) t) (dbg : (x == ("__debug__" : Str)) = false := by decide) (he : starEach (e :: es) X.env = (false, eval e X.env) :: starEach es X.env := by rfl) (plain : (backTo pos (starEach es X.env)).any (·.1) = false := by rfl) :
    PE X (.Call (.Name x p) (e :: es) [] pos) (tCall sp dvs E t) :=
  ⟨fun pns st sl Hs Q I0 told => wpAny_Call_Name_kw (ld_glob I0 hg hm (PySem.W.callWith_K (h₀ := X.base) I0.ok.mod.kin hk (thn (ha.run pos pns st sl Hs _ I0 told) fun us s1 ⟨vs, H1, J, r, q⟩ => ⟨J.kIn, by
      have r2 : Vals (vs ++ dvs) (us ++ ds) := r.append hd
      have hl : (us ++ ds).length = ps.length := by rw [← r2.length]; exact F.len _ _ _ _ q
      refine wpAny_call (codeAny_mono (back J hx (F.run X.A X.stack s1 H1 ⟨us, []⟩ (us ++ ds) (vs ++ dvs) Q E hq hr J.env0 (hb s1 us J.kIn hl) r2 q)) fun r' s' z => ?_)
      cases r' with
      | error e => exact z
      | ok fl => cases fl with
        | ret u => exact z
        | _ => exact z.elim⟩) he plain) dbg)⟩
/-! ### repr of data -/
theorem call_reprD (hq : X.A.guards = some []) (hr : Room k X.A) : CallR X (.builtin "repr") (fun xs H Q => ∃ v d, xs = [v] ∧ Dp X.K H v d ∧ d.showable = true ∧ d.hasDict = false ∧ d.depth ≤ 64 ∧ d.shown.length ≤ sizeLine ∧ Q (.str d.shown) H) := by
  intro pns st sl Hs xs us Q I0 r h
  obtain ⟨v, d, rfl, hd, sh, nd, dp, sz, q⟩ := h
  obtain ⟨u, rfl, rv⟩ := Vals.one r
  obtain ⟨as, rd⟩ := Dp.reads I0 d v u hd rv
  have hu := hr.un
  have fin : ∀ (h' : Heap) (tk : Nat), (∀ b o, st.heap.get? b = some o → h'.get? b = some o) → Inv X pns sl Hs { st with heap := h', toks := tk } := fun h' tk kp => I0.kept kp
  have go : ∀ a, u = .ref a → wpAny (model X.prog X.w) X.A (call (.builtin "repr") [u]) (EP X pns sl Q) X.xe st := fun a e => by
    subst e
    refine repr_of_reads' rd sh (fun z => absurd z (by rw [nd]; exact Bool.false_ne_true)) hq (by omega) (fun _ _ z => z) (fun h' tk1 tk2 kp => ⟨.str d.shown, Hs, fin h' tk2 kp, ⟨_, rfl⟩, q⟩) sz
  cases hd with
  | non => cases rv; exact PySem.P.repr_of_none ⟨.str _, _, I0.tok _, ⟨_, rfl⟩, q⟩
  | bl b => cases rv; exact PySem.P.repr_of_bool ⟨.str _, _, I0.tok _, ⟨_, rfl⟩, q⟩
  | int i => obtain ⟨t, rfl⟩ := rv; exact PySem.P.repr_of_int (by simpa [PyData.showable] using sh) ⟨.str _, _, I0.tok _, ⟨_, rfl⟩, q⟩
  | str z => obtain ⟨t, rfl⟩ := rv; exact PySem.P.repr_of_str ⟨.str _, _, I0.tok _, ⟨_, rfl⟩, q⟩ sz
  | lst _ _ => exact go _ rv
  | tup _ _ => exact go _ rv
end
end MT
/-! errors of the program: made, raised, caught, asked -/
namespace MT
open PySem L2
/-- an error's own __init__: it keeps its one part -/
def spInit (K : PySem.W.Frag) (f : Str) : Sp := fun vs H Q _ => ∃ (a C : Addr) (p : V), vs = [.ref a, p] ∧ OexC K C ∧ PySem.W.findIn K (.ref C) f = some none ∧ H a = some (exo a C none) ∧
  ∀ dx, H dx = none → dx ≠ a → Q .non (upd (upd H dx (exd dx [(f, p)])) a (exo a C (some dx)))
/-- what the text says of an error's class -/
structure ErrC (K : PySem.W.Frag) (mg : Str → Option Value) (x : Str) (C fI : Addr) (f : Str) : Prop where
  gC : mg x = some (.ref C)
  oex : OexC K C
  noF : PySem.W.findIn K (.ref C) f = some none
  iC : PySem.W.findIn K (.ref C) "__init__" = some (some (.ref fI))
  tI : PySem.W.typeIn K (.ref fI) = some (.type "function")
  xf : XfC K C
  cl : PySem.W.findIn K (.ref C) "__class__" = some (some (.builtin "object.__class__"))
  ob : PySem.W.mroIn K C (.type "object") = some true
/-- C(e): its class, its dict, which is new -/
def tMkE (C : Addr) (f : Str) (ta : TA) : L2.St → Hp → XK → Prop := fun σ H Q => ta σ H fun vs H1 => ∃ p, vs = [p] ∧ ∀ d H2, New H1 H2 d (.xd [(f, p)]) → Q (.ref C) (some d) H2
theorem mk_new {H : Hp} {a dx C : Addr} {f : Str} {p : V} (n : H a = none) (nx : H dx = none) (ne : dx ≠ a) :
    New H (upd (del (upd (upd (upd H a (exo a C none)) dx (exd dx [(f, p)])) a (exo a C (some dx))) a) dx (.xd [(f, p)])) dx (.xd [(f, p)]) := by
  refine ⟨fun c o e => ?_, upd_same, nx⟩
  have h1 : c ≠ a := ne_of_none e n
  have h2 : c ≠ dx := ne_of_none e nx
  rw [upd_ne h2, del_ne h1, upd_ne h1, upd_ne h2, upd_ne h1]
  exact e
section
variable {X : Cx} {x f : Str} {C fI : Addr} {k : Nat} {fd : FuncData} {e : Expr} {es : List Expr} {ta : TA} {p pos : Pos}
theorem pmk_err {CX : CXT} (T : ErrC X.K X.mg x C fI f) (F : FnOk X.prog X.w X.K X.mg X.base CX k fI fd ["self", f] (spInit X.K f)) (hr : Room (k + 1) X.A) (hb : Binds X.K fd ["self", f] []) (hx : Passes CX X (fun _ _ _ => False)) (hg : Gl X x) (ha : PA X (e :: es) ta)
    (hdb : (x == ("__debug__" : Str)) = false := by decide) (he : starEach (e :: es) X.env = (false, eval e X.env) :: starEach es X.env := by rfl) (hpl : (backTo pos (starEach es X.env)).any (·.1) = false := by rfl) :
    PMk X (.Call (.Name x p) (e :: es) [] pos) (tMkE C f ta) := by
  intro pins s σ H Q I h
  refine pmk_oex T.oex T.iC T.tI F hr hb .nil hx hg T.gC (PA.cl ha) hdb he hpl pins s σ H Q I ⟨_, fun vs H1 z => ?_, h⟩
  obtain ⟨y, rfl, q⟩ := z
  refine ⟨by show 1 ≤ 1000; decide, fun a na => ⟨a, C, y, rfl, T.oex, T.noF, upd_same, fun dx nx ne => ?_⟩⟩
  rw [upd_ne ne] at nx
  exact ⟨rfl, dx, [(f, y)], upd_same, by rw [upd_ne ne, upd_same], nx, q dx _ (mk_new na nx ne)⟩
end
end MT
namespace MT
open PySem
def clsBody (x : Stmt) : List Stmt := match x with
  | .ClassDef (body := inner) .. => inner
  | _ => []
end MT
/-! a star among the targets; any of integers; tuples times and joined -/
namespace MT
open PySem L2 PyProof.Rows
section
variable {P : Program} {w : World} {A : Around} {E : Value → Shared → Prop} {st : Shared} {l : Addr} {its : Array Value} {n i : Nat} {Q : List Value → Shared → Prop}
/-- what is left over stands in a new list -/
def Rests (st : Shared) (its : Array Value) (n i : Nat) (Q : List Value → Shared → Prop) : Prop :=
  ∀ D h' tk, (∀ b o, st.heap.get? b = some o → h'.get? b = some o) → st.heap.get? D = none →
    h'.get? D = some { cls := .type "list", data := .seq ((its.toList.drop i).take (its.size + 1 - n)).toArray } →
    Q (its.toList.take i ++ [.ref D] ++ (its.toList.drop i).drop (its.size + 1 - n)) { st with heap := h', toks := tk }
theorem rests_end {h1 : Heap} {tk : Nat} (old : ∀ b o, st.heap.get? b = some o → h1.get? b = some o) (hi : i < n) (hn : n ≤ its.size + 1) (hz : its.size ≤ 16384) (k : Rests st its n i Q) :
    wpAny (model P w) A (newList ((its.toList.drop i).take (its.size + 1 - n)) >>= fun d => pure (its.toList.take i ++ [d] ++ (its.toList.drop i).drop (its.size + 1 - n))) Q E { st with heap := h1, toks := tk } := by
  have e1 : (its.toList.drop i).length = its.size - i := by simp
  refine wpAny_bind (wpAny_newList (s := { st with heap := h1, toks := tk }) ?_ (by rw [List.length_take, sizeLine_eq]; omega))
  refine wpAny_pure (k h1.objs.size _ tk (fun b o e => Heap.get?_push_of_some _ (old b o e)) ?_ (Heap.get?_push_size _ rfl))
  cases e : st.heap.get? h1.objs.size with
  | none => rfl
  | some o => exact absurd (Heap.lt_size (old _ _ e)) (Nat.lt_irrefl _)
theorem rests_mid (hi : i < n) (hn : n ≤ its.size + 1) : ¬ (its.toList.drop i).length < n - 1 - i ∧ (its.toList.drop i).length - (n - 1 - i) = its.size + 1 - n := by
  have e1 : (its.toList.drop i).length = its.size - i := by simp
  omega
theorem rests_list (hl : st.heap.IsList l its) (hh : A.handled = none) (hi : i < n) (hn : n ≤ its.size + 1) (hz : its.size ≤ 16384) (k : Rests st its n i Q) :
    wpAny (model P w) A (unpackItems (.ref l) n (some i)) Q E st := by
  have lt : l < st.heap.objs.size := by
    obtain ⟨o, e, _⟩ := hl
    exact Heap.lt_size e
  have ne : l ≠ st.heap.objs.size := Nat.ne_of_lt lt
  unfold unpackItems notIterableAtAll
  refine wpAny_bind (wpAny_bind (wpAny_specialOf hl.typeIs slot_list_iter.lookup (wpAny_pure ?_)))
  rw [if_neg (by decide)]
  refine wpAny_bind (wpAny_holding (wpAny_pyIter_list hl (wpAny_bind ?_)))
  refine (wpAny_holding (PySem.W.kun_draw ne i 0 _ _ ⟨_, Heap.get?_push_size _ rfl, rfl, rfl⟩ (hl.push _) (by omega) fun ha ia sa => ?_))
  have la : ha.IsList l its := (hl.push _).extBut sa.extBut ne
  rw [Nat.zero_add] at ia
  have lta : st.heap.objs.size < ha.objs.size := by
    obtain ⟨o, e, _⟩ := ia
    exact Heap.lt_size e
  have ltl : l < ha.objs.size := by
    obtain ⟨o, e, _⟩ := la
    exact Heap.lt_size e
  rw [List.drop_zero]
  rw [if_neg (by rw [List.length_take, Array.length_toList]; omega)]
  refine wpAny_bind (wpAny_holding (PySem.W.kun_collect (s := { st with heap := ha }) (.inr (.inr (.inl rfl))) (Walks.list (A := A.in1) hh _ l ne its) (fun j u z => z.1.typeIs) (by omega) ⟨ia, la⟩ lta ltl (fun hb tk kb => ?_) (by rw [sizeLine_eq]; omega)))
  simp only [if_neg (rests_mid hi hn).1, (rests_mid hi hn).2]
  exact rests_end (st := st) (h1 := hb) (tk := tk) (fun b o e => kb b o (Nat.ne_of_lt (Heap.lt_size e)) (sa.extBut b o (Nat.ne_of_lt (Heap.lt_size e)) (Heap.get?_push_of_some _ e))) hi hn hz k
theorem rests_tuple (hl : IsTup st.heap l its) (hh : A.handled = none) (hi : i < n) (hn : n ≤ its.size + 1) (hz : its.size ≤ 16384) (k : Rests st its n i Q) :
    wpAny (model P w) A (unpackItems (.ref l) n (some i)) Q E st := by
  have lt : l < st.heap.objs.size := by
    obtain ⟨o, e, _⟩ := hl
    exact Heap.lt_size e
  have ne : l ≠ st.heap.objs.size := Nat.ne_of_lt lt
  unfold unpackItems notIterableAtAll
  refine wpAny_bind (wpAny_bind (wpAny_specialOf hl.typeIs slot_tuple_iter.lookup (wpAny_pure ?_)))
  rw [if_neg (by decide)]
  refine wpAny_bind (wpAny_holding (iter_tuple hl (wpAny_bind ?_)))
  refine (wpAny_holding (draw_tuple ne i 0 _ _ ⟨_, Heap.get?_push_size _ rfl, rfl, rfl⟩ (hl.push _) (by omega) fun ha ia sa => ?_))
  have la : IsTup ha l its := (hl.push _).extBut sa.extBut ne
  rw [Nat.zero_add] at ia
  have lta : st.heap.objs.size < ha.objs.size := by
    obtain ⟨o, e, _⟩ := ia
    exact Heap.lt_size e
  have ltl : l < ha.objs.size := by
    obtain ⟨o, e, _⟩ := la
    exact Heap.lt_size e
  rw [List.drop_zero]
  rw [if_neg (by rw [List.length_take, Array.length_toList]; omega)]
  refine wpAny_bind (wpAny_holding (PySem.W.kun_collect (s := { st with heap := ha }) (.inr (.inr (.inr rfl))) (Walks.tuple (A := A.in1) hh _ l ne its) (fun j u z => z.1.typeIs) (by omega) ⟨ia, la⟩ lta ltl (fun hb tk kb => ?_) (by rw [sizeLine_eq]; omega)))
  simp only [if_neg (rests_mid hi hn).1, (rests_mid hi hn).2]
  exact rests_end (st := st) (h1 := hb) (tk := tk) (fun b o e => kb b o (Nat.ne_of_lt (Heap.lt_size e)) (sa.extBut b o (Nat.ne_of_lt (Heap.lt_size e)) (Heap.get?_push_of_some _ e))) hi hn hz k
end
theorem vals_take : ∀ (k : Nat) {xs : List V} {us : List Value}, Vals xs us → Vals (xs.take k) (us.take k)
  | 0, _, _, _ => .nil
  | _ + 1, _, _, .nil => .nil
  | k + 1, _, _, .cons a r => .cons a (vals_take k r)
theorem vals_drop : ∀ (k : Nat) {xs : List V} {us : List Value}, Vals xs us → Vals (xs.drop k) (us.drop k)
  | 0, _, _, r => r
  | _ + 1, _, _, .nil => .nil
  | k + 1, _, _, .cons _ r => vals_drop k r
section
variable {X : Cx} {e : Expr} {es : List Expr} {t : TG} {u : TGs} {p pos : Pos}
/-- (.., *e, ..): e's turn -/
theorem pgs_star (h1 : PG X e t) (h2 : PGs X es u) : PGs X (.Starred e p :: es) (gCons t u) := by
  refine ⟨fun pins st sl H vs us Q I r h => ?_⟩
  obtain ⟨v, vr, rfl, h⟩ := h
  cases r with
  | cons r rr =>
    show wpAny _ _ (assignInOrder (assign e X.env :: (assignEach es X.env).map (·.2)) _) _ _ _
    exact assignInOrder_cons (thn (h1.run pins st sl H _ _ _ I r h) fun _ s1 ⟨s2, H1, I1, q1⟩ => h2.run pins s1 s2 H1 _ _ Q I1 rr q1)
/-- (a, .., *b, ..) = a list or a tuple: n targets, the star at i -/
def gStar (K : PySem.W.Frag) (n i : Nat) (t : TGs) : TG := fun v σ H Q => ∃ a xs, v = .ref a ∧ (SqL K H a xs ∨ SqT K H a xs) ∧ n ≤ xs.length + 1 ∧ xs.length ≤ 16384 ∧
  ∀ D H', New H H' D (.lst ((xs.drop i).take (xs.length + 1 - n))) → t (xs.take i ++ [.ref D] ++ (xs.drop i).drop (xs.length + 1 - n)) σ H' Q
theorem pg_star {k : Nat} {n i : Nat} (hc : X.calm = true) (h : PGs X es u) (hi : i < n) (hn : (assignEach es X.env).length = n := by rfl) (hst : (assignEach es X.env).findIdx? (·.1) = some i := by rfl) :
    PG X (.Tuple es k pos) (gStar X.K n i u) := by
  refine ⟨fun pins st sl H v uv Q I r hw => ?_⟩
  obtain ⟨a, xs, rfl, sq, h1, h2, q⟩ := hw
  cases r
  have go : ∀ (its : List Value), Vals xs its → Rests st its.toArray n i (fun us s1 => wpAny (model X.prog X.w) X.A (assignInOrder ((assignEach es X.env).map (·.2)) us) (fun _ s' => ∃ σ' H', Inv X pins σ' H' s' ∧ Q σ' H') X.xe s1) := by
    intro its rv D h' tk old dn dnew
    have el : its.toArray.size = xs.length := by rw [List.size_toArray, rv.length]
    have hD : H D = none := I.hok.gone dn
    rw [el] at dnew ⊢
    have new : ObjOk X.prog X.w (upd H D (.lst ((xs.drop i).take (xs.length + 1 - n)))) h' D (.lst ((xs.drop i).take (xs.length + 1 - n))) :=
      ⟨by rw [List.length_take, sizeLine_eq]; omega, _, 0, vals_take _ (vals_drop i rv), dnew⟩
    have J : Inv X pins sl (upd H D (.lst ((xs.drop i).take (xs.length + 1 - n)))) { st with heap := h', toks := tk } := I.laidN old dn hD new
    exact h.run pins _ sl _ _ _ Q J (by
      have r1 : Vals [V.ref D] [Value.ref D] := .cons rfl .nil
      have r2 := ((vals_take i rv).append r1).append (vals_drop (xs.length + 1 - n) (vals_drop i rv))
      simpa using r2) (q D _ (New.mk' hD))
  rw [assign_Tuple]
  refine wpAny_bind (wpAny_standAt ?_)
  unfold unpack
  rw [hn, hst]
  rcases sq with sq | sq
  · obtain ⟨its, rv, pl, _⟩ := I.list sq
    exact wpAny_bind (wpAny_holding (rests_list pl.isList (I.ok.hd hc) hi (by rw [List.size_toArray, ← rv.length]; exact h1) (by rw [List.size_toArray, ← rv.length]; exact h2) (go its rv)))
  · obtain ⟨its, rv, pl, _⟩ := I.tuple sq
    exact wpAny_bind (wpAny_holding (rests_tuple pl (I.ok.hd hc) hi (by rw [List.size_toArray, ← rv.length]; exact h1) (by rw [List.size_toArray, ← rv.length]; exact h2) (go its rv)))
theorem anyI_range (ns : List Int) : (List.range ns.length).any (fun i => ns.getD i 0 != 0) = ns.any (· != 0) := by
  induction ns with
  | nil => rfl
  | cons n r ih =>
    rw [List.length_cons, List.range_succ_eq_map, List.any_cons, List.any_map, List.any_cons, ← ih]
    rfl
/-- any(integers) -/
theorem cr_anyI (hc : X.calm = true) : CallR X (.builtin "any") (fun vs H Q => ∃ (a : Addr) (ns : List Int), vs = [.ref a] ∧ SqL X.K H a (ns.map V.int) ∧ Q (.bl (ns.any (· != 0))) H) := by
  intro pins st sl H vs us Q I r h
  obtain ⟨a, ns, rfl, hs, q⟩ := h
  obtain ⟨its, rv, hl, _⟩ := I.list hs
  rw [Vals.ref1 r]
  have el : its.length = ns.length := by rw [← rv.length, List.length_map]
  have tr : TruthOf X.prog X.w X.A.in1 (fun i v => its.toArray[i]? = some v) (fun i => ns.getD i 0 != 0) := fun i v s1 Q1 E1 hv hq => by
    have hv : its[i]? = some v := by simpa using hv
    obtain ⟨x, hx, rx⟩ : ∃ x, (ns.map V.int)[i]? = some x ∧ RelV x v := by
      cases e : (ns.map V.int)[i]? with
      | none => rw [Vals.none_of rv e] at hv; cases hv
      | some x =>
        obtain ⟨u, eu, ru⟩ := Vals.get rv e
        rw [hv] at eu
        cases eu
        exact ⟨x, rfl, ru⟩
    rw [List.getElem?_map] at hx
    obtain ⟨z, hz, rfl⟩ := Option.map_eq_some_iff.mp hx
    obtain ⟨tk, rfl⟩ := rx
    have e : ns.getD i 0 = z := by rw [List.getD_eq_getElem?_getD, hz]; rfl
    have hq : Q1 (ns.getD i 0 != 0) s1 := hq
    rw [e] at hq
    exact PySem.P.truthy_int hq
  refine call_any_walk (iter_any hl.isList fun s₂ e2 sx hne => ?_)
  subst e2
  refine ⟨_, _, _, _, _, _, _, rfl, Walks.list (A := X.A.in1) (I.ok.hd hc) _ a hne its.toArray, sx, tr, fun h' tk hk => ?_⟩
  refine ⟨.bl _, H, I.kept fun b o eo => hk b o (fun m => ?_) (Heap.get?_push_of_some _ eo), ?_, q⟩
  · exact Nat.ne_of_lt (Heap.lt_size eo) (by simpa using m)
  · show Value.bool _ = Value.bool _
    rw [List.size_toArray, el, anyI_range]
end
end MT
namespace MT
open PySem L2
section
variable {X : Cx}
/-- [..] * k, a new list -/
theorem op_repN : OpR X (binaryOp .Mult) (fun x y H Q => ∃ l k xs, x = .ref l ∧ y = .int k ∧ H l = some (.lst xs) ∧ -(2 ^ 63) ≤ k ∧ k < 2 ^ 63 ∧ xs.length * k.toNat ≤ sizeLine ∧ ∀ p H2, New H H2 p (.lst (List.replicate k.toNat xs).flatten) → Q (.ref p) H2) := by
  intro pins st sl H x y v u Q I rx ry h
  obtain ⟨l, k, xs, e1, e2, h1, h2, h3, h4, q⟩ := h
  exact op_rep pins st sl H x y v u Q I rx ry ⟨l, k, xs, e1, e2, h1, h2, h3, h4, fun p hp => q p _ (New.mk' hp)⟩
/-- list + list, a new list -/
theorem op_catN : OpR X (binaryOp .Add) (fun x y H Q => ∃ l b xs zs, x = .ref l ∧ y = .ref b ∧ H l = some (.lst xs) ∧ H b = some (.lst zs) ∧ xs.length + zs.length ≤ sizeLine ∧ ∀ p H2, New H H2 p (.lst (xs ++ zs)) → Q (.ref p) H2) := by
  intro pins st sl H x y v u Q I rx ry h
  obtain ⟨l, b, xs, zs, e1, e2, h1, h2, h3, q⟩ := h
  exact op_cat pins st sl H x y v u Q I rx ry ⟨l, b, xs, zs, e1, e2, h1, h2, h3, fun p hp => q p _ (New.mk' hp)⟩
/-- (..) * k, a new tuple -/
theorem op_repTN : OpR X (binaryOp .Mult) (fun x y H Q => ∃ l k xs, x = .ref l ∧ y = .int k ∧ SqT X.K H l xs ∧ xs ≠ [] ∧ 2 ≤ k ∧ k ≤ 1000 ∧ xs.length ≤ 1000 ∧ ∀ p H2, New H H2 p (.tup (List.replicate k.toNat xs).flatten) → Q (.ref p) H2) := by
  intro pins st sl H x y v u Q I rx ry h
  obtain ⟨l, k, xs, e1, e2, h1, h2, h3, h4, h5, q⟩ := h
  exact op_repT pins st sl H x y v u Q I rx ry ⟨l, k, xs, e1, e2, h1, h2, h3, h4, h5, fun p hp => q p _ (New.mk' hp)⟩
/-- tuple + tuple, neither empty: a new one -/
theorem op_catTN : OpR X (binaryOp .Add) (fun x y H Q => ∃ a b xs ys, x = .ref a ∧ y = .ref b ∧ SqT X.K H a xs ∧ SqT X.K H b ys ∧ xs.length + ys.length ≤ sizeLine ∧ xs ≠ [] ∧ ys ≠ [] ∧ ∀ p H2, New H H2 p (.tup (xs ++ ys)) → Q (.ref p) H2) := by
  intro pins st sl H x y v u Q I rx ry h
  obtain ⟨a, b, xs, ys, e1, e2, h1, h2, h3, n1, n2, q⟩ := h
  exact op_catA pins st sl H x y v u Q I rx ry ⟨a, b, xs, ys, e1, e2, h1, h2, h3, fun z => absurd z n1, fun _ z => absurd z n2, fun _ _ p hp => q p _ (New.mk' hp)⟩
end
end MT
namespace MT
open PySem L2
def repStr (x : Str) (n : Int) : Str := ⟨(List.replicate n.toNat x.cps).foldl (· ++ ·) #[]⟩
/-- text * number -/
theorem op_repS {X : Cx} : OpR X (binaryOp .Mult) (fun x y H Q => ∃ (z : Str) (n : Int), x = .str z ∧ y = .int n ∧ 2 ≤ n ∧ n ≤ 1000 ∧ 1 ≤ z.length ∧ z.length ≤ 1000 ∧ (repStr z n).length ≤ sizeLine ∧ Q (.str (repStr z n)) H) := by
  intro pins st sl H x y v u Q I rx ry h
  obtain ⟨z, n, rfl, rfl, n2, n3, l1, l2, ls, q⟩ := h
  obtain ⟨t, rfl⟩ := rx
  obtain ⟨t2, rfl⟩ := ry
  have c1 : ¬ n < 1 := by omega
  have c2 : (n == 1 || z.length == 0) = false := by
    rw [Bool.or_eq_false_iff]
    exact ⟨beq_eq_false_iff_ne.mpr (by omega), beq_eq_false_iff_ne.mpr (by omega)⟩
  refine PySem.P.mul_str (by rw [decide_eq_false (by omega), decide_eq_false (by omega)]; rfl) (fun _ _ w => ?_) (fun _ _ => ?_) ?_
  · have h0 := (mul_bd (x := (z.length : Int)) (y := n) (A := 1000) (B := 1000) (by omega) (by omega) (by omega) (by omega)).2
    have h1 : (z.length : Int) ≤ (2 ^ 63 - 1) / n := Int.le_ediv_of_mul_le (by omega) (by omega)
    omega
  · unfold Builtin.Str.tooLong
    rw [decide_eq_false]
    have : z.length * n.toNat ≤ 1000 * 1000 := Nat.mul_le_mul l2 (by omega)
    rw [sizeLine_eq]
    omega
  · rw [if_neg c1, if_neg (by rw [c2]; exact Bool.false_ne_true)]
    exact ⟨ls, .str _, H, I.tok _, ⟨_, rfl⟩, q⟩
end MT
/-! lambda name=number: .., handed to a def -/
namespace MT
open PySem PySem.Spec PyProof.Rows L2 LamX
abbrev dfObj (q : Str) (params : Arguments) (body : Expr) (scope : Scope) (clo : List (Str × Addr)) (T0 : Addr) (doc pm : Value) (c' : Addr) (ctv : Value) : Obj :=
  PySem.W.kdv_obj "<lambda>" q params (.expr body) scope clo (.ref T0) doc pm c' ctv
section
variable {X : Cx} {pins : List (Addr × Obj)} {σ : L2.St} {H : Hp} {s : Shared}
/-- the lambda is made, its default in a tuple of its own -/
theorem df_make {TS : List (Addr × Str)} {c P : Addr} {params : Arguments} {body de : Expr} {scope : Scope} {pos : Pos} {n : Int} {E : Value → Shared → Prop} {Q : Value → Shared → Prop} (I : Inv X pins σ H s) (TB : LamX.TabB X.base X.mg c P) (cod : X.env.code = .ref c)
    (mem : (P, X.env.qual ++ "<lambda>") ∈ TS) (uni : ∀ p ∈ TS, p.1 = P → p.2 = X.env.qual ++ "<lambda>") (tabs : Tabs TS H) (hde : params.defaults = [de]) (kwd : params.kw_defaults = [])
    (hev : ∀ Q1 : Value → Shared → Prop, (∀ tk t, Q1 (.int n t) { s with toks := tk }) → wpAny (model X.prog X.w) X.A (eval de X.env) Q1 E s)
    (fre : ∀ y ∈ scope.names, y.2 = .free → ∃ c, X.env.cells.lookup y.1 = some c)
    (k : ∀ (f c' T0 : Addr) (doc pm ctv : Value) (H1 : Hp) (s' : Shared), Inv X pins σ H1 s' → ExtN H H1 → Tabs TS H1 →
      s'.heap.get? f = some (dfObj (X.env.qual ++ "<lambda>") params body scope (cloFrom X.env.cells scope.names []) T0 doc pm c' ctv) → H1 f = none → f ∉ frs X.stack → H1 c' = some (CodeO c' (X.env.qual ++ "<lambda>")) → H1 T0 = some (.tup [.int n]) → Q (.ref f) s') :
    wpAny (model X.prog X.w) X.A (eval (.Lambda params body scope pos) X.env) Q E s := by
  refine PySem.W.kdv_lam (by rw [hde]; rfl) kwd ?_
  rw [hde]
  refine PySem.W.kdv_all1 (hev _ fun tk t => PySem.W.kdv_all0 ?_)
  rw [makeFunction_eq]
  simp only [List.zip_nil_right, List.filterMap_nil, List.isEmpty_nil, List.isEmpty_cons, if_true, pure_bind, Bool.false_eq_true, if_false]
  refine wpAny_bind (wpAny_newTextTuple ?_)
  obtain ⟨hp, g, dr, tk0, os⟩ := s
  have nT : H hp.objs.size = none := I.hok.fresh (Nat.le_refl _)
  have I0 : Inv X pins σ (upd H hp.objs.size (.tup [.int n])) ⟨hp.push (PySem.W.kdv_tup [.int n t]), g, dr, tk, os⟩ :=
    I.laid (t' := tk) (a := hp.objs.size) (o := .tup [.int n]) (h' := hp.push (PySem.W.kdv_tup [.int n t])) (fun b o e => Heap.get?_push_of_some _ e) (Nat.le_refl _)
      ⟨(by show 1 ≤ sizeLine; rw [sizeLine_eq]; decide), [.int n t], .cons ⟨t, rfl⟩ .nil, ⟨_, Heap.get?_push_size _ rfl, rfl, _, rfl⟩⟩
  have x0 : ExtN H (upd H hp.objs.size (.tup [.int n])) := ExtN.of (same_new nT)
  have tb0 : Tabs TS (upd H hp.objs.size (.tup [.int n])) := tabs.ext (same_new nT)
  have t0 : (upd H hp.objs.size (.tup [.int n])) hp.objs.size = some (.tup [.int n]) := upd_same
  revert I0 x0 tb0 t0
  generalize upd H hp.objs.size (.tup [.int n]) = H0
  intro I0 x0 tb0 t0
  obtain ⟨ps, tP, ok, am⟩ := tb0 _ mem
  have bP := TB.bm.keeps I0.bk
  have gP := I0.hok P _ tP
  have away : ∀ f, (hp.push (PySem.W.kdv_tup [.int n t])).objs.size ≤ f → f ∉ frs X.stack := fun f hf z => by
    rcases List.mem_cons.mp (I0.stkSub _ z) with w | w
    · have lt := I0.lt
      rw [← w] at lt
      exact absurd (Nat.lt_of_lt_of_le lt hf) (Nat.lt_irrefl _)
    · exact I0.nofs hf w
  cases am1 : codeAmong pos ps.toList with
  | none =>
    refine PySem.W.kdv_makeTail (mg := X.mg) (closure_ok fre) I0.ok.glob (I0.mod.glob.keeps I0.bk) cod (TB.code.keeps I0.bk) gP ok am1 TB.gP bP fun c' ctv doc ha ta xa ga la ra da => ?_
    obtain ⟨c2, oc, vs, tq, ee, goc, dd, vv⟩ := ra
    cases ee
    have big := Nat.le_trans ga (Nat.le_of_lt la)
    have nC : H0 c' = none := I0.hok.fresh ga
    have I1 := inv_table (t' := ta) (more := #[rawInt pos.line, rawInt pos.col, .ref c']) (h' := ha.push (dfObj (X.env.qual ++ "<lambda>") params body scope (cloFrom X.env.cells scope.names []) hp.objs.size doc ((X.mg "__name__").getD .none) c' ctv)) I0 tP
      (fun b o ne e => Heap.get?_push_of_some _ (xa b o ne e)) (Heap.get?_push_of_some _ da) ga ⟨oc, vs, tq, Heap.get?_push_of_some _ goc, dd, vv⟩
    have xx : ExtN H0 (upd (upd H0 P (.tbl (ps ++ #[rawInt pos.line, rawInt pos.col, .ref c']))) c' (CodeO c' (X.env.qual ++ "<lambda>"))) := fun b o e nt => by
      rw [upd_ne (ne_of_none e nC), upd_ne (fun z => nt ps (Option.some.inj (e.symm.trans (by rw [z]; exact tP))))]
      exact e
    have lst : (ps ++ #[rawInt pos.line, rawInt pos.col, .ref c']).toList = ps.toList ++ [rawInt pos.line, rawInt pos.col, .ref c'] := by simp
    refine k ha.objs.size c' hp.objs.size doc _ ctv _ _ I1 (x0.trans xx) (fun p hp' => ?_) (Heap.get?_push_size _ rfl) ?_ (away _ big) upd_same (xx _ _ t0 fun ps' z => by cases z)
    · by_cases pb : p.1 = P
      · rw [uni p hp' pb, pb]
        refine ⟨_, by rw [upd_ne (ne_of_none tP nC), upd_same], by rw [lst]; exact PySem.TriplesOk_snoc _ _ _ _ ok, fun pz cv hcv => ?_⟩
        rw [lst] at hcv
        rcases among_app _ ok hcv with z | z
        · obtain ⟨cz, w1, w2⟩ := am pz cv z
          exact ⟨cz, w1, xx _ _ w2 codeO_ne⟩
        · exact ⟨c', z, upd_same⟩
      · obtain ⟨pq, w1, w2, w3⟩ := tb0 p hp'
        refine ⟨pq, by rw [upd_ne (ne_of_none w1 nC), upd_ne pb]; exact w1, w2, fun pz cv hcv => ?_⟩
        obtain ⟨cz, v1, v2⟩ := w3 pz cv hcv
        exact ⟨cz, v1, xx _ _ v2 codeO_ne⟩
    · have d1 : ha.objs.size ≠ c' := Nat.ne_of_gt la
      have d2 : ha.objs.size ≠ P := Nat.ne_of_gt (Nat.lt_of_lt_of_le (Heap.lt_size gP) big)
      rw [upd_ne d1, upd_ne d2]
      exact I0.hok.fresh big
  | some cv =>
    obtain ⟨c', ee, coo⟩ := am pos cv am1
    subst ee
    refine PySem.W.kdv_makeTailHit (mg := X.mg) (closure_ok fre) I0.ok.glob (I0.mod.glob.keeps I0.bk) cod (TB.code.keeps I0.bk) gP ok am1 bP fun ctv doc ha ta xa big => ?_
    have I1 : Inv X pins σ H0 ⟨ha.push (dfObj (X.env.qual ++ "<lambda>") params body scope (cloFrom X.env.cells scope.names []) hp.objs.size doc ((X.mg "__name__").getD .none) c' ctv), g, dr, ta, os⟩ := I0.kept fun b o e => Heap.get?_push_of_some _ (xa b o e)
    exact k ha.objs.size c' hp.objs.size doc _ ctv H0 _ I1 x0 tb0 (Heap.get?_push_size _ rfl) (I0.hok.fresh big) (away _ big) coo t0
end

/-- the lambda's one parameter x is its only own name -/
structure DfS (sc scope : Scope) (x : Str) : Prop where
  kind : scope.kind = .function
  co : scope.isCoroutine = false
  gen : scope.isGenerator = false
  own : ∀ y ∈ scope.names, y.2 ≠ .cell ∧ (y.2 = .local → y.1 = x)
  par : scope.names.lookup x = some .local
  free : ∀ y ∈ scope.names, y.2 = .free → sc.names.lookup y.1 = some .cell ∨ sc.names.lookup y.1 = some .free
def dfSB (sc scope : Scope) (x : Str) : Bool :=
  decide (scope.kind = .function) && !scope.isCoroutine && !scope.isGenerator && decide (scope.names.lookup x = some .local) &&
    scope.names.all fun y => !decide (y.2 = .cell) && (!decide (y.2 = .local) || decide (y.1 = x)) && (!decide (y.2 = .free) || decide (sc.names.lookup y.1 = some .cell) || decide (sc.names.lookup y.1 = some .free))
theorem dfS_by {sc scope : Scope} {x : Str} (h : dfSB sc scope x = true) : DfS sc scope x := by
  unfold dfSB at h
  simp only [Bool.and_eq_true, Bool.or_eq_true, Bool.not_eq_true', decide_eq_true_eq, decide_eq_false_iff_not, List.all_eq_true] at h
  obtain ⟨⟨⟨⟨w1, w2⟩, w3⟩, w5⟩, w4⟩ := h
  refine ⟨w1, w2, w3, fun y hy => ⟨(w4 y hy).1.1, fun e => ?_⟩, w5, fun y hy e => ?_⟩
  · rcases (w4 y hy).1.2 with z | z
    · exact absurd e z
    · exact z
  · rcases (w4 y hy).2 with (z | z) | z
    · exact absurd e z
    · exact .inl z
    · exact .inr z
section
variable {s s1 : Shared} {X : Cx} {pins : List (Addr × Obj)} {σ : L2.St} {H HZ : Hp}
theorem DfS.cells {scope : Scope} {x : Str} (L : DfS X.env.scope scope x) (ok : X.Ok) : ∀ y ∈ scope.names, y.2 = .free → ∃ c, X.env.cells.lookup y.1 = some c := fun y hy e => (L.free y hy e).elim (fun w => ok.has _ (.inl w)) fun w => ok.has _ (.inr w)
theorem df_start {A : Around} {outer : List Env} {E : XK} {scope : Scope} {x : Str} {u : Value} {f c' : Addr} {hn : Heap} {tk : Nat} (I : Inv X pins σ H s) (L : DfS X.env.scope scope x) (nx : x ∉ X.N) (en : Env0 X.prog X.w X.K X.mg X.base A outer s1 HZ)
    (calm : A.handled = none) (un : Un (frs X.stack) [] H HZ s.heap s1.heap) (ns : hn.Ns s1.heap.objs.size fun y => [(x, u)].reverse.lookup y) (old : ∀ b o, s1.heap.get? b = some o → hn.get? b = some o) :
    Inv (lamCx X A outer s1 HZ E scope f c') [] σ HZ { s1 with heap := hn, toks := tk } := by
  have fre := L.cells I.ok
  have up : ∀ {y c}, (cloFrom X.env.cells scope.names []).lookup y = some c → X.env.cells.lookup y = some c := fun {y c} e => by
    rcases cloFrom_mem (PySem.mem_of_lookup e) with w | ⟨w1, w2⟩
    · cases w
    · obtain ⟨ca, wc⟩ := fre _ w1 rfl
      have wc : X.env.cells.lookup y = some ca := wc
      have ec : c = ca := by
        rw [w2, wc] <;> rfl
      rw [ec]
      exact wc
  have has : ∀ {y}, scope.names.lookup y = some .free → ∃ c, (cloFrom X.env.cells scope.names []).lookup y = some c := fun {y} hl =>
    mem_lookup (cloFrom_has (cells := X.env.cells) (acc := []) (show (y, NameKind.free) ∈ scope.names from PySem.mem_of_lookup hl))
  have keepC : ∀ {c : Addr} {v : Option Value}, H c = none → s.heap.IsCell c v → hn.IsCell c v := fun {c v} no ⟨o, go, gd⟩ => by
    obtain ⟨sl, w⟩ := un.any go no (by simp)
    exact ⟨_, old _ _ w, gd⟩
  have none' : ∀ b : Addr, b ∉ (lamCx X A outer s1 HZ E scope f c').ex := fun b w => absurd (show b ∈ ([] : List Addr) from w) (by simp)
  refine ⟨⟨en.mod, L.kind, rfl, rfl, Nat.le_refl _, fun y z c w1 w2 => I.ok.inj y z c (up w1) (up w2), fun y hy => ?_, fun y c w _ => absurd (show false = true from w) Bool.false_ne_true, fun _ => calm, Around.frames_deeper en.frames, .inr ⟨rfl, rfl⟩, fun b w => absurd w (none' b), en.bs, en.bsz, fun b _ _ => none' b,
      fun b w => absurd w (none' b), en.funs, en.frf⟩,
    rfl, en.bare, Un.kept old, ⟨_, ns, fun i y v w1 w2 w3 => ?_⟩, fun y c w => ?_, en.hok.fresh (Nat.le_refl _), fun y c w => ?_, fun q hq => absurd (show q ∈ ([] : List (Addr × Obj)) ++ [] from hq) (by simp), en.hok.kept old, I.len⟩
  · rcases (show scope.names.lookup y = some .cell ∨ scope.names.lookup y = some .free from hy) with w | w
    · exact absurd rfl (L.own _ (PySem.mem_of_lookup w)).1
    · exact has w
  · rcases (show Vis scope y from w3) with w | w | w
    · have ey : y = x := (L.own _ (PySem.mem_of_lookup w)).2 rfl
      exact absurd (ey ▸ List.mem_of_getElem? (show X.N[i]? = some y from w1)) nx
    · exact absurd rfl (L.own _ (PySem.mem_of_lookup w)).1
    · obtain ⟨m, _, gl⟩ := I.loc
      have vis : Vis X.env.scope y := (L.free _ (PySem.mem_of_lookup w) rfl).elim (fun z => .inr (.inl z)) (fun z => .inr (.inr z))
      obtain ⟨u', r, q⟩ := gl i y v w1 w2 vis
      obtain ⟨ca, wa⟩ := has w
      refine ⟨u', r, .inr ⟨.inr w, ca, wa, ?_⟩⟩
      have w5 := up wa
      rcases q with ⟨z, _⟩ | ⟨_, cb, wb, z⟩
      · rcases L.free _ (PySem.mem_of_lookup w) rfl with z2 | z2 <;> cases (show X.env.scope.names.lookup y = some NameKind.local from z).symm.trans z2
      · rw [w5] at wb
        cases wb
        exact keepC (I.freeC y _ w5) z
  · obtain ⟨u', z⟩ := I.cell y c (up w)
    exact ⟨u', keepC (I.freeC y c (up w)) z⟩
  · obtain ⟨v, o, go, _⟩ := I.cell y c (up w)
    exact un.free c o go (I.freeC y c (up w)) (by simp)
/-- a(), in the def that got the lambda -/
theorem df_act {CXg : CXT} {Eg : XK} {Ng : List Str} {qg : Str} {sg : Scope} {g f c' T0 : Addr} {cdg doc pm ctv : Value} {params : Arguments} {body : Expr} {scope : Scope} {x : Str} {n : Int} {m i : Nat} {a : Str} {pn : List (Addr × Obj)} {xe : Value → Shared → Prop} {W : WX} {tb : XK → TE} {p1 p2 : Pos}
    (I : Inv X pins σ H s) (L : DfS X.env.scope scope x) (nx : x ∉ X.N) (gf : s.heap.get? f = some (dfObj (X.env.qual ++ "<lambda>") params body scope (cloFrom X.env.cells scope.names []) T0 doc pm c' ctv)) (nf : H f = none) (ff : f ∉ frs X.stack) (gT : H T0 = some (.tup [.int n]))
    (bnd : ∀ (doc pm ctv : Value) (cl : List (Str × Addr)), ∃ k, bindArgs (PySem.W.kdv_fn "<lambda>" (X.env.qual ++ "<lambda>") params (.expr body) scope cl (.ref T0) doc pm (.ref c') ctv) ⟨[], []⟩ = seqItems? (.ref T0) >>= k ∧ ∀ u, k (some [u].toArray) = pure [(x, u)])
    (tk : Takes ((cxOf CXg X.prog X.w X.K X.mg X.base Ng qg sg g cdg X.A X.stack s H Eg).tr pn xe) W) (hr : Room (m + 1) (X.A.deeper (envOfC qg sg s.heap.objs.size g cdg)))
    (hb : ∀ (A : Around) (outer : List Env) (s : Shared) (H : Hp) (E : XK), Room m (A.deeper (lamEnv X scope s.heap.objs.size f c')) → PE (lamCx X A outer s H E scope f c') body (tb E))
    (aN : Ng[i]? = some a) (va : Vis sg a) (dbg2 : (a == ("__debug__" : Str)) = false := by decide) (dbg3 : (a == ("__classdict__" : Str)) = false := by decide) :
    PE ((cxOf CXg X.prog X.w X.K X.mg X.base Ng qg sg g cdg X.A X.stack s H Eg).tr pn xe) (.Call (.Name a p1) [] [] p2) (fun σZ HZ Q => ∃ E : XK, (∀ cls d H', E cls d H' → W cls d σZ H') ∧ σZ[i]? = some (some (.ref f)) ∧ HZ c' = some (CodeO c' (X.env.qual ++ "<lambda>")) ∧ tb E σ HZ Q) := by
  refine ⟨fun pz sz lz HZ Q IZ told => ?_⟩
  obtain ⟨E, hW, w1, w2, w3⟩ := told
  refine wpAny_Call_Name_kw (thn ((pe_var (pos := p1) (i := i) aN va dbg2 dbg3).run pz sz lz HZ (fun v H1 => v = .ref f ∧ H1 = HZ) IZ ⟨.ref f, w1, rfl, rfl⟩) fun u sy ⟨v, HY, J, r, ev, eH⟩ => ?_)
  subst ev eH
  obtain rfl : u = Value.ref f := r
  have un : Un (frs X.stack) [] H HY s.heap sy.heap := J.base
  have gf1 := un.keep f _ gf nf ff (fun z => nomatch (show f ∈ ([] : List Addr) from z))
  have gT1 := un.tups T0 _ gT
  refine PySem.W.callWith_F0 ⟨_, _, _, _, gf1⟩ ?_
  obtain ⟨⟨oc, vs, t, goc, gd, gv⟩, _, _⟩ := J.hok c' _ w2
  obtain ⟨_, its, rv, o, ho, ht, n0, hd0⟩ := (show ObjOk X.prog X.w HY sy.heap T0 (.tup [.int n]) from J.hok T0 _ gT1)
  obtain ⟨u0, rfl, _⟩ := Vals.one rv
  obtain ⟨kk, b1, b2⟩ := bnd doc pm ctv (cloFrom X.env.cells scope.names [])
  obtain ⟨o1, o2, o3, o4⟩ := o
  simp only at ht hd0
  subst ht hd0
  have bt := BindsTo.of_defaults (fd := PySem.W.kdv_fn "<lambda>" (X.env.qual ++ "<lambda>") params (.expr body) scope (cloFrom X.env.cells scope.names []) (.ref T0) doc pm (.ref c') ctv) (args := ⟨[], []⟩) (binds := [(x, u0)]) rfl ho rfl b1 (b2 u0)
  have rc : codeAny (model X.prog X.w) (X.A.deeper (envOfC qg sg s.heap.objs.size g cdg)) (.call (.ref f) ⟨[], []⟩) (CR (L2.CX X.prog X.w) (envOfC qg sg s.heap.objs.size g cdg :: X.stack) X.prog X.w HY sy Q E) sy := by
    refine PySem.W.kla_callFunE hr.depth gf1 rfl L.co L.gen rfl ⟨c', oc, vs, t, rfl, goc, gd, gv⟩ ?_
    refine bt _ _ _ _ ?_
    refine wpAny_newFunctionEnv (fun y hy => (L.own y hy).1) (fun y hy => ?_) (fun hn ns sb => ⟨J.nolimit.fresh _ sb, ?_⟩) L.kind
    · rw [List.mem_singleton.mp hy]
      exact L.par
    show codeAny _ _ (.expr body (lamEnv X scope sy.heap.objs.size f c')) _ _
    have old : ∀ b o, sy.heap.get? b = some o → hn.get? b = some o := fun b o e => sb.extBut b o (Nat.ne_of_lt (Heap.lt_size e)) (Heap.get?_push_of_some _ e)
    have J2 := df_start (f := f) (c' := c') (E := E) (tk := sy.toks + ([(x, u0)] : List (Str × Value)).length) I L nx J.env0 hr.hd un ns old
    refine PySem.W.kla_codeExpr (wpAny_mono ((hb _ _ sy HY E (hr.deeper _)).run [] _ _ HY Q J2 w3) (fun v sq q => ?_) fun e sq q => q)
    obtain ⟨v', Hq, Jq, rq, qq⟩ := q
    exact ⟨v', Hq, Jq.os, Jq.bare, Jq.base, Jq.hok, rq, qq⟩
  refine wpAny_call (codeAny_mono rc fun r sq q => ?_)
  cases r with
  | error e => exact tk e sq (XE.of_call J (fun cls d H' w => hW cls d H' w) q)
  | ok fl =>
    cases fl with
    | ret u => exact J.after q
    | _ => exact q.elim
end

section
variable {s s1 : Shared} {X : Cx} {pins : List (Addr × Obj)} {σ : L2.St} {H HZ : Hp}
/-- the same without a parameter -/
theorem nf_act {CXg : CXT} {Eg : XK} {Ng : List Str} {qg : Str} {sg : Scope} {g f c' : Addr} {cdg pm ctv : Value} {params : Arguments} {body : Expr} {scope : Scope} {m i : Nat} {a : Str} {pn : List (Addr × Obj)} {xe : Value → Shared → Prop} {W : WX} {tb : XK → TE} {p1 p2 : Pos}
    (I : Inv X pins σ H s) (L : LamS X.env.scope scope) (gf : s.heap.get? f = some (PySem.W.kla_obj "<lambda>" (X.env.qual ++ "<lambda>") params body scope (cloFrom X.env.cells scope.names []) pm c' ctv)) (nf : H f = none) (ff : f ∉ frs X.stack)
    (bnd : bindArgs (PySem.W.kla_fn "<lambda>" (X.env.qual ++ "<lambda>") params body scope (cloFrom X.env.cells scope.names []) pm (.ref c') ctv) ⟨[], []⟩ = pure [])
    (tk : Takes ((cxOf CXg X.prog X.w X.K X.mg X.base Ng qg sg g cdg X.A X.stack s H Eg).tr pn xe) W) (hr : Room (m + 1) (X.A.deeper (envOfC qg sg s.heap.objs.size g cdg)))
    (hb : ∀ (A : Around) (outer : List Env) (s : Shared) (H : Hp) (E : XK), Room m (A.deeper (lamEnv X scope s.heap.objs.size f c')) → PE (lamCx X A outer s H E scope f c') body (tb E))
    (aN : Ng[i]? = some a) (va : Vis sg a) (dbg2 : (a == ("__debug__" : Str)) = false := by decide) (dbg3 : (a == ("__classdict__" : Str)) = false := by decide) :
    PE ((cxOf CXg X.prog X.w X.K X.mg X.base Ng qg sg g cdg X.A X.stack s H Eg).tr pn xe) (.Call (.Name a p1) [] [] p2) (fun σZ HZ Q => ∃ E : XK, (∀ cls d H', E cls d H' → W cls d σZ H') ∧ σZ[i]? = some (some (.ref f)) ∧ HZ c' = some (CodeO c' (X.env.qual ++ "<lambda>")) ∧ tb E σ HZ Q) := by
  refine ⟨fun pz sz lz HZ Q IZ told => ?_⟩
  obtain ⟨E, hW, w1, w2, w3⟩ := told
  refine wpAny_Call_Name_kw (thn ((pe_var (pos := p1) (i := i) aN va dbg2 dbg3).run pz sz lz HZ (fun v H1 => v = .ref f ∧ H1 = HZ) IZ ⟨.ref f, w1, rfl, rfl⟩) fun u sy ⟨v, HY, J, r, ev, eH⟩ => ?_)
  subst ev eH
  obtain rfl : u = Value.ref f := r
  have un : Un (frs X.stack) [] H HY s.heap sy.heap := J.base
  have gf1 := un.keep f _ gf nf ff (fun z => nomatch (show f ∈ ([] : List Addr) from z))
  refine PySem.W.callWith_F0 ⟨_, _, _, _, gf1⟩ ?_
  obtain ⟨⟨oc, vs, t, goc, gd, gv⟩, _, _⟩ := J.hok c' _ w2
  have rc : codeAny (model X.prog X.w) (X.A.deeper (envOfC qg sg s.heap.objs.size g cdg)) (.call (.ref f) ⟨[], []⟩) (CR (L2.CX X.prog X.w) (envOfC qg sg s.heap.objs.size g cdg :: X.stack) X.prog X.w HY sy Q E) sy := by
    refine PySem.W.kla_callFunE hr.depth gf1 rfl L.co L.gen rfl ⟨c', oc, vs, t, rfl, goc, gd, gv⟩ ?_
    rw [bnd]
    refine wpAny_pure (wpAny_newFunctionEnv (fun y hy => (L.own y hy).2) (fun y hy => absurd hy (by simp)) (fun hn ns sb => ⟨J.nolimit.fresh _ sb, ?_⟩) L.kind)
    show codeAny _ _ (.expr body (lamEnv X scope sy.heap.objs.size f c')) _ _
    have old : ∀ b o, sy.heap.get? b = some o → hn.get? b = some o := fun b o e => sb.extBut b o (Nat.ne_of_lt (Heap.lt_size e)) (Heap.get?_push_of_some _ e)
    have J2 := lam_start2 (f := f) (c' := c') (E := E) (tk := sy.toks + ([] : List (Str × Value)).length) I L J.env0 hr.hd un ns old
    refine PySem.W.kla_codeExpr (wpAny_mono ((hb _ _ sy HY E (hr.deeper _)).run [] _ _ HY Q J2 w3) (fun v sq q => ?_) fun e sq q => q)
    obtain ⟨v', Hq, Jq, rq, qq⟩ := q
    exact ⟨v', Hq, Jq.os, Jq.bare, Jq.base, Jq.hok, rq, qq⟩
  refine wpAny_call (codeAny_mono rc fun r sq q => ?_)
  cases r with
  | error e => exact tk e sq (XE.of_call J (fun cls d H' w => hW cls d H' w) q)
  | ok fl =>
    cases fl with
    | ret u => exact J.after q
    | _ => exact q.elim
end
/-- the def that calls what it got, the wish told of the very slots -/
def GivesN (X : Cx) (Ng : List Str) (gn : Str) (sg : Scope) (g : Addr) (cdg : Value) (bg : List Stmt) (a : Str) (q : Str) (TT : (XK → Hp → VK → Prop) → Hp → VK → Prop) : Prop :=
  ∀ (f c' : Addr) (s : Shared) (H : Hp) (Q : VK) (tl : XK → Hp → VK → Prop),
    (∀ (W : WX) (pn : List (Addr × Obj)) (xe : Value → Shared → Prop) (p1 p2 : Pos), Takes ((cxOf C8.CX0 X.prog X.w X.K X.mg X.base Ng gn sg g cdg X.A X.stack s H C8.E0).tr pn xe) W →
      PE ((cxOf C8.CX0 X.prog X.w X.K X.mg X.base Ng gn sg g cdg X.A X.stack s H C8.E0).tr pn xe) (.Call (.Name a p1) [] [] p2)
        (fun σZ HZ Q => ∃ E : XK, (∀ cls d H', E cls d H' → W cls d σZ H') ∧ σZ[0]? = some (some (.ref f)) ∧ HZ c' = some (CodeO c' q) ∧ tl E HZ Q)) →
    H c' = some (CodeO c' q) → TT tl H Q →
    ∃ t, PSs (cxOf C8.CX0 X.prog X.w X.K X.mg X.base Ng gn sg g cdg X.A X.stack s H C8.E0).nox bg t ∧ t { nx := fun _ H' => Q .non H', rt := Q } (L2.start Ng [.ref f]) H
section
variable {X : Cx}
/-- g(lambda x=number: body) -/
theorem df_call {TS : List (Addr × Str)} {TT : (XK → Hp → VK → Prop) → Hp → VK → Prop} {gn a x : Str} {g c P : Addr} {m : Nat} {n : Int} {pg : Arguments} {bg : List Stmt} {sg : Scope} {dV kV dcg pmg cdv ctg ocg : Value} {ang odg : Option Addr} {slg : Array (Option Value)} {Ng : List Str}
    {params : Arguments} {body de : Expr} {scope : Scope} {t : XK → TE} {p lpos pos : Pos} (hg : Gl X gn) (hm : X.mg gn = some (.ref g)) (hk : PySem.W.keepIn X.K (.ref g) = true)
    (lk : X.K.lookup g = some ⟨ocg, odg, .func (PySem.W.fnOf gn gn pg bg sg dV kV dcg pmg ang cdv ctg), slg⟩) (cg : PySem.W.codeIn X.K cdv gn = true) (bg' : L2.Binds X.K (PySem.W.fnOf gn gn pg bg sg dV kV dcg pmg ang cdv ctg) [a] []) (Sg : FnScope Ng [a] sg) (aN : Ng[0]? = some a) (va : Vis sg a)
    (hG : GivesN X Ng gn sg g cdv bg a (X.env.qual ++ "<lambda>") TT)
    (TB : LamX.TabB X.base X.mg c P) (cod : X.env.code = .ref c) (mem : (P, X.env.qual ++ "<lambda>") ∈ TS) (uni : ∀ p ∈ TS, p.1 = P → p.2 = X.env.qual ++ "<lambda>") (hr : Room (m + 2) X.A) (L : DfS X.env.scope scope x) (nx : x ∉ X.N)
    (hde : params.defaults = [de]) (kwd : params.kw_defaults = []) (hev : ∀ (s : Shared) (E Q1 : Value → Shared → Prop), (∀ tk t, Q1 (.int n t) { s with toks := tk }) → wpAny (model X.prog X.w) X.A (eval de X.env) Q1 E s)
    (bnd : ∀ (T0 : Addr) (doc pm cv ctv : Value) (cl : List (Str × Addr)), ∃ k, bindArgs (PySem.W.kdv_fn "<lambda>" (X.env.qual ++ "<lambda>") params (.expr body) scope cl (.ref T0) doc pm cv ctv) ⟨[], []⟩ = seqItems? (.ref T0) >>= k ∧ ∀ u, k (some [u].toArray) = pure [(x, u)])
    (hbody : ∀ (A : Around) (outer : List Env) (s : Shared) (H : Hp) (E : XK) (f c' : Addr), Room m (A.deeper (lamEnv X scope s.heap.objs.size f c')) → PE (lamCx X A outer s H E scope f c') body (t E))
    (dbg1 : (gn == ("__debug__" : Str)) = false := by decide) (dbg2 : (a == ("__debug__" : Str)) = false := by decide) (dbg3 : (a == ("__classdict__" : Str)) = false := by decide) :
    PE X (.Call (.Name gn p) [.Lambda params body scope lpos] [] pos) (tLam TS TT t) := by
  refine ⟨fun pins st sl H Q I told => ?_⟩
  obtain ⟨tabs, told⟩ := told
  refine wpAny_Call_Name_kw (ld_glob I hg hm ?_ dbg1)
  refine PySem.W.callWith_K (h₀ := X.base) I.ok.mod.kin hk ?_ rfl rfl
  show wpAny _ _ (spliced ((false, eval (.Lambda params body scope lpos) X.env) :: backTo pos (starEach [] X.env))) _ _ st
  refine Calls.spliced_cons (df_make I TB cod mem uni tabs hde kwd (fun Q1 => hev st _ Q1) (L.cells I.ok) fun f c' T0 doc pm' ctv H1 sz J xx t1 gf nf ff coo gT => ?_)
  refine Calls.spliced_nil ⟨J.kIn, ?_⟩
  have rc : codeAny (model X.prog X.w) X.A (.call (.ref g) ⟨[.ref f], []⟩) (CR C8.CX0 X.stack X.prog X.w H1 sz Q C8.E0) sz := by
    refine run_ofS (N := Ng) (ps := [a]) (us := [.ref f]) (vs := [.ref f]) lk cg Sg hr J.env0 (bg' sz [.ref f] J.kIn rfl) (.cons rfl .nil) rfl fun hr' => ?_
    obtain ⟨tz, pz, qz⟩ := hG f c' sz H1 Q (fun E H' Q' => t E sl H' Q') (fun W pn xe p1 p2 tk => df_act (tb := t) (i := 0) (T0 := T0) (n := n) J L nx gf nf ff gT (fun doc pm ctv cl => bnd T0 doc pm (.ref c') ctv cl) tk hr' (fun A outer s H E hr2 => hbody A outer s H E f c' hr2) aN va dbg2 dbg3) coo (told H1 xx t1)
    exact ⟨tz, pz.nox, qz⟩
  refine wpAny_call (codeAny_mono rc fun r s2 q => ?_)
  cases r with
  | error e => exact (show False from q).elim
  | ok fl =>
    cases fl with
    | ret u => exact J.after q
    | _ => exact q.elim
/-- g(lambda: body) -/
theorem nf_call {TS : List (Addr × Str)} {TT : (XK → Hp → VK → Prop) → Hp → VK → Prop} {gn a : Str} {g c P : Addr} {m : Nat} {pg : Arguments} {bg : List Stmt} {sg : Scope} {dV kV dcg pmg cdv ctg ocg : Value} {ang odg : Option Addr} {slg : Array (Option Value)} {Ng : List Str}
    {params : Arguments} {body : Expr} {scope : Scope} {t : XK → TE} {p lpos pos : Pos} (hg : Gl X gn) (hm : X.mg gn = some (.ref g)) (hk : PySem.W.keepIn X.K (.ref g) = true)
    (lk : X.K.lookup g = some ⟨ocg, odg, .func (PySem.W.fnOf gn gn pg bg sg dV kV dcg pmg ang cdv ctg), slg⟩) (cg : PySem.W.codeIn X.K cdv gn = true) (bg' : L2.Binds X.K (PySem.W.fnOf gn gn pg bg sg dV kV dcg pmg ang cdv ctg) [a] []) (Sg : FnScope Ng [a] sg) (aN : Ng[0]? = some a) (va : Vis sg a)
    (hG : GivesN X Ng gn sg g cdv bg a (X.env.qual ++ "<lambda>") TT)
    (TB : LamX.TabB X.base X.mg c P) (cod : X.env.code = .ref c) (mem : (P, X.env.qual ++ "<lambda>") ∈ TS) (uni : ∀ p ∈ TS, p.1 = P → p.2 = X.env.qual ++ "<lambda>") (hr : Room (m + 2) X.A) (L : LamS X.env.scope scope) (dfl : defaultsOf params X.env = ([], []))
    (bnd : ∀ (qq : Str) (cl : List (Str × Addr)) (pm cv ctv : Value), bindArgs (PySem.W.kla_fn "<lambda>" qq params body scope cl pm cv ctv) ⟨[], []⟩ = pure [])
    (hbody : ∀ (A : Around) (outer : List Env) (s : Shared) (H : Hp) (E : XK) (f c' : Addr), Room m (A.deeper (lamEnv X scope s.heap.objs.size f c')) → PE (lamCx X A outer s H E scope f c') body (t E))
    (dbg1 : (gn == ("__debug__" : Str)) = false := by decide) (dbg2 : (a == ("__debug__" : Str)) = false := by decide) (dbg3 : (a == ("__classdict__" : Str)) = false := by decide) :
    PE X (.Call (.Name gn p) [.Lambda params body scope lpos] [] pos) (tLam TS TT t) := by
  refine ⟨fun pins st sl H Q I told => ?_⟩
  obtain ⟨tabs, told⟩ := told
  refine wpAny_Call_Name_kw (ld_glob I hg hm ?_ dbg1)
  refine PySem.W.callWith_K (h₀ := X.base) I.ok.mod.kin hk ?_ rfl rfl
  show wpAny _ _ (spliced ((false, eval (.Lambda params body scope lpos) X.env) :: backTo pos (starEach [] X.env))) _ _ st
  refine Calls.spliced_cons (lam_make2 I TB cod mem uni tabs dfl (L.has I.ok) fun f c' pm' ctv H1 sz J xx t1 gf nf ff coo => ?_)
  refine Calls.spliced_nil ⟨J.kIn, ?_⟩
  have rc : codeAny (model X.prog X.w) X.A (.call (.ref g) ⟨[.ref f], []⟩) (CR C8.CX0 X.stack X.prog X.w H1 sz Q C8.E0) sz := by
    refine run_ofS (N := Ng) (ps := [a]) (us := [.ref f]) (vs := [.ref f]) lk cg Sg hr J.env0 (bg' sz [.ref f] J.kIn rfl) (.cons rfl .nil) rfl fun hr' => ?_
    obtain ⟨tz, pz, qz⟩ := hG f c' sz H1 Q (fun E H' Q' => t E sl H' Q') (fun W pn xe p1 p2 tk => nf_act (tb := t) (i := 0) J L gf nf ff (bnd _ _ _ _ _) tk hr' (fun A outer s H E hr2 => hbody A outer s H E f c' hr2) aN va dbg2 dbg3) coo (told H1 xx t1)
    exact ⟨tz, pz.nox, qz⟩
  refine wpAny_call (codeAny_mono rc fun r s2 q => ?_)
  cases r with
  | error e => exact (show False from q).elim
  | ok fl =>
    cases fl with
    | ret u => exact J.after q
    | _ => exact q.elim
end
end MT
/-! a caught error that has its dict: asked for its class, its part read -/
namespace MT
open PySem PySem.Spec PyProof.Rows L2
section
variable {X : Cx} {a : Addr} {oe : Obj} {cls : Value} {d : Option Addr} {pn : List (Addr × Obj)} {e : Expr} {te : TE} {pos : Pos} {n : Str}
theorem pe_xfG (hz : Zc cls d oe) (hf : ∃ vs, oe.data = .fields vs) (he : PE (X.suite a ((a, oe) :: pn)) e te) (hb : attributeBase e n X.env (eval e X.env) = eval e X.env := by rfl) :
    PE (X.suite a ((a, oe) :: pn)) (.Attribute e n pos) (fun σ H Q => ∃ C : Addr, XfC X.K C ∧ PySem.W.findIn X.K (.ref C) n = some none ∧ tXf a cls d C n te σ H Q) :=
  ⟨fun pins st sl H Q I ⟨C, w1, w2, w3⟩ => (pe_xf w1 w2 hz hf he hb).run pins st sl H Q I w3⟩
/-- what is told of the caught error: its class D, its dict -/
def Held (K : PySem.W.Frag) (cls : Value) (d : Option Addr) (H : Hp) (D : Addr) : Prop := cls = .ref D ∧ ExcC K D ∧ ∃ (dd : Addr) (fs : List (Str × V)), d = some dd ∧ H dd = some (.xd fs)
theorem held_kit {pins : List (Addr × Obj)} {st : Shared} {sl : L2.St} {H : Hp} {D : Addr} (hz : Zc cls d oe) (hf : ∃ vs, oe.data = .fields vs) (I : Inv (X.suite a ((a, oe) :: pn)) pins sl H st) (h : Held X.K cls d H D) :
    ∃ P : Heap → Prop, PySem.W.KitX X.K (.ref a) (.ref D) P ∧ P st.heap := by
  obtain ⟨rfl, C, dd, fs, rfl, hd⟩ := h
  obtain ⟨ga, _⟩ := I.pin (a, oe) (List.mem_append_left _ List.mem_cons_self)
  obtain ⟨vs, fv⟩ := hf
  obtain ⟨mA, ns, _⟩ := (show ObjOk X.prog X.w H st.heap dd (.xd fs) from I.hok dd _ hd)
  obtain ⟨od, ho, _⟩ := lookIn_ns ns
  have J : PySem.W.InstAt st.heap a oe D (some od) := ⟨ga, hz.1, by unfold PySem.W.notCls; rw [fv] <;> rfl, by rw [hz.2]; exact ho⟩
  refine ⟨_, PySem.W.kitx_exc ?_ C.hg C.hk C.hs C.ha C.hn C.ht C.hm, J⟩
  obtain ⟨cd, w, _⟩ := PySem.W.any_some C.hd
  rw [w]
  rfl
/-- isinstance(error, class) -/
theorem call_isX1 (hz : Zc cls d oe) (hf : ∃ vs, oe.data = .fields vs) : CallR (X.suite a ((a, oe) :: pn)) (.builtin "isinstance") (fun xs H Q => ∃ (D C : Addr) (b : Bool), xs = [.ref a, .ref C] ∧ Held X.K cls d H D ∧ PySem.W.kitOne X.K (.ref D) (.ref C) = some b ∧ Q (.bl b) H) := by
  intro pins st sl H xs us Q I r h
  obtain ⟨D, C, b, rfl, hh, e, q⟩ := h
  obtain ⟨u1, u2, rfl, r1, r2⟩ := Vals.two r
  cases (show u1 = Value.ref a from r1)
  cases (show u2 = Value.ref C from r2)
  obtain ⟨P, Z, p⟩ := held_kit hz hf I hh
  exact PySem.W.kia_one Z I.kIn p e (fun z => nomatch z) fun tk => ⟨.bl b, H, I.tok tk, rfl, q⟩
/-- isinstance(error, (classes)) -/
theorem call_isX2 (hz : Zc cls d oe) (hf : ∃ vs, oe.data = .fields vs) : CallR (X.suite a ((a, oe) :: pn)) (.builtin "isinstance") (fun xs H Q => ∃ (D tp : Addr) (cs : List Addr) (b : Bool), xs = [.ref a, .ref tp] ∧ H tp = some (.tup (cs.map V.ref)) ∧ Held X.K cls d H D ∧
    PySem.W.kitAny X.K (.ref D) (cs.map Value.ref) = some b ∧ Q (.bl b) H) := by
  intro pins st sl H xs us Q I r h
  obtain ⟨D, tp, cs, b, rfl, ht, hh, e, q⟩ := h
  obtain ⟨u1, u2, rfl, r1, r2⟩ := Vals.two r
  cases (show u1 = Value.ref a from r1)
  cases (show u2 = Value.ref tp from r2)
  obtain ⟨P, Z, p⟩ := held_kit hz hf I hh
  obtain ⟨_, its, rv, o, ho, w1, m, w2⟩ := (show ObjOk X.prog X.w H st.heap tp (.tup (cs.map V.ref)) from I.hok tp _ ht)
  have key : ∀ (cs : List Addr) (its : List Value), Vals (cs.map V.ref) its → its = cs.map Value.ref := by
    intro cs
    induction cs with
    | nil => intro its r; cases r; rfl
    | cons c cs ih =>
      intro its r
      cases r with
      | cons h t => rw [ih _ t, show _ = Value.ref c from h]; rfl
  have ek := key cs its rv
  subst ek
  obtain ⟨o1, o2, o3, o4⟩ := o
  simp only at w1 w2
  subst w1 w2
  exact PySem.W.kia_tup Z I.kIn p ho e (fun z => nomatch z) fun tk => ⟨.bl b, H, I.tok tk, rfl, q⟩
end
/-- one class of the program asked for another -/
theorem kit_ref {K : PySem.W.Frag} {D C : Addr} {b : Bool} (h : D ≠ C) (hc : (PySem.W.clsIn K C).isSome = true) (ht : PySem.W.typeIn K (.ref C) = some (.type "type")) (e : PySem.W.subIn K (.ref D) (.ref C) = some b) : PySem.W.kitOne K (.ref D) (.ref C) = some b := by
  unfold PySem.W.kitOne PySem.W.kitCls
  have ne : (Value.ref D == Value.ref C) = false := beq_eq_false_iff_ne.mpr fun z => h (Value.ref.inj z)
  rw [ne]
  simp [hc, ht, e]
theorem kit_self {K : PySem.W.Frag} {D : Addr} : PySem.W.kitOne K (.ref D) (.ref D) = some true := by
  unfold PySem.W.kitOne
  simp
end MT
/-! data along what makes lambdas -/
namespace MT
open PySem L2 LamX
theorem ext_seq {K : PySem.W.Frag} {H H' : Hp} {a : Addr} {xs : List V} (e : ExtN H H') (h : SqL K H a xs) : SqL K H' a xs := by
  rcases h with (h | ⟨o, h⟩) | h
  · exact .inl (.inl (e _ _ h fun _ z => by cases z))
  · exact .inl (.inr ⟨o, e _ _ h fun _ z => by cases z⟩)
  · exact .inr h
theorem ext_seqT {K : PySem.W.Frag} {H H' : Hp} {a : Addr} {xs : List V} (e : ExtN H H') (h : SqT K H a xs) : SqT K H' a xs := by
  rcases h with (h | ⟨o, h⟩) | h
  · exact .inl (.inl (e _ _ h fun _ z => by cases z))
  · exact .inl (.inr ⟨o, e _ _ h fun _ z => by cases z⟩)
  · exact .inr h
abbrev nowhere : Addr → Prop := fun _ => False
section
variable {K : PySem.W.Frag} {M : Addr → Prop} {H H' : Hp}
mutual
theorem Dv.extR (e : ExtN H H') : ∀ (d : PyData) (v : V), Dv K M H v d → Dv K nowhere H' v d
  | .none, _, h => by cases h; exact .non
  | .bool b, _, h => by cases h; exact .bl b
  | .int i, _, h => by cases h; exact .int i
  | .str x, _, h => by cases h; exact .str x
  | .list ds, _, h => by
    cases h with
    | lst _ s a => exact .lst (fun z => z) (ext_seq e s) (DvAll.extR e ds _ a)
  | .tuple ds, _, h => by
    cases h with
    | tup _ s a => exact .tup (fun z => z) (ext_seqT e s) (DvAll.extR e ds _ a)
  | .dict _, _, h => by
    cases h with
    | dct _ s => exact .dct (fun z => z) (e _ _ s fun _ z => by cases z)
theorem DvAll.extR (e : ExtN H H') : ∀ (ds : List PyData) (vs : List V), DvAll K M H vs ds → DvAll K nowhere H' vs ds
  | [], _, h => by cases h; exact .nil
  | d :: ds, _, h => by
    cases h with
    | cons a b => exact .cons (Dv.extR e d _ a) (DvAll.extR e ds _ b)
end
theorem Dv.ext {d : PyData} {v : V} (h : Dv K M H v d) (e : ExtN H H') : Dv K nowhere H' v d := Dv.extR e d v h
theorem DvAll.ext {ds : List PyData} {vs : List V} (h : DvAll K M H vs ds) (e : ExtN H H') : DvAll K nowhere H' vs ds := DvAll.extR e ds vs h
theorem Same.ext (e : Same H H') : ExtN H H' := ExtN.of e
theorem tabs_frm {a : Addr} {P : Addr} {q : Str} (h : H P = some (.tbl #[])) (ne : P ≠ a) (F : Frm (· = a) H H') : H' P = some (.tbl #[]) := F _ _ ne h
theorem tabs_nil {P : Addr} {q : Str} (h : H P = some (.tbl #[])) : Tabs [(P, q)] H := fun p hp => by
  rw [List.mem_singleton.mp hp]
  exact TabS.nil h
end

theorem okGn {P : Program} {w : World} {K : PySem.W.Frag} {mg : Str → Option Value} {base : Heap} {x qual : Str} {st : Stmt} {f : Addr} {fd : FuncData} {N ps : List Str} {k : Nat} {sp : Sp} (F : Fun K x qual st f fd) (S : FnScope N ps (defScope st)) (len : ∀ vs H Q E, sp vs H Q E → vs.length = ps.length)
    (hbody : ∀ (cdv : Value) (A : Around) (outer : List Env) (s : Shared) (H : Hp) (vs : List V) (Q : VK) (E : XK), (A.deeper (PyProof.Rows.envOfC qual (defScope st) s.heap.objs.size f cdv)).guards = some [] → Room k (A.deeper (PyProof.Rows.envOfC qual (defScope st) s.heap.objs.size f cdv)) → sp vs H Q E →
      ∃ t, PSs (cxOf CX0 P w K mg base N qual (defScope st) f cdv A outer s H E).nox (defBody st) t ∧ t { nx := fun _ H' => Q .non H', rt := Q } (L2.start N vs) H) : FnG P w K mg base CX0 (k + 1) f fd ps sp :=
  okG F S len fun cdv A outer s H vs Q E hq hr h => by
    obtain ⟨t, w1, w2⟩ := hbody cdv A outer s H vs Q E hq hr h
    exact ⟨t, w1.nox, w2⟩
end MT
/-! a law's end: its promise told where no repr is under way; one table of code objects -/
namespace MT
open PySem PySem.Spec PyProof.Rows L2
abbrev scriptO (vs : List Value) : Obj := { cls := .type "list", data := .seq vs.toArray }
/-- what is tracked at first: the empty table, and the script's list (if the text's own part doesn't have it) -/
def startH (K : PySem.W.Frag) (PT a : Addr) (vs : List Value) (ns : List Int) : Hp := fun b =>
  if b = PT then some (.tbl #[]) else if b = a ∧ (K.lookup a).isNone = true then some (.frz (scriptO vs) (.lst (ns.map V.int))) else none
section
variable {K : PySem.W.Frag} {PT a b : Addr} {vs : List Value} {ns : List Int}
theorem startH_tab : startH K PT a vs ns PT = some (.tbl #[]) := if_pos rfl
theorem startH_cases {u : HO} (h : startH K PT a vs ns b = some u) : (b = PT ∧ u = .tbl #[]) ∨ (b = a ∧ K.lookup a = none ∧ u = .frz (scriptO vs) (.lst (ns.map V.int))) := by
  unfold startH at h
  split at h
  · rename_i e
    exact .inl ⟨e, (Option.some.inj h).symm⟩
  · split at h
    · rename_i e
      exact .inr ⟨e.1, by simpa using e.2, (Option.some.inj h).symm⟩
    · cases h
theorem startH_none (h1 : b ≠ PT) (h2 : b = a → K.lookup a ≠ none) : startH K PT a vs ns b = none := by
  cases e : startH K PT a vs ns b with
  | none => rfl
  | some u =>
    rcases startH_cases e with ⟨w, _⟩ | ⟨w, n, _⟩
    · exact absurd w h1
    · exact absurd n (h2 w)
end
theorem runG {P : Program} {w : World} {K : PySem.W.Frag} {mg mb : Str → Option Value} {k : Nat} {fa a c PT : Addr} {fd : FuncData} {x : Str} {sp : Sp} {st : Shared} {vs : List Value} {ns : List Int} (inK : K.In st.heap) (glob : st.heap.Ns mainGlobals mg)
    (blt : st.heap.Ns builtinsNs mb) (boot : ∀ x : Str, x ≠ "__name__" → mb x = bootBuiltins x) (lim : st.heap.NoLimit) (gens : st.gens = #[]) (tab : st.heap.get? PT = some { cls := .none, data := .fields #[] }) (noK : K.lookup PT = none) (code : PySem.W.CodeHd st.heap c PT)
    (bmain : ∃ (bm : Addr) (ob : Obj), mg "__builtins__" = some (.ref bm) ∧ bm ≠ builtinsNs ∧ st.heap.get? bm = some ob ∧ ob.cls = .type "module" ∧ ob.dict = some builtinsNs ∧ ob.data = .plain) (obj : st.heap.get? a = some (scriptO vs)) (areI : IntsAre vs ns)
    (len : ns.length ≤ sizeLine) (room : Room k callerA) (prom : ∀ base : Heap, K.In base → base.Ns mainGlobals mg → LamX.TabB base mg c PT → FnG P w K mg base CX0 k fa fd [x] sp) (bind : ∀ (s : Shared) (u : Value), BindsTo s fd ⟨[u], []⟩ [(x, u)])
    (told : ∀ H : Hp, H PT = some (.tbl #[]) → SqL K H a (ns.map V.int) → sp [.ref a] H (fun v _ => v = .bl true) fun _ _ _ => False) :
    codeAny (model P w) callerA (.call (.ref fa) ⟨[.ref a], []⟩) (fun r s' => r = .ok (.ret (.bool true)) ∧ OldK st.heap s'.heap ∧ s'.os = st.os ∧ AllBare s'.gens) st := by
  have rv := vals_ints areI
  have lv := areI.length
  have ne : PT ≠ a := fun z => by rw [z, obj] at tab; cases tab
  obtain ⟨H, eH⟩ : ∃ H, H = startH K PT a vs ns := ⟨_, rfl⟩
  have HP : H PT = some (.tbl #[]) := by rw [eH]; exact startH_tab
  -- what has other data is not tracked
  have free : ∀ {b : Addr} {o : Obj}, st.heap.get? b = some o → o ≠ { cls := .none, data := .fields #[] } → o ≠ scriptO vs → H b = none := fun {b o} e n1 n2 => by
    rw [eH]
    refine startH_none (fun z => n1 ?_) fun z => absurd ?_ n2
    · rw [z, tab] at e; exact (Option.some.inj e).symm
    · rw [z, obj] at e; exact (Option.some.inj e).symm
  have dicts : ∀ {b : Addr} {o : Obj} {es : Array DictEntry} {ep : Nat}, st.heap.get? b = some o → o.data = .dict es ep → H b = none := fun {b o es ep} e d =>
    free e (fun z => by rw [z] at d; cases d) (fun z => by rw [z] at d; cases d)
  have plain : ∀ {b : Addr} {o : Obj}, st.heap.get? b = some o → o.data = .plain → H b = none := fun {b o} e d =>
    free e (fun z => by rw [z] at d; cases d) (fun z => by rw [z] at d; cases d)
  have stay : ∀ {b : Addr} {m : Str → Option Value}, st.heap.Ns b m → (hidT st.heap H).Ns b m := fun {b m} ⟨o, es, ep, e, d, r⟩ => ⟨o, es, ep, hidT_get e (dicts e d), d, r⟩
  have inB : K.In (hidT st.heap H) := fun b o e => hidT_get (inK b o e) (by
    rw [eH]
    refine startH_none (fun z => ?_) fun z q => ?_
    · rw [z, noK] at e; cases e
    · rw [z, q] at e; cases e)
  have sq : SqL K H a (ns.map V.int) := by
    cases q : K.lookup a with
    | none => exact .inl (.inr ⟨scriptO vs, by rw [eH]; unfold startH; rw [if_neg (Ne.symm ne), if_pos ⟨rfl, by rw [q]; rfl⟩]⟩)
    | some o =>
      have e := inK a o q
      rw [obj] at e
      cases e
      exact .inr ⟨_, vs.toArray, _, q, rfl, rfl, rfl, by rw [List.size_toArray, lv]; exact len, by simpa using rv⟩
  have ok : HOk P w H st.heap := fun b u e => by
    rw [eH] at e
    rcases startH_cases e with ⟨rfl, rfl⟩ | ⟨rfl, _, rfl⟩
    · exact tab
    · exact ⟨obj, by rw [List.length_map]; exact len, vs, _, rv, obj⟩
  have tb : LamX.TabB (hidT st.heap H) mg c PT := by
    refine ⟨?_, ?_, fun z => ?_⟩
    · obtain ⟨o, us, file, tf, flags, tg, inF, text, tt, g0, rest⟩ := code
      refine ⟨o, us, file, tf, flags, tg, inF, text, tt, hidT_get g0 (free g0 (fun z => ?_) fun z => ?_), rest⟩
      · have := rest.1
        rw [z] at this
        cases this
      · have := rest.2.1
        rw [z] at this
        cases this
    · obtain ⟨bm, ob, w1, w2, w3, w4, w5, w6⟩ := bmain
      refine ⟨bm, ob, w1, w2, fun z => ?_, fun z => ?_, hidT_get w3 (plain w3 w6), w4, w5, w6⟩
      · obtain ⟨o, es, ep, e, d, _⟩ := glob
        rw [z, e] at w3
        cases w3
        rw [w6] at d
        cases d
      · rw [z, tab] at w3
        cases w3
        cases w6
    · obtain ⟨o, es, ep, e, d, _⟩ := glob
      rw [z, tab] at e
      cases e
      cases d
  have en : Env0 P w K mg (hidT st.heap H) callerA [] st H := ⟨rfl, ⟨inB, stay glob, ⟨mb, stay blt, boot⟩, let ⟨mc, z1, z2⟩ := lim; ⟨mc, stay z1, z2⟩⟩, fun b o e => of_hidT e, Nat.le_of_eq (hidT_size _ _), trivial, fun b z => absurd (show b ∈ ([] : List Addr) from z) (by simp), ok, .of_eq gens⟩
  refine codeAny_mono ((prom _ inB (stay glob) tb).run callerA [] st H ⟨[.ref a], []⟩ [.ref a] [.ref a] _ _ rfl room en (bind st _) (.cons rfl .nil) (told H HP sq)) fun r s' z => ?_
  cases r with
  | error e => exact (show False from z).elim
  | ok fl =>
    cases fl with
    | next => exact z.elim
    | brk => exact z.elim
    | cont => exact z.elim
    | ret u =>
      obtain ⟨v, H', so, bare, un, ok', ru, qv⟩ := z
      obtain rfl : v = .bl true := qv
      obtain rfl : u = Value.bool true := ru
      obtain ⟨more, tm⟩ := un.tbls PT #[] HP
      have g' : s'.heap.get? PT = some { cls := .none, data := .fields (#[] ++ more) } := ok' PT _ tm
      have kept : ∀ b o, b ≠ PT → st.heap.get? b = some o → s'.heap.get? b = some o := fun b o nb e => by
        cases q : H b with
        | none => exact un.keep b o e q (fun z => nomatch (show b ∈ ([] : List Addr) from z)) (by simp)
        | some u =>
          have q0 := q
          rw [eH] at q0
          rcases startH_cases q0 with ⟨w1, _⟩ | ⟨_, _, rfl⟩
          · exact absurd w1 nb
          · have e1 := (ok b _ q).1
            have e2 := (ok' b _ (un.frzs b _ _ q)).1
            rw [e] at e1
            rw [e1]
            exact e2
      refine ⟨rfl, ⟨fun b o e => ?_, fun b o e => ?_⟩, so, bare⟩
      · by_cases nb : b = PT
        · rw [nb, tab] at e
          cases e
          exact .inr (.inl ⟨by rw [nb]; exact (code.tab tab).isCodeTable, rfl, #[], more, rfl, by rw [nb]; exact g'⟩)
        · exact .inl (kept b o nb e)
      · by_cases nb : b = PT
        · exact ⟨_, by rw [nb]; exact g'⟩
        · exact ⟨o, kept b o nb e⟩
end MT
namespace MT
open PySem PySem.Spec PyProof.Rows L2
/-- what the law's end wants at the head's heap -/
def LawG (l : PySem.W.OpenLaw) (w : World) (K : PySem.W.Frag) (k n : Nat) (x : Str) (mg : Str → Option Value) (fa : Addr) (h : Heap) : Prop :=
  ∃ (fd : FuncData) (sp : Sp) (c PT : Addr), h.get? PT = some { cls := .none, data := .fields #[] } ∧ K.lookup PT = none ∧ PySem.W.CodeHd h c PT ∧ (∀ (s : Shared) (u : Value), BindsTo s fd ⟨[u], []⟩ [(x, u)]) ∧
    (∀ (H : Hp) (a : Addr) (ns : List Int), ns.length ≤ n → H PT = some (.tbl #[]) → SqL K H a (ns.map V.int) → sp [.ref a] H (fun v _ => v = .bl true) fun _ _ _ => False) ∧
    ∀ base : Heap, K.In base → base.Ns mainGlobals mg → LamX.TabB base mg c PT → FnG l.prog w K mg base CX0 k fa fd [x] sp
theorem walkG {l : PySem.W.OpenLaw} {n k : Nat} {q : Program} {loose : List Str} {XP : (Str → Option Value) → Heap → Prop} {YP : World → Heap → Prop} {d : DefRec} {K : Params → PySem.W.Frag} {x : Str} (hn : l.most = some n) (big : n ≤ sizeLine) (hdf : d.params.defaults = []) (room : Room k callerA)
    (inK : ∀ (w : World) (h : Heap), YP w h → (K w.params).In h) (F : ∀ (w : World) (mg : Str → Option Value) (fa : Addr) (h : Heap), YP w h → (K w.params).In h → h.Ns mainGlobals mg → mg d.name = some (.ref fa) → LawG l w (K w.params) k n x mg fa h) :
    PySem.W.WalkO q loose XP YP l.row.toRowW d [] (fun f vs => PySem.call f vs) :=
  Att.attach_callB hn hdf fun w s0 s1 mg mb fa o pm cd doc a vs ns G Y _ _ _ gmg gobj gints glen _ gg => by
    have X := inK w _ Y
    obtain ⟨fd, sp, c, PT, w1, w2, w3, w4, w5, w6⟩ := F w mg fa _ Y X G.T.g gmg
    exact runG X G.T.g G.T.b G.T.builtins G.T.nolimit gg w1 w2 w3 G.T.bmain gobj gints (Nat.le_trans glen big) room w6 w4 fun H h1 h2 => w5 H a ns glen h1 h2
/-- what the text says of an error's class, from its single facts -/
theorem errC_mk {K : PySem.W.Frag} {mg : Str → Option Value} {h : Heap} {x : Str} {C CM fI N : Addr} {f : Str} {nm q : Str} {bs : List Value} {sn : List Str} {sub : List Value} {ab : Bool} {col : Option Bool} {dd : Option Addr} {m0 m1 m2 m3 m5 : Option Value} (X : K.In h) (G : h.Ns mainGlobals mg) (gC : PySem.W.nsIn K mainGlobals x = some (some (.ref C)))
    (cl : K.lookup C = some (excClassObj nm q C N bs [.ref CM, .type "ValueError", .type "Exception", .type "BaseException", .type "object"] true sn sub ab col dd m0 m1 m2 m3 m5 "ValueError.__new__"))
    (sa : PySem.W.findIn K (.ref C) "__setattr__" = some (some (.builtin "object.__setattr__"))) (ga : PySem.W.findIn K (.ref C) "__getattribute__" = some (some (.builtin "BaseException.__getattribute__"))) (gg : PySem.W.findIn K (.ref C) "__getattr__" = some none)
    (nf : PySem.W.findIn K (.ref C) f = some none) (ii : PySem.W.findIn K (.ref C) "__init__" = some (some (.ref fI))) (ti : PySem.W.typeIn K (.ref fI) = some (.type "function")) (kC : PySem.W.keepIn K (.ref C) = true) (eC : PySem.W.subIn K (.ref C) (.type "BaseException") = some true)
    (tC : PySem.W.typeIn K (.ref C) = some (.type "type")) (hC : PySem.W.hasDictIn K C = true) (cc : PySem.W.findIn K (.ref C) "__class__" = some (some (.builtin "object.__class__"))) (oo : PySem.W.mroIn K C (.type "object") = some true) : ErrC K mg x C fI f where
  gC := PySem.W.mg_of X G gC
  oex := ⟨⟨nm, q, N, bs, _, sn, sub, ab, col, dd, m0, m1, m2, m3, m5, cl, rfl⟩, sa, eC, tC, kC⟩
  noF := nf
  iC := ii
  tI := ti
  xf := ⟨ga, gg, eC, hC⟩
  cl := cc
  ob := oo
end MT
set_option maxHeartbeats 4000000
namespace K10
open PySem L2 MT RZ


local macro_rules | `(tactic| walk_at "sm") => `(tactic| first | exact Same.refl _ | assumption | exact New.same (by assumption) | exact Same.trans (by assumption) (by walk_at "sm") | exact Same.trans (New.same (by assumption)) (by walk_at "sm"))
local macro_rules | `(tactic| walk_at "fr") => `(tactic| first | exact Frm.refl | assumption | exact frm_same (New.same (by assumption)) | exact frm_same (by assumption) | exact Frm.trans (by assumption) (by walk_at "fr") | exact Frm.trans (frm_same (New.same (by assumption))) (by walk_at "fr") | exact Frm.trans (frm_same (by assumption)) (by walk_at "fr"))
local macro_rules | `(tactic| walk_at "dv") => `(tactic| first | exact Dv.int _ | exact Dv.bl _ | exact Dv.non | exact Dv.str _ | assumption | exact Dv.same (by assumption) (by walk_at "sm") | exact Dv.mono (by assumption) (by walk_at "fr"))
local macro_rules | `(tactic| walk_at "dvs") => `(tactic| first | exact DvAll.nil | exact DvAll.ints _ | (refine DvAll.cons ?_ ?_; walk_at "dv"; walk_at "dvs"))


def spIsBlock (K : PySem.W.Frag) : Sp := fun vs H Q _ => ∃ (M : Addr → Prop) (v : V) (d : PyData), vs = [v] ∧ Dv K M H v d ∧ fewD d ∧ ∀ H', Same H H' → Q (.bl (numbersD d 16 65535)) H'
/-- which part of a head is wrong first -/
def badHead (a b c : PyData) : Option Str := if withinD a (some 1) (some 65535) then (if withinD b (some 0) (some 1) then (if withinD c (some 1) (some 65535) then none else some "first") else some "half") else some "epoch"
def spHeadBlock (K : PySem.W.Frag) (C : Addr) : Sp := fun vs H Q E => ∃ (M : Addr → Prop) (a b c : V) (da db dc : PyData), vs = [a, b, c] ∧ Dv K M H a da ∧ Dv K M H b db ∧ Dv K M H c dc ∧
  (∀ x, badHead da db dc = some x → ∀ d H', New H H' d (.xd [("part", .str x)]) → E (.ref C) (some d) H') ∧
  (badHead da db dc = none → ∀ p H', New H H' p (.tup ([.int 7, a, b, c] ++ List.replicate 12 (.int 0))) → Q (.ref p) H')

theorem nt_true {b : Bool} (h : (!b) = true) : b = false := by cases b with | true => cases h | false => rfl
theorem nt_false {b : Bool} (h : ¬ (!b) = true) : b = true := by cases b with | true => rfl | false => exact absurd rfl h
theorem head_epoch {a b c : PyData} (h : withinD a (some 1) (some 65535) = false) : badHead a b c = some "epoch" := by unfold badHead; rw [h]; rfl
theorem head_half {a b c : PyData} (h : withinD a (some 1) (some 65535) = true) (h2 : withinD b (some 0) (some 1) = false) : badHead a b c = some "half" := by unfold badHead; rw [h, h2]; rfl
theorem head_first {a b c : PyData} (h : withinD a (some 1) (some 65535) = true) (h2 : withinD b (some 0) (some 1) = true) (h3 : withinD c (some 1) (some 65535) = false) : badHead a b c = some "first" := by unfold badHead; rw [h, h2, h3]; rfl
theorem head_good {a b c : PyData} (h : withinD a (some 1) (some 65535) = true) (h2 : withinD b (some 0) (some 1) = true) (h3 : withinD c (some 1) (some 65535) = true) : badHead a b c = none := by unfold badHead; rw [h, h2, h3]; rfl

/-- what a block tells of a head -/
def toldN : List Int → List Int
  | m :: e :: h :: f :: zs => if m ≠ 7 ∨ zs.any (· != 0) = true then [0, 0, 1] else if e = 0 ∨ 1 < h ∨ f = 0 then [0, 0, 1] else [e, h, f]
  | _ => [0, 0, 1]
def spTold (K : PySem.W.Frag) : Sp := fun vs H Q _ => ∃ (M : Addr → Prop) (v : V) (d : PyData) (ns : List Int), vs = [v] ∧ Dv K M H v d ∧ seqD d = some (ns.map PyData.int) ∧ ns.length = 16 ∧
  ∀ p H', Same H H' → SqT K H' p ((toldN ns).map V.int) → Q (.ref p) H'
theorem ints_of_dv {K : PySem.W.Frag} {M : Addr → Prop} {H : Hp} : ∀ {ns : List Int} {xs : List V}, DvAll K M H xs (ns.map PyData.int) → xs = ns.map V.int
  | [], _, .nil => rfl
  | _ :: _, _, .cons (.int _) r => by rw [ints_of_dv r]; rfl
theorem star_mid (x : V) (a b c d : V) (zs : List V) : ((a :: b :: c :: d :: zs).drop 4).take ((a :: b :: c :: d :: zs).length + 1 - 5) = zs := by
  have e : (a :: b :: c :: d :: zs).length + 1 - 5 = zs.length := by simp
  rw [e]
  exact List.take_of_length_le (Nat.le_refl _)
theorem star_all (D : V) (a b c d : V) (zs : List V) : (a :: b :: c :: d :: zs).take 4 ++ [D] ++ ((a :: b :: c :: d :: zs).drop 4).drop ((a :: b :: c :: d :: zs).length + 1 - 5) = [a, b, c, d, D] := by
  have e : (a :: b :: c :: d :: zs).length + 1 - 5 = zs.length := by simp
  rw [e]
  show [a, b, c, d, D] ++ zs.drop zs.length = _
  rw [List.drop_length]
  rfl

theorem ne_of_test {m n : Int} (h : (!decide (V.int m = V.int n)) = true) : m ≠ n := fun e => by rw [decide_eq_true (by rw [e])] at h; cases h
theorem eq_of_test {m n : Int} (h : ¬ (!decide (V.int m = V.int n)) = true) : m = n := by
  by_cases e : m = n
  · exact e
  · exact absurd (by rw [decide_eq_false (fun z => e (V.int.inj z))]; rfl) h
theorem int_of_test {m n : Int} (h : decide (V.int m = V.int n) = true) : m = n := V.int.inj (of_decide_eq_true h)
theorem told_no {m e h f : Int} {zs : List Int} (q : m ≠ 7 ∨ zs.any (· != 0) = true) : toldN (m :: e :: h :: f :: zs) = [0, 0, 1] := if_pos q
theorem told_half {m e h f : Int} {zs : List Int} (q : m = 7) (z : zs.any (· != 0) = false) (r : e = 0 ∨ 1 < h ∨ f = 0) : toldN (m :: e :: h :: f :: zs) = [0, 0, 1] := by
  show (if _ then _ else if _ then _ else _) = _
  rw [if_neg (fun c => c.elim (fun c => c q) (fun c => by rw [z] at c; cases c)), if_pos r]
theorem told_yes {m e h f : Int} {zs : List Int} (q : m = 7) (z : zs.any (· != 0) = false) (r : ¬ (e = 0 ∨ 1 < h ∨ f = 0)) : toldN (m :: e :: h :: f :: zs) = [e, h, f] := by
  show (if _ then _ else if _ then _ else _) = _
  rw [if_neg (fun c => c.elim (fun c => c q) (fun c => by rw [z] at c; cases c)), if_neg r]

theorem told_three (ns : List Int) : ∃ a b c, toldN ns = [a, b, c] := by
  unfold toldN
  split
  · split
    · exact ⟨_, _, _, rfl⟩
    · split
      · exact ⟨_, _, _, rfl⟩
      · exact ⟨_, _, _, rfl⟩
  · exact ⟨_, _, _, rfl⟩
def firstN : List Int → Int
  | a :: _ => a
  | [] => 0
def readN (ns ms : List Int) : List Int := if firstN (toldN ns) < firstN (toldN ms) then toldN ms else toldN ns
theorem blk_ints {d : PyData} (h : numbersD d 16 65535 = true) : ∃ ns : List Int, seqD d = some (ns.map PyData.int) ∧ ns.length = 16 := by
  unfold numbersD at h
  cases e : seqD d with
  | none => rw [e] at h; cases h
  | some ds =>
    rw [e] at h
    have h : (decide ((ds.length : Int) = 16) && ds.all (fun x => withinD x (some 0) (some 65535))) = true := h
    rw [Bool.and_eq_true] at h
    have hi := within_ints h.2
    have key : ∀ ds : List PyData, ds.all isIntD = true → ∃ ns : List Int, ds = ns.map PyData.int := by
      intro ds
      induction ds with
      | nil => intro _; exact ⟨[], rfl⟩
      | cons d r ih =>
        intro q
        rw [List.all_cons, Bool.and_eq_true] at q
        obtain ⟨i, rfl⟩ := isInt_eq q.1
        obtain ⟨ns, rfl⟩ := ih q.2
        exact ⟨i :: ns, rfl⟩
    obtain ⟨ns, rfl⟩ := key ds hi
    refine ⟨ns, rfl, ?_⟩
    have q := of_decide_eq_true h.1
    rw [List.length_map] at q
    omega
def spReadHeads (K : PySem.W.Frag) (C : Addr) : Sp := fun vs H Q E => ∃ (M : Addr → Prop) (a b : V) (da db : PyData), vs = [a, b] ∧ Dv K M H a da ∧ Dv K M H b db ∧ fewD da ∧ fewD db ∧
  (∀ x, (if numbersD da 16 65535 then (if numbersD db 16 65535 then none else some "other") else some "one") = some x → ∀ d H', New H H' d (.xd [("part", .str x)]) → E (.ref C) (some d) H') ∧
  (numbersD da 16 65535 = true → numbersD db 16 65535 = true → ∀ ns ms : List Int, seqD da = some (ns.map PyData.int) → ns.length = 16 → seqD db = some (ms.map PyData.int) → ms.length = 16 → ∀ p H', Same H H' → SqT K H' p ((readN ns ms).map V.int) → Q (.ref p) H')
theorem new_after {H H1 H2 : Hp} {d : Addr} {o : HO} (e : Same H H1) (n : New H1 H2 d o) : New H H2 d o := ⟨e.trans n.1, n.2.1, e.free n.2.2⟩

theorem ints_eq {K : PySem.W.Frag} {H : Hp} {p l : Addr} {cs : List Int} {Q : VK} (hp : SqL K H p (cs.map V.int)) (hl : SqL K H l []) (q : Q (.bl cs.isEmpty) H) : rEqD K (.ref p) (.ref l) H Q :=
  ⟨.list (cs.map .int), .list [], .lst hp (dp_ints cs), .lst hl .nil, shaped_ints cs, shaped_ints [], by cases cs <;> exact q⟩

/-- the law's own look at a block -/
def headN : List Int → Option (List Int)
  | m :: e :: h :: f :: zs => if m ≠ 7 ∨ e < 1 ∨ 1 < h ∨ f < 1 ∨ zs ≠ List.replicate 12 0 then none else some [e, h, f]
  | _ => none
def Tv (K : PySem.W.Frag) (H : Hp) (v : V) (o : Option (List Int)) : Prop := (o = none ∧ v = .non) ∨ ∃ l t, o = some l ∧ v = .ref t ∧ SqT K H t (l.map V.int)
def spHead (K : PySem.W.Frag) : Sp := fun vs H Q _ => ∃ (p : Addr) (ns : List Int), vs = [.ref p] ∧ SqL K H p (ns.map V.int) ∧ ns.length = 16 ∧
  ∀ v H', Same H H' → Tv K H' v (headN ns) → Q v H'
theorem head_no {m e h f : Int} {zs : List Int} (q : m ≠ 7 ∨ e < 1 ∨ 1 < h ∨ f < 1 ∨ zs ≠ List.replicate 12 0) : headN (m :: e :: h :: f :: zs) = none := if_pos q
theorem head_yes {m e h f : Int} {zs : List Int} (q : ¬ (m ≠ 7 ∨ e < 1 ∨ 1 < h ∨ f < 1 ∨ zs ≠ List.replicate 12 0)) : headN (m :: e :: h :: f :: zs) = some [e, h, f] := if_neg q
theorem ne_ints {K : PySem.W.Frag} {H : Hp} {p l : Addr} {ns ms : List Int} {Q : VK} (hp : SqL K H p (ns.map V.int)) (hl : SqL K H l (ms.map V.int)) (q : Q (.bl (!decide (ns = ms))) H) : rNeD K (.ref p) (.ref l) H Q :=
  ⟨.list (ns.map .int), .list (ms.map .int), .lst hp (dp_ints ns), .lst hl (dp_ints ms), shaped_ints ns, shaped_ints ms, by
    have e : PyData.eqv (.list (ns.map .int)) (.list (ms.map .int)) = decide (ns = ms) := by simp only [PyData.eqv, eqv_ints]
    exact e ▸ q⟩
theorem cut_mid {xs : List V} {a b : Nat} (h : b ≤ xs.length) (ha : a ≤ b) : cutV xs (some (a : Int)) (some (b : Int)) = (xs.drop a).take (b - a) := by
  unfold cutV
  rw [HT.sIx_nat, HT.sIx_nat, Nat.min_eq_left h, Nat.min_eq_left (Nat.le_trans ha h)]
theorem cut_from {xs : List V} {k : Nat} (h : k ≤ xs.length) : cutV xs (some (k : Int)) none = xs.drop k := by
  unfold cutV
  rw [HT.sIx_none, HT.sIx_nat, Nat.min_eq_left h, List.take_of_length_le (by rw [List.length_drop]; exact Nat.le_refl _)]

def spToldL (K : PySem.W.Frag) : Sp := fun vs H Q _ => ∃ (a b : Addr) (cs : List Int) (n : Nat), vs = [.ref a] ∧ Sx a b cs n H ∧ n ≤ 900000 ∧
  ∀ H' p e h f, Frm (· = a) H H' → Sx a b cs (n + 5) H' → SqT K H' p [.int e, .int h, .int f] → p ≠ a → 1 ≤ e → e ≤ 65535 → 0 ≤ h → h ≤ 1 → 1 ≤ f → f ≤ 65535 → Q (.ref p) H'

def okB (ns : List Int) : Prop := ns.length = 16 ∧ ∀ z ∈ ns, 0 ≤ z ∧ z ≤ 65535
theorem okB_rep {e : Int} (h0 : 0 ≤ e) (h1 : e ≤ 65535) : okB (List.replicate 16 e) := ⟨List.length_replicate, fun z hz => by rw [List.eq_of_mem_replicate hz]; exact ⟨h0, h1⟩⟩
theorem okB_set {ns : List Int} (h : okB ns) {y : Int} (h0 : 0 ≤ y) (h1 : y ≤ 65535) (j : Nat) : okB (ns.set j y) := ⟨by rw [List.length_set]; exact h.1, fun z hz => by
  rcases List.mem_or_eq_of_mem_set hz with h2 | h2
  · exact h.2 z h2
  · rw [h2]; exact ⟨h0, h1⟩⟩
theorem rep_one (k : Nat) (e : Int) : (List.replicate k [V.int e]).flatten = (List.replicate k e).map V.int := by
  induction k with
  | zero => rfl
  | succ k ih => rw [List.replicate_succ, List.flatten_cons, ih]; rfl
theorem Frm_free {a p : Addr} {H H' : Hp} {o : HO} (F : Frm (· = a) H H') (ha : H a = some o) {o' : HO} (ha' : H' a = some o') (h : H' p = none) : H p = none := by
  cases e : H p with
  | none => rfl
  | some u =>
    have ne : p ≠ a := fun z => by rw [z, ha'] at h; cases h
    rw [F p u ne e] at h
    cases h
def spBlockL : Sp := fun vs H Q _ => ∃ (a b : Addr) (cs : List Int) (n : Nat), vs = [.ref a] ∧ Sx a b cs n H ∧ n ≤ 900000 ∧
  ∀ H' p ns, Frm (· = a) H H' → Sx a b cs (n + 9) H' → H' p = some (.lst (ns.map V.int)) → H p = none → okB ns → Q (.ref p) H'

def dueOne (found : List Int) (ns : List Int) : List Int := match headN ns with
  | some l => if firstN found < firstN l then l else found
  | none => found
def dueN (ns ms : List Int) : List Int := dueOne (dueOne [0, 0, 1] ns) ms
theorem head_three {ns l : List Int} (h : headN ns = some l) : ∃ a b c, l = [a, b, c] := by
  unfold headN at h
  split at h
  · split at h
    · cases h
    · cases h
      exact ⟨_, _, _, rfl⟩
  · cases h
theorem any_zero : ∀ {zs : List Int} {n : Nat}, zs.length = n → (zs.any (· != 0) = true ↔ zs ≠ List.replicate n 0)
  | [], 0, _ => by simp
  | z :: r, n + 1, h => by
    have ih := any_zero (zs := r) (n := n) (by simpa using h)
    rw [List.any_cons, Bool.or_eq_true, ih, List.replicate_succ]
    by_cases e : z = 0
    · subst e
      simp
    · simp [e]
/-- the two looks agree on a block -/
theorem head_told {ns : List Int} (h : okB ns) : (headN ns = none ∧ toldN ns = [0, 0, 1]) ∨ ∃ e x y, headN ns = some [e, x, y] ∧ toldN ns = [e, x, y] ∧ 1 ≤ e := by
  obtain ⟨hl, hb⟩ := h
  match ns, hl, hb with
  | m :: e :: x :: y :: zs, hl, hb =>
    have be := hb e (by simp)
    have bx := hb x (by simp)
    have b_y := hb y (by simp)
    have hz : zs.length = 12 := by simpa using hl
    have az := any_zero (n := 12) hz
    by_cases c : m ≠ 7 ∨ e < 1 ∨ 1 < x ∨ y < 1 ∨ zs ≠ List.replicate 12 0
    · refine .inl ⟨head_no c, ?_⟩
      by_cases c1 : m ≠ 7 ∨ zs.any (· != 0) = true
      · exact told_no c1
      · have m7 : m = 7 := by
          by_cases q : m = 7
          · exact q
          · exact absurd (.inl q) c1
        have z0 : zs.any (· != 0) = false := by cases q : zs.any (· != 0) with | true => exact absurd (.inr q) c1 | false => rfl
        refine told_half m7 z0 ?_
        rcases c with c | c | c | c | c
        · exact absurd m7 c
        · exact .inl (by omega)
        · exact .inr (.inl c)
        · exact .inr (.inr (by omega))
        · have := az.mpr c; rw [z0] at this; cases this
    · refine .inr ⟨e, x, y, head_yes c, ?_, ?_⟩
      · have m7 : m = 7 := by
          by_cases q : m = 7
          · exact q
          · exact absurd (.inl q) c
        have z0 : zs.any (· != 0) = false := by cases q : zs.any (· != 0) with | true => exact absurd (.inr (.inr (.inr (.inr (az.mp q))))) c | false => rfl
        refine told_yes m7 z0 ?_
        rintro (q | q | q)
        · exact c (.inr (.inl (by omega)))
        · exact c (.inr (.inr (.inl q)))
        · exact c (.inr (.inr (.inr (.inl (by omega)))))
      · by_cases q : e < 1
        · exact absurd (.inr (.inl q)) c
        · omega
theorem due_read {ns ms : List Int} (hn : okB ns) (hm : okB ms) : dueN ns ms = readN ns ms := by
  unfold dueN readN dueOne
  rcases head_told hn with ⟨h1, t1⟩ | ⟨e, x, y, h1, t1, q1⟩
  · rcases head_told hm with ⟨h2, t2⟩ | ⟨e2, x2, y2, h2, t2, q2⟩
    · rw [h1, h2, t1, t2]; try rfl
    · rw [h1, h2, t1, t2]; try rfl
  · have c1 : firstN [0, 0, 1] < firstN [e, x, y] := by show (0 : Int) < e; omega
    rcases head_told hm with ⟨h2, t2⟩ | ⟨e2, x2, y2, h2, t2, q2⟩
    · have c2 : ¬ firstN [e, x, y] < firstN [0, 0, 1] := by show ¬ e < (0 : Int); omega
      rw [h1, h2, t1, t2, if_neg c2]
      exact if_pos c1
    · rw [h1, h2, t1, t2]
      show (if firstN (if _ then _ else _) < _ then _ else (if _ then _ else _)) = _
      rw [if_pos c1]
def spDue (K : PySem.W.Frag) : Sp := fun vs H Q _ => ∃ (p q : Addr) (ns ms : List Int), vs = [.ref p, .ref q] ∧ SqL K H p (ns.map V.int) ∧ SqL K H q (ms.map V.int) ∧ ns.length = 16 ∧ ms.length = 16 ∧
  ∀ t H', Same H H' → SqT K H' t ((dueN ns ms).map V.int) → Q (.ref t) H'

def afterN (ns ms : List Int) : Nat → List Int
  | 0 => [0, 0, 1]
  | 1 => dueOne [0, 0, 1] ns
  | _ => dueN ns ms
theorem due_none {f ns : List Int} (h : headN ns = none) : dueOne f ns = f := by unfold dueOne; rw [h]
theorem due_some {f ns l : List Int} (h : headN ns = some l) : dueOne f ns = if firstN f < firstN l then l else f := by unfold dueOne; rw [h]

/-- what _law_heard makes of the reading of ask -/
def TTh (CN CB : Addr) : (XK → Hp → VK → Prop) → Hp → VK → Prop := fun tl H Q =>
  tl (fun cls d H' => ∃ (C : Addr) (nm : Str) (dd : Addr) (pv : V), ((C = CN ∧ nm = "number") ∨ (C = CB ∧ nm = "block")) ∧ cls = .ref C ∧ d = some dd ∧ H' dd = some (.xd [("part", pv)]) ∧
    ∀ p H'', New H' H'' p (.tup [.str nm, pv]) → Q (.ref p) H'') H (fun _ H' => Q .non H')

abbrev lamQ : Str := (("_law_refused_right" : Str) ++ ".<locals>.") ++ "<lambda>"
def spRefused (K : PySem.W.Frag) (PT : Addr) : Sp := fun vs H Q _ => ∃ (a b : Addr) (cs : List Int) (n : Nat), vs = [.ref a] ∧ Sx a b cs n H ∧ n ≤ 900000 ∧ H PT = some (.tbl #[]) ∧ ∀ H', Q (.bl true) H'
theorem spRefused_len {K : PySem.W.Frag} {PT : Addr} : ∀ vs H Q E, spRefused K PT vs H Q E → vs.length = 1 := fun vs H Q E h => by
  obtain ⟨a, b, cs, n, rfl, _⟩ := h
  rfl

theorem shownAll_ints : ∀ ns : List Int, PyData.shownAll (ns.map PyData.int) = ns.map fun i => (toString i : Str)
  | [] => by simp [PyData.shownAll]
  | n :: r => by
    rw [List.map_cons, List.map_cons, PyData.shownAll, shownAll_ints r]
    rfl
theorem showable_ints : ∀ ns : List Int, (∀ z ∈ ns, 0 ≤ z ∧ z ≤ 65535) → PyData.showableAll (ns.map PyData.int) = true
  | [], _ => by simp [PyData.showableAll]
  | n :: r, h => by
    have hn := h n (by simp)
    rw [List.map_cons, PyData.showableAll, showable_ints r (fun z hz => h z (by simp [hz]))]
    have : n.natAbs.log2 < 1920 := Nat.lt_of_lt_of_le (PySem.Flt.log2_lt_of (k := 100) (by decide) (by omega)) (by decide)
    simp [PyData.showable, this]
theorem sum_ints : ∀ ns : List Int, (∀ z ∈ ns, 0 ≤ z ∧ z ≤ 65535) → ((ns.map fun i => (toString i : Str)).map (·.length)).sum ≤ 1921 * ns.length
  | [], _ => by simp
  | n :: r, h => by
    have hn := h n (by simp)
    have ih := sum_ints r (fun z hz => h z (by simp [hz]))
    have : n.natAbs.log2 < 1920 := Nat.lt_of_lt_of_le (PySem.Flt.log2_lt_of (k := 100) (by decide) (by omega)) (by decide)
    have h1 := PyProof.Rows.int_text_len_1921 this
    rw [List.map_cons, List.map_cons, List.sum_cons, List.length_cons]
    have h2 : ((toString n : Str)).length ≤ 1921 := h1
    omega
/-- a tuple of small integers can be shown -/
theorem rp {K : PySem.W.Frag} {H : Hp} {p : Addr} {ns : List Int} (hp : SqT K H p (ns.map V.int)) (hb : ∀ z ∈ ns, 0 ≤ z ∧ z ≤ 65535) (hl : ns.length ≤ 16) :
    Dp K H (.ref p) (.tuple (ns.map PyData.int)) ∧ (PyData.tuple (ns.map PyData.int)).showable = true ∧ (PyData.tuple (ns.map PyData.int)).hasDict = false ∧ (PyData.tuple (ns.map PyData.int)).depth ≤ 64 ∧ (PyData.tuple (ns.map PyData.int)).shown.length ≤ sizeLine := by
  obtain ⟨c1, c2⟩ := tame_seq (tame_ints ns)
  refine ⟨.tup hp (dp_ints ns), ?_, PyData.hasDict_of_canLay _ (by simp only [PyData.canLay0, c1]), by simp only [PyData.depth]; omega, ?_⟩
  · simp only [PyData.showable]
    exact showable_ints ns hb
  · simp only [PyData.shown]
    rw [shownAll_ints]
    have h1 := PySem.tupleText_len_le (ns.map fun i => (toString i : Str))
    have h2 := sum_ints ns hb
    rw [List.length_map] at h1
    rw [sizeLine_eq]
    omega
/-- .. by a text that is not looked into -/
theorem rp_all : ∃ S : List Int → Str, ∀ {K : PySem.W.Frag} {H : Hp} {p : Addr} {ns : List Int}, SqT K H p (ns.map V.int) → (∀ z ∈ ns, 0 ≤ z ∧ z ≤ 65535) → ns.length ≤ 16 →
    ∃ d : PyData, Dp K H (.ref p) d ∧ d.showable = true ∧ d.hasDict = false ∧ d.depth ≤ 64 ∧ d.shown.length ≤ sizeLine ∧ d.shown = S ns :=
  ⟨fun ns => (PyData.tuple (ns.map PyData.int)).shown, fun hp hb hl => by
    obtain ⟨y1, y2, y3, y4, y5⟩ := rp hp hb hl
    exact ⟨_, y1, y2, y3, y4, y5, rfl⟩⟩
theorem told_bd {ns : List Int} (h : okB ns) : ∀ z ∈ toldN ns, 0 ≤ z ∧ z ≤ 65535 := by
  have zero : ∀ z : Int, z ∈ ([0, 0, 1] : List Int) → 0 ≤ z ∧ z ≤ 65535 := by
    intro z hz
    simp only [List.mem_cons, List.not_mem_nil, or_false] at hz
    omega
  obtain ⟨hl, hb⟩ := h
  intro z hz
  unfold toldN at hz
  split at hz
  · split at hz
    · exact zero z hz
    · split at hz
      · exact zero z hz
      · simp only [List.mem_cons, List.not_mem_nil, or_false] at hz
        exact hb z (by rcases hz with rfl | rfl | rfl <;> simp)
  · exact zero z hz
theorem read_bd {ns ms : List Int} (hn : okB ns) (hm : okB ms) : ∀ z ∈ readN ns ms, 0 ≤ z ∧ z ≤ 65535 := by
  unfold readN
  split
  · exact told_bd hm
  · exact told_bd hn
theorem read_len (ns ms : List Int) : (readN ns ms).length ≤ 16 := by
  unfold readN
  split
  · obtain ⟨a, b, c, e⟩ := told_three ms; rw [e]; show 3 ≤ 16; decide
  · obtain ⟨a, b, c, e⟩ := told_three ns; rw [e]; show 3 ≤ 16; decide
theorem ne_tups {K : PySem.W.Frag} {H : Hp} {p l : Addr} {ns : List Int} {Q : VK} (hp : SqT K H p (ns.map V.int)) (hl : SqT K H l (ns.map V.int)) (q : Q (.bl false) H) : rNeD K (.ref p) (.ref l) H Q := by
  have t := shaped_tup (tame_ints ns)
  refine ⟨.tuple (ns.map .int), .tuple (ns.map .int), .tup hp (dp_ints ns), .tup hl (dp_ints ns), t, t, ?_⟩
  have e : PyData.eqv (.tuple (ns.map .int)) (.tuple (ns.map .int)) = true := by simp only [PyData.eqv, eqv_ints, decide_true]
  rw [e]
  exact q
theorem ints_inj : ∀ {ns ms : List Int}, ns.map PyData.int = ms.map PyData.int → ns = ms
  | [], [], _ => rfl
  | [], _ :: _, h => by cases h
  | _ :: _, [], h => by cases h
  | n :: r, m :: t, h => by
    rw [List.map_cons, List.map_cons] at h
    injection h with h1 h2
    injection h1 with h1
    rw [h1, ints_inj h2]
theorem wi {i l u : Int} (h1 : l ≤ i) (h2 : i ≤ u) : withinD (.int i) (some l) (some u) = true := by
  show (decide (l ≤ i) && decide (i ≤ u)) = true
  rw [decide_eq_true h1, decide_eq_true h2]
  rfl
theorem few_ints {ns : List Int} (h : ns.length = 16) : ∀ d, seqD d = some (ns.map PyData.int) → fewD d := fun d e ds q => by
  rw [e] at q
  cases q
  rw [List.length_map, h]
  decide
theorem num_ok {ns : List Int} (h : okB ns) : ∀ d, seqD d = some (ns.map PyData.int) → numbersD d 16 65535 = true := fun d e => by
  unfold numbersD
  rw [e]
  show (decide (((ns.map PyData.int).length : Int) = 16) && (ns.map PyData.int).all (fun x => withinD x (some 0) (some 65535))) = true
  rw [List.length_map, h.1, List.all_map]
  have : ns.all ((fun x => withinD x (some 0) (some 65535)) ∘ PyData.int) = true := by
    rw [List.all_eq_true]
    intro z hz
    exact wi (h.2 z hz).1 (h.2 z hz).2
  rw [this]
  rfl
theorem ne_data {K : PySem.W.Frag} {M : Addr → Prop} {H : Hp} {v u : V} {ns ms : List Int} {Q : VK} (hv : Dv K M H v (.list [.list (ns.map .int), .tuple (ms.map .int)])) (hu : Dv K M H u (.list [.list (ns.map .int), .tuple (ms.map .int)])) (q : Q (.bl false) H) : rNeD K v u H Q := by
  obtain ⟨c1, c2⟩ := tame_seq (tame_ints ns)
  obtain ⟨c3, c4⟩ := tame_seq (tame_ints ms)
  have lay : PyData.canLay0 (.list [.list (ns.map .int), .tuple (ms.map .int)]) = true := by simp [PyData.canLay0, PyData.canLayAll0, c1, c3]
  have sh : SeqAt.shaped (.list [.list (ns.map .int), .tuple (ms.map .int)]) = true := by
    unfold SeqAt.shaped
    rw [lay, Bool.true_and]
    exact decide_eq_true (by simp only [PyData.depth, PyData.depthAll]; omega)
  have e : PyData.eqv (.list [.list (ns.map .int), .tuple (ms.map .int)]) (.list [.list (ns.map .int), .tuple (ms.map .int)]) = true := by simp [PyData.eqv, PyData.eqvAll, eqv_ints]
  exact ⟨_, _, Dv.dp _ _ hv lay, Dv.dp _ _ hu lay, sh, sh, by rw [e]; exact q⟩
def spLawG (K : PySem.W.Frag) (PT : Addr) : Sp := fun vs H Q _ => ∃ (a : Addr) (ns : List Int), vs = [.ref a] ∧ SqL K H a (ns.map V.int) ∧ ns.length ≤ 63 ∧ H PT = some (.tbl #[]) ∧ ∀ H', Q (.bl true) H'

def top (i : Nat) : Stmt := PySem.Challenge.pw_meettrees_k10_heads_that_hold.main.body.getD i (.Pass ⟨0, 0, 0, 0⟩)
abbrev s_is_list : Stmt := top 1
abbrev sl_is_list : List Str := ["value"]
theorem sc_is_list : FnScope sl_is_list ["value"] (defScope s_is_list) := ⟨rfl, rfl, rfl, by decide +kernel, rfl, by decide +kernel, by decide +kernel⟩
abbrev s_is_integer : Stmt := top 2
abbrev sl_is_integer : List Str := ["value"]
theorem sc_is_integer : FnScope sl_is_integer ["value"] (defScope s_is_integer) := ⟨rfl, rfl, rfl, by decide +kernel, rfl, by decide +kernel, by decide +kernel⟩
abbrev s_is_within : Stmt := top 3
abbrev sl_is_within : List Str := ["value", "least", "most"]
theorem sc_is_within : FnScope sl_is_within ["value", "least", "most"] (defScope s_is_within) := ⟨rfl, rfl, rfl, by decide +kernel, rfl, by decide +kernel, by decide +kernel⟩
abbrev s_is_numbers : Stmt := top 4
abbrev sl_is_numbers : List Str := ["value", "many", "most", "part"]
theorem sc_is_numbers : FnScope sl_is_numbers ["value", "many", "most"] (defScope s_is_numbers) := ⟨rfl, rfl, rfl, by decide +kernel, rfl, by decide +kernel, by decide +kernel⟩
abbrev s_is_block : Stmt := top 8
abbrev sl_is_block : List Str := ["value"]
theorem sc_is_block : FnScope sl_is_block ["value"] (defScope s_is_block) := ⟨rfl, rfl, rfl, by decide +kernel, rfl, by decide +kernel, by decide +kernel⟩
abbrev s_head_block : Stmt := top 17
abbrev sl_head_block : List Str := ["epoch", "half", "first"]
theorem sc_head_block : FnScope sl_head_block ["epoch", "half", "first"] (defScope s_head_block) := ⟨rfl, rfl, rfl, by decide +kernel, rfl, by decide +kernel, by decide +kernel⟩
abbrev s_read_heads : Stmt := top 18
abbrev sl_read_heads : List Str := ["one", "other", "mine", "its"]
theorem sc_read_heads : FnScope sl_read_heads ["one", "other"] (defScope s_read_heads) := ⟨rfl, rfl, rfl, by decide +kernel, rfl, by decide +kernel, by decide +kernel⟩
abbrev s_told_by : Stmt := top 19
abbrev sl_told_by : List Str := ["block", "mark", "epoch", "half", "first", "zeros"]
theorem sc_told_by : FnScope sl_told_by ["block"] (defScope s_told_by) := ⟨rfl, rfl, rfl, by decide +kernel, rfl, by decide +kernel, by decide +kernel⟩
abbrev s__law_prow : Stmt := top 21
abbrev sl__law_prow : List Str := ["script", "cell"]
theorem sc__law_prow : FnScope sl__law_prow ["script"] (defScope s__law_prow) := ⟨rfl, rfl, rfl, by decide +kernel, rfl, by decide +kernel, by decide +kernel⟩
abbrev s__law_steer : Stmt := top 22
abbrev sl__law_steer : List Str := ["prow", "many", "rest", "turn", "cell", "mixed"]
theorem sc__law_steer : FnScope sl__law_steer ["prow", "many"] (defScope s__law_steer) := ⟨rfl, rfl, rfl, by decide +kernel, rfl, by decide +kernel, by decide +kernel⟩
abbrev s__law_pick : Stmt := top 23
abbrev sl__law_pick : List Str := ["prow", "some"]
theorem sc__law_pick : FnScope sl__law_pick ["prow", "some"] (defScope s__law_pick) := ⟨rfl, rfl, rfl, by decide +kernel, rfl, by decide +kernel, by decide +kernel⟩
abbrev s__law_head : Stmt := top 24
abbrev sl__law_head : List Str := ["block"]
theorem sc__law_head : FnScope sl__law_head ["block"] (defScope s__law_head) := ⟨rfl, rfl, rfl, by decide +kernel, rfl, by decide +kernel, by decide +kernel⟩
abbrev s__law_told : Stmt := top 25
abbrev sl__law_told : List Str := ["prow", "epoch"]
theorem sc__law_told : FnScope sl__law_told ["prow"] (defScope s__law_told) := ⟨rfl, rfl, rfl, by decide +kernel, rfl, by decide +kernel, by decide +kernel⟩
abbrev s__law_block : Stmt := top 26
abbrev sl__law_block : List Str := ["prow", "epoch", "half", "first", "block", "way", "spot"]
theorem sc__law_block : FnScope sl__law_block ["prow"] (defScope s__law_block) := ⟨rfl, rfl, rfl, by decide +kernel, rfl, by decide +kernel, by decide +kernel⟩
abbrev s__law_due : Stmt := top 27
abbrev sl__law_due : List Str := ["one", "other", "found", "told"]
theorem sc__law_due : FnScope sl__law_due ["one", "other"] (defScope s__law_due) := ⟨rfl, rfl, rfl, by decide +kernel, rfl, by decide +kernel, by decide +kernel⟩
abbrev s__law_heard : Stmt := top 28
abbrev sl__law_heard : List Str := ["ask", "heard", "error"]
theorem sc__law_heard : FnScope sl__law_heard ["ask"] (defScope s__law_heard) := ⟨rfl, rfl, rfl, by decide +kernel, rfl, by decide +kernel, by decide +kernel⟩
abbrev s__law_refused_right : Stmt := top 29
abbrev sl__law_refused_right : List Str := ["prow", "epoch", "half", "first", "odd", "good", "heard"]
theorem sc__law_refused_right : FnScope sl__law_refused_right ["prow"] (defScope s__law_refused_right) := ⟨rfl, rfl, rfl, by decide +kernel, rfl, by decide +kernel, by decide +kernel⟩
abbrev s_law : Stmt := top 30
abbrev sl_law : List Str := ["script", "prow", "turn", "epoch", "half", "first", "told", "one", "other", "passed"]
theorem sc_law : FnScope sl_law ["script"] (defScope s_law) := ⟨rfl, rfl, rfl, by decide +kernel, rfl, by decide +kernel, by decide +kernel⟩
abbrev s_BadNumber : Stmt := (clsBody (top 11)).getD 0 (.Pass ⟨0, 0, 0, 0⟩)
theorem sc_BadNumber : FnScope ["self", "part"] ["self", "part"] (defScope s_BadNumber) := ⟨rfl, rfl, rfl, by decide +kernel, rfl, by decide +kernel, by decide +kernel⟩
abbrev s_BadBlock : Stmt := (clsBody (top 12)).getD 0 (.Pass ⟨0, 0, 0, 0⟩)
theorem sc_BadBlock : FnScope ["self", "part"] ["self", "part"] (defScope s_BadBlock) := ⟨rfl, rfl, rfl, by decide +kernel, rfl, by decide +kernel, by decide +kernel⟩
def g_read_heads_other_one {α : Type} : List α → List α → List α
  | [], [w0, w1] => [w1, w0]
  | _, _ => []
def g_head_block_first_half_epoch {α : Type} : List α → List α → List α
  | [], [w0, w1, w2] => [w2, w1, w0]
  | _, _ => []
structure Txt (K : PySem.W.Frag) (mg : Str → Option Value) (fa : Nat → Addr) (fd : Nat → FuncData) : Prop where
  F_is_list : Fun K "is_list" "is_list" s_is_list (fa 1) (fd 1)
  g_is_list : mg "is_list" = some (.ref (fa 1))
  b_is_list : Binds K (fd 1) ["value"] []
  F_is_integer : Fun K "is_integer" "is_integer" s_is_integer (fa 2) (fd 2)
  g_is_integer : mg "is_integer" = some (.ref (fa 2))
  b_is_integer : Binds K (fd 2) ["value"] []
  F_is_within : Fun K "is_within" "is_within" s_is_within (fa 3) (fd 3)
  g_is_within : mg "is_within" = some (.ref (fa 3))
  b_is_within : Binds K (fd 3) ["value", "least", "most"] []
  F_is_numbers : Fun K "is_numbers" "is_numbers" s_is_numbers (fa 4) (fd 4)
  g_is_numbers : mg "is_numbers" = some (.ref (fa 4))
  b_is_numbers : Binds K (fd 4) ["value", "many", "most"] []
  F_is_block : Fun K "is_block" "is_block" s_is_block (fa 8) (fd 8)
  g_is_block : mg "is_block" = some (.ref (fa 8))
  b_is_block : Binds K (fd 8) ["value"] []
  F_head_block : Fun K "head_block" "head_block" s_head_block (fa 17) (fd 17)
  g_head_block : mg "head_block" = some (.ref (fa 17))
  b_head_block : Binds K (fd 17) ["epoch", "half", "first"] []
  F_read_heads : Fun K "read_heads" "read_heads" s_read_heads (fa 18) (fd 18)
  g_read_heads : mg "read_heads" = some (.ref (fa 18))
  b_read_heads : Binds K (fd 18) ["one", "other"] []
  F_told_by : Fun K "told_by" "told_by" s_told_by (fa 19) (fd 19)
  g_told_by : mg "told_by" = some (.ref (fa 19))
  b_told_by : Binds K (fd 19) ["block"] []
  F__law_prow : Fun K "_law_prow" "_law_prow" s__law_prow (fa 21) (fd 21)
  g__law_prow : mg "_law_prow" = some (.ref (fa 21))
  b__law_prow : Binds K (fd 21) ["script"] []
  F__law_steer : Fun K "_law_steer" "_law_steer" s__law_steer (fa 22) (fd 22)
  g__law_steer : mg "_law_steer" = some (.ref (fa 22))
  b__law_steer : Binds K (fd 22) ["prow", "many"] []
  F__law_pick : Fun K "_law_pick" "_law_pick" s__law_pick (fa 23) (fd 23)
  g__law_pick : mg "_law_pick" = some (.ref (fa 23))
  b__law_pick : Binds K (fd 23) ["prow", "some"] []
  F__law_head : Fun K "_law_head" "_law_head" s__law_head (fa 24) (fd 24)
  g__law_head : mg "_law_head" = some (.ref (fa 24))
  b__law_head : Binds K (fd 24) ["block"] []
  F__law_told : Fun K "_law_told" "_law_told" s__law_told (fa 25) (fd 25)
  g__law_told : mg "_law_told" = some (.ref (fa 25))
  b__law_told : Binds K (fd 25) ["prow"] []
  F__law_block : Fun K "_law_block" "_law_block" s__law_block (fa 26) (fd 26)
  g__law_block : mg "_law_block" = some (.ref (fa 26))
  b__law_block : Binds K (fd 26) ["prow"] []
  F__law_due : Fun K "_law_due" "_law_due" s__law_due (fa 27) (fd 27)
  g__law_due : mg "_law_due" = some (.ref (fa 27))
  b__law_due : Binds K (fd 27) ["one", "other"] []
  F__law_heard : Fun K "_law_heard" "_law_heard" s__law_heard (fa 28) (fd 28)
  g__law_heard : mg "_law_heard" = some (.ref (fa 28))
  b__law_heard : Binds K (fd 28) ["ask"] []
  F__law_refused_right : Fun K "_law_refused_right" "_law_refused_right" s__law_refused_right (fa 29) (fd 29)
  g__law_refused_right : mg "_law_refused_right" = some (.ref (fa 29))
  b__law_refused_right : Binds K (fd 29) ["prow"] []
  F_law : Fun K "law" "law" s_law (fa 30) (fd 30)
  g_law : mg "law" = some (.ref (fa 30))
  b_law : Binds K (fd 30) ["script"] []
  kb_read_heads_other_one : KBn K (fd 18) ["one", "other"] 0 ["other", "one"] (fun us ws => g_read_heads_other_one us ws) (fun us ws => g_read_heads_other_one us ws)
  kb_head_block_first_half_epoch : KBn K (fd 17) ["epoch", "half", "first"] 0 ["first", "half", "epoch"] (fun us ws => g_head_block_first_half_epoch us ws) (fun us ws => g_head_block_first_half_epoch us ws)
  E_BadNumber : ErrC K mg "BadNumber" (fa 11) (fa 111) "part"
  F_BadNumber : Fun K "__init__" "BadNumber.__init__" s_BadNumber (fa 111) (fd 111)
  b_BadNumber : Binds K (fd 111) ["self", "part"] []
  E_BadBlock : ErrC K mg "BadBlock" (fa 12) (fa 112) "part"
  F_BadBlock : Fun K "__init__" "BadBlock.__init__" s_BadBlock (fa 112) (fd 112)
  b_BadBlock : Binds K (fd 112) ["self", "part"] []
  M_MeetError : mg "MeetError" = some (.ref (fa 10))
  X_BadNumber : ExcC K (fa 11)
  exm_BadNumber_MeetError : PySem.W.exmOne K (.ref (fa 11)) (.ref (fa 10)) = some true
  kit_BadNumber_BadBlock : PySem.W.kitOne K (.ref (fa 11)) (.ref (fa 12)) = some false
  X_BadBlock : ExcC K (fa 12)
  exm_BadBlock_MeetError : PySem.W.exmOne K (.ref (fa 12)) (.ref (fa 10)) = some true
  kit_BadBlock_BadNumber : PySem.W.kitOne K (.ref (fa 12)) (.ref (fa 11)) = some false
  n_abs : mg "abs" = none
  n_all : mg "all" = none
  n_any : mg "any" = none
  n_bool : mg "bool" = none
  n_int : mg "int" = none
  n_isinstance : mg "isinstance" = none
  n_len : mg "len" = none
  n_list : mg "list" = none
  n_range : mg "range" = none
  n_repr : mg "repr" = none
  n_tuple : mg "tuple" = none
  c_BLOCK_SIZE : ∃ u, mg "BLOCK_SIZE" = some u ∧ RelV (.int 16) u
  c_MOST_NUMBER : ∃ u, mg "MOST_NUMBER" = some u ∧ RelV (.int 65535) u
  c_HEAD_MARK : ∃ u, mg "HEAD_MARK" = some u ∧ RelV (.int 7) u
  c_MANY_ZEROS : ∃ u, mg "MANY_ZEROS" = some u ∧ RelV (.int 12) u
  c_NO_HEAD : ∃ a, mg "NO_HEAD" = some (.ref a) ∧ ∀ H, SqT K H a [.int 0, .int 0, .int 1]
theorem ok_BadNumber {P : Program} {w : World} {K : PySem.W.Frag} {mg : Str → Option Value} {base : Heap} {fa : Nat → Addr} {fd : Nat → FuncData} (T : Txt K mg fa fd) : FnOk P w K mg base CX0 1 (fa 111) (fd 111) ["self", "part"] (spInit K "part") := by
  have nd := sc_BadNumber.nd
  refine T.F_BadNumber.ok sc_BadNumber (fun vs H Q E h => ?_) (fun cdv A outer s H vs Q E hr h => ?_)
  · obtain ⟨a, C, p, rfl, _⟩ := h; rfl
  · obtain ⟨a, C, p, rfl, hC, hf, ha, k⟩ := h
    exact ⟨_, pss_one (ps_ost (pv 0) (pv 1)), _, rfl, _, rfl, _, _, rfl, hC, hf, .inl ⟨ha, k⟩⟩
theorem ok_BadBlock {P : Program} {w : World} {K : PySem.W.Frag} {mg : Str → Option Value} {base : Heap} {fa : Nat → Addr} {fd : Nat → FuncData} (T : Txt K mg fa fd) : FnOk P w K mg base CX0 1 (fa 112) (fd 112) ["self", "part"] (spInit K "part") := by
  have nd := sc_BadBlock.nd
  refine T.F_BadBlock.ok sc_BadBlock (fun vs H Q E h => ?_) (fun cdv A outer s H vs Q E hr h => ?_)
  · obtain ⟨a, C, p, rfl, _⟩ := h; rfl
  · obtain ⟨a, C, p, rfl, hC, hf, ha, k⟩ := h
    exact ⟨_, pss_one (ps_ost (pv 0) (pv 1)), _, rfl, _, rfl, _, _, rfl, hC, hf, .inl ⟨ha, k⟩⟩
theorem ok_is_list {P : Program} {w : World} {K : PySem.W.Frag} {mg : Str → Option Value} {base : Heap} {fa : Nat → Addr} {fd : Nat → FuncData} (T : Txt K mg fa fd) : FnOk P w K mg base CX0 1 (fa 1) (fd 1) ["value"] (spIsList K) := by
  have nd := sc_is_list.nd
  refine T.F_is_list.ok sc_is_list (fun vs H Q E h => ?_) (fun cdv A outer s H vs Q E hr h => ?_)
  · obtain ⟨M, v, d, rfl, _⟩ := h; rfl
  · obtain ⟨M, v, d, rfl, hv, k⟩ := h
    refine ⟨_, (pss_one (ps_ret (pe_callB call_isiT (by rfl) T.n_isinstance (by decide +kernel) (pa_cons (pv 0) (pa_cons (pe_tup (pa_cons (pe_bltn (v := .ty "list") (u := .type "list") (by rfl) T.n_list (by decide +kernel) rfl) (pa_cons (pe_bltn (v := .ty "tuple") (u := .type "tuple") (by rfl) T.n_tuple (by decide +kernel) rfl) pa_nil))) pa_nil))))), ?_⟩
    refine ⟨_, rfl, (by show 2 ≤ sizeLine; decide), fun t ht => ?_⟩
    have e := same_new (o := .tup [V.ty "list", V.ty "tuple"]) ht
    exact ⟨_, _, _, _, _, _, rfl, upd_same, .cons (.ty "list") (.cons (.ty "tuple") .nil), (hv.same e).ty, kit_seq d, k _ e⟩
theorem ok_is_integer {P : Program} {w : World} {K : PySem.W.Frag} {mg : Str → Option Value} {base : Heap} {fa : Nat → Addr} {fd : Nat → FuncData} (T : Txt K mg fa fd) : FnOk P w K mg base CX0 1 (fa 2) (fd 2) ["value"] (spIsInt K) := by
  have nd := sc_is_integer.nd
  refine T.F_is_integer.ok sc_is_integer (fun vs H Q E h => ?_) (fun cdv A outer s H vs Q E hr h => ?_)
  · obtain ⟨M, v, d, rfl, _⟩ := h; rfl
  · obtain ⟨M, v, d, rfl, hv, k⟩ := h
    refine ⟨_, (pss_one (ps_ret (pe_and (pe_callB call_isi (by rfl) T.n_isinstance (by decide +kernel) (pa_cons (pv 0) (pa_cons (pe_bltn (v := .ty "int") (u := .type "int") (by rfl) T.n_int (by decide +kernel) rfl) pa_nil))) (pe_one (pe_not (pe_callB call_isi (by rfl) T.n_isinstance (by decide +kernel) (pa_cons (pv 0) (pa_cons (pe_bltn (v := .ty "bool") (u := .type "bool") (by rfl) T.n_bool (by decide +kernel) rfl) pa_nil)))))))), ?_⟩
    refine ⟨_, rfl, _, _, _, _, _, rfl, .ty "int", hv.ty, kit_int d, _, rfl, ite2 (fun h => ?_) (fun h => ?_)⟩
    · refine ⟨_, rfl, _, _, _, _, _, rfl, .ty "bool", hv.ty, kit_bool d, _, rfl, qbl k ?_⟩
      cases d <;> first | rfl | cases h
    · refine qbl k ?_
      cases d <;> first | rfl | exact absurd rfl h
theorem ok_is_within {P : Program} {w : World} {K : PySem.W.Frag} {mg : Str → Option Value} {base : Heap} {fa : Nat → Addr} {fd : Nat → FuncData} (T : Txt K mg fa fd) : FnOk P w K mg base CX0 2 (fa 3) (fd 3) ["value", "least", "most"] (spWithin K) := by
  have nd := sc_is_within.nd
  refine T.F_is_within.ok sc_is_within (fun vs H Q E h => ?_) (fun cdv A outer s H vs Q E hr h => ?_)
  · obtain ⟨M, v, d, lo, hi, rfl, _⟩ := h; rfl
  · obtain ⟨M, v, d, lo, hi, rfl, hv, k⟩ := h
    refine ⟨_, (pss_cons (ps_if (pt_not (pt_val (pe_call (ok_is_integer T) (hr.mono (by decide)) rfl T.g_is_integer T.F_is_integer.kp T.b_is_integer .nil pass0 (pa_cons (pv 0) pa_nil))))
          (pss_one (ps_ret pe_bl))
          pss_nil)
        (pss_one (ps_ret (pe_and (pe_or (pe_cmpR op_isN (pv 1) pe_non (nomark _)) (pe_one (pe_cmpR op_ge (pv 0) (pv 1) (nomark _)))) (pe_one (pe_or (pe_cmpR op_isN (pv 2) pe_non (nomark _)) (pe_one (pe_cmpR op_le (pv 0) (pv 2) (nomark _))))))))), ?_⟩
    refine ⟨_, rfl, M, v, d, rfl, hv, _, rfl, ite2 (fun h => ?_) (fun h => ?_)⟩
    · refine qbl k ?_
      cases d <;> first | rfl | cases h
    · obtain ⟨i, rfl⟩ := isInt_eq (d := d) (by cases e : isIntD d with | true => rfl | false => exact absurd (by rw [e]; rfl) h)
      cases hv
      have lower : ∀ R : Bool → Prop, R (match lo with | none => true | some l => decide (l ≤ i)) → (match lo with | none => R true | some l => R (decide (l ≤ i))) := fun R q => by cases lo <;> exact q
      cases lo with
      | none =>
        refine ⟨_, rfl, rfl, _, rfl, iteT ⟨_, rfl, iteT ?_⟩⟩
        cases hi with
        | none => exact ⟨_, rfl, rfl, _, rfl, iteT k⟩
        | some u => exact ⟨_, rfl, rfl, _, rfl, iteF ⟨_, rfl, _, rfl, _, _, rfl, rfl, k⟩⟩
      | some l =>
        refine ⟨_, rfl, rfl, _, rfl, iteF ⟨_, rfl, _, rfl, _, _, rfl, rfl, _, rfl, ite2 (fun h1 => ?_) (fun h1 => ?_)⟩⟩
        · have h2 : decide (l ≤ i) = true := h1
          cases hi with
          | none => exact ⟨_, rfl, rfl, _, rfl, iteT (qbl k (by show true = (decide (l ≤ i) && true); rw [h2]; rfl))⟩
          | some u => exact ⟨_, rfl, rfl, _, rfl, iteF ⟨_, rfl, _, rfl, _, _, rfl, rfl, qbl k (by show _ = (decide (l ≤ i) && decide (i ≤ u)); rw [h2]; rfl)⟩⟩
        · have h2 : decide (l ≤ i) = false := by cases e : decide (l ≤ i) with | true => exact absurd e h1 | false => rfl
          exact qbl k (by show false = (decide (l ≤ i) && _); rw [h2]; rfl)
theorem ok_is_numbers {P : Program} {w : World} {K : PySem.W.Frag} {mg : Str → Option Value} {base : Heap} {fa : Nat → Addr} {fd : Nat → FuncData} (T : Txt K mg fa fd) : FnOk P w K mg base CX0 3 (fa 4) (fd 4) ["value", "many", "most"] (spNumbers K) := by
  have nd := sc_is_numbers.nd
  refine T.F_is_numbers.ok sc_is_numbers (fun vs H Q E h => ?_) (fun cdv A outer s H vs Q E hr h => ?_)
  · obtain ⟨M, v, d, n, m, rfl, _⟩ := h; rfl
  · obtain ⟨M, v, d, n, m, rfl, hv, hz, k⟩ := h
    refine ⟨_, (pss_cons (ps_if (PW.pt (pw_or (pt_not (pt_val (pe_call (ok_is_list T) (hr.mono (by decide)) rfl T.g_is_list T.F_is_list.kp T.b_is_list .nil pass0 (pa_cons (pv 0) pa_nil)))) (pw_or1 (pt_cmpR op_ne (pe_callB call_len_seq (by rfl) T.n_len (by decide +kernel) (pa_cons (pv 0) pa_nil)) (pv 1) (nomark _)))))
          (pss_one (ps_ret pe_bl))
          pss_nil)
        (pss_one (ps_ret (pe_callB (cr_all rfl) (by rfl) T.n_all (by decide +kernel) (pa_cons (pe_lc (own := [("part", 3)]) (g := (gName 3)) (by rfl) nd (pi_seq (pv 0)) (blkOk_by (N := sl_is_numbers) (sc := defScope s_is_numbers) (by decide +kernel)) (fun _ _ _ _ _ => (pg_name (i := 3) nd rfl (Or.inl rfl))) (fun _ _ _ _ _ => pts_nil) (fun _ _ _ _ _ => (pe_call (ok_is_within T) (hr.mono (by decide)) rfl T.g_is_within T.F_is_within.kp T.b_is_within .nil pass0 (pa_cons (pv 3) (pa_cons pe_int (pa_cons (pv 2) pa_nil)))))) pa_nil))))), ?_⟩
    refine ⟨_, rfl, M, v, d, rfl, hv, fun H1 e1 => ⟨_, rfl, ite2 (fun h => ?_) (fun h => ?_)⟩⟩
    · refine iteT (qbl (k _ e1) ?_)
      cases d <;> first | rfl | cases h
    · obtain ⟨ds, hds⟩ : ∃ ds, seqD d = some ds := by
        cases e : seqD d with
        | none => exact absurd (by rw [e]; rfl) h
        | some ds => exact ⟨ds, rfl⟩
      obtain ⟨p, xs, rfl, nM, sq, hda⟩ := (hv.same e1).seq hds
      refine ⟨_, rfl, p, xs, rfl, sq, _, rfl, rfl, _, rfl, ite2 (fun h1 => ?_) (fun h1 => ?_)⟩
      · refine qbl (k _ e1) ?_
        have h2 : ¬ ((ds.length : Int) = n) := by
          intro e
          rw [← hda.length] at e
          rw [decide_eq_true (show V.int (xs.length : Int) = V.int n by rw [e])] at h1
          exact absurd h1 (by decide)
        unfold numbersD
        rw [hds]
        show false = (decide ((ds.length : Int) = n) && _)
        rw [decide_eq_false h2]
        rfl
      · have h2 : (ds.length : Int) = n := by
          rw [← hda.length]
          by_cases e : (xs.length : Int) = n
          · exact e
          · exact absurd (by rw [decide_eq_false (show ¬ V.int (xs.length : Int) = V.int n from fun z => e (V.int.inj z))]; rfl) h1
        refine ⟨_, rfl, p, xs, rfl, sq, fun J hJ D hD => lc_bools (M := M) (fun x => withinD x (some 0) (some m)) hD hJ hda (by rw [hda.length]; exact hz _ hds) ?_ ?_⟩
        · intro x dx H2 hx _ Ky ky
          exact ⟨rfl, _, rfl, _, rfl, M, x, dx, some 0, some m, rfl, hx, ky _ (Same.refl _)⟩
        · intro H2 e2 hD2
          refine ⟨D, _, rfl, SqL.of hD2, qbl (k _ (e1.trans e2)) ?_⟩
          unfold numbersD
          rw [hds, List.all_map]
          show _ = (decide ((ds.length : Int) = n) && _)
          rw [decide_eq_true h2]
          rfl
theorem ok_is_block {P : Program} {w : World} {K : PySem.W.Frag} {mg : Str → Option Value} {base : Heap} {fa : Nat → Addr} {fd : Nat → FuncData} (T : Txt K mg fa fd) : FnOk P w K mg base CX0 4 (fa 8) (fd 8) ["value"] (spIsBlock K) := by
  have nd := sc_is_block.nd
  obtain ⟨_, g_BLOCK_SIZE, r_BLOCK_SIZE⟩ := T.c_BLOCK_SIZE
  obtain ⟨_, g_MOST_NUMBER, r_MOST_NUMBER⟩ := T.c_MOST_NUMBER
  refine T.F_is_block.ok sc_is_block (fun vs H Q E h => ?_) (fun cdv A outer s H vs Q E hr h => ?_)
  · obtain ⟨M, v, d, rfl, _⟩ := h; rfl
  · obtain ⟨M, v, d, rfl, hv, hz, k⟩ := h
    refine ⟨_, (pss_one (ps_ret (pe_call (ok_is_numbers T) (hr.mono (by decide)) rfl T.g_is_numbers T.F_is_numbers.kp T.b_is_numbers .nil pass0 (pa_cons (pv 0) (pa_cons (pe_glob rfl g_BLOCK_SIZE r_BLOCK_SIZE) (pa_cons (pe_glob rfl g_MOST_NUMBER r_MOST_NUMBER) pa_nil)))))), ?_⟩
    exact ⟨_, rfl, M, v, d, 16, 65535, rfl, hv, hz, k⟩
theorem ok_head_block {P : Program} {w : World} {K : PySem.W.Frag} {mg : Str → Option Value} {base : Heap} {fa : Nat → Addr} {fd : Nat → FuncData} (T : Txt K mg fa fd) : FnOk P w K mg base (L2.CX P w) 3 (fa 17) (fd 17) ["epoch", "half", "first"] (spHeadBlock K (fa 11)) := by
  have nd := sc_head_block.nd
  obtain ⟨_, g_HEAD_MARK, r_HEAD_MARK⟩ := T.c_HEAD_MARK
  obtain ⟨_, g_MANY_ZEROS, r_MANY_ZEROS⟩ := T.c_MANY_ZEROS
  obtain ⟨_, g_MOST_NUMBER, r_MOST_NUMBER⟩ := T.c_MOST_NUMBER
  refine T.F_head_block.okX sc_head_block (fun vs H Q E h => ?_) (fun cdv A outer s H vs Q E hr h => ?_)
  · obtain ⟨M, a, b, c, da, db, dc, rfl, _⟩ := h; rfl
  · obtain ⟨M, a, b, c, da, db, dc, rfl, ha, hb, hc, kx, k⟩ := h
    refine ⟨_, (pss_cons (ps_if (pt_not (pt_val (pe_call (ok_is_within T) (hr.mono (by decide)) rfl T.g_is_within T.F_is_within.kp T.b_is_within .nil pass0 (pa_cons (pv 0) (pa_cons pe_int (pa_cons (pe_glob rfl g_MOST_NUMBER r_MOST_NUMBER) pa_nil))))))
          (pss_one (ps_raise rfl (takes_of rfl rfl rfl rfl) (pmk_err T.E_BadNumber (ok_BadNumber T) (hr.mono (by decide)) T.b_BadNumber pass0 rfl (pa_cons pe_str pa_nil))))
          pss_nil)
        (pss_cons (ps_if (pt_not (pt_val (pe_call (ok_is_within T) (hr.mono (by decide)) rfl T.g_is_within T.F_is_within.kp T.b_is_within .nil pass0 (pa_cons (pv 1) (pa_cons pe_int (pa_cons pe_int pa_nil))))))
          (pss_one (ps_raise rfl (takes_of rfl rfl rfl rfl) (pmk_err T.E_BadNumber (ok_BadNumber T) (hr.mono (by decide)) T.b_BadNumber pass0 rfl (pa_cons pe_str pa_nil))))
          pss_nil)
        (pss_cons (ps_if (pt_not (pt_val (pe_call (ok_is_within T) (hr.mono (by decide)) rfl T.g_is_within T.F_is_within.kp T.b_is_within .nil pass0 (pa_cons (pv 2) (pa_cons pe_int (pa_cons (pe_glob rfl g_MOST_NUMBER r_MOST_NUMBER) pa_nil))))))
          (pss_one (ps_raise rfl (takes_of rfl rfl rfl rfl) (pmk_err T.E_BadNumber (ok_BadNumber T) (hr.mono (by decide)) T.b_BadNumber pass0 rfl (pa_cons pe_str pa_nil))))
          pss_nil)
        (pss_one (ps_ret (pe_op op_catA (pe_tupN (pa_cons (pe_glob rfl g_HEAD_MARK r_HEAD_MARK) (pa_cons (pv 0) (pa_cons (pv 1) (pa_cons (pv 2) pa_nil))))) (pe_op op_repT (pe_tupN (pa_cons pe_int pa_nil)) (pe_glob rfl g_MANY_ZEROS r_MANY_ZEROS)))))))), ?_⟩
    refine ⟨_, rfl, M, a, da, some 1, some 65535, rfl, ha, _, rfl, ite2 (fun h1 => ⟨_, rfl, kx _ ?_⟩) (fun h1 => ?_)⟩
    · exact head_epoch (nt_true h1)
    refine ⟨_, rfl, M, b, db, some 0, some 1, rfl, hb, _, rfl, ite2 (fun h2 => ⟨_, rfl, kx _ ?_⟩) (fun h2 => ?_)⟩
    · exact head_half (nt_false h1) (nt_true h2)
    refine ⟨_, rfl, M, c, dc, some 1, some 65535, rfl, hc, _, rfl, ite2 (fun h3 => ⟨_, rfl, kx _ ?_⟩) (fun h3 => ?_)⟩
    · exact head_first (nt_false h1) (nt_false h2) (nt_true h3)
    have kg := k (head_good (nt_false h1) (nt_false h2) (nt_false h3))
    refine ⟨_, rfl, _, rfl, _, rfl, (by show 4 ≤ sizeLine; decide), fun p1 H1 n1 => ⟨(by show 1 ≤ sizeLine; decide), fun p2 H2 n2 => ?_⟩⟩
    refine ⟨p2, 12, [.int 0], rfl, rfl, SqT.of n2.2.1, (fun z => nomatch z), by decide, by decide, (by show 1 ≤ 1000; decide), fun p3 hp3 => ?_⟩
    have e3 := same_new (o := .tup (List.replicate (12 : Int).toNat [V.int 0]).flatten) hp3
    refine ⟨p1, p3, _, _, rfl, rfl, SqT.of (e3 _ _ (n2.1 _ _ n1.2.1)), SqT.of upd_same, (by show 16 ≤ sizeLine; decide), (fun z => nomatch z), (fun _ z => nomatch z), fun _ _ p hp => kg p _ ⟨fun z o e => ?_, upd_same, ?_⟩⟩
    · exact same_new hp _ _ (e3 _ _ (n2.1 _ _ (n1.1 _ _ e)))
    · exact n1.1.free (n2.1.free (e3.free hp))
theorem ok_told_by {P : Program} {w : World} {K : PySem.W.Frag} {mg : Str → Option Value} {base : Heap} {fa : Nat → Addr} {fd : Nat → FuncData} (T : Txt K mg fa fd) : FnOk P w K mg base CX0 1 (fa 19) (fd 19) ["block"] (spTold K) := by
  have nd := sc_told_by.nd
  obtain ⟨_, g_HEAD_MARK, r_HEAD_MARK⟩ := T.c_HEAD_MARK
  obtain ⟨_, g_NO_HEAD, r_NO_HEAD⟩ := T.c_NO_HEAD
  refine T.F_told_by.ok sc_told_by (fun vs H Q E h => ?_) (fun cdv A outer s H vs Q E hr h => ?_)
  · obtain ⟨M, v, d, ns, rfl, _⟩ := h; rfl
  · obtain ⟨M, v, d, ns, rfl, hv, hd, hl, k⟩ := h
    refine ⟨_, (pss_cons (ps_asg (pv 0) (pg_star (n := 5) (i := 4) rfl (pgs_cons (pg_name (i := 1) nd rfl (Or.inl rfl)) (pgs_cons (pg_name (i := 2) nd rfl (Or.inl rfl)) (pgs_cons (pg_name (i := 3) nd rfl (Or.inl rfl)) (pgs_cons (pg_name (i := 4) nd rfl (Or.inl rfl)) (pgs_star (pg_name (i := 5) nd rfl (Or.inl rfl)) pgs_nil))))) (by decide)))
        (pss_cons (ps_if (PW.pt (pw_or (pt_cmpR op_ne (pv 1) (pe_glob rfl g_HEAD_MARK r_HEAD_MARK) (nomark _)) (pw_or1 (pt_val (pe_callB (cr_anyI rfl) (by rfl) T.n_any (by decide +kernel) (pa_cons (pv 5) pa_nil))))))
          (pss_one (ps_ret (pe_glob (v := .ref _) rfl g_NO_HEAD rfl)))
          pss_nil)
        (pss_cons (ps_if (PW.pt (pw_or (pt_cmpR op_eq (pv 2) pe_int (nomark _)) (pw_or (pt_cmpR op_gt (pv 3) pe_int (nomark _)) (pw_or1 (pt_cmpR op_eq (pv 4) pe_int (nomark _))))))
          (pss_one (ps_ret (pe_glob (v := .ref _) rfl g_NO_HEAD rfl)))
          pss_nil)
        (pss_one (ps_ret (pe_tupN (pa_cons (pv 2) (pa_cons (pv 3) (pa_cons (pv 4) pa_nil))))))))), ?_⟩
    obtain ⟨m, e, h, f, zs, rfl, hz⟩ : ∃ m e h f zs, ns = m :: e :: h :: f :: zs ∧ zs.length = 12 := by
      match ns, hl with
      | m :: e :: h :: f :: zs, hl => exact ⟨m, e, h, f, zs, rfl, by simpa using hl⟩
    obtain ⟨p, xs, rfl, nM, sq, da⟩ := hv.seq hd
    have ex := ints_of_dv da
    subst ex
    refine ⟨_, rfl, p, _, rfl, sq, (by rw [List.length_map, hl]; decide), (by rw [List.length_map, hl]; decide), fun D H1 n1 => ?_⟩
    rw [show List.map V.int (m :: e :: h :: f :: zs) = V.int m :: V.int e :: V.int h :: V.int f :: zs.map V.int from rfl, star_mid (.int 0)] at n1
    rw [show List.map V.int (m :: e :: h :: f :: zs) = V.int m :: V.int e :: V.int h :: V.int f :: zs.map V.int from rfl, star_all]
    refine ⟨_, _, rfl, _, _, rfl, _, _, rfl, _, _, rfl, _, _, rfl, rfl, ?_⟩
    refine ⟨_, rfl, rfl, _, rfl, ite2 (fun h1 => iteT (k _ _ n1.1 ?_)) (fun h1 => ⟨_, rfl, D, zs, rfl, SqL.of n1.2.1, _, rfl, ite2 (fun h2 => k _ _ n1.1 ?_) (fun h2 => ?_)⟩)⟩
    · rw [told_no (.inl (ne_of_test h1))]; exact r_NO_HEAD H1
    · rw [told_no (.inr h2)]; exact r_NO_HEAD H1
    have e1 : m = 7 := eq_of_test h1
    have e2 : zs.any (· != 0) = false := by cases q : zs.any (· != 0) with | true => exact absurd q h2 | false => rfl
    refine ⟨_, rfl, rfl, _, rfl, ite2 (fun h3 => iteT (k _ _ n1.1 ?_)) (fun h3 => ⟨_, rfl, _, _, rfl, rfl, _, rfl, ite2 (fun h4 => iteT (k _ _ n1.1 ?_)) (fun h4 => ⟨_, rfl, rfl, _, rfl, ite2 (fun h5 => k _ _ n1.1 ?_) (fun h5 => ?_)⟩)⟩)⟩
    · rw [told_half e1 e2 (.inl (int_of_test h3))]; exact r_NO_HEAD H1
    · rw [told_half e1 e2 (.inr (.inl (of_decide_eq_true h4)))]; exact r_NO_HEAD H1
    · rw [told_half e1 e2 (.inr (.inr (int_of_test h5)))]; exact r_NO_HEAD H1
    refine ⟨_, rfl, _, rfl, _, rfl, (by show 3 ≤ sizeLine; decide), fun p2 H2 n2 => k p2 H2 (n1.1.trans n2.1) ?_⟩
    rw [told_yes e1 e2 (fun z => ?_)]
    · exact SqT.of n2.2.1
    · rcases z with z | z | z
      · exact h3 (by rw [z]; rfl)
      · exact h4 (decide_eq_true z)
      · exact h5 (by rw [z]; rfl)
theorem ok_read_heads {P : Program} {w : World} {K : PySem.W.Frag} {mg : Str → Option Value} {base : Heap} {fa : Nat → Addr} {fd : Nat → FuncData} (T : Txt K mg fa fd) : FnOk P w K mg base (L2.CX P w) 5 (fa 18) (fd 18) ["one", "other"] (spReadHeads K (fa 12)) := by
  have nd := sc_read_heads.nd
  refine T.F_read_heads.okX sc_read_heads (fun vs H Q E h => ?_) (fun cdv A outer s H vs Q E hr h => ?_)
  · obtain ⟨M, a, b, da, db, rfl, _⟩ := h; rfl
  · obtain ⟨M, a, b, da, db, rfl, ha, hb, fa_, fb_, kx, k⟩ := h
    refine ⟨_, (pss_cons (ps_if (pt_not (pt_val (pe_call (ok_is_block T) (hr.mono (by decide)) rfl T.g_is_block T.F_is_block.kp T.b_is_block .nil pass0 (pa_cons (pv 0) pa_nil))))
          (pss_one (ps_raise rfl (takes_of rfl rfl rfl rfl) (pmk_err T.E_BadBlock (ok_BadBlock T) (hr.mono (by decide)) T.b_BadBlock pass0 rfl (pa_cons pe_str pa_nil))))
          pss_nil)
        (pss_cons (ps_if (pt_not (pt_val (pe_call (ok_is_block T) (hr.mono (by decide)) rfl T.g_is_block T.F_is_block.kp T.b_is_block .nil pass0 (pa_cons (pv 1) pa_nil))))
          (pss_one (ps_raise rfl (takes_of rfl rfl rfl rfl) (pmk_err T.E_BadBlock (ok_BadBlock T) (hr.mono (by decide)) T.b_BadBlock pass0 rfl (pa_cons pe_str pa_nil))))
          pss_nil)
        (pss_cons (ps_par (i := 2) (j := 3) (by rfl) nd rfl rfl (by decide) rfl rfl (pa_cons (pe_call (ok_told_by T) (hr.mono (by decide)) rfl T.g_told_by T.F_told_by.kp T.b_told_by .nil pass0 (pa_cons (pv 0) pa_nil)) (pa_cons (pe_call (ok_told_by T) (hr.mono (by decide)) rfl T.g_told_by T.F_told_by.kp T.b_told_by .nil pass0 (pa_cons (pv 1) pa_nil)) pa_nil)) (by rfl))
        (pss_one (ps_ret (pe_ifExp (pt_cmpR op_gt (pe_ix ix_tup (pv 3) pe_int (fun _ _ => rfl)) (pe_ix ix_tup (pv 2) pe_int (fun _ _ => rfl)) (nomark _)) (pv 3) (pv 2))))))), ?_⟩
    refine ⟨_, rfl, M, a, da, rfl, ha, fa_, fun H1 e1 => ⟨_, rfl, ite2 (fun h1 => ⟨_, rfl, fun d H2 n2 => kx _ ?_ d H2 (new_after e1 n2)⟩) (fun h1 => ?_)⟩⟩
    · rw [nt_true h1]; rfl
    refine ⟨_, rfl, M, b, db, rfl, hb.same e1, fb_, fun H2 e2 => ⟨_, rfl, ite2 (fun h2 => ⟨_, rfl, fun d H3 n3 => kx _ ?_ d H3 (new_after (e1.trans e2) n3)⟩) (fun h2 => ?_)⟩⟩
    · rw [nt_false h1, nt_true h2]; rfl
    obtain ⟨ns, en, ln⟩ := blk_ints (nt_false h1)
    obtain ⟨ms, em, lm⟩ := blk_ints (nt_false h2)
    have kg := k (nt_false h1) (nt_false h2) ns ms en ln em lm
    refine ⟨_, rfl, M, a, da, ns, rfl, ha.same (e1.trans e2), en, ln, fun p1 H3 e3 s3 => ⟨_, rfl, M, b, db, ms, rfl, hb.same ((e1.trans e2).trans e3), em, lm, fun p2 H4 e4 s4 => ⟨_, _, rfl, ?_⟩⟩⟩
    have e := ((e1.trans e2).trans e3).trans e4
    have s3 := Same.seqT e4 s3
    obtain ⟨x1, x2, x3, ex⟩ := told_three ns
    obtain ⟨y1, y2, y3, ey⟩ := told_three ms
    have kk : ∀ q : Prop, True := fun _ => trivial
    rw [ex] at s3
    rw [ey] at s4
    have er : readN ns ms = if x1 < y1 then [y1, y2, y3] else [x1, x2, x3] := by unfold readN; rw [ex, ey]; rfl
    rw [er] at kg
    refine ⟨_, rfl, p2, _, 0, _, rfl, rfl, s4, rfl, _, rfl, p1, _, 0, _, rfl, rfl, s3, rfl, _, _, rfl, rfl, _, rfl, ite2 (fun h3 => ?_) (fun h3 => ?_)⟩
    · have h3 := of_decide_eq_true h3
      rw [if_pos h3] at kg
      exact ⟨_, rfl, kg _ _ e s4⟩
    · have h3 : ¬ x1 < y1 := fun z => h3 (decide_eq_true z)
      rw [if_neg h3] at kg
      exact ⟨_, rfl, kg _ _ e s3⟩
theorem ok__law_prow {P : Program} {w : World} {K : PySem.W.Frag} {mg : Str → Option Value} {base : Heap} {fa : Nat → Addr} {fd : Nat → FuncData} (T : Txt K mg fa fd) : FnOk P w K mg base CX0 1 (fa 21) (fd 21) ["script"] (spStart K) := by
  have nd := sc__law_prow.nd
  refine T.F__law_prow.ok sc__law_prow (fun vs H Q E h => ?_) (fun cdv A outer s H vs Q E hr h => ?_)
  · obtain ⟨a, ns, rfl, _⟩ := h; rfl
  · obtain ⟨a, ns, rfl, hS, hlen, k⟩ := h
    refine ⟨_, (pss_one (ps_ret (pe_lstN (pa_cons (pe_lc (own := [("cell", 1)]) (g := (gName 1)) (by rfl) nd (pi_list (pe_slice sl_listN (pv 0) po_none (po_some pe_int))) (blkOk_by (N := sl__law_prow) (sc := defScope s__law_prow) (by decide +kernel)) (fun _ _ _ _ _ => (pg_name (i := 1) nd rfl (Or.inl rfl))) (fun _ _ _ _ _ => pts_nil) (fun _ _ _ _ _ => (pe_callTy call_int1 (by rfl) T.n_int (by decide +kernel) (pa_cons (pv 1) pa_nil)))) (pa_cons pe_int (pa_cons pe_int pa_nil)))))), ?_⟩
    refine ⟨_, rfl, _, rfl, a, _, rfl, hS, fun p H1 n1 => ?_⟩
    have ec : cutV (ns.map V.int) none (some 57) = (ns.take 57).map V.int := (cutN (ns.map V.int) 57).trans (List.map_take ..).symm
    have hl : ((ns.take 57).map V.int).length ≤ 10000000 := by rw [List.length_map, List.length_take]; omega
    rw [ec] at n1
    refine ⟨p, rfl, ⟨_, SqL.of n1.2.1⟩, fun D hD => lcg_list (fun _ => False) (fun _ _ => True) (fun i acc _ => acc = ((ns.take 57).map V.int).take i) hD (fun H F => (same_frm F).seq (SqL.of n1.2.1)) hl (fun _ _ _ _ z => z) (fun _ _ _ _ _ z => z) trivial rfl ?_ ?_⟩
    · intro i x acc H2 hx F hDa _ hA Ky Kn ky kn
      obtain ⟨z, rfl⟩ := int_at hx
      refine ⟨rfl, _, rfl, .inl ⟨_, rfl, ky _ H2 F hDa trivial ?_⟩⟩
      rw [hA, take_next hx]
    · intro H2 acc F hDa _ hA _
      rw [hA, List.take_of_length_le (Nat.le_refl _)] at hDa
      refine ⟨(by show 3 ≤ sizeLine; decide), fun l H3 n3 => k l D (ns.take 57) H3 ((n1.1.trans (same_frm F)).trans n3.1) ⟨0, 0, ⟨n3.2.1, n3.1 _ _ hDa, Int.le_refl _, Int.le_refl _⟩, Int.le_refl _⟩ ?_⟩
      exact (n1.1.trans (same_frm F)).free n3.2.2
theorem ok__law_steer {P : Program} {w : World} {K : PySem.W.Frag} {mg : Str → Option Value} {base : Heap} {fa : Nat → Addr} {fd : Nat → FuncData} (T : Txt K mg fa fd) : FnOk P w K mg base CX0 1 (fa 22) (fd 22) ["prow", "many"] spDraw := by
  have nd := sc__law_steer.nd
  refine T.F__law_steer.ok sc__law_steer (fun vs H Q E h => ?_) (fun cdv A outer s H vs Q E hr h => ?_)
  · obtain ⟨a, b, cs, n, m, rfl, _⟩ := h; rfl
  · obtain ⟨a, b, cs, n, m, rfl, ⟨t, r, S, htn⟩, hn, hm, hm2, k⟩ := h
    obtain ⟨ha, hb, ht, hr0⟩ := id S
    refine ⟨_, (pss_cons (ps_if (pt_cmpR op_gt (pe_ix ix_list (pv 0) pe_int (fun _ _ => rfl)) pe_int (nomark _))
          (pss_cons (ps_set (i := 2) nd rfl (Or.inl rfl) (pe_callTy call_int1 (by rfl) T.n_int (by decide +kernel) (pa_cons (pe_ix ix_list (pv 0) pe_int (fun _ _ => rfl)) pa_nil)))
        (pss_cons (ps_asg (pe_op op_fdivL (pv 2) (pv 1)) (pg_sub (pv 0) pe_int set_list))
        (pss_one (ps_ret (pe_op op_modL (pe_callTy call_int1 (by rfl) T.n_int (by decide +kernel) (pa_cons (pv 2) pa_nil)) (pv 1))))))
          pss_nil)
        (pss_cons (ps_set (i := 3) nd rfl (Or.inl rfl) (pe_ix ix_list (pv 0) pe_int (fun _ _ => rfl)))
        (pss_cons (ps_asg (pe_op op_add (pv 3) pe_int) (pg_sub (pv 0) pe_int set_list))
        (pss_cons (ps_if (pt_cmpR (op_eqD hr.units) (pe_ix ix_list (pv 0) pe_int (fun _ _ => rfl)) (pe_lst pa_nil) (nomark _))
          (pss_one (ps_ret pe_int))
          pss_nil)
        (pss_cons (ps_set (i := 4) nd rfl (Or.inl rfl) (pe_ix ix_list (pe_ix ix_list (pv 0) pe_int (fun _ _ => rfl)) (pe_op op_modL (pe_callTy call_int1 (by rfl) T.n_int (by decide +kernel) (pa_cons (pv 3) pa_nil)) (pe_callB call_len_seq (by rfl) T.n_len (by decide +kernel) (pa_cons (pe_ix ix_list (pv 0) pe_int (fun _ _ => rfl)) pa_nil))) (fun _ _ => rfl)))
        (pss_cons (ps_if (PW.pt (pw_and (pt_cmpR op_lt (pv 3) (pe_callB call_len_seq (by rfl) T.n_len (by decide +kernel) (pa_cons (pe_ix ix_list (pv 0) pe_int (fun _ _ => rfl)) pa_nil)) (nomark _)) (pw_and1 (pt_cmpR op_ge (pe_callB call_abs (by rfl) T.n_abs (by decide +kernel) (pa_cons (pv 4) pa_nil)) (pe_op op_powL pe_int pe_int) (nomark _)))))
          (pss_cons (ps_set (i := 2) nd rfl (Or.inl rfl) (pe_op op_add (pe_op op_mulL pe_int (pe_op op_sub (pe_callB call_abs (by rfl) T.n_abs (by decide +kernel) (pa_cons (pe_callTy call_int1 (by rfl) T.n_int (by decide +kernel) (pa_cons (pv 4) pa_nil)) pa_nil)) (pe_op op_powL pe_int pe_int))) (pe_callTy call_int1 (by rfl) T.n_int (by decide +kernel) (pa_cons (pe_cmpR op_lt (pv 4) pe_int (nomark _)) pa_nil))))
        (pss_cons (ps_asg (pe_op op_fdivL (pv 2) (pv 1)) (pg_sub (pv 0) pe_int set_list))
        (pss_one (ps_ret (pe_op op_modL (pe_callTy call_int1 (by rfl) T.n_int (by decide +kernel) (pa_cons (pv 2) pa_nil)) (pv 1))))))
          pss_nil)
        (pss_cons (ps_set (i := 5) nd rfl (Or.inl rfl) (pe_op op_modL (pe_callTy call_int1 (by rfl) T.n_int (by decide +kernel) (pa_cons (pe_op op_powL (pe_op op_add (pe_op op_add (pe_op op_modL (pe_callTy call_int1 (by rfl) T.n_int (by decide +kernel) (pa_cons (pv 4) pa_nil)) pe_int) (pe_op op_mulL pe_int (pv 3))) pe_int) pe_int) pa_nil)) pe_int))
        (pss_cons (ps_set (i := 5) nd rfl (Or.inl rfl) (pe_op op_modL (pe_callTy call_int1 (by rfl) T.n_int (by decide +kernel) (pa_cons (pe_op op_powL (pe_op op_add (pe_op op_add (pe_op op_mulL (pv 5) (pe_op op_add (pe_op op_mulL pe_int (pv 3)) pe_int)) (pe_op op_mulL (pe_op op_mulL pe_int (pv 3)) (pv 3))) pe_int) pe_int) pa_nil)) pe_int))
        (pss_one (ps_ret (pe_op op_modL (pe_callTy call_int1 (by rfl) T.n_int (by decide +kernel) (pa_cons (pe_op op_fdivL (pv 5) pe_int) pa_nil)) (pv 1)))))))))))), ?_⟩
    refine ⟨_, rfl, a, _, 2, _, rfl, rfl, SqL.of ha, rfl, _, _, rfl, rfl, _, rfl, ?_⟩
    refine ite2 (fun h1 => ?_) (fun h1 => ?_)
    · have h1 : 0 < r := of_decide_eq_true h1
      refine ⟨_, rfl, a, _, 2, _, rfl, rfl, SqL.of ha, rfl, .inl ⟨_, rfl, ?_⟩⟩
      refine ⟨_, rfl, _, rfl, _, _, rfl, rfl, draw_div hm hm2, fun r1 er1 => ?_⟩
      refine ⟨_, rfl, a, _, 2, 2, rfl, rfl, ha, rfl, ?_⟩
      refine ⟨_, rfl, .inl ⟨_, rfl, _, rfl, _, _, rfl, rfl, hm, fun d _ d0 d1 => ?_⟩⟩
      exact k _ _ frm_upd ⟨t, r1, S.upd ht (by rw [er1]; exact Int.ediv_nonneg hr0 (Int.le_of_lt hm)), by omega⟩ d0 d1
    · refine ⟨_, rfl, a, _, 1, _, rfl, rfl, SqL.of ha, rfl, ?_⟩
      refine ⟨_, rfl, _, _, rfl, rfl, ?_⟩
      refine ⟨_, rfl, a, _, 1, 1, rfl, rfl, ha, rfl, ?_⟩
      have S1 : Sat a b cs (t + 1) r (upd H a (.lst ([V.ref b, V.int t, V.int r].set 1 (.int (t + 1))))) := S.upd (by omega) hr0
      refine ⟨_, rfl, a, _, 0, _, rfl, rfl, SqL.of S1.ha, rfl, Nat.zero_le _, fun l hl => ?_⟩
      have E1 := same_new (o := .lst []) hl
      have S2 := S1.same E1
      have F2 : Frm (· = a) H _ := frm_upd.trans (frm_same E1)
      refine ints_eq (SqL.of S2.hb) (SqL.of upd_same) ⟨_, rfl, ?_⟩
      clear E1 hl
      revert S1 S2 F2
      generalize upd (upd H a (.lst ([V.ref b, V.int t, V.int r].set 1 (.int (t + 1))))) l (.lst []) = H2
      intro S1 S2 F2
      clear S1
      refine ite2 (fun h2 => k _ _ F2 ⟨_, _, S2, by omega⟩ (by decide) hm) (fun h2 => ?_)
      have h3 : cs ≠ [] := by intro e; subst e; exact h2 rfl
      have l0 : 0 < ((cs.map V.int).length : Int) := by
        cases cs with
        | nil => exact absurd rfl h3
        | cons c cs => exact Int.natCast_pos.mpr (Nat.succ_pos _)
      obtain ⟨c, hc⟩ := cell_at h3 t
      refine ⟨_, rfl, a, _, 0, _, rfl, rfl, SqL.of S2.ha, rfl, _, rfl, .inl ⟨_, rfl, _, rfl, a, _, 0, _, rfl, rfl, SqL.of S2.ha, rfl, b, _, rfl, .inl (SqL.of S2.hb), _, _, rfl, rfl, l0, fun z ez _ _ => ?_⟩⟩
      rw [← ez] at hc
      refine ⟨b, _, _, .int c, rfl, rfl, SqL.of S2.hb, hc, ?_⟩
      -- if turn < len(satchel[0]) and abs(cell) >= 10 ** 18
      refine ⟨_, rfl, _, rfl, a, _, 0, _, rfl, rfl, SqL.of S2.ha, rfl, b, _, rfl, .inl (SqL.of S2.hb), _, _, rfl, rfl, _, rfl, ?_⟩
      refine ite2 (fun h4 => ?_) (fun h4 => ?_)
      · refine ⟨_, rfl, _, rfl, _, _, rfl, rfl, ⟨by decide, by decide, by decide⟩, fun big hbig => ⟨_, _, rfl, rfl, _, rfl, ?_⟩⟩
        refine ite2 (fun h5 => ?_) (fun h5 => ?_)
        · have h5 := of_decide_eq_true h5
          refine ⟨_, rfl, .inl ⟨_, rfl, _, rfl, _, _, rfl, rfl, ⟨by decide, by decide, by decide⟩, fun big2 hbig2 => ⟨_, _, rfl, rfl, _, _, rfl, rfl, .inl (by decide), fun y ey => ?_⟩⟩⟩
          refine ⟨_, rfl, _, _, rfl, rfl, .inr ⟨_, rfl, _, _, rfl, rfl, ?_⟩⟩
          rw [← hbig2] at hbig
          refine ⟨_, rfl, _, rfl, _, _, rfl, rfl, draw_div hm hm2, fun r1 er1 => ?_⟩
          refine ⟨_, rfl, a, _, 2, 2, rfl, rfl, S2.ha, rfl, ?_⟩
          refine ⟨_, rfl, .inl ⟨_, rfl, _, rfl, _, _, rfl, rfl, hm, fun d _ d0 d1 => ?_⟩⟩
          refine k _ _ (F2.trans frm_upd) ⟨t + 1, r1, S2.upd S2.ht (by rw [er1]; exact Int.ediv_nonneg (draw_rest ey (by rw [← hbig]; exact h5)) (Int.le_of_lt hm)), by omega⟩ d0 d1
        · -- mixed = int((int(cell) % p + q * turn + k) ** 5) % p
          refine ⟨_, rfl, .inl ⟨_, rfl, _, _, rfl, rfl, by decide, fun z0 _ z1 z2 => ?_⟩⟩
          refine ⟨_, rfl, _, _, rfl, rfl, .inl (by decide), fun z3 z4 => ⟨_, _, rfl, rfl, _, _, rfl, rfl, _, _, rfl, rfl, ⟨by decide, by decide, ?_⟩, fun z5 _ => ?_⟩⟩
          · omega
          refine .inl ⟨_, rfl, _, _, rfl, rfl, by decide, fun mx _ m0 m1 => ?_⟩
          -- mixed = int((mixed * (2 * turn + k) + q * turn * turn + l) ** 3) % p
          refine ⟨_, rfl, _, rfl, _, _, rfl, rfl, .inl (by decide), fun y0 y1 => ⟨_, _, rfl, rfl, _, _, rfl, rfl, .inl ⟨by omega, by omega⟩, fun y2 y3 => ?_⟩⟩
          refine ⟨_, rfl, _, _, rfl, rfl, .inl (by decide), fun y4 y5 => ⟨_, rfl, _, _, rfl, rfl, .inl ⟨by omega, by omega⟩, fun y6 y7 => ?_⟩⟩
          have b1 := mul_bd (x := mx) (y := y0 + 6427) (A := 2147483648) (B := 3000000) m0 (by omega) (by omega) (by omega)
          have b2 := mul_bd (x := y4) (y := t) (A := 1000000000000) (B := 1000000) (by omega) (by omega) ht (by omega)
          rw [← y3] at b1
          rw [← y7] at b2
          refine ⟨_, _, rfl, rfl, _, _, rfl, rfl, _, _, rfl, rfl, ⟨by decide, by decide, ?_⟩, fun y8 _ => ?_⟩
          · clear y3 y7 y5 y1
            omega
          refine .inl ⟨_, rfl, _, _, rfl, rfl, by decide, fun my _ n0 n1 => ?_⟩
          -- return int(mixed // 64) % many
          refine ⟨_, rfl, _, _, rfl, rfl, ⟨by decide, by decide⟩, fun w0 _ => .inl ⟨_, rfl, _, rfl, _, _, rfl, rfl, hm, fun d _ d0 d1 => ?_⟩⟩
          exact k _ _ F2 ⟨_, _, S2, by omega⟩ d0 d1
      · refine iteF ?_
        -- mixed = int((int(cell) % p + q * turn + k) ** 5) % p
        refine ⟨_, rfl, .inl ⟨_, rfl, _, _, rfl, rfl, by decide, fun z0 _ z1 z2 => ?_⟩⟩
        refine ⟨_, rfl, _, _, rfl, rfl, .inl (by decide), fun z3 z4 => ⟨_, _, rfl, rfl, _, _, rfl, rfl, _, _, rfl, rfl, ⟨by decide, by decide, ?_⟩, fun z5 _ => ?_⟩⟩
        · omega
        refine .inl ⟨_, rfl, _, _, rfl, rfl, by decide, fun mx _ m0 m1 => ?_⟩
        -- mixed = int((mixed * (2 * turn + k) + q * turn * turn + l) ** 3) % p
        refine ⟨_, rfl, _, rfl, _, _, rfl, rfl, .inl (by decide), fun y0 y1 => ⟨_, _, rfl, rfl, _, _, rfl, rfl, .inl ⟨by omega, by omega⟩, fun y2 y3 => ?_⟩⟩
        refine ⟨_, rfl, _, _, rfl, rfl, .inl (by decide), fun y4 y5 => ⟨_, rfl, _, _, rfl, rfl, .inl ⟨by omega, by omega⟩, fun y6 y7 => ?_⟩⟩
        have b1 := mul_bd (x := mx) (y := y0 + 6427) (A := 2147483648) (B := 3000000) m0 (by omega) (by omega) (by omega)
        have b2 := mul_bd (x := y4) (y := t) (A := 1000000000000) (B := 1000000) (by omega) (by omega) ht (by omega)
        rw [← y3] at b1
        rw [← y7] at b2
        refine ⟨_, _, rfl, rfl, _, _, rfl, rfl, _, _, rfl, rfl, ⟨by decide, by decide, ?_⟩, fun y8 _ => ?_⟩
        · clear y3 y7 y5 y1
          omega
        refine .inl ⟨_, rfl, _, _, rfl, rfl, by decide, fun my _ n0 n1 => ?_⟩
        -- return int(mixed // 64) % many
        refine ⟨_, rfl, _, _, rfl, rfl, ⟨by decide, by decide⟩, fun w0 _ => .inl ⟨_, rfl, _, rfl, _, _, rfl, rfl, hm, fun d _ d0 d1 => ?_⟩⟩
        exact k _ _ F2 ⟨_, _, S2, by omega⟩ d0 d1
theorem ok__law_pick {P : Program} {w : World} {K : PySem.W.Frag} {mg : Str → Option Value} {base : Heap} {fa : Nat → Addr} {fd : Nat → FuncData} (T : Txt K mg fa fd) : FnOk P w K mg base CX0 2 (fa 23) (fd 23) ["prow", "some"] (spPick K) := by
  have nd := sc__law_pick.nd
  refine T.F__law_pick.ok sc__law_pick (fun vs H Q E h => ?_) (fun cdv A outer s H vs Q E hr h => ?_)
  · obtain ⟨a, b, cs, n, p, xs, rfl, _⟩ := h; rfl
  · obtain ⟨a, b, cs, n, p, xs, rfl, S, hn, np, hs, hne, hz, k⟩ := h
    refine ⟨_, (pss_one (ps_ret (pe_ix ix_list (pv 1) (pe_call (ok__law_steer T) (hr.mono (by decide)) rfl T.g__law_steer T.F__law_steer.kp T.b__law_steer .nil pass0 (pa_cons (pv 0) (pa_cons (pe_callB call_len_seq (by rfl) T.n_len (by decide +kernel) (pa_cons (pv 1) pa_nil)) pa_nil))) (fun _ _ => rfl)))), ?_⟩
    have l0 : 0 < (xs.length : Int) := by
      cases xs with
      | nil => exact absurd rfl hne
      | cons x r => exact Int.natCast_pos.mpr (Nat.succ_pos _)
    refine ⟨_, rfl, _, rfl, _, rfl, p, xs, rfl, .inl hs, a, b, cs, n, _, rfl, S, hn, l0, by omega, fun H1 d F1 S1 d0 d1 => ?_⟩
    obtain ⟨x, hx, ha⟩ := atI_some d0 d1
    exact ⟨p, xs, d, x, rfl, rfl, F1.seq np hs, ha, k _ _ F1 S1 hx⟩
theorem ok__law_head {P : Program} {w : World} {K : PySem.W.Frag} {mg : Str → Option Value} {base : Heap} {fa : Nat → Addr} {fd : Nat → FuncData} (T : Txt K mg fa fd) : FnOk P w K mg base CX0 1 (fa 24) (fd 24) ["block"] (spHead K) := by
  have nd := sc__law_head.nd
  refine T.F__law_head.ok sc__law_head (fun vs H Q E h => ?_) (fun cdv A outer s H vs Q E hr h => ?_)
  · obtain ⟨p, ns, rfl, _⟩ := h; rfl
  · obtain ⟨p, ns, rfl, hp, hl, k⟩ := h
    refine ⟨_, (pss_cons (ps_if (PW.pt (pw_or (pt_cmpR op_ne (pe_ix ix_list (pv 0) pe_int (fun _ _ => rfl)) pe_int (nomark _)) (pw_or (pt_cmpR op_lt (pe_ix ix_list (pv 0) pe_int (fun _ _ => rfl)) pe_int (nomark _)) (pw_or (pt_cmpR op_gt (pe_ix ix_list (pv 0) pe_int (fun _ _ => rfl)) pe_int (nomark _)) (pw_or (pt_cmpR op_lt (pe_ix ix_list (pv 0) pe_int (fun _ _ => rfl)) pe_int (nomark _)) (pw_or1 (pt_cmpR (op_neD hr.units) (pe_callTy call_list_ofN (by rfl) T.n_list (by decide +kernel) (pa_cons (pe_slice sl_listN (pv 0) (po_some pe_int) po_none) pa_nil)) (pe_op op_repN (pe_lstN (pa_cons pe_int pa_nil)) pe_int) (nomark _))))))))
          (pss_one (ps_ret pe_non))
          pss_nil)
        (pss_one (ps_ret (pe_callTy call_tuple_ofN (by rfl) T.n_tuple (by decide +kernel) (pa_cons (pe_slice sl_listN (pv 0) (po_some pe_int) (po_some pe_int)) pa_nil))))), ?_⟩
    have kn : headN ns = none → ∀ H', Same H H' → Q .non H' := fun e H' s => k .non H' s (.inl ⟨e, rfl⟩)
    have ks : ∀ l, headN ns = some l → ∀ t H', Same H H' → SqT K H' t (l.map V.int) → Q (.ref t) H' := fun l e t H' s q => k _ H' s (.inr ⟨l, t, e, rfl, q⟩)
    obtain ⟨m, e, h, f, zs, rfl, hz⟩ : ∃ m e h f zs, ns = m :: e :: h :: f :: zs ∧ zs.length = 12 := by
      match ns, hl with
      | m :: e :: h :: f :: zs, hl => exact ⟨m, e, h, f, zs, rfl, by simpa using hl⟩
    refine ⟨_, rfl, p, _, 0, .int m, rfl, rfl, hp, atI_nat (j := 0) rfl, rfl, _, rfl, ite2 (fun h1 => iteT (kn ?_ H (Same.refl _))) (fun h1 => ?_)⟩
    · exact head_no (.inl (ne_of_test h1))
    refine ⟨_, rfl, p, _, 1, .int e, rfl, rfl, hp, atI_nat (j := 1) rfl, _, _, rfl, rfl, _, rfl, ite2 (fun h2 => iteT (kn ?_ H (Same.refl _))) (fun h2 => ?_)⟩
    · exact head_no (.inr (.inl (of_decide_eq_true h2)))
    refine ⟨_, rfl, p, _, 2, .int h, rfl, rfl, hp, atI_nat (j := 2) rfl, _, _, rfl, rfl, _, rfl, ite2 (fun h3 => iteT (kn ?_ H (Same.refl _))) (fun h3 => ?_)⟩
    · exact head_no (.inr (.inr (.inl (of_decide_eq_true h3))))
    refine ⟨_, rfl, p, _, 3, .int f, rfl, rfl, hp, atI_nat (j := 3) rfl, _, _, rfl, rfl, _, rfl, ite2 (fun h4 => iteT (kn ?_ H (Same.refl _))) (fun h4 => ?_)⟩
    · exact head_no (.inr (.inr (.inr (.inl (of_decide_eq_true h4)))))
    refine ⟨_, rfl, _, rfl, p, _, rfl, hp, fun p1 H1 n1 => ⟨p1, _, rfl, .inl (SqL.of n1.2.1), fun p2 H2 n2 => ?_⟩⟩
    refine ⟨(by show 1 ≤ sizeLine; decide), fun p3 H3 n3 => ⟨p3, 12, [.int 0], rfl, rfl, n3.2.1, by decide, by decide, (by show 1 * 12 ≤ sizeLine; decide), fun p4 H4 n4 => ?_⟩⟩
    have e1 : cutV (List.map V.int (m :: e :: h :: f :: zs)) (some 4) none = zs.map V.int := cut_from (k := 4) (by rw [List.length_map, hl]; decide)
    rw [e1] at n2
    have s4 : Same H H4 := ((n1.1.trans n2.1).trans n3.1).trans n4.1
    refine ne_ints (ms := List.replicate 12 0) (SqL.of (n4.1 _ _ (n3.1 _ _ n2.2.1))) (SqL.of n4.2.1) ⟨_, rfl, ite2 (fun h5 => kn ?_ H4 s4) (fun h5 => ?_)⟩
    · exact head_no (.inr (.inr (.inr (.inr (of_decide_eq_false (nt_true h5))))))
    have e2 : cutV (List.map V.int (m :: e :: h :: f :: zs)) (some 1) (some 4) = [V.int e, .int h, .int f] := cut_mid (a := 1) (b := 4) (by rw [List.length_map, hl]; decide) (by decide)
    refine ⟨_, rfl, _, rfl, _, rfl, p, _, rfl, s4.seq hp, fun p5 H5 n5 => ⟨p5, _, rfl, .inl ⟨SqL.of n5.2.1, fun t H6 n6 => ks _ (head_yes ?_) t H6 ((s4.trans n5.1).trans n6.1) ?_⟩⟩⟩
    · rintro (q | q | q | q | q)
      · exact q (eq_of_test h1)
      · exact h2 (decide_eq_true q)
      · exact h3 (decide_eq_true q)
      · exact h4 (decide_eq_true q)
      · exact q (of_decide_eq_true (nt_false h5))
    · rw [e2] at n6
      exact SqT.of n6.2.1
theorem ok__law_told {P : Program} {w : World} {K : PySem.W.Frag} {mg : Str → Option Value} {base : Heap} {fa : Nat → Addr} {fd : Nat → FuncData} (T : Txt K mg fa fd) : FnOk P w K mg base CX0 3 (fa 25) (fd 25) ["prow"] (spToldL K) := by
  have nd := sc__law_told.nd
  refine T.F__law_told.ok sc__law_told (fun vs H Q E h => ?_) (fun cdv A outer s H vs Q E hr h => ?_)
  · obtain ⟨a, b, cs, n, rfl, _⟩ := h; rfl
  · obtain ⟨a, b, cs, n, rfl, S, hn, k⟩ := h
    refine ⟨_, (pss_cons (ps_set (i := 1) nd rfl (Or.inl rfl) (pe_call (ok__law_pick T) (hr.mono (by decide)) rfl T.g__law_pick T.F__law_pick.kp T.b__law_pick .nil pass0 (pa_cons (pv 0) (pa_cons (pe_lstN (pa_cons pe_int (pa_cons pe_int (pa_cons pe_int (pa_cons (pe_op op_add pe_int (pe_call (ok__law_steer T) (hr.mono (by decide)) rfl T.g__law_steer T.F__law_steer.kp T.b__law_steer .nil pass0 (pa_cons (pv 0) (pa_cons pe_int pa_nil)))) pa_nil))))) pa_nil))))
        (pss_one (ps_ret (pe_tupN (pa_cons (pv 1) (pa_cons (pe_call (ok__law_steer T) (hr.mono (by decide)) rfl T.g__law_steer T.F__law_steer.kp T.b__law_steer .nil pass0 (pa_cons (pv 0) (pa_cons pe_int pa_nil))) (pa_cons (pe_call (ok__law_pick T) (hr.mono (by decide)) rfl T.g__law_pick T.F__law_pick.kp T.b__law_pick .nil pass0 (pa_cons (pv 0) (pa_cons (pe_lstN (pa_cons pe_int (pa_cons pe_int (pa_cons (pe_op op_add pe_int (pe_call (ok__law_steer T) (hr.mono (by decide)) rfl T.g__law_steer T.F__law_steer.kp T.b__law_steer .nil pass0 (pa_cons (pv 0) (pa_cons pe_int pa_nil)))) pa_nil)))) pa_nil))) pa_nil))))))), ?_⟩
    refine ⟨_, rfl, _, rfl, a, b, cs, _, _, rfl, S, by omega, by decide, by decide, fun H1 d1 F1 S1 l1 u1 => ⟨_, _, rfl, rfl, (by show 4 ≤ sizeLine; decide), fun p2 H2 n2 => ?_⟩⟩
    refine ⟨a, b, cs, _, p2, _, rfl, S1.new n2, by omega, S1.ne n2, SqL.of n2.2.1, (fun z => nomatch z), (by show 4 < 2 ^ 62; decide), fun H3 x F3 S3 hx => ?_⟩
    obtain ⟨e, rfl, e1, e2⟩ : ∃ e : Int, x = .int e ∧ 1 ≤ e ∧ e ≤ 65535 := by
      simp only [List.mem_cons, List.not_mem_nil, or_false] at hx
      rcases hx with rfl | rfl | rfl | rfl
      · exact ⟨_, rfl, by omega, by omega⟩
      · exact ⟨_, rfl, by omega, by omega⟩
      · exact ⟨_, rfl, by omega, by omega⟩
      · exact ⟨_, rfl, by omega, by omega⟩
    refine ⟨_, rfl, _, rfl, a, b, cs, _, _, rfl, S3, by omega, by decide, by decide, fun H4 d4 F4 S4 l4 u4 => ?_⟩
    refine ⟨_, rfl, _, rfl, a, b, cs, _, _, rfl, S4, by omega, by decide, by decide, fun H5 d5 F5 S5 l5 u5 => ⟨_, _, rfl, rfl, (by show 3 ≤ sizeLine; decide), fun p6 H6 n6 => ?_⟩⟩
    refine ⟨a, b, cs, _, p6, _, rfl, S5.new n6, by omega, S5.ne n6, SqL.of n6.2.1, (fun z => nomatch z), (by show 3 < 2 ^ 62; decide), fun H7 y F7 S7 hy => ?_⟩
    obtain ⟨f, rfl, f1, f2⟩ : ∃ f : Int, y = .int f ∧ 1 ≤ f ∧ f ≤ 65535 := by
      simp only [List.mem_cons, List.not_mem_nil, or_false] at hy
      rcases hy with rfl | rfl | rfl
      · exact ⟨_, rfl, by omega, by omega⟩
      · exact ⟨_, rfl, by omega, by omega⟩
      · exact ⟨_, rfl, by omega, by omega⟩
    refine ⟨(by show 3 ≤ sizeLine; decide), fun p8 H8 n8 => k _ p8 e d4 f (by walk_at "fr") (S7.new n8) (SqT.of n8.2.1) (S7.ne n8) e1 e2 l4 (by omega) f1 f2⟩
theorem ok__law_block {P : Program} {w : World} {K : PySem.W.Frag} {mg : Str → Option Value} {base : Heap} {fa : Nat → Addr} {fd : Nat → FuncData} (T : Txt K mg fa fd) : FnOk P w K mg base CX0 4 (fa 26) (fd 26) ["prow"] spBlockL := by
  have nd := sc__law_block.nd
  refine T.F__law_block.ok sc__law_block (fun vs H Q E h => ?_) (fun cdv A outer s H vs Q E hr h => ?_)
  · obtain ⟨a, b, cs, n, rfl, _⟩ := h; rfl
  · obtain ⟨a, b, cs, n, rfl, S, hn, k⟩ := h
    refine ⟨_, (pss_cons (ps_asg (pe_call (ok__law_told T) (hr.mono (by decide)) rfl T.g__law_told T.F__law_told.kp T.b__law_told .nil pass0 (pa_cons (pv 0) pa_nil)) (pg_tup (by rfl) (pgs_cons (pg_name (i := 1) nd rfl (Or.inl rfl)) (pgs_cons (pg_name (i := 2) nd rfl (Or.inl rfl)) (pgs_cons (pg_name (i := 3) nd rfl (Or.inl rfl)) pgs_nil)))))
        (pss_cons (ps_par3 (i := 4) (j := 5) (l := 6) (by rfl) nd rfl rfl rfl (by decide) (by decide) (by decide) rfl rfl rfl (pa_cons (pe_op op_catN (pe_lstN (pa_cons pe_int (pa_cons (pv 1) (pa_cons (pv 2) (pa_cons (pv 3) pa_nil))))) (pe_op op_repN (pe_lstN (pa_cons pe_int pa_nil)) pe_int)) (pa_cons (pe_call (ok__law_steer T) (hr.mono (by decide)) rfl T.g__law_steer T.F__law_steer.kp T.b__law_steer .nil pass0 (pa_cons (pv 0) (pa_cons pe_int pa_nil))) (pa_cons (pe_call (ok__law_steer T) (hr.mono (by decide)) rfl T.g__law_steer T.F__law_steer.kp T.b__law_steer .nil pass0 (pa_cons (pv 0) (pa_cons pe_int pa_nil))) pa_nil))) (by rfl))
        (C8.pss_cut (ps_if (pt_cmpR op_eq (pv 5) pe_int (nomark _))
          (pss_one (ps_asg (pe_call (ok__law_pick T) (hr.mono (by decide)) rfl T.g__law_pick T.F__law_pick.kp T.b__law_pick .nil pass0 (pa_cons (pv 0) (pa_cons (pe_lstN (pa_cons pe_int (pa_cons pe_int (pa_cons pe_int (pa_cons pe_int (pa_cons pe_int (pa_cons (pe_op op_add (pe_ix ix_list (pv 4) (pv 6) (fun _ _ => rfl)) (pe_callTy call_int1 (by rfl) T.n_int (by decide +kernel) (pa_cons (pe_cmpR op_lt (pe_ix ix_list (pv 4) (pv 6) (fun _ _ => rfl)) pe_int (nomark _)) pa_nil))) pa_nil))))))) pa_nil))) (pg_sub (pv 4) (pv 6) set_list)))
          pss_nil)
        (pss_cons (ps_if (pt_cmpR op_eq (pv 5) pe_int (nomark _))
          (pss_one (ps_set (i := 4) nd rfl (Or.inl rfl) (pe_call (ok__law_pick T) (hr.mono (by decide)) rfl T.g__law_pick T.F__law_pick.kp T.b__law_pick .nil pass0 (pa_cons (pv 0) (pa_cons (pe_lstN (pa_cons (pe_op op_repN (pe_lstN (pa_cons pe_int pa_nil)) pe_int) (pa_cons (pe_op op_repN (pe_lstN (pa_cons pe_int pa_nil)) pe_int) (pa_cons (pe_op op_repN (pe_lstN (pa_cons (pv 1) pa_nil)) pe_int) pa_nil)))) pa_nil)))))
          pss_nil)
        (pss_one (ps_ret (pv 4))))))), ?_⟩
    refine ⟨_, rfl, a, b, cs, n, rfl, S, hn, fun H1 p e h f F1 S1 sq _ e1 e2 h1 h2 f1 f2 => ⟨p, _, rfl, sq, rfl, _, _, rfl, _, _, rfl, _, _, rfl, rfl, ?_⟩⟩
    refine ⟨_, rfl, _, rfl, _, rfl, (by show 4 ≤ sizeLine; decide), fun p2 H2 n2 => ⟨(by show 1 ≤ sizeLine; decide), fun p3 H3 n3 => ⟨p3, 12, _, rfl, rfl, n3.2.1, by decide, by decide, (by show 1 * 12 ≤ sizeLine; decide), fun p4 H4 n4 => ?_⟩⟩⟩
    refine ⟨p2, p4, _, _, rfl, rfl, n4.1 _ _ (n3.1 _ _ n2.2.1), n4.2.1, (by show 16 ≤ sizeLine; decide), fun p5 H5 n5 => ?_⟩
    have S5 := (((S1.new n2).new n3).new n4).new n5
    have F5 : Frm (· = a) H H5 := by walk_at "fr"
    obtain ⟨_, a0⟩ := S.at
    obtain ⟨_, a4⟩ := (((S1.new n2).new n3).new n4).at
    have fp : H p5 = none := Frm_free (F1.trans (frm_same ((n2.1.trans n3.1).trans n4.1))) a0 a4 n5.2.2
    have np : p5 ≠ a := n5.ne a4
    have b5 : H5 p5 = some (.lst ((7 :: e :: h :: f :: List.replicate 12 0).map V.int)) := n5.2.1
    refine ⟨_, rfl, a, b, cs, _, _, rfl, S5, by omega, by decide, by decide, fun H6 w F6 S6 w0 w1 => ⟨_, rfl, a, b, cs, _, _, rfl, S6, by omega, by decide, by decide, fun H7 sp F7 S7 s0 s1 => ⟨_, _, _, rfl, ?_⟩⟩⟩
    have b7 := F7 _ _ np (F6 _ _ np b5)
    have F7' := (F5.trans F6).trans F7
    have ok7 : okB (7 :: e :: h :: f :: List.replicate 12 0) := ⟨rfl, fun z hz => by
      simp only [List.mem_cons, List.mem_replicate] at hz
      rcases hz with rfl | rfl | rfl | rfl | ⟨_, rfl⟩ <;> omega⟩
    revert b7 ok7
    generalize (7 :: e :: h :: f :: List.replicate 12 0) = ns
    intro b7 ok7
    refine ⟨fun σ H' => ∃ ns, σ = [some (.ref a), some (.int e), some (.int h), some (.int f), some (.ref p5), some (.int w), some (.int sp)] ∧ H' p5 = some (.lst (ns.map V.int)) ∧ okB ns ∧ Frm (· = a) H H' ∧ Sx a b cs (n + 8) H', ?_, ?_⟩
    · refine ⟨_, rfl, rfl, _, rfl, ite2 (fun h3 => ?_) (fun h3 => ⟨ns, rfl, b7, ok7, F7', S7.le (by omega)⟩)⟩
      obtain ⟨x, hx, hat⟩ := atI_some (xs := ns.map V.int) s0 (by rw [List.length_map, ok7.1]; exact s1)
      obtain ⟨z, hz, rfl⟩ := List.mem_map.mp hx
      have zb := ok7.2 z hz
      refine ⟨_, rfl, _, rfl, _, rfl, p5, _, sp, _, rfl, rfl, SqL.of b7, hat, _, rfl, _, rfl, p5, _, sp, _, rfl, rfl, SqL.of b7, hat, _, _, rfl, rfl, .inr ⟨_, rfl, _, _, rfl, rfl, (by show 6 ≤ sizeLine; decide), fun p8 H8 n8 => ?_⟩⟩
      refine ⟨a, b, cs, _, p8, _, rfl, S7.new n8, by omega, S7.ne n8, SqL.of n8.2.1, (fun z => nomatch z), (by show 6 < 2 ^ 62; decide), fun H9 y F9 S9 hy => ?_⟩
      obtain ⟨y, rfl, y0, y1⟩ : ∃ y' : Int, y = .int y' ∧ 0 ≤ y' ∧ y' ≤ 65535 := by
        simp only [List.mem_cons, List.not_mem_nil, or_false] at hy
        rcases hy with rfl | rfl | rfl | rfl | rfl | rfl
        · exact ⟨_, rfl, by omega, by omega⟩
        · exact ⟨_, rfl, by omega, by omega⟩
        · exact ⟨_, rfl, by omega, by omega⟩
        · exact ⟨_, rfl, by omega, by omega⟩
        · exact ⟨_, rfl, by omega, by omega⟩
        · by_cases q : z < 65535
          · exact ⟨_, rfl, by rw [decide_eq_true q, if_pos rfl]; omega, by rw [decide_eq_true q, if_pos rfl]; omega⟩
          · exact ⟨_, rfl, by rw [decide_eq_false q, if_neg Bool.false_ne_true]; omega, by rw [decide_eq_false q, if_neg Bool.false_ne_true]; omega⟩
      have b9 := F9 _ _ np (n8.1 _ _ b7)
      refine ⟨_, rfl, _, rfl, p5, _, sp, _, rfl, rfl, b9, ixN_ok s0 (by rw [List.length_map, ok7.1]; exact s1), ns.set sp.toNat y, rfl, ?_, okB_set ok7 y0 y1 _, ?_, ?_⟩
      · rw [upd_same, List.map_set]
      · exact Frm.updD (F7'.trans ((frm_same n8.1).trans F9)) fp
      · exact (Sx.updD S fp S9).le (by omega)
    · rintro σ H8 ⟨ns, rfl, b8, ok8, F8, S8⟩
      refine ⟨_, rfl, rfl, _, rfl, ite2 (fun h3 => ?_) (fun h3 => ⟨_, rfl, k H8 p5 ns F8 (S8.le (by omega)) b8 fp ok8⟩)⟩
      refine ⟨_, rfl, (by show 1 ≤ sizeLine; decide), fun q1 G1 m1 => ⟨q1, 16, _, rfl, rfl, m1.2.1, by decide, by decide, (by show 1 * 16 ≤ sizeLine; decide), fun q2 G2 m2 => ?_⟩⟩
      refine ⟨(by show 1 ≤ sizeLine; decide), fun q3 G3 m3 => ⟨q3, 16, _, rfl, rfl, m3.2.1, by decide, by decide, (by show 1 * 16 ≤ sizeLine; decide), fun q4 G4 m4 => ?_⟩⟩
      refine ⟨_, rfl, (by show 1 ≤ sizeLine; decide), fun q5 G5 m5 => ⟨q5, 16, _, rfl, rfl, m5.2.1, by decide, by decide, (by show 1 * 16 ≤ sizeLine; decide), fun q6 G6 m6 => ?_⟩⟩
      refine ⟨(by show 3 ≤ sizeLine; decide), fun q7 G7 m7 => ?_⟩
      have T1 := S8.new m1
      have T2 := T1.new m2
      have T3 := T2.new m3
      have T4 := T3.new m4
      have T5 := T4.new m5
      have T6 := T5.new m6
      have T7 := T6.new m7
      refine ⟨a, b, cs, _, q7, _, rfl, T7, by omega, T6.ne m7, SqL.of m7.2.1, (fun z => nomatch z), (by show 3 < 2 ^ 62; decide), fun G8 x F9 S9 hx => ?_⟩
      obtain ⟨_, t1⟩ := T1.at
      obtain ⟨_, t3⟩ := T3.at
      obtain ⟨_, t5⟩ := T5.at
      have fin : ∀ (q : Addr) (y : Int) (G : Hp) (u : HO), G a = some u → Frm (· = a) H G → G q = none → 0 ≤ y → y ≤ 65535 → G7 q = some (.lst (List.replicate (16 : Int).toNat [V.int y]).flatten) → Q (.ref q) G8 := by
        intro q y G u ga FG gq y0 y1 g7
        have nq : q ≠ a := fun z => by rw [z, ga] at gq; cases gq
        have g8 := F9 _ _ nq g7
        rw [rep_one] at g8
        exact k G8 q (List.replicate 16 y) (F8.trans ((frm_same (m1.1.trans (m2.1.trans (m3.1.trans (m4.1.trans (m5.1.trans (m6.1.trans m7.1))))))).trans F9)) (S9.le (by omega)) g8 (Frm_free FG a0 ga gq) (okB_rep y0 y1)
      simp only [List.mem_cons, List.not_mem_nil, or_false] at hx
      rcases hx with rfl | rfl | rfl
      · exact ⟨_, rfl, fin q2 0 G1 _ t1 (F8.trans (frm_same m1.1)) m2.2.2 (by decide) (by decide) (m7.1 _ _ (m6.1 _ _ (m5.1 _ _ (m4.1 _ _ (m3.1 _ _ m2.2.1)))))⟩
      · exact ⟨_, rfl, fin q4 7 G3 _ t3 (F8.trans (frm_same (m1.1.trans (m2.1.trans m3.1)))) m4.2.2 (by decide) (by decide) (m7.1 _ _ (m6.1 _ _ (m5.1 _ _ m4.2.1)))⟩
      · exact ⟨_, rfl, fin q6 e G5 _ t5 (F8.trans (frm_same (m1.1.trans (m2.1.trans (m3.1.trans (m4.1.trans m5.1)))))) m6.2.2 (by omega) e2 (m7.1 _ _ m6.2.1)⟩
theorem ok__law_due {P : Program} {w : World} {K : PySem.W.Frag} {mg : Str → Option Value} {base : Heap} {fa : Nat → Addr} {fd : Nat → FuncData} (T : Txt K mg fa fd) : FnOk P w K mg base CX0 2 (fa 27) (fd 27) ["one", "other"] (spDue K) := by
  have nd := sc__law_due.nd
  refine T.F__law_due.ok sc__law_due (fun vs H Q E h => ?_) (fun cdv A outer s H vs Q E hr h => ?_)
  · obtain ⟨p, q, ns, ms, rfl, _⟩ := h; rfl
  · obtain ⟨p, q, ns, ms, rfl, hp, hq, ln, lm, k⟩ := h
    refine ⟨_, (pss_cons (ps_set (i := 2) nd rfl (Or.inl rfl) (pe_tupN (pa_cons pe_int (pa_cons pe_int (pa_cons pe_int pa_nil)))))
        (pss_cons (ps_for PassesOwn.never rfl (pi_tup (pe_tupN (pa_cons (pe_call (ok__law_head T) (hr.mono (by decide)) rfl T.g__law_head T.F__law_head.kp T.b__law_head .nil pass0 (pa_cons (pv 0) pa_nil)) (pa_cons (pe_call (ok__law_head T) (hr.mono (by decide)) rfl T.g__law_head T.F__law_head.kp T.b__law_head .nil pass0 (pa_cons (pv 1) pa_nil)) pa_nil)))) (pg_name (i := 3) nd rfl (Or.inl rfl))
          (pss_one (ps_if (PW.pt (pw_and (pt_cmpR op_notN (pv 3) pe_non (nomark _)) (pw_and1 (pt_cmpR op_gt (pe_ix ix_tup (pv 3) pe_int (fun _ _ => rfl)) (pe_ix ix_tup (pv 2) pe_int (fun _ _ => rfl)) (nomark _)))))
          (pss_one (ps_set (i := 2) nd rfl (Or.inl rfl) (pv 3)))
          pss_nil)))
        (pss_one (ps_ret (pv 2))))), ?_⟩
    refine ⟨(by show 3 ≤ sizeLine; decide), fun p1 H1 n1 => ?_⟩
    refine ⟨_, rfl, p, ns, rfl, n1.1.seq hp, ln, fun v H2 s2 tv => ⟨_, rfl, q, ms, rfl, s2.seq (n1.1.seq hq), lm, fun u H3 s3 tu => ⟨(by show 2 ≤ sizeLine; decide), fun p4 H4 n4 => ⟨p4, rfl, ⟨_, SqT.of n4.2.1⟩, ?_⟩⟩⟩⟩
    have s4 : Same H1 H4 := (s2.trans s3).trans n4.1
    refine for_tup (K := K) (a := p4) (xs := [v, u]) (fun i σ H' => (∃ g l, σ = [some (.ref p), some (.ref q), some (.ref g), l] ∧ SqT K H' g ((afterN ns ms i).map V.int) ∧ ∃ x y z, afterN ns ms i = [x, y, z]) ∧ Same H4 H')
      ⟨⟨p1, none, rfl, Same.seqT s4 (SqT.of n1.2.1), _, _, _, rfl⟩, Same.refl _⟩ (fun i σ H' _ ⟨_, s⟩ => Same.seqT s (SqT.of n4.2.1)) ?_ ?_
    · rintro i w σ H' hw ⟨⟨g, l, rfl, sg, x, y, z, ex⟩, s⟩
      obtain ⟨os, tw, ea⟩ : ∃ os, Tv K H' w (headN os) ∧ afterN ns ms (i + 1) = dueOne (afterN ns ms i) os := by
        match i, hw with
        | 0, hw =>
          have e : v = w := Option.some.inj hw
          subst e
          refine ⟨ns, ?_, rfl⟩
          rcases tv with ⟨h1, h2⟩ | ⟨l, t, h1, h2, h3⟩
          · exact .inl ⟨h1, h2⟩
          · exact .inr ⟨l, t, h1, h2, Same.seqT ((s3.trans n4.1).trans s) h3⟩
        | 1, hw =>
          have e : u = w := Option.some.inj hw
          subst e
          refine ⟨ms, ?_, rfl⟩
          rcases tu with ⟨h1, h2⟩ | ⟨l, t, h1, h2, h3⟩
          · exact .inl ⟨h1, h2⟩
          · exact .inr ⟨l, t, h1, h2, Same.seqT (n4.1.trans s) h3⟩
        | i + 2, hw => cases hw
      rw [ex] at sg ea
      rcases tw with ⟨h1, rfl⟩ | ⟨l2, t, h1, rfl, h3⟩
      · rw [due_none h1] at ea
        exact ⟨_, rfl, rfl, _, rfl, iteF (iteF ⟨⟨g, _, rfl, by rw [ea]; exact sg, x, y, z, ea⟩, s⟩)⟩
      · obtain ⟨x2, y2, z2, rfl⟩ := head_three h1
        rw [due_some h1] at ea
        refine ⟨_, rfl, rfl, _, rfl, iteT ⟨_, rfl, t, _, 0, _, rfl, rfl, h3, rfl, _, rfl, g, _, 0, _, rfl, rfl, sg, rfl, _, _, rfl, rfl, _, rfl, ite2 (fun h4 => ?_) (fun h4 => ?_)⟩⟩
        · have h4 : x < x2 := of_decide_eq_true h4
          have ea : afterN ns ms (i + 1) = [x2, y2, z2] := ea.trans (if_pos h4)
          exact ⟨_, rfl, ⟨⟨t, _, rfl, by rw [ea]; exact h3, _, _, _, ea⟩, s⟩⟩
        · have h4 : ¬ x < x2 := fun q => h4 (decide_eq_true q)
          have ea : afterN ns ms (i + 1) = [x, y, z] := ea.trans (if_neg h4)
          exact ⟨⟨g, _, rfl, by rw [ea]; exact sg, _, _, _, ea⟩, s⟩
    · rintro σ H' ⟨⟨g, l, rfl, sg, _⟩, s⟩
      exact ⟨_, rfl, k g H' ((n1.1.trans s4).trans s) sg⟩
theorem heard_gives {X : Cx} {fa : Nat → Addr} {fd : Nat → FuncData} (T : Txt X.K X.mg fa fd) {g : Addr} {cdg : Value} {q : Str} : GivesN X sl__law_heard "_law_heard" (defScope s__law_heard) g cdg (defBody s__law_heard) "ask" q (TTh (fa 11) (fa 12)) := by
  intro f c' s H Q tl act hc h
  have nd := sc__law_heard.nd
  refine ⟨_, pss_cons (ps_set (i := 1) nd rfl (Or.inl rfl) pe_non) (pss_cons (ps_try_as (i := 2) (tb := fun W D σ H => ∃ Ech : XK, (∀ cls d H', Ech cls d H' → W cls d σ H') ∧ σ[0]? = some (some (.ref f)) ∧ H c' = some (LamX.CodeO c' q) ∧ tl Ech H fun _ H' => D.nx σ H')
    (Wout := fun _ _ _ _ => False) rfl rfl nd rfl rfl ⟨rfl, by decide, Or.inl T.M_MeetError⟩ takes0 (fun W pn xe tk _ => ?_) (fun a oe cls d pn hz hf => (pss_cons (ps_set (i := 1) nd rfl (Or.inl rfl) (pe_tupN (pa_cons pe_str (pa_cons pe_non pa_nil))))
        (pss_one (ps_if (pt_val (pe_callB (call_isX2 hz hf) (by rfl) T.n_isinstance (by decide +kernel) (pa_cons (pv 2) (pa_cons (pe_tupN (pa_cons (pe_glob (v := .ref _) rfl T.E_BadNumber.gC rfl) (pa_cons (pe_glob (v := .ref _) rfl T.E_BadBlock.gC rfl) pa_nil))) pa_nil))))
          (pss_one (ps_set (i := 1) nd rfl (Or.inl rfl) (pe_tupN (pa_cons (pe_ifExp (pt_val (pe_callB (call_isX1 hz hf) (by rfl) T.n_isinstance (by decide +kernel) (pa_cons (pv 2) (pa_cons (pe_glob (v := .ref _) rfl T.E_BadNumber.gC rfl) pa_nil)))) pe_str pe_str) (pa_cons (pe_xfG hz hf (pv 2)) pa_nil)))))
          pss_nil))))) (pss_one (ps_ret (pv 1)))), ?_⟩
  · refine ⟨fun pins s' σ H' D I told => ?_⟩
    obtain ⟨Ech, hW, w1, w2, w3⟩ := told
    exact (pss_one (ps_expr (act W pn xe _ _ tk))).run pins s' σ H' D I ⟨Ech, hW, w1, w2, w3⟩
  · refine ⟨fun cls d H' => ∃ (C : Addr) (nm : Str) (dd : Addr) (pv : V), ((C = fa 11 ∧ nm = "number") ∨ (C = fa 12 ∧ nm = "block")) ∧ cls = .ref C ∧ d = some dd ∧ H' dd = some (.xd [("part", pv)]) ∧ ∀ p H'', New H' H'' p (.tup [.str nm, pv]) → Q (.ref p) H'', ?_, rfl, hc, ?_⟩
    · rintro cls d H' ⟨C, nm, dd, pv, hC, rfl, rfl, hdd, k⟩
      rcases hC with ⟨rfl, rfl⟩ | ⟨rfl, rfl⟩
      · refine ⟨true, T.exm_BadNumber_MeetError, fun _ a na => ?_, fun z => Bool.noConfusion z⟩
        refine ⟨(by show 2 ≤ sizeLine; decide), fun p1 H1 n1 => ⟨_, rfl, (by show 2 ≤ sizeLine; decide), fun p2 H2 n2 => ⟨fa 11, p2, [fa 11, fa 12], true, rfl, n2.2.1, ⟨rfl, T.X_BadNumber, dd, _, rfl, n2.1 _ _ (n1.1 _ _ hdd)⟩, ?_, _, rfl, iteT ?_⟩⟩⟩
        · exact kitAny_cons kit_self (fun z => by cases z) (fun _ => rfl)
        refine ⟨_, rfl, fa 11, fa 11, true, rfl, ⟨rfl, T.X_BadNumber, dd, _, rfl, n2.1 _ _ (n1.1 _ _ hdd)⟩, kit_self, _, rfl, iteT ?_⟩
        refine ⟨fa 11, T.E_BadNumber.xf, T.E_BadNumber.noF, _, rfl, rfl, rfl, dd, _, _, rfl, n2.1 _ _ (n1.1 _ _ hdd), rfl, (by show 2 ≤ sizeLine; decide), fun p3 H3 n3 => ?_⟩
        exact ⟨_, rfl, k p3 H3 ⟨(n1.1.trans n2.1).trans n3.1, n3.2.1, (n1.1.trans n2.1).free n3.2.2⟩⟩
      · refine ⟨true, T.exm_BadBlock_MeetError, fun _ a na => ?_, fun z => Bool.noConfusion z⟩
        refine ⟨(by show 2 ≤ sizeLine; decide), fun p1 H1 n1 => ⟨_, rfl, (by show 2 ≤ sizeLine; decide), fun p2 H2 n2 => ⟨fa 12, p2, [fa 11, fa 12], true, rfl, n2.2.1, ⟨rfl, T.X_BadBlock, dd, _, rfl, n2.1 _ _ (n1.1 _ _ hdd)⟩, ?_, _, rfl, iteT ?_⟩⟩⟩
        · exact kitAny_cons T.kit_BadBlock_BadNumber (fun _ => kitAny_cons kit_self (fun z => by cases z) (fun _ => rfl)) (fun z => by cases z)
        refine ⟨_, rfl, fa 12, fa 11, false, rfl, ⟨rfl, T.X_BadBlock, dd, _, rfl, n2.1 _ _ (n1.1 _ _ hdd)⟩, T.kit_BadBlock_BadNumber, _, rfl, iteF ?_⟩
        refine ⟨fa 12, T.E_BadBlock.xf, T.E_BadBlock.noF, _, rfl, rfl, rfl, dd, _, _, rfl, n2.1 _ _ (n1.1 _ _ hdd), rfl, (by show 2 ≤ sizeLine; decide), fun p3 H3 n3 => ?_⟩
        exact ⟨_, rfl, k p3 H3 ⟨(n1.1.trans n2.1).trans n3.1, n3.2.1, (n1.1.trans n2.1).free n3.2.2⟩⟩
    · have e : (fun (_ : V) (H' : Hp) => Q .non H') = fun (_ : V) (H' : Hp) => (tRet (tVar 1)) { nx := fun _ H' => Q .non H', rt := Q } (List.set (L2.start sl__law_heard [V.ref f]) 1 (some V.non)) H' := by
        funext x H'
        exact propext ⟨fun q => ⟨_, rfl, q⟩, fun ⟨v, e, q⟩ => by cases e; exact q⟩
      unfold TTh at h
      rw [e] at h
      exact h
theorem ok__law_refused_right {P : Program} {w : World} {K : PySem.W.Frag} {mg : Str → Option Value} {base : Heap} {fa : Nat → Addr} {fd : Nat → FuncData} {c PT : Addr} (T : Txt K mg fa fd) (TB : LamX.TabB base mg c PT)
    {oc kV doc pm ct : Value} {od an : Option Addr} {osl : Array (Option Value)} (lk : K.lookup (fa 29) = some ⟨oc, od, .func (PySem.W.fnOf "_law_refused_right" "_law_refused_right" (defArgs s__law_refused_right) (defBody s__law_refused_right) (defScope s__law_refused_right) .none kV doc pm an (.ref c) ct), osl⟩)
    (hcd : PySem.W.codeIn K (.ref c) "_law_refused_right" = true) : FnOk P w K mg base CX0 8 (fa 29) (PySem.W.fnOf "_law_refused_right" "_law_refused_right" (defArgs s__law_refused_right) (defBody s__law_refused_right) (defScope s__law_refused_right) .none kV doc pm an (.ref c) ct) ["prow"] (spRefused K PT) := by
  have nd := sc__law_refused_right.nd
  obtain ⟨ocH, odH, kVH, docH, pmH, anH, cdH, ctH, oslH, eH, lkH, cgH⟩ := T.F__law_heard.ex
  have bH := T.b__law_heard
  rw [eH] at bH
  rw [eH] at lkH
  refine fn_of lk hcd sc__law_refused_right spRefused_len fun A outer s H vs Q E hr h => ?_
  obtain ⟨a, b, cs, n, rfl, S, hn, hPT, k⟩ := h
  refine ⟨_, (pss_cons (ps_asg (pe_tupN (pa_cons (pe_call (ok__law_pick T) (hr.mono (by decide)) rfl T.g__law_pick T.F__law_pick.kp T.b__law_pick .nil pass0 (pa_cons (pv 0) (pa_cons (pe_lstN (pa_cons pe_int (pa_cons pe_int (pa_cons pe_non (pa_cons pe_bl (pa_cons pe_str pa_nil)))))) pa_nil))) (pa_cons (pe_call (ok__law_pick T) (hr.mono (by decide)) rfl T.g__law_pick T.F__law_pick.kp T.b__law_pick .nil pass0 (pa_cons (pv 0) (pa_cons (pe_lstN (pa_cons pe_int (pa_cons (pe_un un_neg pe_int) (pa_cons pe_non (pa_cons pe_bl (pa_cons pe_bl (pa_cons pe_str pa_nil))))))) pa_nil))) (pa_cons (pe_call (ok__law_pick T) (hr.mono (by decide)) rfl T.g__law_pick T.F__law_pick.kp T.b__law_pick .nil pass0 (pa_cons (pv 0) (pa_cons (pe_lstN (pa_cons pe_int (pa_cons pe_int (pa_cons pe_non (pa_cons pe_bl (pa_cons (pe_lstN (pa_cons pe_int pa_nil)) pa_nil)))))) pa_nil))) pa_nil)))) (pg_tup (by rfl) (pgs_cons (pg_name (i := 1) nd rfl (Or.inr rfl)) (pgs_cons (pg_name (i := 2) nd rfl (Or.inr rfl)) (pgs_cons (pg_name (i := 3) nd rfl (Or.inr rfl)) pgs_nil)))))
      (pss_cons (ps_asg (pe_tupN (pa_cons (pe_call (ok__law_pick T) (hr.mono (by decide)) rfl T.g__law_pick T.F__law_pick.kp T.b__law_pick .nil pass0 (pa_cons (pv 0) (pa_cons (pe_lstN (pa_cons pe_non (pa_cons pe_int (pa_cons (pe_op op_repN (pe_lstN (pa_cons pe_int pa_nil)) pe_int) (pa_cons (pe_op op_repN (pe_lstN (pa_cons pe_int pa_nil)) pe_int) (pa_cons (pe_op op_catN (pe_lstN (pa_cons pe_int pa_nil)) (pe_op op_repN (pe_lstN (pa_cons pe_int pa_nil)) pe_int)) (pa_cons (pe_op op_catN (pe_lstN (pa_cons pe_bl pa_nil)) (pe_op op_repN (pe_lstN (pa_cons pe_int pa_nil)) pe_int)) (pa_cons (pe_op op_repS pe_str pe_int) pa_nil)))))))) pa_nil))) (pa_cons (pe_op op_repN (pe_lstN (pa_cons pe_int pa_nil)) pe_int) pa_nil))) (pg_tup (by rfl) (pgs_cons (pg_name (i := 4) nd rfl (Or.inr rfl)) (pgs_cons (pg_name (i := 5) nd rfl (Or.inr rfl)) pgs_nil))))
      (pss_cons (ps_set (i := 6) nd rfl (Or.inl rfl) (pe_lstN (pa_cons (nf_call (g := fa 28) (TT := TTh (fa 11) (fa 12)) (TS := [(PT, lamQ)]) (m := 5) (Ng := sl__law_heard) rfl T.g__law_heard T.F__law_heard.kp lkH cgH bH sc__law_heard rfl (Or.inl rfl) (heard_gives T) TB rfl (List.mem_singleton.mpr rfl) (fun p hp _ => by rw [List.mem_singleton.mp hp]; rfl) hr (LamX.lamS_by (sc := defScope s__law_refused_right) (by decide +kernel)) rfl (fun _ _ _ _ _ => rfl) (fun A outer s H E f c' hr => pe_call (ok_head_block T) (hr.mono (by decide)) rfl T.g_head_block T.F_head_block.kp T.b_head_block .nil (passes_call (W := fun cls d _ H => E cls d H) (takes_of rfl rfl rfl rfl) (fun _ _ _ _ z => z)) (pa_cons (pv 1) (pa_cons (pv 2) (pa_cons (pv 3) pa_nil))))) (pa_cons (df_call (g := fa 28) (TT := TTh (fa 11) (fa 12)) (TS := [(PT, lamQ)]) (m := 5) (Ng := sl__law_heard) (x := "one") (n := 0) rfl T.g__law_heard T.F__law_heard.kp lkH cgH bH sc__law_heard rfl (Or.inl rfl) (heard_gives T) TB rfl (List.mem_singleton.mpr rfl) (fun p hp _ => by rw [List.mem_singleton.mp hp]; rfl) hr (dfS_by (sc := defScope s__law_refused_right) (by decide +kernel)) (show _ ∉ sl__law_refused_right by decide +kernel) rfl rfl (fun _ _ _ q => wpAny_Constant_int (q _ _)) (fun _ _ _ _ _ _ => ⟨_, rfl, fun _ => rfl⟩) (fun A outer s H E f c' hr => pe_call (ok_head_block T) (hr.mono (by decide)) rfl T.g_head_block T.F_head_block.kp T.b_head_block .nil (passes_call (W := fun cls d _ H => E cls d H) (takes_of rfl rfl rfl rfl) (fun _ _ _ _ z => z)) (pa_cons pe_int (pa_cons (pv 2) (pa_cons (pv 3) pa_nil))))) (pa_cons (df_call (g := fa 28) (TT := TTh (fa 11) (fa 12)) (TS := [(PT, lamQ)]) (m := 5) (Ng := sl__law_heard) (x := "two") (n := 0) rfl T.g__law_heard T.F__law_heard.kp lkH cgH bH sc__law_heard rfl (Or.inl rfl) (heard_gives T) TB rfl (List.mem_singleton.mpr rfl) (fun p hp _ => by rw [List.mem_singleton.mp hp]; rfl) hr (dfS_by (sc := defScope s__law_refused_right) (by decide +kernel)) (show _ ∉ sl__law_refused_right by decide +kernel) rfl rfl (fun _ _ _ q => wpAny_Constant_int (q _ _)) (fun _ _ _ _ _ _ => ⟨_, rfl, fun _ => rfl⟩) (fun A outer s H E f c' hr => pe_call (ok_head_block T) (hr.mono (by decide)) rfl T.g_head_block T.F_head_block.kp T.b_head_block .nil (passes_call (W := fun cls d _ H => E cls d H) (takes_of rfl rfl rfl rfl) (fun _ _ _ _ z => z)) (pa_cons pe_int (pa_cons pe_int (pa_cons (pv 3) pa_nil))))) pa_nil)))))
      (pss_cons (ps_set (i := 6) nd rfl (Or.inl rfl) (pe_op op_catN (pv 6) (pe_lstN (pa_cons (nf_call (g := fa 28) (TT := TTh (fa 11) (fa 12)) (TS := [(PT, lamQ)]) (m := 5) (Ng := sl__law_heard) rfl T.g__law_heard T.F__law_heard.kp lkH cgH bH sc__law_heard rfl (Or.inl rfl) (heard_gives T) TB rfl (List.mem_singleton.mpr rfl) (fun p hp _ => by rw [List.mem_singleton.mp hp]; rfl) hr (LamX.lamS_by (sc := defScope s__law_refused_right) (by decide +kernel)) rfl (fun _ _ _ _ _ => rfl) (fun A outer s H E f c' hr => pe_call (ok_read_heads T) (hr.mono (by decide)) rfl T.g_read_heads T.F_read_heads.kp T.b_read_heads .nil (passes_call (W := fun cls d _ H => E cls d H) (takes_of rfl rfl rfl rfl) (fun _ _ _ _ z => z)) (pa_cons (pv 4) (pa_cons (pv 4) pa_nil)))) (pa_cons (df_call (g := fa 28) (TT := TTh (fa 11) (fa 12)) (TS := [(PT, lamQ)]) (m := 5) (Ng := sl__law_heard) (x := "one") (n := 0) rfl T.g__law_heard T.F__law_heard.kp lkH cgH bH sc__law_heard rfl (Or.inl rfl) (heard_gives T) TB rfl (List.mem_singleton.mpr rfl) (fun p hp _ => by rw [List.mem_singleton.mp hp]; rfl) hr (dfS_by (sc := defScope s__law_refused_right) (by decide +kernel)) (show _ ∉ sl__law_refused_right by decide +kernel) rfl rfl (fun _ _ _ q => wpAny_Constant_int (q _ _)) (fun _ _ _ _ _ _ => ⟨_, rfl, fun _ => rfl⟩) (fun A outer s H E f c' hr => pe_call (ok_read_heads T) (hr.mono (by decide)) rfl T.g_read_heads T.F_read_heads.kp T.b_read_heads .nil (passes_call (W := fun cls d _ H => E cls d H) (takes_of rfl rfl rfl rfl) (fun _ _ _ _ z => z)) (pa_cons (pv 5) (pa_cons (pv 4) pa_nil)))) (pa_cons (df_call (g := fa 28) (TT := TTh (fa 11) (fa 12)) (TS := [(PT, lamQ)]) (m := 5) (Ng := sl__law_heard) (x := "two") (n := 0) rfl T.g__law_heard T.F__law_heard.kp lkH cgH bH sc__law_heard rfl (Or.inl rfl) (heard_gives T) TB rfl (List.mem_singleton.mpr rfl) (fun p hp _ => by rw [List.mem_singleton.mp hp]; rfl) hr (dfS_by (sc := defScope s__law_refused_right) (by decide +kernel)) (show _ ∉ sl__law_refused_right by decide +kernel) rfl rfl (fun _ _ _ q => wpAny_Constant_int (q _ _)) (fun _ _ _ _ _ _ => ⟨_, rfl, fun _ => rfl⟩) (fun A outer s H E f c' hr => pe_call (ok_read_heads T) (hr.mono (by decide)) rfl T.g_read_heads T.F_read_heads.kp T.b_read_heads .nil (passes_call (W := fun cls d _ H => E cls d H) (takes_of rfl rfl rfl rfl) (fun _ _ _ _ z => z)) (pa_cons (pv 5) (pa_cons (pv 5) pa_nil)))) pa_nil))))))
      (pss_one (ps_ret (pe_cmpR (op_eqD hr.units) (pv 6) (pe_lstN (pa_cons (pe_tupN (pa_cons pe_str (pa_cons pe_str pa_nil))) (pa_cons (pe_tupN (pa_cons pe_str (pa_cons pe_str pa_nil))) (pa_cons (pe_tupN (pa_cons pe_str (pa_cons pe_str pa_nil))) (pa_cons (pe_tupN (pa_cons pe_str (pa_cons pe_str pa_nil))) (pa_cons (pe_tupN (pa_cons pe_str (pa_cons pe_str pa_nil))) (pa_cons pe_non pa_nil))))))) (nomark _)))))))), ?_⟩
  -- epoch
  refine ⟨_, rfl, (by show 5 ≤ sizeLine; decide), fun p1 H1 n1 => ⟨a, b, cs, _, p1, _, rfl, S.new n1, by omega, S.ne n1, SqL.of n1.2.1, (fun z => nomatch z), (by show 5 < 2 ^ 62; decide), fun H2 xE F2 S2 hE => ?_⟩⟩
  have v1 : DvAll K (· = a) H1 [.int 0, .int 65536, .non, .bl true, .str "1"] _ := .cons (.int _) (.cons (.int _) (.cons .non (.cons (.bl _) (.cons (.str _) .nil))))
  obtain ⟨dE, mE, vE⟩ := (v1.mono F2).mem hE
  have wE : withinD dE (some 1) (some 65535) = false := by
    simp only [List.mem_cons, List.not_mem_nil, or_false] at mE
    rcases mE with rfl | rfl | rfl | rfl | rfl <;> rfl
  -- half
  refine ⟨_, rfl, _, rfl, (by show 6 ≤ sizeLine; decide), fun p3 H3 n3 => ⟨a, b, cs, _, p3, _, rfl, S2.new n3, by omega, S2.ne n3, SqL.of n3.2.1, (fun z => nomatch z), (by show 6 < 2 ^ 62; decide), fun H4 xH F4 S4 hH => ?_⟩⟩
  have v3 : DvAll K (· = a) H3 [.int 2, .int (-1), .non, .bl true, .bl false, .str "0"] _ := .cons (.int _) (.cons (.int _) (.cons .non (.cons (.bl _) (.cons (.bl _) (.cons (.str _) .nil)))))
  obtain ⟨dH, mH, vH⟩ := (v3.mono F4).mem hH
  have wH : withinD dH (some 0) (some 1) = false := by
    simp only [List.mem_cons, List.not_mem_nil, or_false] at mH
    rcases mH with rfl | rfl | rfl | rfl | rfl | rfl <;> rfl
  -- first
  refine ⟨_, rfl, (by show 1 ≤ sizeLine; decide), fun p5 H5 n5 => ⟨(by show 5 ≤ sizeLine; decide), fun p6 H6 n6 => ?_⟩⟩
  have S5 := S4.new n5
  refine ⟨a, b, cs, _, p6, _, rfl, S5.new n6, by omega, S5.ne n6, SqL.of n6.2.1, (fun z => nomatch z), (by show 5 < 2 ^ 62; decide), fun H7 xF F7 S7 hF => ?_⟩
  have v5 := S4.lst (K := K) n5 (.cons (.int 1) .nil)
  have v6 : DvAll K (· = a) H6 [.int 0, .int 65536, .non, .bl true, .ref p5] _ := .cons (.int _) (.cons (.int _) (.cons .non (.cons (.bl _) (.cons (v5.same n6.1) .nil))))
  obtain ⟨dF, mF, vF⟩ := (v6.mono F7).mem hF
  have wF : withinD dF (some 1) (some 65535) = false := by
    simp only [List.mem_cons, List.not_mem_nil, or_false] at mF
    rcases mF with rfl | rfl | rfl | rfl | rfl <;> rfl
  refine ⟨(by show 3 ≤ sizeLine; decide), fun p8 H8 n8 => ⟨p8, _, rfl, SqT.of n8.2.1, rfl, _, _, rfl, _, _, rfl, _, _, rfl, rfl, ?_⟩⟩
  have S8 := S7.new n8
  have vE8 : Dv K (· = a) H8 xE dE := vE.mono (by walk_at "fr")
  have vH8 : Dv K (· = a) H8 xH dH := vH.mono (by walk_at "fr")
  have vF8 : Dv K (· = a) H8 xF dF := vF.mono (by walk_at "fr")
  -- odd
  refine ⟨_, rfl, (by show 1 ≤ sizeLine; decide), fun q1 G1 m1 => ⟨q1, 15, _, rfl, rfl, m1.2.1, by decide, by decide, (by show 1 * 15 ≤ sizeLine; decide), fun q2 G2 m2 => ?_⟩⟩
  refine ⟨(by show 1 ≤ sizeLine; decide), fun q3 G3 m3 => ⟨q3, 17, _, rfl, rfl, m3.2.1, by decide, by decide, (by show 1 * 17 ≤ sizeLine; decide), fun q4 G4 m4 => ?_⟩⟩
  refine ⟨(by show 1 ≤ sizeLine; decide), fun q5 G5 m5 => ⟨(by show 1 ≤ sizeLine; decide), fun q6 G6 m6 => ⟨q6, 15, _, rfl, rfl, m6.2.1, by decide, by decide, (by show 1 * 15 ≤ sizeLine; decide), fun q7 G7 m7 => ?_⟩⟩⟩
  refine ⟨q5, q7, _, _, rfl, rfl, m7.1 _ _ (m6.1 _ _ m5.2.1), m7.2.1, (by show 16 ≤ sizeLine; decide), fun q8 G8 m8 => ?_⟩
  refine ⟨(by show 1 ≤ sizeLine; decide), fun q9 G9 m9 => ⟨(by show 1 ≤ sizeLine; decide), fun q10 G10 m10 => ⟨q10, 15, _, rfl, rfl, m10.2.1, by decide, by decide, (by show 1 * 15 ≤ sizeLine; decide), fun q11 G11 m11 => ?_⟩⟩⟩
  refine ⟨q9, q11, _, _, rfl, rfl, m11.1 _ _ (m10.1 _ _ m9.2.1), m11.2.1, (by show 16 ≤ sizeLine; decide), fun q12 G12 m12 => ?_⟩
  refine ⟨"0", 16, rfl, rfl, by decide, by decide, by decide +kernel, by decide +kernel, by decide +kernel, (by show 7 ≤ sizeLine; decide), fun q13 G13 m13 => ?_⟩
  have T1 := S8.new m1
  have T2 := T1.new m2
  have T3 := T2.new m3
  have T4 := T3.new m4
  have T5 := T4.new m5
  have T6 := T5.new m6
  have T7 := T6.new m7
  have T8 := T7.new m8
  have T9 := T8.new m9
  have T10 := T9.new m10
  have T11 := T10.new m11
  have T12 := T11.new m12
  rw [rep_one] at m2 m4 m8 m12
  have w2 := T1.lst (K := K) m2 (DvAll.ints _)
  have w4 := T3.lst (K := K) m4 (DvAll.ints _)
  have w8 := T7.lst (K := K) m8 (.cons (.int _) (DvAll.ints _))
  have w12 := T11.lst (K := K) m12 (.cons (.bl _) (DvAll.ints _))
  have vs : DvAll K (· = a) G12 [.non, .int 5, .ref q2, .ref q4, .ref q8, .ref q12, .str (repStr "0" 16)] _ :=
    .cons .non (.cons (.int _) (.cons (w2.same (by walk_at "sm")) (.cons (w4.same (by walk_at "sm")) (.cons (w8.same (by walk_at "sm")) (.cons w12 (.cons (.str _) .nil))))))
  refine ⟨a, b, cs, _, q13, _, rfl, T12.new m13, by omega, T12.ne m13, SqL.of m13.2.1, (fun z => nomatch z), (by show 7 < 2 ^ 62; decide), fun G14 xO F14 S14 hO => ?_⟩
  obtain ⟨dO, mO, vO⟩ := ((vs.same m13.1).mono F14).mem hO
  have wO : numbersD dO 16 65535 = false ∧ fewD dO := by
    simp only [List.mem_cons, List.not_mem_nil, or_false] at mO
    rcases mO with rfl | rfl | rfl | rfl | rfl | rfl | rfl <;> exact ⟨by decide +kernel, fewD_of rfl⟩
  -- good
  refine ⟨(by show 1 ≤ sizeLine; decide), fun q15 G15 m15 => ⟨q15, 16, _, rfl, rfl, m15.2.1, by decide, by decide, (by show 1 * 16 ≤ sizeLine; decide), fun q16 G16 m16 => ?_⟩⟩
  refine ⟨(by show 2 ≤ sizeLine; decide), fun q17 G17 m17 => ⟨q17, _, rfl, SqT.of m17.2.1, rfl, _, _, rfl, _, _, rfl, rfl, ?_⟩⟩
  have T14 := S14.new m15
  rw [rep_one] at m16
  have vG := (T14.lst (K := K) m16 (DvAll.ints _)).same m17.1
  have vO17 : Dv K (· = a) G17 xO dO := vO.mono (by walk_at "fr")
  have f17 : Frm (· = a) H8 G17 := by walk_at "fr"
  have vE17 := vE8.mono f17
  have vH17 := vH8.mono f17
  have vF17 := vF8.mono f17
  have fA : Frm (· = a) H H8 := by walk_at "fr"
  have nPT : PT ≠ a := fun z => by
    obtain ⟨_, _, S0, _⟩ := S
    rw [z, S0.ha] at hPT
    cases hPT
  have t17 : LamX.Tabs [(PT, lamQ)] G17 := tabs_nil (f17 _ _ nPT (fA _ _ nPT hPT))
  have wG : numbersD (.list ((List.replicate (Int.toNat 16) 0).map PyData.int)) 16 65535 = true := by decide +kernel
  have fG : fewD (.list ((List.replicate (Int.toNat 16) 0).map PyData.int)) := fewD_of rfl
  refine ⟨t17, fun K1 x1 t1 => ⟨_, rfl, _, rfl, _, rfl, nowhere, xE, xH, xF, dE, dH, dF, rfl, vE17.ext x1, vH17.ext x1, vF17.ext x1, fun y hy d D1 e1 => ⟨fa 11, "number", d, .str y, .inl ⟨rfl, rfl⟩, rfl, rfl, e1.2.1, fun r1 R1 g1 => ?_⟩, fun z => by rw [head_epoch wE] at z; cases z⟩⟩
  have ey : y = "epoch" := by
    exact Option.some.inj (hy.symm.trans (head_epoch wE))
  subst ey
  have j1 : Dv K nowhere R1 (.ref r1) (.tuple [.str "number", .str "epoch"]) := .tup (fun z => z) (SqT.of g1.2.1) (.cons (.str _) (.cons (.str _) .nil))
  have u1 : LamX.Tabs [(PT, lamQ)] R1 := t1.ext (fun b o e => g1.1 _ _ (e1.1 _ _ e))
  have z1 := x1.trans ((LamX.ExtN.of e1.1).trans (LamX.ExtN.of g1.1))
  have X1 := z1
  refine ⟨u1, fun K2 x2 t2 => ⟨_, rfl, _, rfl, nowhere, .int 1, xH, xF, .int 1, dH, dF, rfl, .int 1, vH17.ext (X1.trans x2), vF17.ext (X1.trans x2), fun y hy d D2 e2 => ⟨fa 11, "number", d, .str y, .inl ⟨rfl, rfl⟩, rfl, rfl, e2.2.1, fun r2 R2 g2 => ?_⟩, fun z => by rw [head_half rfl wH] at z; cases z⟩⟩
  have ey : y = "half" := by
    exact Option.some.inj (hy.symm.trans (head_half rfl wH))
  subst ey
  have j2 : Dv K nowhere R2 (.ref r2) (.tuple [.str "number", .str "half"]) := .tup (fun z => z) (SqT.of g2.2.1) (.cons (.str _) (.cons (.str _) .nil))
  have u2 : LamX.Tabs [(PT, lamQ)] R2 := t2.ext (fun b o e => g2.1 _ _ (e2.1 _ _ e))
  have z2 := x2.trans ((LamX.ExtN.of e2.1).trans (LamX.ExtN.of g2.1))
  have X2 := X1.trans z2
  refine ⟨u2, fun K3 x3 t3 => ⟨_, rfl, nowhere, .int 1, .int 0, xF, .int 1, .int 0, dF, rfl, .int 1, .int 0, vF17.ext (X2.trans x3), fun y hy d D3 e3 => ⟨fa 11, "number", d, .str y, .inl ⟨rfl, rfl⟩, rfl, rfl, e3.2.1, fun r3 R3 g3 => ?_⟩, fun z => by rw [head_first rfl rfl wF] at z; cases z⟩⟩
  have ey : y = "first" := by
    exact Option.some.inj (hy.symm.trans (head_first rfl rfl wF))
  subst ey
  have j3 : Dv K nowhere R3 (.ref r3) (.tuple [.str "number", .str "first"]) := .tup (fun z => z) (SqT.of g3.2.1) (.cons (.str _) (.cons (.str _) .nil))
  have u3 : LamX.Tabs [(PT, lamQ)] R3 := t3.ext (fun b o e => g3.1 _ _ (e3.1 _ _ e))
  have z3 := x3.trans ((LamX.ExtN.of e3.1).trans (LamX.ExtN.of g3.1))
  have X3 := X2.trans z3
  refine ⟨(by show 3 ≤ sizeLine; decide), fun ph Hh nh => ?_⟩
  have zh := LamX.ExtN.of nh.1
  have Xh := X3.trans zh
  refine ⟨_, rfl, ?_⟩
  refine ⟨u3.ext (fun b o e => nh.1 _ _ e), fun K4 x4 t4 => ⟨_, rfl, _, rfl, nowhere, xO, xO, dO, dO, rfl, vO17.ext (Xh.trans x4), vO17.ext (Xh.trans x4), wO.2, wO.2, fun y hy d D4 e4 => ⟨fa 12, "block", d, .str y, .inr ⟨rfl, rfl⟩, rfl, rfl, e4.2.1, fun r4 R4 g4 => ?_⟩, fun z => by rw [wO.1] at z; cases z⟩⟩
  have ey : y = "one" := by
    rw [wO.1] at hy; exact (Option.some.inj hy).symm
  subst ey
  have j4 : Dv K nowhere R4 (.ref r4) (.tuple [.str "block", .str "one"]) := .tup (fun z => z) (SqT.of g4.2.1) (.cons (.str _) (.cons (.str _) .nil))
  have u4 : LamX.Tabs [(PT, lamQ)] R4 := t4.ext (fun b o e => g4.1 _ _ (e4.1 _ _ e))
  have z4 := x4.trans ((LamX.ExtN.of e4.1).trans (LamX.ExtN.of g4.1))
  have X4 := Xh.trans z4
  refine ⟨u4, fun K5 x5 t5 => ⟨_, rfl, _, rfl, nowhere, .ref q16, xO, _, dO, rfl, vG.ext (X4.trans x5), vO17.ext (X4.trans x5), fG, wO.2, fun y hy d D5 e5 => ⟨fa 12, "block", d, .str y, .inr ⟨rfl, rfl⟩, rfl, rfl, e5.2.1, fun r5 R5 g5 => ?_⟩, fun _ z => by rw [wO.1] at z; cases z⟩⟩
  have ey : y = "other" := by
    rw [wG, wO.1] at hy; exact (Option.some.inj hy).symm
  subst ey
  have j5 : Dv K nowhere R5 (.ref r5) (.tuple [.str "block", .str "other"]) := .tup (fun z => z) (SqT.of g5.2.1) (.cons (.str _) (.cons (.str _) .nil))
  have u5 : LamX.Tabs [(PT, lamQ)] R5 := t5.ext (fun b o e => g5.1 _ _ (e5.1 _ _ e))
  have z5 := x5.trans ((LamX.ExtN.of e5.1).trans (LamX.ExtN.of g5.1))
  have X5 := X4.trans z5
  refine ⟨u5, fun K6 x6 t6 => ⟨_, rfl, _, rfl, nowhere, .ref q16, .ref q16, _, _, rfl, vG.ext (X5.trans x6), vG.ext (X5.trans x6), fG, fG, fun y hy => (by rw [wG] at hy; cases hy), fun _ _ _ _ _ _ _ _ p6 R6 s6 _ => ?_⟩⟩
  refine ⟨(by show 3 ≤ sizeLine; decide), fun pl Hl nl => ⟨ph, pl, [.ref r1, .ref r2, .ref r3], _, rfl, rfl, ?_, nl.2.1, (by show 6 ≤ sizeLine; decide), fun pz Hz nz => ?_⟩⟩
  · exact nl.1 _ _ (s6 _ _ (x6 _ _ (z5 _ _ (z4 _ _ nh.2.1 fun _ w => by cases w) fun _ w => by cases w) fun _ w => by cases w))
  have y6 := (x6.trans (LamX.ExtN.of s6)).trans (LamX.ExtN.of (nl.1.trans nz.1))
  refine ⟨_, rfl, (by show 2 ≤ sizeLine; decide), fun a1 A1 c1 => ⟨(by show 2 ≤ sizeLine; decide), fun a2 A2 c2 => ⟨(by show 2 ≤ sizeLine; decide), fun a3 A3 c3 => ⟨(by show 2 ≤ sizeLine; decide), fun a4 A4 c4 => ⟨(by show 2 ≤ sizeLine; decide), fun a5 A5 c5 => ⟨(by show 6 ≤ sizeLine; decide), fun a6 A6 c6 => ?_⟩⟩⟩⟩⟩⟩
  have s15 : Same A1 A6 := c2.1.trans (c3.1.trans (c4.1.trans (c5.1.trans c6.1)))
  have s25 : Same A2 A6 := c3.1.trans (c4.1.trans (c5.1.trans c6.1))
  have s35 : Same A3 A6 := c4.1.trans (c5.1.trans c6.1)
  have s45 : Same A4 A6 := c5.1.trans c6.1
  have yz : LamX.ExtN Hz A6 := LamX.ExtN.of (c1.1.trans s15)
  have b5 := y6.trans yz
  have b4 := z5.trans b5
  have b3 := (zh.trans z4).trans b4
  have b2 := z3.trans b3
  have b1 := z2.trans b2
  have hv : Dv K nowhere A6 (.ref pz) _ := .lst (fun z => z) (ext_seq yz (SqL.of nz.2.1)) (.cons (j1.ext b1) (.cons (j2.ext b2) (.cons (j3.ext b3) (.cons (j4.ext b4) (.cons (j5.ext b5) (.cons .non .nil))))))
  have two : ∀ (x y : Str) (p : Addr) (A0 : Hp), A0 p = some (.tup [.str x, .str y]) → Same A0 A6 → Dv K nowhere A6 (.ref p) (.tuple [.str x, .str y]) := fun x y p A0 w s => .tup (fun z => z) (Same.seqT s (SqT.of w)) (.cons (.str _) (.cons (.str _) .nil))
  have hu : Dv K nowhere A6 (.ref a6) _ := .lst (fun z => z) (SqL.of c6.2.1) (.cons (two _ _ a1 A1 c1.2.1 s15) (.cons (two _ _ a2 A2 c2.2.1 s25) (.cons (two _ _ a3 A3 c3.2.1 s35) (.cons (two _ _ a4 A4 c4.2.1 s45) (.cons (two _ _ a5 A5 c5.2.1 c6.1) (.cons .non .nil))))))
  exact eq_data hv hu (by decide +kernel) (by decide +kernel) (by decide +kernel) (k _)
theorem ok_law {P : Program} {w : World} {K : PySem.W.Frag} {mg : Str → Option Value} {base : Heap} {fa : Nat → Addr} {fd : Nat → FuncData} (T : Txt K mg fa fd) {PT : Addr} (G29 : FnOk P w K mg base CX0 8 (fa 29) (fd 29) ["prow"] (spRefused K PT)) : FnG P w K mg base CX0 9 (fa 30) (fd 30) ["script"] (spLawG K PT) := by
  have nd := sc_law.nd
  refine okGn T.F_law sc_law (fun vs H Q E h => ?_) (fun cdv A outer s H vs Q E hq hr h => ?_)
  · obtain ⟨a, ns, rfl, _⟩ := h; rfl
  · obtain ⟨a0, ns, rfl, hS, hlen, hPT, k⟩ := h
    refine ⟨_, (pss_cons (ps_set (i := 1) nd rfl (Or.inl rfl) (pe_call (ok__law_prow T) (hr.mono (by decide)) rfl T.g__law_prow T.F__law_prow.kp T.b__law_prow .nil pass0 (pa_cons (pv 0) pa_nil)))
        (pss_cons (ps_for PassesOwn.never rfl (pi_range1 rfl T.n_range (pa_cons pe_int pa_nil)) (pg_name (i := 2) nd rfl (Or.inl rfl))
          (pss_cons (ps_asg (pe_call (ok__law_told T) (hr.mono (by decide)) rfl T.g__law_told T.F__law_told.kp T.b__law_told .nil pass0 (pa_cons (pv 1) pa_nil)) (pg_tup (by rfl) (pgs_cons (pg_name (i := 3) nd rfl (Or.inl rfl)) (pgs_cons (pg_name (i := 4) nd rfl (Or.inl rfl)) (pgs_cons (pg_name (i := 5) nd rfl (Or.inl rfl)) pgs_nil)))))
        (pss_cons (ps_set (i := 6) nd rfl (Or.inl rfl) (pe_call (ok_head_block T) (hr.mono (by decide)) rfl T.g_head_block T.F_head_block.kp T.b_head_block .nil passL (pa_cons (pv 3) (pa_cons (pv 4) (pa_cons (pv 5) pa_nil)))))
        (pss_cons (ps_if (PW.pt (pw_or (pt_cmpR op_ne (pe_callB (call_reprD hq hr) (by rfl) T.n_repr (by decide +kernel) (pa_cons (pv 6) pa_nil)) (pe_callB (call_reprD hq hr) (by rfl) T.n_repr (by decide +kernel) (pa_cons (pe_op op_catTN (pe_tupN (pa_cons pe_int (pa_cons (pv 3) (pa_cons (pv 4) (pa_cons (pv 5) pa_nil))))) (pe_op op_repTN (pe_tupN (pa_cons pe_int pa_nil)) pe_int)) pa_nil)) (nomark _)) (pw_or1 (pt_cmpR (op_neD hr.units) (pe_callN0 (ok_head_block T) (hr.mono (by decide)) rfl T.g_head_block T.F_head_block.kp T.kb_head_block_first_half_epoch passL (pk_cons (pv 5) (pk_cons (pv 4) (pk_cons (pv 3) pk_nil)))) (pv 6) (nomark _)))))
          (pss_one (ps_ret pe_bl))
          pss_nil)
        (pss_cons (ps_par (i := 7) (j := 8) (by rfl) nd rfl rfl (by decide) rfl rfl (pa_cons (pe_call (ok__law_block T) (hr.mono (by decide)) rfl T.g__law_block T.F__law_block.kp T.b__law_block .nil pass0 (pa_cons (pv 1) pa_nil)) (pa_cons (pe_call (ok__law_block T) (hr.mono (by decide)) rfl T.g__law_block T.F__law_block.kp T.b__law_block .nil pass0 (pa_cons (pv 1) pa_nil)) pa_nil)) (by rfl))
        (C8.pss_cut (ps_if (pt_cmpR op_eq (pe_call (ok__law_steer T) (hr.mono (by decide)) rfl T.g__law_steer T.F__law_steer.kp T.b__law_steer .nil pass0 (pa_cons (pv 1) (pa_cons pe_int pa_nil))) pe_int (nomark _))
          (pss_one (ps_asg (pe_ix ix_list (pv 7) pe_int (fun _ _ => rfl)) (pg_sub (pv 8) pe_int set_list)))
          pss_nil)
        (pss_cons (ps_set (i := 9) nd rfl (Or.inl rfl) (pe_lstN (pa_cons (pe_callTy call_list_ofN (by rfl) T.n_list (by decide +kernel) (pa_cons (pv 7) pa_nil)) (pa_cons (pe_callTy call_tuple_ofN (by rfl) T.n_tuple (by decide +kernel) (pa_cons (pv 8) pa_nil)) pa_nil))))
        (pss_cons (ps_if (PW.pt (pw_or (pt_cmpR op_ne (pe_callB (call_reprD hq hr) (by rfl) T.n_repr (by decide +kernel) (pa_cons (pe_call (ok_read_heads T) (hr.mono (by decide)) rfl T.g_read_heads T.F_read_heads.kp T.b_read_heads .nil passL (pa_cons (pe_ix ix_list (pv 9) pe_int (fun _ _ => rfl)) (pa_cons (pe_ix ix_list (pv 9) pe_int (fun _ _ => rfl)) pa_nil))) pa_nil)) (pe_callB (call_reprD hq hr) (by rfl) T.n_repr (by decide +kernel) (pa_cons (pe_call (ok__law_due T) (hr.mono (by decide)) rfl T.g__law_due T.F__law_due.kp T.b__law_due .nil pass0 (pa_cons (pv 7) (pa_cons (pv 8) pa_nil))) pa_nil)) (nomark _)) (pw_or1 (pt_cmpR (op_neD hr.units) (pv 9) (pe_lstN (pa_cons (pv 7) (pa_cons (pe_callTy call_tuple_ofN (by rfl) T.n_tuple (by decide +kernel) (pa_cons (pv 8) pa_nil)) pa_nil))) (nomark _)))))
          (pss_one (ps_ret pe_bl))
          pss_nil)
        (pss_one (ps_if (pt_cmpR (op_neD hr.units) (pe_callN0 (ok_read_heads T) (hr.mono (by decide)) rfl T.g_read_heads T.F_read_heads.kp T.kb_read_heads_other_one passL (pk_cons (pv 8) (pk_cons (pv 7) pk_nil))) (pe_call (ok__law_due T) (hr.mono (by decide)) rfl T.g__law_due T.F__law_due.kp T.b__law_due .nil pass0 (pa_cons (pv 7) (pa_cons (pv 8) pa_nil))) (nomark _))
          (pss_one (ps_ret pe_bl))
          pss_nil))))))))))
        (pss_one (ps_ret (pe_call G29 (hr.mono (by decide)) rfl T.g__law_refused_right T.F__law_refused_right.kp T.b__law_refused_right .nil pass0 (pa_cons (pv 1) pa_nil)))))), ?_⟩
    obtain ⟨Sh, hSh⟩ := rp_all
    refine ⟨_, rfl, a0, ns, rfl, hS, hlen, fun a b cs H1 s1 S1 na => ?_⟩
    have nPT : PT ≠ a := fun z => by rw [z, na] at hPT; cases hPT
    have PT1 := s1 _ _ hPT
    refine ⟨8, rfl, by decide, by decide, for_range (fun i σ H' => (∃ u2 u3 u4 u5 u6 u7 u8 u9, σ = [some (.ref a0), some (.ref a), u2, u3, u4, u5, u6, u7, u8, u9]) ∧ Sx a b cs (30 * i) H' ∧ H' PT = some (.tbl #[])) ⟨⟨none, none, none, none, none, none, none, none, rfl⟩, S1, PT1⟩ ?_ ?_⟩
    · rintro i σ H2 hi ⟨⟨u2, u3, u4, u5, u6, u7, u8, u9, rfl⟩, S2, PT2⟩
      have hi : i < 8 := hi
      refine ⟨_, rfl, a, b, cs, _, rfl, S2, by omega, fun H3 p3 e h f F3 S3 q3 n3 e1 e2 h1 h2 f1 f2 => ⟨p3, _, rfl, q3, rfl, _, _, rfl, _, _, rfl, _, _, rfl, rfl, ?_⟩⟩
      have bd : ∀ z ∈ (7 :: e :: h :: f :: List.replicate 12 0 : List Int), 0 ≤ z ∧ z ≤ 65535 := by
        intro z hz
        simp only [List.mem_cons, List.mem_replicate] at hz
        rcases hz with rfl | rfl | rfl | rfl | ⟨_, rfl⟩ <;> omega
      have good : badHead (.int e) (.int h) (.int f) = none := head_good (wi e1 e2) (wi h1 h2) (wi f1 f2)
      have PT3 := F3 _ _ nPT PT2
      -- told
      refine ⟨_, rfl, _, rfl, _, rfl, nowhere, .int e, .int h, .int f, .int e, .int h, .int f, rfl, .int _, .int _, .int _, fun x hx => (by rw [good] at hx; cases hx), fun _ p4 H4 n4 => ?_⟩
      have t4 : SqT K H4 p4 ((7 :: e :: h :: f :: List.replicate 12 0).map V.int) := SqT.of n4.2.1
      obtain ⟨dd1X, y1, y2, y3, y4, y5, y6⟩ := hSh t4 bd (Nat.le_refl 16)
      refine ⟨_, rfl, _, _, rfl, y1, y2, y3, y4, y5, ?_⟩
      refine ⟨_, rfl, _, rfl, _, rfl, (by show 4 ≤ sizeLine; decide), fun p5 H5 n5 => ⟨(by show 1 ≤ sizeLine; decide), fun p6 H6 n6 => ⟨p6, 12, [.int 0], rfl, rfl, SqT.of n6.2.1, (fun z => nomatch z), by decide, by decide, (by show 1 ≤ 1000; decide), fun p7 H7 n7 => ?_⟩⟩⟩
      refine ⟨p5, p7, _, _, rfl, rfl, SqT.of (n7.1 _ _ (n6.1 _ _ n5.2.1)), SqT.of n7.2.1, (by show 16 ≤ sizeLine; decide), (fun z => nomatch z), (fun z => nomatch z), fun p8 H8 n8 => ?_⟩
      have t8 : SqT K H8 p8 ((7 :: e :: h :: f :: List.replicate 12 0).map V.int) := SqT.of n8.2.1
      obtain ⟨dd2X, w1, w2, w3, w4, w5, w6⟩ := hSh t8 bd (Nat.le_refl 16)
      refine ⟨_, _, rfl, w1, w2, w3, w4, w5, rfl, _, rfl, ?_⟩
      refine iteNS (congrArg V.str (y6.trans w6.symm)) ?_
      refine ⟨_, rfl, _, rfl, _, rfl, rfl, rfl, nowhere, .int e, .int h, .int f, .int e, .int h, .int f, rfl, .int _, .int _, .int _, fun x hx => (by rw [good] at hx; cases hx), fun _ p9 H9 n9 => ⟨_, rfl, ne_tups (ns := 7 :: e :: h :: f :: List.replicate 12 0) (SqT.of n9.2.1) ?_ ⟨_, rfl, iteF ?_⟩⟩⟩
      · exact Same.seqT (n5.1.trans (n6.1.trans (n7.1.trans (n8.1.trans n9.1)))) t4
      have s9 : Same H3 H9 := n4.1.trans (n5.1.trans (n6.1.trans (n7.1.trans (n8.1.trans n9.1))))
      have S9 := S3.same s9
      have PT9 := s9 _ _ PT3
      clear y1 y2 y3 y4 y5 w1 w2 w3 w4 w5 t4 t8 n4 n5 n6 n7 n8 n9 bd
      -- one, other
      refine ⟨_, rfl, a, b, cs, _, rfl, S9, by omega, fun H10 po ns1 F10 S10 go fo oko => ⟨_, rfl, a, b, cs, _, rfl, S10, by omega, fun H11 pt ms F11 S11 gt ft okt => ⟨_, _, rfl, ?_⟩⟩⟩
      have npo : po ≠ a := S9.neD fo
      have npt : pt ≠ a := S10.neD ft
      have nop : po ≠ pt := fun z => by rw [z, ft] at go; cases go
      have go11 := F11 _ _ npo go
      have PT11 := F11 _ _ nPT (F10 _ _ nPT PT9)
      refine ⟨fun σ H' => ∃ ms', σ = [some (.ref a0), some (.ref a), some (.int (0 + i)), some (.int e), some (.int h), some (.int f), some (.ref p4), some (.ref po), some (.ref pt), u9] ∧ H' po = some (.lst (ns1.map V.int)) ∧ H' pt = some (.lst (ms'.map V.int)) ∧ okB ms' ∧ Sx a b cs (30 * i + 24) H' ∧ H' PT = some (.tbl #[]), ?_, ?_⟩
      · refine ⟨_, rfl, a, b, cs, _, _, rfl, S11, by omega, by decide, by decide, fun H12 d F12 S12 d0 d1 => ⟨rfl, _, rfl, ite2 (fun h3 => ?_) (fun h3 => ⟨ms, rfl, F12 _ _ npo go11, F12 _ _ npt gt, okt, S12.le (by omega), F12 _ _ nPT PT11⟩)⟩⟩
        obtain ⟨z, hz⟩ : ∃ z, ns1[1]? = some z := ⟨_, List.getElem?_eq_getElem (by rw [oko.1]; decide)⟩
        have zb := oko.2 z (List.mem_of_getElem? hz)
        have g12 := F12 _ _ npt gt
        refine ⟨_, rfl, po, _, 1, .int z, rfl, rfl, SqL.of (F12 _ _ npo go11), atI_nat (j := 1) (by rw [List.getElem?_map, hz]; rfl), _, rfl, pt, _, 1, _, rfl, rfl, g12, ixN_ok (by decide) (by rw [List.length_map, okt.1]; decide), ms.set 1 z, rfl, ?_, ?_, okB_set okt zb.1 zb.2 _, ?_, ?_⟩
        · rw [upd_ne nop]; exact F12 _ _ npo go11
        · rw [upd_same, List.map_set]; rfl
        · exact (Sx.updD S10 ft S12).le (by omega)
        · have : PT ≠ pt := fun w => by rw [← w, F12 _ _ nPT PT11] at g12; cases g12
          rw [upd_ne this]
          exact F12 _ _ nPT PT11
      rintro σ H12 ⟨ms, rfl, go, gt, okt, S12, PT12⟩
      -- passed
      refine ⟨_, rfl, po, _, rfl, .inl (SqL.of go), fun l1 L1 m1 => ⟨_, rfl, pt, _, rfl, .inl ⟨SqL.of (m1.1 _ _ gt), fun l2 L2 m2 => ⟨(by show 2 ≤ sizeLine; decide), fun l3 L3 m3 => ?_⟩⟩⟩⟩
      have vl : Dv K nowhere L3 (.ref l1) (.list (ns1.map .int)) := .lst (fun z => z) (SqL.of (m3.1 _ _ (m2.1 _ _ m1.2.1))) (DvAll.ints _)
      have vr : Dv K nowhere L3 (.ref l2) (.tuple (ms.map .int)) := .tup (fun z => z) (SqT.of (m3.1 _ _ m2.2.1)) (DvAll.ints _)
      have s3 : Same H12 L3 := m1.1.trans (m2.1.trans m3.1)
      refine ⟨_, rfl, l3, _, 0, .ref l1, rfl, rfl, SqL.of m3.2.1, rfl, _, rfl, l3, _, 1, .ref l2, rfl, rfl, SqL.of m3.2.1, rfl, nowhere, .ref l1, .ref l2, _, _, rfl, vl, vr, few_ints oko.1 _ rfl, few_ints okt.1 _ rfl, fun x hx => (by rw [num_ok oko _ rfl, num_ok okt _ rfl] at hx; cases hx), fun _ _ ns' ms' en ln em lm p4' L4 s4 sq4 => ?_⟩
      have en := ints_inj (Option.some.inj en)
      have em := ints_inj (Option.some.inj em)
      subst en em
      obtain ⟨dd3X, y1, y2, y3, y4, y5, y6⟩ := hSh sq4 (read_bd oko okt) (read_len _ _)
      refine ⟨_, _, rfl, y1, y2, y3, y4, y5, ?_⟩
      refine ⟨_, rfl, _, rfl, po, pt, ns1, ms, rfl, SqL.of (s4 _ _ (s3 _ _ go)), SqL.of (s4 _ _ (s3 _ _ gt)), oko.1, okt.1, fun t5 L5 s5 sq5 => ?_⟩
      rw [due_read oko okt] at sq5
      obtain ⟨dd4X, w1, w2, w3, w4, w5, w6⟩ := hSh sq5 (read_bd oko okt) (read_len _ _)
      refine ⟨_, _, rfl, w1, w2, w3, w4, w5, rfl, _, rfl, ?_⟩
      refine iteNS (congrArg V.str (y6.trans w6.symm)) ?_
      have s35 : Same L3 L5 := s4.trans s5
      refine ⟨_, rfl, _, rfl, _, rfl, pt, _, rfl, .inl ⟨SqL.of (s35 _ _ (s3 _ _ gt)), fun l6 L6 m6 => ⟨(by show 2 ≤ sizeLine; decide), fun l7 L7 m7 => ?_⟩⟩⟩
      have s37 : Same L3 L7 := s35.trans (m6.1.trans m7.1)
      have dl : Dv K nowhere L7 (.ref l3) (.list [.list (ns1.map .int), .tuple (ms.map .int)]) := .lst (fun z => z) (SqL.of (s37 _ _ m3.2.1)) (.cons (vl.same s37) (.cons (vr.same s37) .nil))
      have dr : Dv K nowhere L7 (.ref l7) (.list [.list (ns1.map .int), .tuple (ms.map .int)]) := .lst (fun z => z) (SqL.of m7.2.1) (.cons (.lst (fun z => z) (SqL.of (s37 _ _ (s3 _ _ go))) (DvAll.ints _)) (.cons (.tup (fun z => z) (SqT.of (m7.1 _ _ m6.2.1)) (DvAll.ints _)) .nil))
      refine ne_data dl dr ⟨_, rfl, iteF ?_⟩
      have s7 : Same H12 L7 := s3.trans s37
      -- by name
      have vo : Dv K nowhere L7 (.ref po) (.list (ns1.map .int)) := .lst (fun z => z) (SqL.of (s7 _ _ go)) (DvAll.ints _)
      have vt : Dv K nowhere L7 (.ref pt) (.list (ms.map .int)) := .lst (fun z => z) (SqL.of (s7 _ _ gt)) (DvAll.ints _)
      refine ⟨_, rfl, _, rfl, rfl, rfl, nowhere, .ref po, .ref pt, _, _, rfl, vo, vt, few_ints oko.1 _ rfl, few_ints okt.1 _ rfl, fun x hx => (by rw [num_ok oko _ rfl, num_ok okt _ rfl] at hx; cases hx), fun _ _ ns' ms' en ln em lm p8' L8 s8 sq8 => ?_⟩
      have en := ints_inj (Option.some.inj en)
      have em := ints_inj (Option.some.inj em)
      subst en em
      refine ⟨_, rfl, _, rfl, po, pt, ns1, ms, rfl, SqL.of (s8 _ _ (s7 _ _ go)), SqL.of (s8 _ _ (s7 _ _ gt)), oko.1, okt.1, fun t9 L9 s9' sq9 => ?_⟩
      rw [due_read oko okt] at sq9
      refine ne_tups (Same.seqT s9' sq8) sq9 ⟨_, rfl, iteF ?_⟩
      have send : Same H12 L9 := s7.trans (s8.trans s9')
      exact ⟨⟨_, _, _, _, _, _, _, _, rfl⟩, (S12.same send).le (by omega), send _ _ PT12⟩
    · rintro σ H2 ⟨⟨u2, u3, u4, u5, u6, u7, u8, u9, rfl⟩, S2, PT2⟩
      exact ⟨_, rfl, a, b, cs, _, rfl, S2, by decide, PT2, k⟩
theorem grel_read_heads_other_one : ∀ {vs zs : List V} {us ws : List Value}, Vals vs us → Vals zs ws → Vals (g_read_heads_other_one vs zs) (g_read_heads_other_one us ws)
  | _, _, _, _, .nil, .nil => .nil
  | _, _, _, _, .nil, (.cons _ .nil) => .nil
  | _, _, _, _, .nil, (.cons b0 (.cons b1 .nil)) => (.cons b1 (.cons b0 .nil))
  | _, _, _, _, .nil, (.cons _ (.cons _ (.cons _ _))) => .nil
  | _, _, _, _, (.cons _ _), .nil => .nil
  | _, _, _, _, (.cons _ _), (.cons _ .nil) => .nil
  | _, _, _, _, (.cons _ _), (.cons _ (.cons _ .nil)) => .nil
  | _, _, _, _, (.cons _ _), (.cons _ (.cons _ (.cons _ _))) => .nil
theorem grel_head_block_first_half_epoch : ∀ {vs zs : List V} {us ws : List Value}, Vals vs us → Vals zs ws → Vals (g_head_block_first_half_epoch vs zs) (g_head_block_first_half_epoch us ws)
  | _, _, _, _, .nil, .nil => .nil
  | _, _, _, _, .nil, (.cons _ .nil) => .nil
  | _, _, _, _, .nil, (.cons _ (.cons _ .nil)) => .nil
  | _, _, _, _, .nil, (.cons b0 (.cons b1 (.cons b2 .nil))) => (.cons b2 (.cons b1 (.cons b0 .nil)))
  | _, _, _, _, .nil, (.cons _ (.cons _ (.cons _ (.cons _ _)))) => .nil
  | _, _, _, _, (.cons _ _), .nil => .nil
  | _, _, _, _, (.cons _ _), (.cons _ .nil) => .nil
  | _, _, _, _, (.cons _ _), (.cons _ (.cons _ .nil)) => .nil
  | _, _, _, _, (.cons _ _), (.cons _ (.cons _ (.cons _ .nil))) => .nil
  | _, _, _, _, (.cons _ _), (.cons _ (.cons _ (.cons _ (.cons _ _)))) => .nil
def fd0 : FuncData := PySem.W.fnOf "" "" (defArgs s_law) [] (defScope s_law) .none .none .none .none none .none .none
theorem all_mk {l : PySem.W.OpenLaw} {w : World} {K : PySem.W.Frag} {h : Heap} {mg : Str → Option Value} {fL c PT aN fM f1 f2 f3 f4 f8 f17 f18 f19 f21 f22 f23 f24 f25 f26 f27 f28 f29 f30 f11 f111 n11 f12 f112 n12 : Addr} (X : K.In h) (G : h.Ns mainGlobals mg) (hfa : mg "law" = some (.ref fL))
    {od1 an1 od2 an2 od3 an3 od4 an4 od8 an8 od17 an17 od18 an18 od19 an19 od21 an21 od22 an22 od23 an23 od24 an24 od25 an25 od26 an26 od27 an27 od28 an28 od29 an29 od30 an30 od111 an111 od112 an112 : Option Addr} {sl1 sl2 sl3 sl4 sl8 sl17 sl18 sl19 sl21 sl22 sl23 sl24 sl25 sl26 sl27 sl28 sl29 sl30 sl111 sl112 : Array (Option Value)} {oc1 kV1 dc1 pm1 cd1 ct1 oc2 kV2 dc2 pm2 cd2 ct2 oc3 kV3 dc3 pm3 cd3 ct3 oc4 kV4 dc4 pm4 cd4 ct4 oc8 kV8 dc8 pm8 cd8 ct8 oc17 kV17 dc17 pm17 cd17 ct17 oc18 kV18 dc18 pm18 cd18 ct18 oc19 kV19 dc19 pm19 cd19 ct19 oc21 kV21 dc21 pm21 cd21 ct21 oc22 kV22 dc22 pm22 cd22 ct22 oc23 kV23 dc23 pm23 cd23 ct23 oc24 kV24 dc24 pm24 cd24 ct24 oc25 kV25 dc25 pm25 cd25 ct25 oc26 kV26 dc26 pm26 cd26 ct26 oc27 kV27 dc27 pm27 cd27 ct27 oc28 kV28 dc28 pm28 cd28 ct28 oc29 kV29 dc29 pm29 ct29 oc30 kV30 dc30 pm30 cd30 ct30 oc111 kV111 dc111 pm111 cd111 ct111 oc112 kV112 dc112 pm112 cd112 ct112 : Value}
    {odN odC : Option Addr} {nN : Nat} {slN slC : Array (Option Value)} {tN0 tN1 tN2 : Tok} {us : Array Value}
    {nm11 qn11 : Str} {bs11 : List Value} {sn11 : List Str} {sb11 : List Value} {ab11 : Bool} {co11 : Option Bool} {dd11 : Option Addr} {p11 q11 r11 s11 t11 : Option Value}
    {nm12 qn12 : Str} {bs12 : List Value} {sn12 : List Str} {sb12 : List Value} {ab12 : Bool} {co12 : Option Bool} {dd12 : Option Addr} {p12 q12 r12 s12 t12 : Option Value}
    (a1 : PySem.W.nsIn K mainGlobals "is_list" = some (some (.ref f1)))
    (l1 : K.lookup f1 = some ⟨oc1, od1, .func (PySem.W.fnOf "is_list" "is_list" (defArgs s_is_list) (defBody s_is_list) (defScope s_is_list) .none kV1 dc1 pm1 an1 cd1 ct1), sl1⟩)
    (c1 : PySem.W.codeIn K cd1 "is_list" = true)
    (k1 : PySem.W.keepIn K (.ref f1) = true)
    (a2 : PySem.W.nsIn K mainGlobals "is_integer" = some (some (.ref f2)))
    (l2 : K.lookup f2 = some ⟨oc2, od2, .func (PySem.W.fnOf "is_integer" "is_integer" (defArgs s_is_integer) (defBody s_is_integer) (defScope s_is_integer) .none kV2 dc2 pm2 an2 cd2 ct2), sl2⟩)
    (c2 : PySem.W.codeIn K cd2 "is_integer" = true)
    (k2 : PySem.W.keepIn K (.ref f2) = true)
    (a3 : PySem.W.nsIn K mainGlobals "is_within" = some (some (.ref f3)))
    (l3 : K.lookup f3 = some ⟨oc3, od3, .func (PySem.W.fnOf "is_within" "is_within" (defArgs s_is_within) (defBody s_is_within) (defScope s_is_within) .none kV3 dc3 pm3 an3 cd3 ct3), sl3⟩)
    (c3 : PySem.W.codeIn K cd3 "is_within" = true)
    (k3 : PySem.W.keepIn K (.ref f3) = true)
    (a4 : PySem.W.nsIn K mainGlobals "is_numbers" = some (some (.ref f4)))
    (l4 : K.lookup f4 = some ⟨oc4, od4, .func (PySem.W.fnOf "is_numbers" "is_numbers" (defArgs s_is_numbers) (defBody s_is_numbers) (defScope s_is_numbers) .none kV4 dc4 pm4 an4 cd4 ct4), sl4⟩)
    (c4 : PySem.W.codeIn K cd4 "is_numbers" = true)
    (k4 : PySem.W.keepIn K (.ref f4) = true)
    (a8 : PySem.W.nsIn K mainGlobals "is_block" = some (some (.ref f8)))
    (l8 : K.lookup f8 = some ⟨oc8, od8, .func (PySem.W.fnOf "is_block" "is_block" (defArgs s_is_block) (defBody s_is_block) (defScope s_is_block) .none kV8 dc8 pm8 an8 cd8 ct8), sl8⟩)
    (c8 : PySem.W.codeIn K cd8 "is_block" = true)
    (k8 : PySem.W.keepIn K (.ref f8) = true)
    (a17 : PySem.W.nsIn K mainGlobals "head_block" = some (some (.ref f17)))
    (l17 : K.lookup f17 = some ⟨oc17, od17, .func (PySem.W.fnOf "head_block" "head_block" (defArgs s_head_block) (defBody s_head_block) (defScope s_head_block) .none kV17 dc17 pm17 an17 cd17 ct17), sl17⟩)
    (c17 : PySem.W.codeIn K cd17 "head_block" = true)
    (k17 : PySem.W.keepIn K (.ref f17) = true)
    (a18 : PySem.W.nsIn K mainGlobals "read_heads" = some (some (.ref f18)))
    (l18 : K.lookup f18 = some ⟨oc18, od18, .func (PySem.W.fnOf "read_heads" "read_heads" (defArgs s_read_heads) (defBody s_read_heads) (defScope s_read_heads) .none kV18 dc18 pm18 an18 cd18 ct18), sl18⟩)
    (c18 : PySem.W.codeIn K cd18 "read_heads" = true)
    (k18 : PySem.W.keepIn K (.ref f18) = true)
    (a19 : PySem.W.nsIn K mainGlobals "told_by" = some (some (.ref f19)))
    (l19 : K.lookup f19 = some ⟨oc19, od19, .func (PySem.W.fnOf "told_by" "told_by" (defArgs s_told_by) (defBody s_told_by) (defScope s_told_by) .none kV19 dc19 pm19 an19 cd19 ct19), sl19⟩)
    (c19 : PySem.W.codeIn K cd19 "told_by" = true)
    (k19 : PySem.W.keepIn K (.ref f19) = true)
    (a21 : PySem.W.nsIn K mainGlobals "_law_prow" = some (some (.ref f21)))
    (l21 : K.lookup f21 = some ⟨oc21, od21, .func (PySem.W.fnOf "_law_prow" "_law_prow" (defArgs s__law_prow) (defBody s__law_prow) (defScope s__law_prow) .none kV21 dc21 pm21 an21 cd21 ct21), sl21⟩)
    (c21 : PySem.W.codeIn K cd21 "_law_prow" = true)
    (k21 : PySem.W.keepIn K (.ref f21) = true)
    (a22 : PySem.W.nsIn K mainGlobals "_law_steer" = some (some (.ref f22)))
    (l22 : K.lookup f22 = some ⟨oc22, od22, .func (PySem.W.fnOf "_law_steer" "_law_steer" (defArgs s__law_steer) (defBody s__law_steer) (defScope s__law_steer) .none kV22 dc22 pm22 an22 cd22 ct22), sl22⟩)
    (c22 : PySem.W.codeIn K cd22 "_law_steer" = true)
    (k22 : PySem.W.keepIn K (.ref f22) = true)
    (a23 : PySem.W.nsIn K mainGlobals "_law_pick" = some (some (.ref f23)))
    (l23 : K.lookup f23 = some ⟨oc23, od23, .func (PySem.W.fnOf "_law_pick" "_law_pick" (defArgs s__law_pick) (defBody s__law_pick) (defScope s__law_pick) .none kV23 dc23 pm23 an23 cd23 ct23), sl23⟩)
    (c23 : PySem.W.codeIn K cd23 "_law_pick" = true)
    (k23 : PySem.W.keepIn K (.ref f23) = true)
    (a24 : PySem.W.nsIn K mainGlobals "_law_head" = some (some (.ref f24)))
    (l24 : K.lookup f24 = some ⟨oc24, od24, .func (PySem.W.fnOf "_law_head" "_law_head" (defArgs s__law_head) (defBody s__law_head) (defScope s__law_head) .none kV24 dc24 pm24 an24 cd24 ct24), sl24⟩)
    (c24 : PySem.W.codeIn K cd24 "_law_head" = true)
    (k24 : PySem.W.keepIn K (.ref f24) = true)
    (a25 : PySem.W.nsIn K mainGlobals "_law_told" = some (some (.ref f25)))
    (l25 : K.lookup f25 = some ⟨oc25, od25, .func (PySem.W.fnOf "_law_told" "_law_told" (defArgs s__law_told) (defBody s__law_told) (defScope s__law_told) .none kV25 dc25 pm25 an25 cd25 ct25), sl25⟩)
    (c25 : PySem.W.codeIn K cd25 "_law_told" = true)
    (k25 : PySem.W.keepIn K (.ref f25) = true)
    (a26 : PySem.W.nsIn K mainGlobals "_law_block" = some (some (.ref f26)))
    (l26 : K.lookup f26 = some ⟨oc26, od26, .func (PySem.W.fnOf "_law_block" "_law_block" (defArgs s__law_block) (defBody s__law_block) (defScope s__law_block) .none kV26 dc26 pm26 an26 cd26 ct26), sl26⟩)
    (c26 : PySem.W.codeIn K cd26 "_law_block" = true)
    (k26 : PySem.W.keepIn K (.ref f26) = true)
    (a27 : PySem.W.nsIn K mainGlobals "_law_due" = some (some (.ref f27)))
    (l27 : K.lookup f27 = some ⟨oc27, od27, .func (PySem.W.fnOf "_law_due" "_law_due" (defArgs s__law_due) (defBody s__law_due) (defScope s__law_due) .none kV27 dc27 pm27 an27 cd27 ct27), sl27⟩)
    (c27 : PySem.W.codeIn K cd27 "_law_due" = true)
    (k27 : PySem.W.keepIn K (.ref f27) = true)
    (a28 : PySem.W.nsIn K mainGlobals "_law_heard" = some (some (.ref f28)))
    (l28 : K.lookup f28 = some ⟨oc28, od28, .func (PySem.W.fnOf "_law_heard" "_law_heard" (defArgs s__law_heard) (defBody s__law_heard) (defScope s__law_heard) .none kV28 dc28 pm28 an28 cd28 ct28), sl28⟩)
    (c28 : PySem.W.codeIn K cd28 "_law_heard" = true)
    (k28 : PySem.W.keepIn K (.ref f28) = true)
    (a29 : PySem.W.nsIn K mainGlobals "_law_refused_right" = some (some (.ref f29)))
    (l29 : K.lookup f29 = some ⟨oc29, od29, .func (PySem.W.fnOf "_law_refused_right" "_law_refused_right" (defArgs s__law_refused_right) (defBody s__law_refused_right) (defScope s__law_refused_right) .none kV29 dc29 pm29 an29 (.ref c) ct29), sl29⟩)
    (c29 : PySem.W.codeIn K (.ref c) "_law_refused_right" = true)
    (k29 : PySem.W.keepIn K (.ref f29) = true)
    (a30 : PySem.W.nsIn K mainGlobals "law" = some (some (.ref f30)))
    (l30 : K.lookup f30 = some ⟨oc30, od30, .func (PySem.W.fnOf "law" "law" (defArgs s_law) (defBody s_law) (defScope s_law) .none kV30 dc30 pm30 an30 cd30 ct30), sl30⟩)
    (c30 : PySem.W.codeIn K cd30 "law" = true)
    (k30 : PySem.W.keepIn K (.ref f30) = true)
    (A11 : PySem.W.nsIn K mainGlobals "BadNumber" = some (some (.ref f11)))
    (L11 : K.lookup f11 = some (excClassObj nm11 qn11 f11 n11 bs11 [.ref fM, .type "ValueError", .type "Exception", .type "BaseException", .type "object"] true sn11 sb11 ab11 co11 dd11 p11 q11 r11 s11 t11 "ValueError.__new__"))
    (sa11 : PySem.W.findIn K (.ref f11) "__setattr__" = some (some (.builtin "object.__setattr__")))
    (ga11 : PySem.W.findIn K (.ref f11) "__getattribute__" = some (some (.builtin "BaseException.__getattribute__")))
    (gg11 : PySem.W.findIn K (.ref f11) "__getattr__" = some none)
    (nf11 : PySem.W.findIn K (.ref f11) "part" = some none)
    (ii11 : PySem.W.findIn K (.ref f11) "__init__" = some (some (.ref f111)))
    (ti11 : PySem.W.typeIn K (.ref f111) = some (.type "function"))
    (l111 : K.lookup f111 = some ⟨oc111, od111, .func (PySem.W.fnOf "__init__" "BadNumber.__init__" (defArgs s_BadNumber) (defBody s_BadNumber) (defScope s_BadNumber) .none kV111 dc111 pm111 an111 cd111 ct111), sl111⟩)
    (c111 : PySem.W.codeIn K cd111 "BadNumber.__init__" = true)
    (k111 : PySem.W.keepIn K (.ref f111) = true)
    (kC11 : PySem.W.keepIn K (.ref f11) = true)
    (eC11 : PySem.W.subIn K (.ref f11) (.type "BaseException") = some true)
    (tC11 : PySem.W.typeIn K (.ref f11) = some (.type "type"))
    (hC11 : PySem.W.hasDictIn K f11 = true)
    (cc11 : PySem.W.findIn K (.ref f11) "__class__" = some (some (.builtin "object.__class__")))
    (oo11 : PySem.W.mroIn K f11 (.type "object") = some true)
    (sM11 : PySem.W.subIn K (.ref f11) (.ref fM) = some true)
    (A12 : PySem.W.nsIn K mainGlobals "BadBlock" = some (some (.ref f12)))
    (L12 : K.lookup f12 = some (excClassObj nm12 qn12 f12 n12 bs12 [.ref fM, .type "ValueError", .type "Exception", .type "BaseException", .type "object"] true sn12 sb12 ab12 co12 dd12 p12 q12 r12 s12 t12 "ValueError.__new__"))
    (sa12 : PySem.W.findIn K (.ref f12) "__setattr__" = some (some (.builtin "object.__setattr__")))
    (ga12 : PySem.W.findIn K (.ref f12) "__getattribute__" = some (some (.builtin "BaseException.__getattribute__")))
    (gg12 : PySem.W.findIn K (.ref f12) "__getattr__" = some none)
    (nf12 : PySem.W.findIn K (.ref f12) "part" = some none)
    (ii12 : PySem.W.findIn K (.ref f12) "__init__" = some (some (.ref f112)))
    (ti12 : PySem.W.typeIn K (.ref f112) = some (.type "function"))
    (l112 : K.lookup f112 = some ⟨oc112, od112, .func (PySem.W.fnOf "__init__" "BadBlock.__init__" (defArgs s_BadBlock) (defBody s_BadBlock) (defScope s_BadBlock) .none kV112 dc112 pm112 an112 cd112 ct112), sl112⟩)
    (c112 : PySem.W.codeIn K cd112 "BadBlock.__init__" = true)
    (k112 : PySem.W.keepIn K (.ref f112) = true)
    (kC12 : PySem.W.keepIn K (.ref f12) = true)
    (eC12 : PySem.W.subIn K (.ref f12) (.type "BaseException") = some true)
    (tC12 : PySem.W.typeIn K (.ref f12) = some (.type "type"))
    (hC12 : PySem.W.hasDictIn K f12 = true)
    (cc12 : PySem.W.findIn K (.ref f12) "__class__" = some (some (.builtin "object.__class__")))
    (oo12 : PySem.W.mroIn K f12 (.type "object") = some true)
    (sM12 : PySem.W.subIn K (.ref f12) (.ref fM) = some true)
    (oG : PySem.W.specialIn K (.builtin "object.__class__") "__get__" = some (some (.builtin "getset_descriptor.__get__")))
    (oT : PySem.W.takesIn K (.builtin "object.__class__") = some true)
    (x12 : PySem.W.subIn K (.ref f11) (.ref f12) = some false)
    (x21 : PySem.W.subIn K (.ref f12) (.ref f11) = some false)
    (xne : f11 ≠ f12)
    (AM : PySem.W.nsIn K mainGlobals "MeetError" = some (some (.ref fM)))
    (eM : PySem.W.subIn K (.ref fM) (.type "BaseException") = some true)
    (hM : PySem.W.hasDictIn K fM = true)
    (tM : PySem.W.typeIn K (.ref fM) = some (.type "type"))
    (z_abs : PySem.W.nsIn K mainGlobals "abs" = some none)
    (z_all : PySem.W.nsIn K mainGlobals "all" = some none)
    (z_any : PySem.W.nsIn K mainGlobals "any" = some none)
    (z_bool : PySem.W.nsIn K mainGlobals "bool" = some none)
    (z_int : PySem.W.nsIn K mainGlobals "int" = some none)
    (z_isinstance : PySem.W.nsIn K mainGlobals "isinstance" = some none)
    (z_len : PySem.W.nsIn K mainGlobals "len" = some none)
    (z_list : PySem.W.nsIn K mainGlobals "list" = some none)
    (z_range : PySem.W.nsIn K mainGlobals "range" = some none)
    (z_repr : PySem.W.nsIn K mainGlobals "repr" = some none)
    (z_tuple : PySem.W.nsIn K mainGlobals "tuple" = some none)
    {t_BLOCK_SIZE : Tok}
    (q_BLOCK_SIZE : PySem.W.nsIn K mainGlobals "BLOCK_SIZE" = some (some (.int 16 t_BLOCK_SIZE)))
    {t_MOST_NUMBER : Tok}
    (q_MOST_NUMBER : PySem.W.nsIn K mainGlobals "MOST_NUMBER" = some (some (.int 65535 t_MOST_NUMBER)))
    {t_HEAD_MARK : Tok}
    (q_HEAD_MARK : PySem.W.nsIn K mainGlobals "HEAD_MARK" = some (some (.int 7 t_HEAD_MARK)))
    {t_MANY_ZEROS : Tok}
    (q_MANY_ZEROS : PySem.W.nsIn K mainGlobals "MANY_ZEROS" = some (some (.int 12 t_MANY_ZEROS)))
    (q_NO : PySem.W.nsIn K mainGlobals "NO_HEAD" = some (some (.ref aN)))
    (lN : K.lookup aN = some ⟨.type "tuple", odN, .seq #[.int 0 tN0, .int 0 tN1, .int 1 tN2] nN, slN⟩)
    (lC : K.lookup c = some ⟨.type "code", odC, .fields us, slC⟩)
    (u11 : us[11]? = some (.ref PT))
    (hd : PySem.W.codeHdIn K c PT = true)
    (noP : K.lookup PT = none)
    (tab : h.get? PT = some (PySem.W.tabObj #[]))
    : LawG l w K 9 63 "script" mg fL h := by
  have e := hfa.symm.trans (PySem.W.mg_of X G a30)
  cases e
  have F1 := fun_mk (st := s_is_list) l1 c1 k1
  have F2 := fun_mk (st := s_is_integer) l2 c2 k2
  have F3 := fun_mk (st := s_is_within) l3 c3 k3
  have F4 := fun_mk (st := s_is_numbers) l4 c4 k4
  have F8 := fun_mk (st := s_is_block) l8 c8 k8
  have F17 := fun_mk (st := s_head_block) l17 c17 k17
  have F18 := fun_mk (st := s_read_heads) l18 c18 k18
  have F19 := fun_mk (st := s_told_by) l19 c19 k19
  have F21 := fun_mk (st := s__law_prow) l21 c21 k21
  have F22 := fun_mk (st := s__law_steer) l22 c22 k22
  have F23 := fun_mk (st := s__law_pick) l23 c23 k23
  have F24 := fun_mk (st := s__law_head) l24 c24 k24
  have F25 := fun_mk (st := s__law_told) l25 c25 k25
  have F26 := fun_mk (st := s__law_block) l26 c26 k26
  have F27 := fun_mk (st := s__law_due) l27 c27 k27
  have F28 := fun_mk (st := s__law_heard) l28 c28 k28
  have F29 := fun_mk (st := s__law_refused_right) l29 c29 k29
  have F30 := fun_mk (st := s_law) l30 c30 k30
  have F111 := fun_mk (st := s_BadNumber) l111 c111 k111
  have F112 := fun_mk (st := s_BadBlock) l112 c112 k112
  have E11 := errC_mk (x := "BadNumber") (f := "part") X G A11 L11 sa11 ga11 gg11 nf11 ii11 ti11 kC11 eC11 tC11 hC11 cc11 oo11
  have XC11 : ExcC K f11 := ⟨ga11, gg11, eC11, hC11, cc11, oG, oT, oo11⟩
  have is11 : (PySem.W.clsIn K f11).isSome = true := by unfold PySem.W.clsIn; rw [L11]; rfl
  have E12 := errC_mk (x := "BadBlock") (f := "part") X G A12 L12 sa12 ga12 gg12 nf12 ii12 ti12 kC12 eC12 tC12 hC12 cc12 oo12
  have XC12 : ExcC K f12 := ⟨ga12, gg12, eC12, hC12, cc12, oG, oT, oo12⟩
  have is12 : (PySem.W.clsIn K f12).isSome = true := by unfold PySem.W.clsIn; rw [L12]; rfl
  have T : Txt K mg (fun i => ([0, f1, f2, f3, f4, 0, 0, 0, f8, 0, fM, f11, f12, 0, 0, 0, 0, f17, f18, f19, 0, f21, f22, f23, f24, f25, f26, f27, f28, f29, fL, 0, 0, 0, 0, 0, 0, 0, 0, 0, 0, 0, 0, 0, 0, 0, 0, 0, 0, 0, 0, 0, 0, 0, 0, 0, 0, 0, 0, 0, 0, 0, 0, 0, 0, 0, 0, 0, 0, 0, 0, 0, 0, 0, 0, 0, 0, 0, 0, 0, 0, 0, 0, 0, 0, 0, 0, 0, 0, 0, 0, 0, 0, 0, 0, 0, 0, 0, 0, 0, 0, 0, 0, 0, 0, 0, 0, 0, 0, 0, 0, f111, f112] : List Addr).getD i 0) (fun i => ([fd0, PySem.W.fnOf "is_list" "is_list" (defArgs s_is_list) (defBody s_is_list) (defScope s_is_list) .none kV1 dc1 pm1 an1 cd1 ct1, PySem.W.fnOf "is_integer" "is_integer" (defArgs s_is_integer) (defBody s_is_integer) (defScope s_is_integer) .none kV2 dc2 pm2 an2 cd2 ct2, PySem.W.fnOf "is_within" "is_within" (defArgs s_is_within) (defBody s_is_within) (defScope s_is_within) .none kV3 dc3 pm3 an3 cd3 ct3, PySem.W.fnOf "is_numbers" "is_numbers" (defArgs s_is_numbers) (defBody s_is_numbers) (defScope s_is_numbers) .none kV4 dc4 pm4 an4 cd4 ct4, fd0, fd0, fd0, PySem.W.fnOf "is_block" "is_block" (defArgs s_is_block) (defBody s_is_block) (defScope s_is_block) .none kV8 dc8 pm8 an8 cd8 ct8, fd0, fd0, fd0, fd0, fd0, fd0, fd0, fd0, PySem.W.fnOf "head_block" "head_block" (defArgs s_head_block) (defBody s_head_block) (defScope s_head_block) .none kV17 dc17 pm17 an17 cd17 ct17, PySem.W.fnOf "read_heads" "read_heads" (defArgs s_read_heads) (defBody s_read_heads) (defScope s_read_heads) .none kV18 dc18 pm18 an18 cd18 ct18, PySem.W.fnOf "told_by" "told_by" (defArgs s_told_by) (defBody s_told_by) (defScope s_told_by) .none kV19 dc19 pm19 an19 cd19 ct19, fd0, PySem.W.fnOf "_law_prow" "_law_prow" (defArgs s__law_prow) (defBody s__law_prow) (defScope s__law_prow) .none kV21 dc21 pm21 an21 cd21 ct21, PySem.W.fnOf "_law_steer" "_law_steer" (defArgs s__law_steer) (defBody s__law_steer) (defScope s__law_steer) .none kV22 dc22 pm22 an22 cd22 ct22, PySem.W.fnOf "_law_pick" "_law_pick" (defArgs s__law_pick) (defBody s__law_pick) (defScope s__law_pick) .none kV23 dc23 pm23 an23 cd23 ct23, PySem.W.fnOf "_law_head" "_law_head" (defArgs s__law_head) (defBody s__law_head) (defScope s__law_head) .none kV24 dc24 pm24 an24 cd24 ct24, PySem.W.fnOf "_law_told" "_law_told" (defArgs s__law_told) (defBody s__law_told) (defScope s__law_told) .none kV25 dc25 pm25 an25 cd25 ct25, PySem.W.fnOf "_law_block" "_law_block" (defArgs s__law_block) (defBody s__law_block) (defScope s__law_block) .none kV26 dc26 pm26 an26 cd26 ct26, PySem.W.fnOf "_law_due" "_law_due" (defArgs s__law_due) (defBody s__law_due) (defScope s__law_due) .none kV27 dc27 pm27 an27 cd27 ct27, PySem.W.fnOf "_law_heard" "_law_heard" (defArgs s__law_heard) (defBody s__law_heard) (defScope s__law_heard) .none kV28 dc28 pm28 an28 cd28 ct28, PySem.W.fnOf "_law_refused_right" "_law_refused_right" (defArgs s__law_refused_right) (defBody s__law_refused_right) (defScope s__law_refused_right) .none kV29 dc29 pm29 an29 (.ref c) ct29, PySem.W.fnOf "law" "law" (defArgs s_law) (defBody s_law) (defScope s_law) .none kV30 dc30 pm30 an30 cd30 ct30, fd0, fd0, fd0, fd0, fd0, fd0, fd0, fd0, fd0, fd0, fd0, fd0, fd0, fd0, fd0, fd0, fd0, fd0, fd0, fd0, fd0, fd0, fd0, fd0, fd0, fd0, fd0, fd0, fd0, fd0, fd0, fd0, fd0, fd0, fd0, fd0, fd0, fd0, fd0, fd0, fd0, fd0, fd0, fd0, fd0, fd0, fd0, fd0, fd0, fd0, fd0, fd0, fd0, fd0, fd0, fd0, fd0, fd0, fd0, fd0, fd0, fd0, fd0, fd0, fd0, fd0, fd0, fd0, fd0, fd0, fd0, fd0, fd0, fd0, fd0, fd0, fd0, fd0, fd0, fd0, PySem.W.fnOf "__init__" "BadNumber.__init__" (defArgs s_BadNumber) (defBody s_BadNumber) (defScope s_BadNumber) .none kV111 dc111 pm111 an111 cd111 ct111, PySem.W.fnOf "__init__" "BadBlock.__init__" (defArgs s_BadBlock) (defBody s_BadBlock) (defScope s_BadBlock) .none kV112 dc112 pm112 an112 cd112 ct112] : List FuncData).getD i fd0) := {
    F_is_list := F1
    g_is_list := PySem.W.mg_of X G a1
    b_is_list := F1.binds (ps := ["value"]) fun _ _ _ _ _ _ us hl => match us, hl with | [_], _ => rfl
    F_is_integer := F2
    g_is_integer := PySem.W.mg_of X G a2
    b_is_integer := F2.binds (ps := ["value"]) fun _ _ _ _ _ _ us hl => match us, hl with | [_], _ => rfl
    F_is_within := F3
    g_is_within := PySem.W.mg_of X G a3
    b_is_within := F3.binds (ps := ["value", "least", "most"]) fun _ _ _ _ _ _ us hl => match us, hl with | [_, _, _], _ => rfl
    F_is_numbers := F4
    g_is_numbers := PySem.W.mg_of X G a4
    b_is_numbers := F4.binds (ps := ["value", "many", "most"]) fun _ _ _ _ _ _ us hl => match us, hl with | [_, _, _], _ => rfl
    F_is_block := F8
    g_is_block := PySem.W.mg_of X G a8
    b_is_block := F8.binds (ps := ["value"]) fun _ _ _ _ _ _ us hl => match us, hl with | [_], _ => rfl
    F_head_block := F17
    g_head_block := PySem.W.mg_of X G a17
    b_head_block := F17.binds (ps := ["epoch", "half", "first"]) fun _ _ _ _ _ _ us hl => match us, hl with | [_, _, _], _ => rfl
    F_read_heads := F18
    g_read_heads := PySem.W.mg_of X G a18
    b_read_heads := F18.binds (ps := ["one", "other"]) fun _ _ _ _ _ _ us hl => match us, hl with | [_, _], _ => rfl
    F_told_by := F19
    g_told_by := PySem.W.mg_of X G a19
    b_told_by := F19.binds (ps := ["block"]) fun _ _ _ _ _ _ us hl => match us, hl with | [_], _ => rfl
    F__law_prow := F21
    g__law_prow := PySem.W.mg_of X G a21
    b__law_prow := F21.binds (ps := ["script"]) fun _ _ _ _ _ _ us hl => match us, hl with | [_], _ => rfl
    F__law_steer := F22
    g__law_steer := PySem.W.mg_of X G a22
    b__law_steer := F22.binds (ps := ["prow", "many"]) fun _ _ _ _ _ _ us hl => match us, hl with | [_, _], _ => rfl
    F__law_pick := F23
    g__law_pick := PySem.W.mg_of X G a23
    b__law_pick := F23.binds (ps := ["prow", "some"]) fun _ _ _ _ _ _ us hl => match us, hl with | [_, _], _ => rfl
    F__law_head := F24
    g__law_head := PySem.W.mg_of X G a24
    b__law_head := F24.binds (ps := ["block"]) fun _ _ _ _ _ _ us hl => match us, hl with | [_], _ => rfl
    F__law_told := F25
    g__law_told := PySem.W.mg_of X G a25
    b__law_told := F25.binds (ps := ["prow"]) fun _ _ _ _ _ _ us hl => match us, hl with | [_], _ => rfl
    F__law_block := F26
    g__law_block := PySem.W.mg_of X G a26
    b__law_block := F26.binds (ps := ["prow"]) fun _ _ _ _ _ _ us hl => match us, hl with | [_], _ => rfl
    F__law_due := F27
    g__law_due := PySem.W.mg_of X G a27
    b__law_due := F27.binds (ps := ["one", "other"]) fun _ _ _ _ _ _ us hl => match us, hl with | [_, _], _ => rfl
    F__law_heard := F28
    g__law_heard := PySem.W.mg_of X G a28
    b__law_heard := F28.binds (ps := ["ask"]) fun _ _ _ _ _ _ us hl => match us, hl with | [_], _ => rfl
    F__law_refused_right := F29
    g__law_refused_right := PySem.W.mg_of X G a29
    b__law_refused_right := F29.binds (ps := ["prow"]) fun _ _ _ _ _ _ us hl => match us, hl with | [_], _ => rfl
    F_law := F30
    g_law := PySem.W.mg_of X G a30
    b_law := F30.binds (ps := ["script"]) fun _ _ _ _ _ _ us hl => match us, hl with | [_], _ => rfl
    kb_read_heads_other_one := MT.Fun.kbn F18 0 ["other", "one"] (fun us ws => g_read_heads_other_one us ws) (fun r1 r2 => grel_read_heads_other_one r1 r2) fun _ _ _ _ _ _ us ws h1 h2 => match us, h1, ws, h2 with | [], _, [_, _], _ => rfl
    kb_head_block_first_half_epoch := MT.Fun.kbn F17 0 ["first", "half", "epoch"] (fun us ws => g_head_block_first_half_epoch us ws) (fun r1 r2 => grel_head_block_first_half_epoch r1 r2) fun _ _ _ _ _ _ us ws h1 h2 => match us, h1, ws, h2 with | [], _, [_, _, _], _ => rfl
    E_BadNumber := E11
    F_BadNumber := F111
    b_BadNumber := F111.binds (ps := ["self", "part"]) fun _ _ _ _ _ _ us hl => match us, hl with | [_, _], _ => rfl
    X_BadNumber := XC11
    exm_BadNumber_MeetError := PySem.W.exm_ref eM hM tM sM11
    E_BadBlock := E12
    F_BadBlock := F112
    b_BadBlock := F112.binds (ps := ["self", "part"]) fun _ _ _ _ _ _ us hl => match us, hl with | [_, _], _ => rfl
    X_BadBlock := XC12
    exm_BadBlock_MeetError := PySem.W.exm_ref eM hM tM sM12
    kit_BadNumber_BadBlock := kit_ref xne is12 tC12 x12
    kit_BadBlock_BadNumber := kit_ref (Ne.symm xne) is11 tC11 x21
    M_MeetError := PySem.W.mg_of X G AM
    n_abs := PySem.W.mg_none_of X G z_abs
    n_all := PySem.W.mg_none_of X G z_all
    n_any := PySem.W.mg_none_of X G z_any
    n_bool := PySem.W.mg_none_of X G z_bool
    n_int := PySem.W.mg_none_of X G z_int
    n_isinstance := PySem.W.mg_none_of X G z_isinstance
    n_len := PySem.W.mg_none_of X G z_len
    n_list := PySem.W.mg_none_of X G z_list
    n_range := PySem.W.mg_none_of X G z_range
    n_repr := PySem.W.mg_none_of X G z_repr
    n_tuple := PySem.W.mg_none_of X G z_tuple
    c_BLOCK_SIZE := ⟨_, PySem.W.mg_of X G q_BLOCK_SIZE, ⟨_, rfl⟩⟩
    c_MOST_NUMBER := ⟨_, PySem.W.mg_of X G q_MOST_NUMBER, ⟨_, rfl⟩⟩
    c_HEAD_MARK := ⟨_, PySem.W.mg_of X G q_HEAD_MARK, ⟨_, rfl⟩⟩
    c_MANY_ZEROS := ⟨_, PySem.W.mg_of X G q_MANY_ZEROS, ⟨_, rfl⟩⟩
    c_NO_HEAD := ⟨aN, PySem.W.mg_of X G q_NO, fun H => .inr ⟨_, #[.int 0 tN0, .int 0 tN1, .int 1 tN2], nN, lN, rfl, rfl, (by show 3 ≤ sizeLine; decide), .cons ⟨_, rfl⟩ (.cons ⟨_, rfl⟩ (.cons ⟨_, rfl⟩ .nil))⟩⟩
  }
  refine ⟨PySem.W.fnOf "law" "law" (defArgs s_law) (defBody s_law) (defScope s_law) .none kV30 dc30 pm30 an30 cd30 ct30, spLawG K PT, c, PT, tab, noP, PySem.W.codeHd_of_K X hd, fun s v => .of_eq rfl, fun H a ns hl hP hs => ⟨a, ns, rfl, hs, hl, hP, fun _ => rfl⟩, fun base _ _ TB => ok_law T (ok__law_refused_right T TB l29 c29)⟩
end K10
open PySem PySem.W PyProof.Rows in
set_option maxRecDepth 100000 in
set_option maxHeartbeats 0 in
theorem PySem.Challenge.cw_meettrees_k10_heads_that_hold_holds : PySem.Challenge.rw_meettrees_k10_heads_that_hold.Holds := by
  w_on; o_law; k_head; (case hw => w_witness2)
  k_fill
  refine MT.walkG (l := PySem.Challenge.rw_meettrees_k10_heads_that_hold) (n := 63) (k := 9) (x := "script") rfl (by decide) rfl ⟨rfl, by decide, by decide⟩ (fun w h Y => PySem.W.km_in_of Y) ?F
  case F =>
    intro w mg fa h Y KX G hmg
    refine' K10.all_mk KX G hmg ?a1 ?l1 ?c1 ?k1 ?a2 ?l2 ?c2 ?k2 ?a3 ?l3 ?c3 ?k3 ?a4 ?l4 ?c4 ?k4 ?a8 ?l8 ?c8 ?k8 ?a17 ?l17 ?c17 ?k17 ?a18 ?l18 ?c18 ?k18 ?a19 ?l19 ?c19 ?k19 ?a21 ?l21 ?c21 ?k21 ?a22 ?l22 ?c22 ?k22 ?a23 ?l23 ?c23 ?k23 ?a24 ?l24 ?c24 ?k24 ?a25 ?l25 ?c25 ?k25 ?a26 ?l26 ?c26 ?k26 ?a27 ?l27 ?c27 ?k27 ?a28 ?l28 ?c28 ?k28 ?a29 ?l29 ?c29 ?k29 ?a30 ?l30 ?c30 ?k30 ?A11 ?L11 ?sa11 ?ga11 ?gg11 ?nf11 ?ii11 ?ti11 ?l111 ?c111 ?k111 ?kC11 ?eC11 ?tC11 ?hC11 ?cc11 ?oo11 ?sM11 ?A12 ?L12 ?sa12 ?ga12 ?gg12 ?nf12 ?ii12 ?ti12 ?l112 ?c112 ?k112 ?kC12 ?eC12 ?tC12 ?hC12 ?cc12 ?oo12 ?sM12 ?oG ?oT ?x12 ?x21 ?xne ?AM ?eM ?hM ?tM ?z_abs ?z_all ?z_any ?z_bool ?z_int ?z_isinstance ?z_len ?z_list ?z_range ?z_repr ?z_tuple ?q_BLOCK_SIZE ?q_MOST_NUMBER ?q_HEAD_MARK ?q_MANY_ZEROS ?q_NO ?lN ?lC ?u11 ?hd ?noP ?tab
    (case a1 => k_is)
    (case l1 => k_is)
    (case c1 => k_is)
    (case k1 => k_is)
    (case a2 => k_is)
    (case l2 => k_is)
    (case c2 => k_is)
    (case k2 => k_is)
    (case a3 => k_is)
    (case l3 => k_is)
    (case c3 => k_is)
    (case k3 => k_is)
    (case a4 => k_is)
    (case l4 => k_is)
    (case c4 => k_is)
    (case k4 => k_is)
    (case a8 => k_is)
    (case l8 => k_is)
    (case c8 => k_is)
    (case k8 => k_is)
    (case a17 => k_is)
    (case l17 => k_is)
    (case c17 => k_is)
    (case k17 => k_is)
    (case a18 => k_is)
    (case l18 => k_is)
    (case c18 => k_is)
    (case k18 => k_is)
    (case a19 => k_is)
    (case l19 => k_is)
    (case c19 => k_is)
    (case k19 => k_is)
    (case a21 => k_is)
    (case l21 => k_is)
    (case c21 => k_is)
    (case k21 => k_is)
    (case a22 => k_is)
    (case l22 => k_is)
    (case c22 => k_is)
    (case k22 => k_is)
    (case a23 => k_is)
    (case l23 => k_is)
    (case c23 => k_is)
    (case k23 => k_is)
    (case a24 => k_is)
    (case l24 => k_is)
    (case c24 => k_is)
    (case k24 => k_is)
    (case a25 => k_is)
    (case l25 => k_is)
    (case c25 => k_is)
    (case k25 => k_is)
    (case a26 => k_is)
    (case l26 => k_is)
    (case c26 => k_is)
    (case k26 => k_is)
    (case a27 => k_is)
    (case l27 => k_is)
    (case c27 => k_is)
    (case k27 => k_is)
    (case a28 => k_is)
    (case l28 => k_is)
    (case c28 => k_is)
    (case k28 => k_is)
    (case a29 => k_is)
    (case l29 => k_is)
    (case c29 => k_is)
    (case k29 => k_is)
    (case a30 => k_is)
    (case l30 => k_is)
    (case c30 => k_is)
    (case k30 => k_is)
    (case A11 => k_is)
    (case L11 => k_is)
    (case sa11 => k_is)
    (case ga11 => k_is)
    (case gg11 => k_is)
    (case nf11 => k_is)
    (case ii11 => k_is)
    (case ti11 => k_is)
    (case l111 => k_is)
    (case c111 => k_is)
    (case k111 => k_is)
    (case kC11 => k_is)
    (case eC11 => k_is)
    (case tC11 => k_is)
    (case hC11 => k_is)
    (case cc11 => k_is)
    (case oo11 => k_is)
    (case sM11 => k_is)
    (case A12 => k_is)
    (case L12 => k_is)
    (case sa12 => k_is)
    (case ga12 => k_is)
    (case gg12 => k_is)
    (case nf12 => k_is)
    (case ii12 => k_is)
    (case ti12 => k_is)
    (case l112 => k_is)
    (case c112 => k_is)
    (case k112 => k_is)
    (case kC12 => k_is)
    (case eC12 => k_is)
    (case tC12 => k_is)
    (case hC12 => k_is)
    (case cc12 => k_is)
    (case oo12 => k_is)
    (case sM12 => k_is)
    (case oG => k_is)
    (case oT => k_is)
    (case x12 => k_is)
    (case x21 => k_is)
    (case xne => decide)
    (case AM => k_is)
    (case eM => k_is)
    (case hM => k_is)
    (case tM => k_is)
    (case z_abs => k_is)
    (case z_all => k_is)
    (case z_any => k_is)
    (case z_bool => k_is)
    (case z_int => k_is)
    (case z_isinstance => k_is)
    (case z_len => k_is)
    (case z_list => k_is)
    (case z_range => k_is)
    (case z_repr => k_is)
    (case z_tuple => k_is)
    (case q_BLOCK_SIZE => k_is)
    (case q_MOST_NUMBER => k_is)
    (case q_HEAD_MARK => k_is)
    (case q_MANY_ZEROS => k_is)
    (case q_NO => k_is)
    (case lN => k_is)
    (case lC => k_is)
    (case u11 => first | rfl | k_is)
    (case hd => first | rfl | k_is)
    (case noP => first | rfl | k_is)
    (case tab => exact PySem.W.km_tabs_of Y _ (by simp))
