import PyProof.Rows.All
import Wide.All
import OpenK.AllK
import Wide.FinOn
import HandS.ForMost
import HandS.Wide
import HandS.IsInst
import HandS.Defaults
import HandS.MakeKwOnly
import HandS.SortInts
import HandS.RaiseMore
import HandS.Zip
import HandS.TupAny
import HandS.Codes
import PySem.Challenge.RW_meettrees_k01_plain_values_told
set_option Elab.async false
set_option linter.all false
set_option maxRecDepth 100000
/-! what all laws share: frames, what draws, calls by names alone -/
namespace MT
open PySem L2

/-! ### frames -/
/-- all but what M names stays -/
def Frm (M : Addr → Prop) (H H' : Hp) : Prop := ∀ c o, ¬ M c → H c = some o → H' c = some o
theorem Frm.refl {M : Addr → Prop} {H : Hp} : Frm M H H := fun _ _ _ h => h
theorem Frm.trans {M : Addr → Prop} {H H1 H2 : Hp} (a : Frm M H H1) (b : Frm M H1 H2) : Frm M H H2 := fun c o n h => b c o n (a c o n h)
theorem Frm.mono {M N : Addr → Prop} {H H' : Hp} (a : Frm M H H') (h : ∀ c, M c → N c) : Frm N H H' := fun c o n e => a c o (fun m => n (h c m)) e
theorem frm_same {M : Addr → Prop} {H H' : Hp} (s : Same H H') : Frm M H H' := fun c o _ h => s c o h
theorem same_new {H : Hp} {p : Addr} {o : HO} (h : H p = none) : Same H (upd H p o) := fun c u e => by
  rw [upd_ne (ne_of_none e h)]
  exact e
/-- a list in any heap behind -/
theorem Frm.seq {M : Addr → Prop} {K : PySem.W.Frag} {H H' : Hp} {a : Addr} {xs : List V} (e : Frm M H H') (n : ¬ M a) (h : SqL K H a xs) : SqL K H' a xs := by
  rcases h with (h | ⟨o, h⟩) | h
  · exact .inl (.inl (e _ _ n h))
  · exact .inl (.inr ⟨o, e _ _ n h⟩)
  · exact .inr h

/-! ### what draws -/
structure Sat (a b : Addr) (cs : List Int) (t r : Int) (H : Hp) : Prop where
  ha : H a = some (.lst [.ref b, .int t, .int r])
  hb : H b = some (.lst (cs.map V.int))
  ht : 0 ≤ t
  hr : 0 ≤ r
/-- at a stands what draws: at most n draws were made -/
def Sx (a b : Addr) (cs : List Int) (n : Nat) (H : Hp) : Prop := ∃ t r, Sat a b cs t r H ∧ t ≤ (n : Int)
theorem Sat.ne {a b : Addr} {cs : List Int} {t r : Int} {H : Hp} (s : Sat a b cs t r H) : b ≠ a := ne_of s.hb s.ha fun e => by
  injection e with e
  cases cs with
  | nil => cases e
  | cons x xs => injection e with e1 _; cases e1
theorem Sat.same {a b : Addr} {cs : List Int} {t r : Int} {H H' : Hp} (s : Sat a b cs t r H) (e : Same H H') : Sat a b cs t r H' := ⟨e _ _ s.ha, e _ _ s.hb, s.ht, s.hr⟩
theorem Sx.same {a b : Addr} {cs : List Int} {n : Nat} {H H' : Hp} (s : Sx a b cs n H) (e : Same H H') : Sx a b cs n H' := by
  obtain ⟨t, r, s, h⟩ := s
  exact ⟨t, r, s.same e, h⟩
theorem Sx.le {a b : Addr} {cs : List Int} {n m : Nat} {H : Hp} (s : Sx a b cs n H) (e : n ≤ m) : Sx a b cs m H := by
  obtain ⟨t, r, s, h⟩ := s
  exact ⟨t, r, s, by omega⟩
theorem Sat.upd {a b : Addr} {cs : List Int} {t r t' r' : Int} {H : Hp} (s : Sat a b cs t r H) (h1 : 0 ≤ t') (h2 : 0 ≤ r') : Sat a b cs t' r' (L2.upd H a (.lst [.ref b, .int t', .int r'])) := ⟨upd_same, by rw [upd_ne s.ne]; exact s.hb, h1, h2⟩
theorem frm_upd {H : Hp} {a : Addr} {o : HO} : Frm (· = a) H (L2.upd H a o) := fun c u n h => by rw [upd_ne n]; exact h
/-- the promise of a draw below m -/
def spDraw : Sp := fun vs H Q _ => ∃ (a b : Addr) (cs : List Int) (n : Nat) (m : Int), vs = [.ref a, .int m] ∧ Sx a b cs n H ∧ n ≤ 1000000 ∧ 0 < m ∧ m < 2 ^ 62 ∧
  ∀ H' d, Frm (· = a) H H' → Sx a b cs (n + 1) H' → 0 ≤ d → d < m → Q (.int d) H'
/-- the promise of a draw of one of some -/
def spPick (K : PySem.W.Frag) : Sp := fun vs H Q _ => ∃ (a b : Addr) (cs : List Int) (n : Nat) (p : Addr) (xs : List V), vs = [.ref a, .ref p] ∧ Sx a b cs n H ∧ n ≤ 1000000 ∧ p ≠ a ∧ SqL K H p xs ∧ xs ≠ [] ∧ xs.length < 2 ^ 62 ∧
  ∀ H' x, Frm (· = a) H H' → Sx a b cs (n + 1) H' → x ∈ xs → Q x H'

theorem draw_div {r m : Int} (h : 0 < m) (h2 : m < 2 ^ 62) : CDivW r m := wide_div (b := 62) h (by omega) (by decide) (by decide)
theorem canLay_ints : ∀ cs : List Int, PyData.canLayAll0 (cs.map PyData.int) = true
  | [] => by simp [PyData.canLayAll0]
  | c :: cs => by
    simp only [List.map_cons, PyData.canLayAll0, PyData.canLay0, canLay_ints cs, Bool.and_self]
theorem depth_ints : ∀ cs : List Int, PyData.depthAll (cs.map PyData.int) = 0
  | [] => by simp [PyData.depthAll]
  | c :: cs => by simp [PyData.depthAll, PyData.depth, depth_ints cs]
theorem shaped_ints (cs : List Int) : SeqAt.shaped (.list (cs.map PyData.int)) = true := by
  simp [SeqAt.shaped, PyData.canLay0, PyData.depth, canLay_ints, depth_ints]
theorem shaped_tints (cs : List Int) : SeqAt.shaped (.tuple (cs.map PyData.int)) = true := by
  simp [SeqAt.shaped, PyData.canLay0, PyData.depth, canLay_ints, depth_ints]
theorem dp_ints {K : PySem.W.Frag} {H : Hp} : ∀ cs : List Int, DpAll K H (cs.map V.int) (cs.map PyData.int)
  | [] => .nil
  | c :: cs => .cons (.int c) (dp_ints cs)
theorem ints_ne {K : PySem.W.Frag} {H : Hp} {p l : Addr} {cs : List Int} {Q : VK} (hp : SqL K H p (cs.map V.int)) (hl : SqL K H l []) (q : Q (.bl (!cs.isEmpty)) H) : rNeD K (.ref p) (.ref l) H Q :=
  ⟨.list (cs.map .int), .list [], .lst hp (dp_ints cs), .lst hl .nil, shaped_ints cs, shaped_ints [], by cases cs <;> exact q⟩
theorem mul_bd {x y A B : Int} (h0 : 0 ≤ x) (h1 : x ≤ A) (h2 : 0 ≤ y) (h3 : y ≤ B) : 0 ≤ x * y ∧ x * y ≤ A * B :=
  ⟨Int.mul_nonneg h0 h2, Int.le_trans (Int.mul_le_mul_of_nonneg_right h1 h2) (Int.mul_le_mul_of_nonneg_left h3 (Int.le_trans h0 h1))⟩
theorem cell_at {cs : List Int} (h : cs ≠ []) (t : Int) : ∃ c, atI (cs.map V.int) (t % ((cs.map V.int).length : Int)) = some (.int c) := by
  have l0 : 0 < cs.length := by cases cs with | nil => exact absurd rfl h | cons c cs => exact Nat.succ_pos _
  have e : ((cs.map V.int).length : Int) = cs.length := by rw [List.length_map]
  rw [e]
  have h1 : 0 ≤ t % (cs.length : Int) := Int.emod_nonneg _ (by omega)
  have h2 : t % (cs.length : Int) < cs.length := Int.emod_lt_of_pos _ (by omega)
  obtain ⟨j, hj⟩ : ∃ j : Nat, t % (cs.length : Int) = j := ⟨_, (Int.toNat_of_nonneg h1).symm⟩
  rw [hj]
  refine ⟨cs[j]'(by omega), atI_nat ?_⟩
  rw [List.getElem?_map, List.getElem?_eq_getElem (by omega)]
  rfl
theorem draw_rest {y v b : Int} {c : Bool} (e : y = 2 * (v - b)) (h : b ≤ v) : 0 ≤ y + (if c = true then 1 else 0) := by
  cases c
  · simp only [Bool.false_eq_true, if_false]; omega
  · simp only [if_true]; omega
/-! ### numbers as letters -/
section
variable {X : Cx}
theorem op_modL : OpR X (binaryOp .Mod) (fun x y H Q => ∃ i j, x = .int i ∧ y = .int j ∧ 0 < j ∧ ∀ z, z = i % j → 0 ≤ z → z < j → Q (.int z) H) := by
  intro pins s σ H x y v u Q I rx ry h
  obtain ⟨i, j, ex, ey, hj, q⟩ := h
  exact op_mod pins s σ H x y v u Q I rx ry ⟨i, j, ex, ey, hj, q _ rfl (Int.emod_nonneg _ (by omega)) (Int.emod_lt_of_pos _ hj)⟩
theorem op_mulL : OpR X (binaryOp .Mult) (fun x y H Q => ∃ i j, x = .int i ∧ y = .int j ∧ CMul i j ∧ ∀ z, z = i * j → Q (.int z) H) := by
  intro pins s σ H x y v u Q I rx ry h
  obtain ⟨i, j, ex, ey, hj, q⟩ := h
  exact op_mul pins s σ H x y v u Q I rx ry ⟨i, j, ex, ey, hj, q _ rfl⟩
theorem op_powL : OpR X (binaryOp .Pow) (fun x y H Q => ∃ i j, x = .int i ∧ y = .int j ∧ CPow i j ∧ ∀ z, z = i ^ j.toNat → Q (.int z) H) := by
  intro pins s σ H x y v u Q I rx ry h
  obtain ⟨i, j, ex, ey, hj, q⟩ := h
  exact op_pow pins s σ H x y v u Q I rx ry ⟨i, j, ex, ey, hj, q _ rfl⟩
theorem op_fdivL : OpR X (binaryOp .FloorDiv) (fun x y H Q => ∃ i j, x = .int i ∧ y = .int j ∧ CDivW i j ∧ ∀ z, z = i / j → Q (.int z) H) := by
  intro pins s σ H x y v u Q I rx ry h
  obtain ⟨i, j, ex, ey, hj, q⟩ := h
  exact op_fdivW pins s σ H x y v u Q I rx ry ⟨i, j, ex, ey, hj, q _ rfl⟩
end
/-! ### a call by names alone -/
section
variable {X : Cx} {CX : CXT} {k n : Nat} {f : Addr} {fd : FuncData} {ps ks : List Str} {sp : Sp} {E : XK} {x : Str} {p pos : Pos} {kws : List Keyword} {tk : TA} {g : List Value → List Value → List Value} {gV : List V → List V → List V}
theorem pe_callN0 (F : FnOk X.prog X.w X.K X.mg X.base CX k f fd ps sp) (hr : Room k X.A) (hg : Gl X x) (hm : X.mg x = some (.ref f)) (hk : PySem.W.keepIn X.K (.ref f) = true) (hb : KBn X.K fd ps 0 ks g gV) (hx : Passes CX X E)
    (hkw : PK X kws tk) (some_ : (backToKw pos (keywordEach kws X.env)).all (·.1.isSome) = true := by rfl) (names : (backToKw pos (keywordEach kws X.env)).filterMap (·.1) = ks := by rfl)
    (dbg : (x == ("__debug__" : Str)) = false := by decide)
    (plain : ((backTo pos (starEach [] X.env)).any (·.1) || (backToKw pos (keywordEach kws X.env)).any (·.1.isNone)) = false := by exact rfl) :
    PE X (.Call (.Name x p) [] kws pos) (tCallN 0 ks.length sp gV E tNil tk) :=
  ⟨fun pns st sl Hs Q I0 told => wpAny_Call_Name_kw (ld_glob I0 hg hm (PySem.W.callWith_KW0 (h₀ := X.base) I0.ok.mod.kin hk some_
    (thn (hkw.run pos pns st sl Hs _ I0 told) fun ws st2 ⟨zs, Ht, J, rel, _, len, go⟩ => ⟨J.kIn, by rw [names]; exact run_fnN (us := []) (vs := []) F hr hb hx J .nil rel rfl len go⟩) plain) dbg)⟩
end
theorem Fun.kbn {K : PySem.W.Frag} {x qual : Str} {st : Stmt} {f : Addr} {fd : FuncData} {ps : List Str} (F : Fun K x qual st f fd) (n : Nat) (ks : List Str) (g : {α : Type} → List α → List α → List α)
    (hrel : ∀ {vs zs : List V} {us ws : List Value}, Vals vs us → Vals zs ws → Vals (g vs zs) (g us ws))
    (h : ∀ (kV doc pm : Value) (an : Option Addr) (cdv ct : Value) (us ws : List Value), us.length = n → ws.length = ks.length → bindArgs (PySem.W.fnOf x qual (defArgs st) (defBody st) (defScope st) .none kV doc pm an cdv ct) ⟨us, ks.zip ws⟩ = pure (ps.zip (g us ws))) :
    KBn K fd ps n ks (fun us ws => g us ws) (fun vs zs => g vs zs) := by
  obtain ⟨oc, od, kV, doc, pm, an, cdv, ct, osl, rfl, lk, hcd⟩ := F.ex
  exact ⟨fun s us ws _ l1 l2 => BindsTo.of_eq (h kV doc pm an cdv ct us ws l1 l2), fun r1 r2 => hrel r1 r2⟩

/-! ### repr of a flag -/
def boolText (b : Bool) : Str := if b then "True" else "False"
theorem call_repr_bool {X : Cx} : CallR X (.builtin "repr") (fun xs H Q => ∃ b, xs = [.bl b] ∧ Q (.str (boolText b)) H) := by
  intro pins s σ H xs us Q I r h
  obtain ⟨b, rfl, q⟩ := h
  obtain ⟨u, rfl, r1⟩ := Vals.one r
  cases r1
  exact PySem.P.repr_of_bool ⟨.str (boolText b), H, I.tok _, ⟨_, rfl⟩, q⟩
theorem boolText_inj {a b : Bool} : decide (V.str (boolText a) = V.str (boolText b)) = (a == b) := by
  cases a <;> cases b <;> decide +kernel
end MT
/-! comprehensions over what may draw -/
namespace MT
open PySem L2

theorem Frm.updD {M : Addr → Prop} {H1 H : Hp} {D : Addr} {o : HO} (F : Frm M H1 H) (h : H1 D = none) : Frm M H1 (upd H D o) := fun c u n e => by
  rw [upd_ne (ne_of_none e h)]
  exact F c u n e
theorem Sx.updD {sa sb : Addr} {cs : List Int} {n m : Nat} {H1 H : Hp} {D : Addr} {o : HO} (S1 : Sx sa sb cs m H1) (h : H1 D = none) (S : Sx sa sb cs n H) : Sx sa sb cs n (upd H D o) := by
  obtain ⟨t, r, S, ht⟩ := S
  obtain ⟨t1, r1, S1, ht1⟩ := S1
  exact ⟨t, r, ⟨by rw [upd_ne (ne_of_none S1.ha h)]; exact S.ha, by rw [upd_ne (ne_of_none S1.hb h)]; exact S.hb, S.ht, S.hr⟩, ht⟩
/-- one turn: Ky of what is kept, Kn of what is passed by -/
def LcStep (g : TG) (tt : TT) (te : TE) (vs : List Nat) (σ : St) (x : V) (H : Hp) (Ky : VK) (Kn : Hp → Prop) : Prop :=
  g x (wipe σ vs) H fun σ2 H2 => wipe σ2 vs = wipe σ vs ∧ tt σ2 H2 fun b H3 => if b = true then te σ2 H3 Ky else Kn H3
/-- the walk J of a comprehension that fills the list at D, then Qd -/
def LcW (J : It) (g : TG) (tt : TT) (te : TE) (vs : List Nat) (σ : St) (H1 : Hp) (D : Addr) (Qd : Hp → Prop) : Prop :=
  ∃ Wd : Nat → Nat → Hp → Prop, (∃ left, Wd 0 left (upd H1 D (.lst []))) ∧ ∀ at_ left Hc, Wd at_ left Hc →
    (J.stop at_ Hc ∧ Qd Hc) ∨ (J.go at_ Hc ∧ ∃ Go : Hp → Prop, (∀ Hn, Go Hn → ∃ less, less < left ∧ Wd (at_ + 1) less Hn) ∧
      ∀ item Hn, J.yld at_ Hc item Hn → g item (wipe σ vs) Hn fun σt Ht => wipe σt vs = wipe σ vs ∧ tt σt Ht fun kept Hk =>
        if kept = true then te σt Hk fun new He => ∃ made, He D = some (.lst made) ∧ made.length < sizeLine ∧ Go (upd He D (.lst (made ++ [new]))) else Go Hk)
/-- over a list -/
theorem lcg_list {K : PySem.W.Frag} {a : Addr} {xs : List V} {g : TG} {tt : TT} {te : TE} {vs : List Nat} {σ : St} {H1 : Hp} {D : Addr} {Qd : Hp → Prop} (M : Addr → Prop) (St : Nat → Hp → Prop) (A : Nat → List V → Hp → Prop)
    (hD : H1 D = none) (src : ∀ H, Frm M H1 H → SqL K H a xs) (hlen : xs.length ≤ 10000000)
    (hup : ∀ i H l, Frm M H1 H → St i H → St i (upd H D (.lst l))) (hmono : ∀ i acc H l, Frm M H1 H → A i acc H → A i acc (upd H D (.lst l)))
    (h0 : St 0 H1) (hA0 : A 0 [] H1)
    (hs : ∀ i x acc H, xs[i]? = some x → Frm M H1 H → H D = some (.lst acc) → St i H → A i acc H → ∀ (Ky : VK) (Kn : Hp → Prop),
      (∀ y H', Frm M H1 H' → H' D = some (.lst acc) → St (i + 1) H' → A (i + 1) (acc ++ [y]) H' → Ky y H') → (∀ H', Frm M H1 H' → H' D = some (.lst acc) → St (i + 1) H' → A (i + 1) acc H' → Kn H') → LcStep g tt te vs σ x H Ky Kn)
    (hd : ∀ H acc, Frm M H1 H → H D = some (.lst acc) → St xs.length H → A xs.length acc H → acc.length ≤ xs.length → Qd H) :
    LcW (Itl K a) g tt te vs σ H1 D Qd := by
  refine lc_list (fun i H => i ≤ xs.length ∧ ∃ acc, Frm M H1 H ∧ H D = some (.lst acc) ∧ St i H ∧ A i acc H ∧ acc.length ≤ i)
    ⟨Nat.zero_le _, [], Frm.refl.updD hD, upd_same, hup _ _ _ Frm.refl h0, hmono _ _ _ _ Frm.refl hA0, Nat.le_refl _⟩ (fun i H _ ⟨_, _, F, _⟩ => src H F) ?_ ?_
  · rintro i x H hx ⟨hi, acc, F, hDa, hS, hA, hlen2⟩
    have hi2 : i < xs.length := (List.getElem?_eq_some_iff.mp hx).1
    refine hs i x acc H hx F hDa hS hA _ _ (fun y H' F' hD' hS' hA' => ?_) (fun H' F' hD' hS' hA' => ?_)
    · refine ⟨acc, hD', ?_, hi2, acc ++ [y], F'.updD hD, upd_same, hup _ _ _ F' hS', hmono _ _ _ _ F' hA', ?_⟩
      · rw [sizeLine_eq]
        omega
      · rw [List.length_append, List.length_singleton]
        omega
    · exact ⟨hi2, acc, F', hD', hS', hA', by omega⟩
  · rintro H ⟨_, acc, F, hDa, hS, hA, hlen2⟩
    exact hd H acc F hDa hS hA hlen2
/-- over a tuple -/
theorem lcg_tup {K : PySem.W.Frag} {a : Addr} {xs : List V} {g : TG} {tt : TT} {te : TE} {vs : List Nat} {σ : St} {H1 : Hp} {D : Addr} {Qd : Hp → Prop} (M : Addr → Prop) (St : Nat → Hp → Prop) (A : Nat → List V → Hp → Prop)
    (hD : H1 D = none) (src : ∀ H, Frm M H1 H → SqT K H a xs) (hlen : xs.length ≤ 10000000)
    (hup : ∀ i H l, Frm M H1 H → St i H → St i (upd H D (.lst l))) (hmono : ∀ i acc H l, Frm M H1 H → A i acc H → A i acc (upd H D (.lst l)))
    (h0 : St 0 H1) (hA0 : A 0 [] H1)
    (hs : ∀ i x acc H, xs[i]? = some x → Frm M H1 H → H D = some (.lst acc) → St i H → A i acc H → ∀ (Ky : VK) (Kn : Hp → Prop),
      (∀ y H', Frm M H1 H' → H' D = some (.lst acc) → St (i + 1) H' → A (i + 1) (acc ++ [y]) H' → Ky y H') → (∀ H', Frm M H1 H' → H' D = some (.lst acc) → St (i + 1) H' → A (i + 1) acc H' → Kn H') → LcStep g tt te vs σ x H Ky Kn)
    (hd : ∀ H acc, Frm M H1 H → H D = some (.lst acc) → St xs.length H → A xs.length acc H → acc.length ≤ xs.length → Qd H) :
    LcW (Itt K a) g tt te vs σ H1 D Qd := by
  refine lc_tup (fun i H => i ≤ xs.length ∧ ∃ acc, Frm M H1 H ∧ H D = some (.lst acc) ∧ St i H ∧ A i acc H ∧ acc.length ≤ i)
    ⟨Nat.zero_le _, [], Frm.refl.updD hD, upd_same, hup _ _ _ Frm.refl h0, hmono _ _ _ _ Frm.refl hA0, Nat.le_refl _⟩ (fun i H _ ⟨_, _, F, _⟩ => src H F) ?_ ?_
  · rintro i x H hx ⟨hi, acc, F, hDa, hS, hA, hlen2⟩
    have hi2 : i < xs.length := (List.getElem?_eq_some_iff.mp hx).1
    refine hs i x acc H hx F hDa hS hA _ _ (fun y H' F' hD' hS' hA' => ?_) (fun H' F' hD' hS' hA' => ?_)
    · refine ⟨acc, hD', ?_, hi2, acc ++ [y], F'.updD hD, upd_same, hup _ _ _ F' hS', hmono _ _ _ _ F' hA', ?_⟩
      · rw [sizeLine_eq]
        omega
      · rw [List.length_append, List.length_singleton]
        omega
    · exact ⟨hi2, acc, F', hD', hS', hA', by omega⟩
  · rintro H ⟨_, acc, F, hDa, hS, hA, hlen2⟩
    exact hd H acc F hDa hS hA hlen2
/-- over a range -/
theorem lcg_range {lo : Int} {n : Nat} {g : TG} {tt : TT} {te : TE} {vs : List Nat} {σ : St} {H1 : Hp} {D : Addr} {Qd : Hp → Prop} (M : Addr → Prop) (St : Nat → Hp → Prop) (A : Nat → List V → Hp → Prop)
    (hD : H1 D = none)  (hlen : n ≤ 10000000)
    (hup : ∀ i H l, Frm M H1 H → St i H → St i (upd H D (.lst l))) (hmono : ∀ i acc H l, Frm M H1 H → A i acc H → A i acc (upd H D (.lst l)))
    (h0 : St 0 H1) (hA0 : A 0 [] H1)
    (hs : ∀ i  acc H, i < n → Frm M H1 H → H D = some (.lst acc) → St i H → A i acc H → ∀ (Ky : VK) (Kn : Hp → Prop),
      (∀ y H', Frm M H1 H' → H' D = some (.lst acc) → St (i + 1) H' → A (i + 1) (acc ++ [y]) H' → Ky y H') → (∀ H', Frm M H1 H' → H' D = some (.lst acc) → St (i + 1) H' → A (i + 1) acc H' → Kn H') → LcStep g tt te vs σ (.int (lo + i)) H Ky Kn)
    (hd : ∀ H acc, Frm M H1 H → H D = some (.lst acc) → St n H → A n acc H → acc.length ≤ n → Qd H) :
    LcW (Itr lo n) g tt te vs σ H1 D Qd := by
  refine lc_range (fun i H => i ≤ n ∧ ∃ acc, Frm M H1 H ∧ H D = some (.lst acc) ∧ St i H ∧ A i acc H ∧ acc.length ≤ i)
    ⟨Nat.zero_le _, [], Frm.refl.updD hD, upd_same, hup _ _ _ Frm.refl h0, hmono _ _ _ _ Frm.refl hA0, Nat.le_refl _⟩  ?_ ?_
  · rintro i  H hx ⟨hi, acc, F, hDa, hS, hA, hlen2⟩
    have hi2 : i < n := hx
    refine hs i  acc H hx F hDa hS hA _ _ (fun y H' F' hD' hS' hA' => ?_) (fun H' F' hD' hS' hA' => ?_)
    · refine ⟨acc, hD', ?_, hi2, acc ++ [y], F'.updD hD, upd_same, hup _ _ _ F' hS', hmono _ _ _ _ F' hA', ?_⟩
      · rw [sizeLine_eq]
        omega
      · rw [List.length_append, List.length_singleton]
        omega
    · exact ⟨hi2, acc, F', hD', hS', hA', by omega⟩
  · rintro H ⟨_, acc, F, hDa, hS, hA, hlen2⟩
    exact hd H acc F hDa hS hA hlen2
end MT
/-! values as data, whatever else the heap holds -/
namespace MT
open PySem L2

mutual
/-- the value v is the data d, none of it at an address of M; a dict's parts are not told -/
inductive Dv (K : PySem.W.Frag) (M : Addr → Prop) (H : Hp) : V → PyData → Prop
  | non : Dv K M H .non .none
  | bl (b : Bool) : Dv K M H (.bl b) (.bool b)
  | int (i : Int) : Dv K M H (.int i) (.int i)
  | str (x : Str) : Dv K M H (.str x) (.str x)
  | lst {p : Addr} {xs : List V} {ds : List PyData} : ¬ M p → SqL K H p xs → DvAll K M H xs ds → Dv K M H (.ref p) (.list ds)
  | tup {p : Addr} {xs : List V} {ds : List PyData} : ¬ M p → SqT K H p xs → DvAll K M H xs ds → Dv K M H (.ref p) (.tuple ds)
  | dct {p : Addr} {kvs : List (Key × V)} : ¬ M p → H p = some (.dK kvs) → Dv K M H (.ref p) (.dict [])
inductive DvAll (K : PySem.W.Frag) (M : Addr → Prop) (H : Hp) : List V → List PyData → Prop
  | nil : DvAll K M H [] []
  | cons {v : V} {vs : List V} {d : PyData} {ds : List PyData} : Dv K M H v d → DvAll K M H vs ds → DvAll K M H (v :: vs) (d :: ds)
end
theorem Frm.seqT {M : Addr → Prop} {K : PySem.W.Frag} {H H' : Hp} {a : Addr} {xs : List V} (e : Frm M H H') (n : ¬ M a) (h : SqT K H a xs) : SqT K H' a xs := by
  rcases h with (h | ⟨o, h⟩) | h
  · exact .inl (.inl (e _ _ n h))
  · exact .inl (.inr ⟨o, e _ _ n h⟩)
  · exact .inr h
section
variable {K : PySem.W.Frag} {M : Addr → Prop} {H H' : Hp}
mutual
theorem Dv.frm (F : Frm M H H') : ∀ (d : PyData) (v : V), Dv K M H v d → Dv K M H' v d
  | .none, _, h => by cases h; exact .non
  | .bool b, _, h => by cases h; exact .bl b
  | .int i, _, h => by cases h; exact .int i
  | .str x, _, h => by cases h; exact .str x
  | .list ds, _, h => by
    cases h with
    | lst n s a => exact .lst n (F.seq n s) (DvAll.frm F ds _ a)
  | .tuple ds, _, h => by
    cases h with
    | tup n s a => exact .tup n (F.seqT n s) (DvAll.frm F ds _ a)
  | .dict _, _, h => by
    cases h with
    | dct n s => exact .dct n (F _ _ n s)
theorem DvAll.frm (F : Frm M H H') : ∀ (ds : List PyData) (vs : List V), DvAll K M H vs ds → DvAll K M H' vs ds
  | [], _, h => by cases h; exact .nil
  | d :: ds, _, h => by
    cases h with
    | cons a b => exact .cons (Dv.frm F d _ a) (DvAll.frm F ds _ b)
end
theorem Dv.mono {d : PyData} {v : V} (h : Dv K M H v d) (F : Frm M H H') : Dv K M H' v d := Dv.frm F d v h
theorem DvAll.mono {ds : List PyData} {vs : List V} (h : DvAll K M H vs ds) (F : Frm M H H') : DvAll K M H' vs ds := DvAll.frm F ds vs h
theorem Dv.same {d : PyData} {v : V} (h : Dv K M H v d) (F : Same H H') : Dv K M H' v d := Dv.frm (frm_same F) d v h
theorem DvAll.same {ds : List PyData} {vs : List V} (h : DvAll K M H vs ds) (F : Same H H') : DvAll K M H' vs ds := DvAll.frm (frm_same F) ds vs h
theorem DvAll.length : ∀ {vs : List V} {ds : List PyData}, DvAll K M H vs ds → vs.length = ds.length
  | _, _, .nil => rfl
  | _, _, .cons _ t => congrArg Nat.succ (DvAll.length t)
theorem DvAll.get {vs : List V} {ds : List PyData} {i : Nat} {x : V} (h : DvAll K M H vs ds) (e : vs[i]? = some x) : ∃ d, ds[i]? = some d ∧ Dv K M H x d := by
  induction i generalizing vs ds with
  | zero => cases h with
    | nil => cases e
    | cons r _ => cases e; exact ⟨_, rfl, r⟩
  | succ i ih => cases h with
    | nil => cases e
    | cons _ t => exact ih t e
theorem DvAll.mem {vs : List V} {ds : List PyData} {x : V} (h : DvAll K M H vs ds) (m : x ∈ vs) : ∃ d, d ∈ ds ∧ Dv K M H x d := by
  obtain ⟨i, hi⟩ := List.mem_iff_getElem?.mp m
  obtain ⟨d, e, r⟩ := h.get hi
  exact ⟨d, List.mem_of_getElem? e, r⟩
theorem DvAll.append : ∀ {vs us : List V} {ds es : List PyData}, DvAll K M H vs ds → DvAll K M H us es → DvAll K M H (vs ++ us) (ds ++ es)
  | _, _, _, _, .nil, s => s
  | _, _, _, _, .cons r t, s => .cons r (DvAll.append t s)
theorem DvAll.set {x : V} {d : PyData} (r : Dv K M H x d) : ∀ {vs : List V} {ds : List PyData} (i : Nat), DvAll K M H vs ds → DvAll K M H (vs.set i x) (ds.set i d)
  | _, _, _, .nil => .nil
  | _, _, 0, .cons _ t => .cons r t
  | _, _, i + 1, .cons q t => .cons q (DvAll.set r i t)
theorem DvAll.ints : ∀ ns : List Int, DvAll K M H (ns.map V.int) (ns.map PyData.int)
  | [] => .nil
  | n :: ns => .cons (.int n) (DvAll.ints ns)
theorem DvAll.drop : ∀ {vs : List V} {ds : List PyData} (n : Nat), DvAll K M H vs ds → DvAll K M H (vs.drop n) (ds.drop n)
  | _, _, 0, h => h
  | _, _, _ + 1, .nil => .nil
  | _, _, n + 1, .cons _ t => DvAll.drop n t
theorem DvAll.take : ∀ {vs : List V} {ds : List PyData} (n : Nat), DvAll K M H vs ds → DvAll K M H (vs.take n) (ds.take n)
  | _, _, 0, _ => .nil
  | _, _, _ + 1, .nil => .nil
  | _, _, n + 1, .cons r t => .cons r (DvAll.take n t)

mutual
theorem Dv.dp : ∀ (d : PyData) (v : V), Dv K M H v d → d.canLay0 = true → Dp K H v d
  | .none, _, h, _ => by cases h; exact .non
  | .bool b, _, h, _ => by cases h; exact .bl b
  | .int i, _, h, _ => by cases h; exact .int i
  | .str x, _, h, _ => by cases h; exact .str x
  | .list ds, _, h, c => by
    cases h with
    | lst n s a => exact .lst s (DvAll.dp ds _ a (by simpa [PyData.canLay0] using c))
  | .tuple ds, _, h, c => by
    cases h with
    | tup n s a => exact .tup s (DvAll.dp ds _ a (by simpa [PyData.canLay0] using c))
  | .dict _, _, h, c => by simp [PyData.canLay0] at c
theorem DvAll.dp : ∀ (ds : List PyData) (vs : List V), DvAll K M H vs ds → PyData.canLayAll0 ds = true → DpAll K H vs ds
  | [], _, h, _ => by cases h; exact .nil
  | d :: ds, _, h, c => by
    have c' : d.canLay0 = true ∧ PyData.canLayAll0 ds = true := by simpa [PyData.canLayAll0] using c
    cases h with
    | cons a b => exact .cons (Dv.dp d _ a c'.1) (DvAll.dp ds _ b c'.2)
end

/-! ### types -/
def tyName : PyData → String
  | .dict _ => "dict" | .tuple _ => "tuple" | .list _ => "list" | .str _ => "str" | .int _ => "int" | .bool _ => "bool" | .none => "NoneType"
theorem tyx_lst {p : Addr} {xs : List V} (h : SqL K H p xs) : TyX K H (.ref p) (.type "list") := by
  rcases h with (h | ⟨o, h⟩) | ⟨o, _, _, h, c, _⟩
  · exact .base (.lst h)
  · exact .base (.frz h)
  · exact .kList h c
theorem tyx_tup {p : Addr} {xs : List V} (h : SqT K H p xs) : TyX K H (.ref p) (.type "tuple") := by
  rcases h with (h | ⟨o, h⟩) | ⟨o, _, _, h, c, _⟩
  · exact .base (.tup h)
  · exact .fTuple h
  · exact .kTuple h c
theorem Dv.ty {d : PyData} {v : V} (h : Dv K M H v d) : TyX K H v (.type (tyName d)) := by
  cases h with
  | non => exact .base .non
  | bl b => exact .base (.bl b)
  | int i => exact .base (.int i)
  | str x => exact .base (.str x)
  | lst _ s _ => exact tyx_lst s
  | tup _ s _ => exact tyx_tup s
  | dct _ s => exact .base (.dK s)
def isIntD : PyData → Bool
  | .int _ => true | _ => false
def isBoolD : PyData → Bool
  | .bool _ => true | _ => false
def isStrD : PyData → Bool
  | .str _ => true | _ => false
def seqD : PyData → Option (List PyData)
  | .list ds => some ds | .tuple ds => some ds | _ => none
theorem kit_tab : ∀ a ∈ ["NoneType", "bool", "int", "str", "list", "tuple", "dict"], ∀ b ∈ ["int", "bool", "str", "list", "tuple"], kitB a b = some (decide (a = b) || (decide (a = "bool") && decide (b = "int"))) := by decide +kernel
theorem tyName_mem (d : PyData) : tyName d ∈ ["NoneType", "bool", "int", "str", "list", "tuple", "dict"] := by cases d <;> simp [tyName]
theorem kit_tyN (d : PyData) {b : String} (h : b ∈ ["int", "bool", "str", "list", "tuple"]) : PySem.W.kitOne K (.type (tyName d)) (.type b) = some (decide (tyName d = b) || (decide (tyName d = "bool") && decide (b = "int"))) := kit_ty (kit_tab _ (tyName_mem d) _ h)
theorem kit_int (d : PyData) : PySem.W.kitOne K (.type (tyName d)) (.type "int") = some (isIntD d || isBoolD d) := by
  rw [kit_tyN d (by decide)]
  cases d <;> simp [tyName, isIntD, isBoolD]
theorem kit_bool (d : PyData) : PySem.W.kitOne K (.type (tyName d)) (.type "bool") = some (isBoolD d) := by
  rw [kit_tyN d (by decide)]
  cases d <;> simp [tyName, isIntD, isBoolD]
theorem kit_str (d : PyData) : PySem.W.kitOne K (.type (tyName d)) (.type "str") = some (isStrD d) := by
  rw [kit_tyN d (by decide)]
  cases d <;> simp [tyName, isStrD, isBoolD]
theorem kit_list (d : PyData) : ∃ b1 b2, PySem.W.kitOne K (.type (tyName d)) (.type "list") = some b1 ∧ PySem.W.kitOne K (.type (tyName d)) (.type "tuple") = some b2 ∧ (b1 || b2) = (seqD d).isSome := by
  refine ⟨_, _, kit_tyN d (by decide), kit_tyN d (by decide), ?_⟩
  cases d <;> simp [tyName, seqD]
theorem kit_seq (d : PyData) : PySem.W.kitAny K (.type (tyName d)) [.type "list", .type "tuple"] = some (seqD d).isSome := by
  obtain ⟨b1, b2, h1, h2, e⟩ := kit_list (K := K) d
  refine kitAny_cons h1 (fun q => kitAny_cons h2 (fun q2 => ?_) (fun q2 => ?_)) (fun q => ?_)
  · rw [← e, q, q2]; exact kitAny_nil
  · rw [← e, q2]; cases b1 <;> rfl
  · rw [← e, q]; rfl
theorem Dv.seq {d : PyData} {v : V} {ds : List PyData} (h : Dv K M H v d) (e : seqD d = some ds) : ∃ p xs, v = .ref p ∧ ¬ M p ∧ (SqL K H p xs ∨ SqT K H p xs) ∧ DvAll K M H xs ds := by
  cases h with
  | lst n s a => cases e; exact ⟨_, _, rfl, n, .inl s, a⟩
  | tup n s a => cases e; exact ⟨_, _, rfl, n, .inr s, a⟩
  | _ => cases e

/-! ### walks of lists and tuples -/
def SeqIt (K : PySem.W.Frag) (a : Addr) (xs : List V) (H1 : Hp) (J : It) : Prop := (J = Itl K a ∧ SqL K H1 a xs) ∨ (J = Itt K a ∧ SqT K H1 a xs)
def iSeq (K : PySem.W.Frag) (tl : TE) : TI := fun σ H R => tl σ H fun x H1 => ∃ a xs, x = .ref a ∧ (SqL K H1 a xs ∨ SqT K H1 a xs) ∧ ∀ J, SeqIt K a xs H1 J → R J H1
theorem pi_seq {X : Cx} {tg l : Expr} {tl : TE} (hl : PE X l tl) : PI X tg l (iSeq X.K tl) := by
  refine ⟨fun pns st sl Hs R I0 told => thn (hl.run pns st sl Hs _ I0 told) fun got st1 ⟨y, Ht, J, ry, a, xs, ey, sq, go⟩ => ?_⟩
  subst ey
  cases ry
  have free : ∀ b ∈ [st1.heap.objs.size], FpOk X pns Ht b := fun b hb => by
    rw [List.mem_singleton] at hb
    rw [hb]
    exact J.fpOk (Nat.le_refl _) (J.hok.fresh (Nat.le_refl _))
  rcases sq with isL | isT
  · obtain ⟨items, _, plain, _⟩ := J.list isL
    exact wpAny_pyIter_list plain.isList ⟨_, [st1.heap.objs.size], _, _, Ht, rfl, J.kept (t' := st1.toks) (fun _ _ e => Heap.get?_push_of_some _ e), turn_list a _, ⟨_, Heap.get?_push_size _ rfl, rfl, rfl⟩, free, go _ (.inl ⟨rfl, isL⟩)⟩
  · obtain ⟨items, _, plain, _⟩ := J.tuple isT
    exact wpAny_pyIter_tuple (show st1.heap.IsTuple a items.toArray from plain) ⟨_, [st1.heap.objs.size], _, _, Ht, rfl, J.kept (t' := st1.toks) (fun _ _ e => Heap.get?_push_of_some _ e), turn_tuple a _, ⟨_, Heap.get?_push_size _ rfl, rfl, rfl⟩, free, go _ (.inr ⟨rfl, isT⟩)⟩
theorem lcg_seq {a : Addr} {xs : List V} {J : It} {g : TG} {tt : TT} {te : TE} {vs : List Nat} {σ : St} {H1 : Hp} {D : Addr} {Qd : Hp → Prop} (M : Addr → Prop) (St : Nat → Hp → Prop) (A : Nat → List V → Hp → Prop)
    (hD : H1 D = none) (hJ : SeqIt K a xs H1 J) (nM : ¬ M a) (hlen : xs.length ≤ 10000000)
    (hup : ∀ i H l, Frm M H1 H → St i H → St i (upd H D (.lst l))) (hmono : ∀ i acc H l, Frm M H1 H → A i acc H → A i acc (upd H D (.lst l)))
    (h0 : St 0 H1) (hA0 : A 0 [] H1)
    (hs : ∀ i x acc H, xs[i]? = some x → Frm M H1 H → H D = some (.lst acc) → St i H → A i acc H → ∀ (Ky : VK) (Kn : Hp → Prop),
      (∀ y H', Frm M H1 H' → H' D = some (.lst acc) → St (i + 1) H' → A (i + 1) (acc ++ [y]) H' → Ky y H') → (∀ H', Frm M H1 H' → H' D = some (.lst acc) → St (i + 1) H' → A (i + 1) acc H' → Kn H') → LcStep g tt te vs σ x H Ky Kn)
    (hd : ∀ H acc, Frm M H1 H → H D = some (.lst acc) → St xs.length H → A xs.length acc H → acc.length ≤ xs.length → Qd H) : LcW J g tt te vs σ H1 D Qd := by
  rcases hJ with ⟨rfl, s⟩ | ⟨rfl, s⟩
  · exact lcg_list M St A hD (fun H F => F.seq nM s) hlen hup hmono h0 hA0 hs hd
  · exact lcg_tup M St A hD (fun H F => F.seqT nM s) hlen hup hmono h0 hA0 hs hd
theorem same_frm {H H' : Hp} (F : Frm (fun _ => False) H H') : Same H H' := fun c o h => F c o (fun z => z) h
/-- a list of flags: p of each item -/
theorem lc_bools {a : Addr} {xs : List V} {ds : List PyData} {J : It} {g : TG} {te : TE} {vs : List Nat} {σ : St} {H1 : Hp} {D : Addr} {Qd : Hp → Prop} (p : PyData → Bool)
    (hD : H1 D = none) (hJ : SeqIt K a xs H1 J) (hda : DvAll K M H1 xs ds) (hlen : xs.length ≤ 10000000)
    (hs : ∀ x d H, Dv K M H x d → Same H1 H → ∀ Ky : VK, (∀ H', Same H H' → Ky (.bl (p d)) H') → g x (wipe σ vs) H fun σ2 H2 => wipe σ2 vs = wipe σ vs ∧ te σ2 H2 Ky)
    (hd : ∀ H, Same H1 H → H D = some (.lst ((ds.map p).map V.bl)) → Qd H) : LcW J g tYes te vs σ H1 D Qd := by
  refine lcg_seq (fun _ => False) (fun _ _ => True) (fun i acc _ => acc = ((ds.take i).map p).map V.bl) hD hJ (fun z => z) hlen (fun _ _ _ _ z => z) (fun _ _ _ _ _ z => z) trivial rfl ?_ ?_
  · intro i x acc H hx F hDa _ hA Ky Kn ky kn
    obtain ⟨d, hd1, hd2⟩ := hda.get hx
    have F2 := same_frm F
    refine hs x d H (hd2.same F2) F2 _ fun H' F' => ?_
    refine ky _ H' (F.trans (frm_same F')) (F' _ _ hDa) trivial ?_
    rw [hA]
    have e : ds.take (i + 1) = ds.take i ++ [d] := by
      rw [List.take_add_one, hd1]
      rfl
    rw [e, List.map_append, List.map_append]
    rfl
  · intro H acc F hDa _ hA _
    refine hd H (same_frm F) ?_
    rw [hDa, hA, List.take_of_length_le (by rw [hda.length]; exact Nat.le_refl _)]
end
theorem qbl {Q : VK} {a b : Bool} {H : Hp} (q : Q (.bl b) H) (e : a = b) : Q (.bl a) H := e ▸ q
/-! ### what the checks answer, as data -/
def oI : Option Int → V
  | none => .non | some i => .int i
def withinD (d : PyData) (lo hi : Option Int) : Bool := match d with
  | .int i => (match lo with | none => true | some l => decide (l ≤ i)) && (match hi with | none => true | some u => decide (i ≤ u))
  | _ => false
def areIntsD (d : PyData) : Bool := match seqD d with
  | none => false | some ds => ds.all isIntD
def numbersD (d : PyData) (n m : Int) : Bool := match seqD d with
  | none => false | some ds => decide ((ds.length : Int) = n) && ds.all (fun x => withinD x (some 0) (some m))
def intOf : PyData → Int
  | .int i => i | _ => 0
def risesD : List PyData → Bool
  | x :: y :: r => decide (intOf x < intOf y) && risesD (y :: r)
  | _ => true
def lotD (d : PyData) (n : Int) : Bool := match seqD d with
  | none => false | some ds => ds.all (fun x => withinD x (some 0) (some (n - 1))) && risesD ds
def nameSign (c : Nat) : Bool := (decide (97 ≤ c) && decide (c ≤ 122)) || (decide (48 ≤ c) && decide (c ≤ 57))
def nameD : PyData → Bool
  | .str x => decide (1 ≤ x.length) && decide (x.length ≤ 12) && x.cps.toList.all nameSign
  | _ => false
theorem isInt_eq {d : PyData} (h : isIntD d = true) : ∃ i, d = .int i := by
  cases d <;> first | exact ⟨_, rfl⟩ | cases h
def spIsList (K : PySem.W.Frag) : Sp := fun vs H Q _ => ∃ (M : Addr → Prop) (v : V) (d : PyData), vs = [v] ∧ Dv K M H v d ∧ ∀ H', Same H H' → Q (.bl (seqD d).isSome) H'
def spIsInt (K : PySem.W.Frag) : Sp := fun vs H Q _ => ∃ (M : Addr → Prop) (v : V) (d : PyData), vs = [v] ∧ Dv K M H v d ∧ Q (.bl (isIntD d)) H
def spWithin (K : PySem.W.Frag) : Sp := fun vs H Q _ => ∃ (M : Addr → Prop) (v : V) (d : PyData) (lo hi : Option Int), vs = [v, oI lo, oI hi] ∧ Dv K M H v d ∧ Q (.bl (withinD d lo hi)) H
def spAreInts (K : PySem.W.Frag) : Sp := fun vs H Q _ => ∃ (M : Addr → Prop) (v : V) (d : PyData), vs = [v] ∧ Dv K M H v d ∧ (∀ ds, seqD d = some ds → ds.length ≤ 10000000) ∧ ∀ H', Same H H' → Q (.bl (areIntsD d)) H'
def spNumbers (K : PySem.W.Frag) : Sp := fun vs H Q _ => ∃ (M : Addr → Prop) (v : V) (d : PyData) (n m : Int), vs = [v, .int n, .int m] ∧ Dv K M H v d ∧ (∀ ds, seqD d = some ds → ds.length ≤ 10000000) ∧ ∀ H', Same H H' → Q (.bl (numbersD d n m)) H'
def spLot (K : PySem.W.Frag) : Sp := fun vs H Q _ => ∃ (M : Addr → Prop) (v : V) (d : PyData) (n : Int), vs = [v, .int n] ∧ Dv K M H v d ∧ (∀ ds, seqD d = some ds → ds.length ≤ 10000000) ∧ ∀ H', Same H H' → Q (.bl (lotD d n)) H'
def spName (K : PySem.W.Frag) : Sp := fun vs H Q _ => ∃ (M : Addr → Prop) (v : V) (d : PyData), vs = [v] ∧ Dv K M H v d ∧ (∀ x, d = .str x → x.length ≤ 1000000) ∧ ∀ H', Same H H' → Q (.bl (nameD d)) H'
end MT
/-! comprehensions over two at once, over signs -/
namespace MT
open PySem L2 RZ
section
variable {K : PySem.W.Frag} {M : Addr → Prop} {H H' : Hp}
def ZipIt (K : PySem.W.Frag) (a b : Addr) (xs ys : List V) (H1 : Hp) (J : It) : Prop := (J = Itz K a b ∧ SqL K H1 a xs ∧ SqL K H1 b ys) ∨ (J = ItzT K a b ∧ SqT K H1 a xs ∧ SqT K H1 b ys)
theorem Same.seqT {H H' : Hp} {a : Addr} {xs : List V} (e : Same H H') (h : SqT K H a xs) : SqT K H' a xs := Frm.seqT (M := fun _ => False) (frm_same e) (fun z => z) h
theorem lc_zipP {a b : Addr} {xs ys : List V} {J : It} {g : TG} {te : TE} {vs : List Nat} {σ : St} {H1 : Hp} {D : Addr} {Qd : Hp → Prop} (f : V × V → V)
    (hD : H1 D = none) (hJ : ZipIt K a b xs ys H1 J) (hlen : xs.length ≤ 10000000)
    (hs : ∀ (i : Nat) x y T H, xs[i]? = some x → ys[i]? = some y → Same H1 H → H T = some (.tup [x, y]) → ∀ Ky : VK, (∀ H', Same H H' → Ky (f (x, y)) H') → g (.ref T) (wipe σ vs) H fun σ2 H2 => wipe σ2 vs = wipe σ vs ∧ te σ2 H2 Ky)
    (hd : ∀ H, Same H1 H → H D = some (.lst ((xs.zip ys).map f)) → Qd H) : LcW J g tYes te vs σ H1 D Qd := by
  have key : ∀ (i m : Nat) (H : Hp), (m = (xs.zip ys).length - i ∧ i ≤ (xs.zip ys).length ∧ Same H1 H ∧ H D = some (.lst (((xs.zip ys).take i).map f))) →
      (xs.length ≤ i ∨ ys.length ≤ i) ∧ Qd H ∨ (∃ x y, xs[i]? = some x ∧ ys[i]? = some y ∧ ∀ T H', H' = upd H T (.tup [x, y]) → H T = none →
        g (.ref T) (wipe σ vs) H' fun σ2 H2 => wipe σ2 vs = wipe σ vs ∧ tYes σ2 H2 fun b H3 => if b = true then te σ2 H3 fun y H4 => ∃ acc, H4 D = some (.lst acc) ∧ acc.length < sizeLine ∧
          (i + 1 ≤ (xs.zip ys).length ∧ Same H1 (upd H4 D (.lst (acc ++ [y]))) ∧ (upd H4 D (.lst (acc ++ [y]))) D = some (.lst (((xs.zip ys).take (i + 1)).map f))) else (i + 1 ≤ (xs.zip ys).length ∧ Same H1 H3 ∧ H3 D = some (.lst (((xs.zip ys).take (i + 1)).map f)))) := by
    rintro i m H ⟨rfl, hi, s, hDa⟩
    have hl := List.length_zip (l₁ := xs) (l₂ := ys)
    by_cases hlt : i < (xs.zip ys).length
    · have h1 : i < xs.length := (by omega)
      have h2 : i < ys.length := (by omega)
      refine .inr ⟨xs[i], ys[i], List.getElem?_eq_getElem h1, List.getElem?_eq_getElem h2, fun T H' e hT => ?_⟩
      subst e
      have sT := same_new (o := .tup [xs[i], ys[i]]) hT
      refine hs i _ _ T _ (List.getElem?_eq_getElem h1) (List.getElem?_eq_getElem h2) (s.trans sT) upd_same _ fun H' s' => ?_
      refine ⟨_, s' _ _ (sT _ _ hDa), ?_, hlt, ?_, ?_⟩
      · rw [sizeLine_eq, List.length_map, List.length_take]
        omega
      · exact same_frm ((frm_same ((s.trans sT).trans s')).updD hD)
      · have e : (xs.zip ys).take (i + 1) = (xs.zip ys).take i ++ [(xs[i], ys[i])] := by
          rw [List.take_add_one, List.getElem?_eq_getElem hlt, List.getElem_zip]
          rfl
        rw [upd_same, e, List.map_append]
        rfl
    · have e : i = (xs.zip ys).length := by omega
      subst e
      refine .inl ⟨by omega, hd H s ?_⟩
      rw [hDa, List.take_of_length_le (Nat.le_refl _)]
  have st : (xs.zip ys).length = (xs.zip ys).length - 0 ∧ 0 ≤ (xs.zip ys).length ∧ Same H1 (upd H1 D (.lst [])) ∧ (upd H1 D (.lst [])) D = some (.lst (((xs.zip ys).take 0).map f)) :=
    ⟨by omega, Nat.zero_le _, same_new hD, by rw [upd_same]; rfl⟩
  rcases hJ with ⟨rfl, sa, sb⟩ | ⟨rfl, sa, sb⟩
  · refine ⟨fun i m H => m = (xs.zip ys).length - i ∧ i ≤ (xs.zip ys).length ∧ Same H1 H ∧ H D = some (.lst (((xs.zip ys).take i).map f)), ⟨_, st⟩, fun i m H w => ?_⟩
    obtain ⟨em, _, s, _⟩ := id w
    have q1 := s.seq sa
    have q2 := s.seq sb
    rcases key i m H w with ⟨z, q⟩ | ⟨x, y, hx, hy, q⟩
    · exact .inl ⟨⟨xs, ys, q1, q2, z⟩, q⟩
    · have hlt : i < (xs.zip ys).length := by
        rw [List.length_zip]
        exact Nat.lt_min.mpr ⟨(List.getElem?_eq_some_iff.mp hx).1, (List.getElem?_eq_some_iff.mp hy).1⟩
      refine .inr ⟨⟨xs, ys, x, y, q1, q2, hx, hy⟩, fun H' => i + 1 ≤ (xs.zip ys).length ∧ Same H1 H' ∧ H' D = some (.lst (((xs.zip ys).take (i + 1)).map f)), fun H' p => ⟨_, by omega, rfl, p⟩, ?_⟩
      rintro v H' ⟨T, x', y', rfl, hT, e, ax, ay⟩
      have ex := (ax xs q1).symm.trans hx
      have ey := (ay ys q2).symm.trans hy
      cases ex
      cases ey
      exact q T H' e hT
  · refine ⟨fun i m H => m = (xs.zip ys).length - i ∧ i ≤ (xs.zip ys).length ∧ Same H1 H ∧ H D = some (.lst (((xs.zip ys).take i).map f)), ⟨_, st⟩, fun i m H w => ?_⟩
    obtain ⟨em, _, s, _⟩ := id w
    have q1 := Same.seqT s sa
    have q2 := Same.seqT s sb
    rcases key i m H w with ⟨z, q⟩ | ⟨x, y, hx, hy, q⟩
    · exact .inl ⟨⟨xs, ys, q1, q2, z⟩, q⟩
    · have hlt : i < (xs.zip ys).length := by
        rw [List.length_zip]
        exact Nat.lt_min.mpr ⟨(List.getElem?_eq_some_iff.mp hx).1, (List.getElem?_eq_some_iff.mp hy).1⟩
      refine .inr ⟨⟨xs, ys, x, y, q1, q2, hx, hy⟩, fun H' => i + 1 ≤ (xs.zip ys).length ∧ Same H1 H' ∧ H' D = some (.lst (((xs.zip ys).take (i + 1)).map f)), fun H' p => ⟨_, by omega, rfl, p⟩, ?_⟩
      rintro v H' ⟨T, x', y', rfl, hT, e, ax, ay⟩
      have ex := (ax xs q1).symm.trans hx
      have ey := (ay ys q2).symm.trans hy
      cases ex
      cases ey
      exact q T H' e hT
/-- sign by sign -/
theorem lc_strP {z : Str} {g : TG} {te : TE} {vs : List Nat} {σ : St} {H1 : Hp} {D : Addr} {Qd : Hp → Prop} (f : Nat → V)
    (hD : H1 D = none) (hlen : z.length ≤ 10000000)
    (hs : ∀ c H, c ∈ z.cps.toList → Same H1 H → ∀ Ky : VK, (∀ H', Same H H' → Ky (f c) H') → g (.str ⟨#[c]⟩) (wipe σ vs) H fun σ2 H2 => wipe σ2 vs = wipe σ vs ∧ te σ2 H2 Ky)
    (hd : ∀ H, Same H1 H → H D = some (.lst (z.cps.toList.map f)) → Qd H) : LcW (Its z) g tYes te vs σ H1 D Qd := by
  have hz : z.length = z.cps.toList.length := by simp [Str.length]
  have hz2 : z.cps.size = z.cps.toList.length := by simp
  refine ⟨fun i m H => m = z.cps.toList.length - i ∧ i ≤ z.cps.toList.length ∧ Same H1 H ∧ H D = some (.lst ((z.cps.toList.take i).map f)), ⟨_, by omega, Nat.zero_le _, same_new hD, by rw [upd_same]; rfl⟩, ?_⟩
  rintro i m H ⟨rfl, hi, s, hDa⟩
  by_cases hlt : i < z.cps.toList.length
  · refine .inr ⟨by show i < z.cps.size; omega, fun H' => i + 1 ≤ z.cps.toList.length ∧ Same H1 H' ∧ H' D = some (.lst ((z.cps.toList.take (i + 1)).map f)), fun H' p => ⟨_, by omega, rfl, p⟩, ?_⟩
    rintro v H' ⟨rfl, c, hc, rfl⟩
    have hc2 : z.cps.toList[i]? = some c := by simpa using hc
    refine hs c _ (List.mem_of_getElem? hc2) s _ fun H' s' => ?_
    refine ⟨_, s' _ _ hDa, ?_, hlt, ?_, ?_⟩
    · rw [sizeLine_eq, List.length_map, List.length_take]
      omega
    · exact same_frm ((frm_same (s.trans s')).updD hD)
    · have e : z.cps.toList.take (i + 1) = z.cps.toList.take i ++ [c] := by
        rw [List.take_add_one, hc2]
        rfl
      rw [upd_same, e, List.map_append]
      rfl
  · have e : i = z.cps.toList.length := by omega
    subst e
    refine .inl ⟨by show z.cps.size ≤ _; omega, hd H s ?_⟩
    rw [hDa, List.take_of_length_le (Nat.le_refl _)]
theorem cutRest (xs : List V) : cutV xs (some (1 : Int)) none = List.drop 1 xs := by
  unfold cutV
  have e1 : HT.sIx xs.length 0 (some 1) = min 1 xs.length := HT.sIx_nat _ _ 1
  rw [e1, HT.sIx_none]
  have e2 : xs.drop (min 1 xs.length) = xs.drop 1 := by
    cases xs with
    | nil => rfl
    | cons x r =>
      have : min 1 (x :: r).length = 1 := by rw [List.length_cons]; omega
      rw [this]
  rw [e2]
  refine List.take_of_length_le ?_
  rw [List.length_drop]
  omega
theorem sl_seq {X : Cx} : SlR X (fun x lo hi H Q => rSlL X.K x lo hi H Q ∨ rSlA X.K x lo hi H Q) := sl_list.or sl_tupA
/-- the rest of a list or tuple behind its first one, as data -/
theorem rest_seq {a : Addr} {xs : List V} {H1 : Hp} {Q : VK} (sq : SqL K H1 a xs ∨ SqT K H1 a xs)
    (h : ∀ b H2, Same H1 H2 → ((SqL K H2 a xs ∧ SqL K H2 b (xs.drop 1)) ∨ (SqT K H2 a xs ∧ SqT K H2 b (xs.drop 1))) → Q (.ref b) H2) :
    rSlL K (.ref a) (some 1) none H1 Q ∨ rSlA K (.ref a) (some 1) none H1 Q := by
  rcases sq with s | s
  · refine .inl ⟨a, xs, rfl, s, fun p hp => ?_⟩
    have e := same_new (o := .lst (cutV xs (some 1) none)) hp
    refine h p _ e (.inl ⟨e.seq s, ?_⟩)
    rw [← cutRest]
    exact SqL.of upd_same
  · refine .inr ⟨a, xs, rfl, s, fun hw => ?_, fun _ p hp => ?_⟩
    · refine h a _ (Same.refl _) (.inr ⟨s, ?_⟩)
      have e1 : HT.sIx xs.length 0 (some 1) = min 1 xs.length := HT.sIx_nat _ _ 1
      have h0 := hw.1
      rw [e1] at h0
      cases xs with
      | nil => exact s
      | cons x r =>
        rw [List.length_cons] at h0
        omega
    · have e := same_new (o := .tup (cutV xs (some 1) none)) hp
      refine h p _ e (.inr ⟨Same.seqT e s, ?_⟩)
      rw [← cutRest]
      exact SqT.of upd_same
theorem all_rises : ∀ {xs : List V} {ds : List PyData}, DvAll K M H xs ds → ds.all isIntD = true → ∃ ns : List Int, xs = ns.map V.int ∧ ds = ns.map PyData.int
  | _, _, .nil, _ => ⟨[], rfl, rfl⟩
  | _, _, .cons (v := v) (d := d) h t, e => by
    rw [List.all_cons, Bool.and_eq_true] at e
    obtain ⟨i, rfl⟩ := isInt_eq e.1
    cases h
    obtain ⟨ns, e1, e2⟩ := all_rises t e.2
    exact ⟨i :: ns, by rw [e1]; rfl, by rw [e2]; rfl⟩
theorem rises_zip : ∀ ns : List Int, ((ns.zip (ns.drop 1)).all fun q => decide (q.1 < q.2)) = risesD (ns.map PyData.int)
  | [] => rfl
  | [_] => rfl
  | x :: y :: r => by
    have ih := rises_zip (y :: r)
    show (decide (x < y) && (((y :: r).zip r).all fun q => decide (q.1 < q.2))) = (decide (x < y) && risesD ((y :: r).map PyData.int))
    rw [← ih]
    rfl
def ltF : V × V → V
  | (.int i, .int j) => .bl (decide (i < j))
  | _ => .bl false
theorem int_at {ns : List Int} {i : Nat} {x : V} (h : (ns.map V.int)[i]? = some x) : ∃ z, x = .int z := by
  rw [List.getElem?_map] at h
  cases e : ns[i]? with
  | none => rw [e] at h; cases h
  | some z => rw [e] at h; exact ⟨z, (Option.some.inj h).symm⟩
theorem zip_lt (ns : List Int) : ((ns.map V.int).zip ((ns.map V.int).drop 1)).map ltF = ((ns.zip (ns.drop 1)).map fun q => decide (q.1 < q.2)).map V.bl := by
  rw [← List.map_drop, List.zip_map, List.map_map, List.map_map]
  rfl
theorem within_ints {ds : List PyData} {m : Int} (h : ds.all (fun x => withinD x (some 0) (some m)) = true) : ds.all isIntD = true := by
  rw [List.all_eq_true] at h ⊢
  intro d hd
  have q := h d hd
  cases d <;> first | rfl | cases q
theorem numbers_len {d : PyData} {ds : List PyData} {xs : List V} {m : Int} (h : seqD d = some ds) (hda : DvAll K M H xs ds) : numbersD d (xs.length : Int) m = ds.all (fun x => withinD x (some 0) (some m)) := by
  unfold numbersD
  rw [h, hda.length]
  show (decide ((ds.length : Int) = ds.length) && _) = _
  rw [decide_eq_true rfl]
  rfl
theorem within_len {n : Nat} : withinD (.int n) (some 1) (some 12) = (decide (1 ≤ n) && decide (n ≤ 12)) := by
  show (decide ((1 : Int) ≤ n) && decide ((n : Int) ≤ 12)) = _
  rw [Bool.eq_iff_iff]
  simp only [Bool.and_eq_true, decide_eq_true_eq]
  omega
theorem sign_mem (c : Nat) : (c ∈ [97, 98, 99, 100, 101, 102, 103, 104, 105, 106, 107, 108, 109, 110, 111, 112, 113, 114, 115, 116, 117, 118, 119, 120, 121, 122, 48, 49, 50, 51, 52, 53, 54, 55, 56, 57]) ↔ nameSign c = true := by
  unfold nameSign
  simp only [List.mem_cons, List.not_mem_nil, or_false, Bool.or_eq_true, Bool.and_eq_true, decide_eq_true_eq]
  omega
theorem sign_in (c : Nat) : decide (c ∈ (("abcdefghijklmnopqrstuvwxyz0123456789" : Str).cps.toList)) = nameSign c := by
  have e : (("abcdefghijklmnopqrstuvwxyz0123456789" : Str).cps.toList) = [97, 98, 99, 100, 101, 102, 103, 104, 105, 106, 107, 108, 109, 110, 111, 112, 113, 114, 115, 116, 117, 118, 119, 120, 121, 122, 48, 49, 50, 51, 52, 53, 54, 55, 56, 57] := by decide +kernel
  rw [e, Bool.eq_iff_iff, decide_eq_true_iff, sign_mem]
end
end MT
/-! what is made, told by what it is and not by how the heap is written -/
namespace MT
open PySem L2
section
variable {X : Cx} {e a : Expr} {es : List Expr} {t : TE} {ta : TA} {pos : Pos}
theorem PE.imp {t' : TE} (h : PE X e t) (i : ∀ σ H Q, t' σ H Q → t σ H Q) : PE X e t' := ⟨fun pins s σ H Q I q => h.run pins s σ H Q I (i σ H Q q)⟩
def clA (t : TA) : TA := fun σ H R => ∃ R', (∀ xs H1, R' xs H1 → R xs H1) ∧ t σ H R'
theorem PA.cl (h : PA X es ta) : PA X es (clA ta) := ⟨fun pos pins s σ H Q I ⟨R', i, q⟩ => thn (h.run pos pins s σ H R' I q) fun us s1 ⟨xs, H1, I1, r1, q1⟩ => ⟨xs, H1, I1, r1, i _ _ q1⟩⟩
/-- a new object o at p -/
def New (H H' : Hp) (p : Addr) (o : HO) : Prop := Same H H' ∧ H' p = some o ∧ H p = none
theorem New.mk' {H : Hp} {p : Addr} {o : HO} (h : H p = none) : New H (upd H p o) p o := ⟨same_new h, upd_same, h⟩
def tLstN (t : TA) : TE := fun σ H Q => t σ H fun xs H1 => xs.length ≤ sizeLine ∧ ∀ p H2, New H1 H2 p (.lst xs) → Q (.ref p) H2
theorem pe_lstN (h : PA X es ta) : PE X (.List es pos) (tLstN ta) := PE.imp (pe_lst (PA.cl h)) fun σ H Q q => ⟨_, fun xs H1 z => ⟨z.1, fun p hp => z.2 p _ (New.mk' hp)⟩, q⟩
def tTupN (t : TA) : TE := fun σ H Q => t σ H fun xs H1 => xs.length ≤ sizeLine ∧ ∀ p H2, New H1 H2 p (.tup xs) → Q (.ref p) H2
theorem pe_tupN {x1} (h : PA X es ta) : PE X (.Tuple es x1 pos) (tTupN ta) := PE.imp (pe_tup (PA.cl h)) fun σ H Q q => ⟨_, fun xs H1 z => ⟨z.1, fun p hp => z.2 p _ (New.mk' hp)⟩, q⟩
theorem sl_listN : SlR X (fun x lo hi H Q => ∃ a xs, x = .ref a ∧ SqL X.K H a xs ∧ ∀ p H2, New H H2 p (.lst (cutV xs lo hi)) → Q (.ref p) H2) := by
  intro pins s σ H x v vl vu lo hi sl Q I rx hs pl pu h
  obtain ⟨a, xs, ex, hx, q⟩ := h
  exact sl_list pins s σ H x v vl vu lo hi sl Q I rx hs pl pu ⟨a, xs, ex, hx, fun p hp => q p _ (New.mk' hp)⟩
theorem call_list_ofN : CallR X (.type "list") (fun xs H Q => ∃ p ys, xs = [.ref p] ∧ (SqL X.K H p ys ∨ SqT X.K H p ys) ∧ ∀ l H2, New H H2 l (.lst ys) → Q (.ref l) H2) := by
  intro pins s σ H xs us Q I r h
  obtain ⟨p, ys, e1, e2, q⟩ := h
  exact call_list_of pins s σ H xs us Q I r ⟨p, ys, e1, e2, fun l hl => q l _ (New.mk' hl)⟩
theorem call_tuple_ofN : CallR X (.type "tuple") (fun xs H Q => ∃ p ys, xs = [.ref p] ∧ ((SqL X.K H p ys ∧ ∀ l H2, New H H2 l (.tup ys) → Q (.ref l) H2) ∨ (SqT X.K H p ys ∧ Q (.ref p) H))) := by
  intro pins s σ H xs us Q I r h
  obtain ⟨p, ys, e1, q⟩ := h
  refine call_tuple_of pins s σ H xs us Q I r ⟨p, ys, e1, ?_⟩
  rcases q with ⟨h1, q⟩ | q
  · exact .inl ⟨h1, fun l hl => q l _ (New.mk' hl)⟩
  · exact .inr q
def clE (t : TE) : TE := fun σ H R => ∃ R', (∀ x H1, R' x H1 → R x H1) ∧ t σ H R'
theorem PE.cl (h : PE X e t) : PE X e (clE t) := ⟨fun pins s σ H Q I ⟨R', i, q⟩ => thn (h.run pins s σ H R' I q) fun u s1 ⟨x, H1, I1, r1, q1⟩ => ⟨x, H1, I1, r1, i _ _ q1⟩⟩
/-- {k: v}, one pair -/
theorem pe_disp1N {k v : Expr} {tk tv : TE} (hk : PE X k tk) (hv : PE X v tv) : PE X (.Dict [some k] [v] pos) (fun σ H Q => ∀ p H0, New H H0 p (.dK []) → tk σ H0 fun x H1 => tv σ H1 fun y H2 =>
    H2 p = some (.dK []) ∧ ∃ key : Key, x = kV key ∧ ∀ H3, (∀ c, c ≠ p → H3 c = H2 c) → H3 p = some (.dK [(key, y)]) → Q (.ref p) H3) := by
  refine PE.imp (pe_disp (pps_cons (PE.cl hk) (PE.cl hv) pps_nil) rfl rfl (fun z => by cases z) (show 1 ≤ 15 by decide)) fun σ H Q q p hp => ?_
  refine ⟨_, fun x H1 z => ⟨_, fun y H2 z2 => ?_, z⟩, q p _ (New.mk' hp)⟩
  obtain ⟨e, key, ex, q2⟩ := z2
  subst ex
  exact ⟨e, [(key, y)], rfl, (show 1 ≤ 15 by decide), q2 _ (fun c hc => upd_ne hc) upd_same⟩
end
section
variable {K : PySem.W.Frag} {M : Addr → Prop} {H H' : Hp}
theorem New.same {H H' : Hp} {p : Addr} {o : HO} (n : New H H' p o) : Same H H' := n.1
theorem New.ne {H H' : Hp} {p a : Addr} {o u : HO} (n : New H H' p o) (h : H a = some u) : p ≠ a := fun e => by
  have := n.2.2
  rw [e, h] at this
  cases this
theorem New.lst {H H' : Hp} {p a : Addr} {xs : List V} {ds : List PyData} {u : HO} (n : New H H' p (.lst xs)) (h : H a = some u) (hx : DvAll K (· = a) H xs ds) : Dv K (· = a) H' (.ref p) (.list ds) :=
  .lst (n.ne h) (SqL.of n.2.1) (hx.same n.1)
theorem New.tup {H H' : Hp} {p a : Addr} {xs : List V} {ds : List PyData} {u : HO} (n : New H H' p (.tup xs)) (h : H a = some u) (hx : DvAll K (· = a) H xs ds) : Dv K (· = a) H' (.ref p) (.tuple ds) :=
  .tup (n.ne h) (SqT.of n.2.1) (hx.same n.1)
theorem Sx.at {a b : Addr} {cs : List Int} {n : Nat} (S : Sx a b cs n H) : ∃ o, H a = some o := by
  obtain ⟨t, r, S, _⟩ := S
  exact ⟨_, S.ha⟩
theorem Sx.new {a b p : Addr} {cs : List Int} {n : Nat} {o : HO} (S : Sx a b cs n H) (e : New H H' p o) : Sx a b cs n H' := S.same e.1
theorem Sx.ne {a b p : Addr} {cs : List Int} {n : Nat} {o : HO} (S : Sx a b cs n H) (e : New H H' p o) : p ≠ a := by
  obtain ⟨u, h⟩ := S.at
  exact e.ne h
theorem Sx.lst {a b p : Addr} {cs : List Int} {n : Nat} {xs : List V} {ds : List PyData} (S : Sx a b cs n H) (e : New H H' p (.lst xs)) (hx : DvAll K (· = a) H xs ds) : Dv K (· = a) H' (.ref p) (.list ds) := by
  obtain ⟨u, h⟩ := S.at
  exact e.lst h hx
theorem Sx.tup {a b p : Addr} {cs : List Int} {n : Nat} {xs : List V} {ds : List PyData} (S : Sx a b cs n H) (e : New H H' p (.tup xs)) (hx : DvAll K (· = a) H xs ds) : Dv K (· = a) H' (.ref p) (.tuple ds) := by
  obtain ⟨u, h⟩ := S.at
  exact e.tup h hx
theorem New.filled {H H0 H2 H3 : Hp} {p : Addr} {o : HO} (n : New H H0 p o) (s : Same H0 H2) (h : ∀ c, c ≠ p → H3 c = H2 c) : Same H H3 := fun c u e => by
  rw [h c (fun z => n.ne e z.symm)]
  exact s _ _ (n.1 _ _ e)
theorem sIx_nat' (n d k : Nat) : HT.sIx n d (some (k : Int)) = min k n := HT.sIx_nat n d k
theorem cutN (xs : List V) (k : Nat) : cutV xs none (some (k : Int)) = xs.take k := by
  unfold cutV
  rw [HT.sIx_none, HT.sIx_nat, List.drop_zero, Nat.sub_zero]
  by_cases h : k ≤ xs.length
  · rw [Nat.min_eq_left h]
  · rw [Nat.min_eq_right (by omega), List.take_of_length_le (Nat.le_refl _), List.take_of_length_le (by omega)]
theorem atI_some {xs : List V} {d : Int} (h0 : 0 ≤ d) (h1 : d < (xs.length : Int)) : ∃ x, x ∈ xs ∧ atI xs d = some x := by
  obtain ⟨j, rfl⟩ : ∃ j : Nat, d = j := ⟨_, (Int.toNat_of_nonneg h0).symm⟩
  have hj : j < xs.length := by omega
  exact ⟨xs[j], List.getElem_mem hj, atI_nat (List.getElem?_eq_getElem hj)⟩
theorem take_next {α : Type} {xs : List α} {i : Nat} {x : α} (h : xs[i]? = some x) : xs.take (i + 1) = xs.take i ++ [x] := by
  rw [List.take_add_one, h]
  rfl
/-- few items, whatever it is -/
def fewD (d : PyData) : Prop := ∀ ds, seqD d = some ds → ds.length ≤ 10000000
theorem fewD_of {d : PyData} (h : match seqD d with | none => true | some ds => decide (ds.length ≤ 10000000)) : fewD d := fun ds e => by
  rw [e] at h
  exact of_decide_eq_true h
/-- the promises of what a law draws: the script's first n, a value of any kind -/
def spStart (K : PySem.W.Frag) : Sp := fun vs H Q _ => ∃ (a : Addr) (ns : List Int), vs = [.ref a] ∧ SqL K H a (ns.map V.int) ∧ ns.length ≤ 63 ∧ ∀ p b cs H', Same H H' → Sx p b cs 0 H' → H p = none → Q (.ref p) H'
def spValue (K : PySem.W.Frag) (c : Nat) : Sp := fun vs H Q _ => ∃ (a b : Addr) (cs : List Int) (n : Nat), vs = [.ref a] ∧ Sx a b cs n H ∧ n ≤ 900000 ∧ ∀ H' v d, Frm (· = a) H H' → Sx a b cs (n + c) H' → Dv K (· = a) H' v d → fewD d → Q v H'
theorem Sx.neD {a b D : Addr} {cs : List Int} {n : Nat} (S : Sx a b cs n H) (hD : H D = none) : D ≠ a := fun e => by
  obtain ⟨o, h⟩ := S.at
  rw [← e, hD] at h
  cases h
/-- a written list: at an address of its own the state of what draws stays -/
theorem Sx.put {a b p : Addr} {cs : List Int} {n : Nat} {xs ys : List V} (S : Sx a b cs n H) (h : p ≠ a) (hb : p ≠ b) : Sx a b cs n (upd H p (.lst ys)) := by
  obtain ⟨t, r, S, ht⟩ := S
  exact ⟨t, r, ⟨by rw [upd_ne h.symm]; exact S.ha, by rw [upd_ne hb.symm]; exact S.hb, S.ht, S.hr⟩, ht⟩
theorem Sx.atb {a b : Addr} {cs : List Int} {n : Nat} (S : Sx a b cs n H) : ∃ o, H b = some o := by
  obtain ⟨t, r, S, _⟩ := S
  exact ⟨_, S.hb⟩
def tame (e : PyData) : Bool := e.canLay0 && decide (e.depth ≤ 5)
theorem tame_seq : ∀ {ds : List PyData}, ds.all tame = true → PyData.canLayAll0 ds = true ∧ PyData.depthAll ds ≤ 5
  | [], _ => ⟨by simp [PyData.canLayAll0], by simp [PyData.depthAll]⟩
  | d :: ds, h => by
    rw [List.all_cons, Bool.and_eq_true] at h
    obtain ⟨h1, h2⟩ := tame_seq h.2
    unfold tame at h
    simp only [Bool.and_eq_true, decide_eq_true_eq] at h
    exact ⟨by simp only [PyData.canLayAll0, h.1.1, h1, Bool.and_self], by simp only [PyData.depthAll]; omega⟩
theorem shaped_list {ds : List PyData} (h : ds.all tame = true) : SeqAt.shaped (.list ds) = true := by
  obtain ⟨h1, h2⟩ := tame_seq h
  unfold SeqAt.shaped
  rw [Bool.and_eq_true]
  exact ⟨by simp only [PyData.canLay0, h1], decide_eq_true (by simp only [PyData.depth]; omega)⟩
theorem shaped_tup {ds : List PyData} (h : ds.all tame = true) : SeqAt.shaped (.tuple ds) = true := by
  obtain ⟨h1, h2⟩ := tame_seq h
  unfold SeqAt.shaped
  rw [Bool.and_eq_true]
  exact ⟨by simp only [PyData.canLay0, h1], decide_eq_true (by simp only [PyData.depth]; omega)⟩
theorem all_set {α : Type} {p : α → Bool} {x : α} (hx : p x = true) : ∀ {l : List α} (i : Nat), l.all p = true → (l.set i x).all p = true
  | [], _, h => h
  | y :: r, 0, h => by
    rw [List.all_cons, Bool.and_eq_true] at h
    rw [List.set_cons_zero, List.all_cons, hx, h.2]
    rfl
  | y :: r, i + 1, h => by
    rw [List.all_cons, Bool.and_eq_true] at h
    rw [List.set_cons_succ, List.all_cons, h.1, all_set hx i h.2]
    rfl
theorem tame_ints (ns : List Int) : (ns.map PyData.int).all tame = true := by
  rw [List.all_map, List.all_eq_true]
  intro n _
  rfl
theorem ixN_ok {n : Nat} {i : Int} (h0 : 0 ≤ i) (h1 : i < n) : ixN n i = some i.toNat := by
  unfold ixN
  rw [if_pos h0, if_pos h1]
def spRow (K : PySem.W.Frag) : Sp := fun vs H Q _ => ∃ (a b : Addr) (cs : List Int) (n : Nat) (m : Int), vs = [.ref a, .int m] ∧ Sx a b cs n H ∧ n ≤ 900000 ∧ 0 ≤ m ∧ m < 2 ^ 60 ∧
  ∀ H' v d ds, Frm (· = a) H H' → Sx a b cs (n + 8) H' → Dv K (· = a) H' v d → seqD d = some ds → ds.length ≤ 4 → ds.all tame = true → Q v H'
def spLaw (K : PySem.W.Frag) : Sp := fun vs H Q _ => ∃ (a : Addr) (ns : List Int), vs = [.ref a] ∧ SqL K H a (ns.map V.int) ∧ ns.length ≤ 63 ∧ ∀ H', Q (.bl true) H'
end
end MT
/-! what is kept of a list; lists of numbers that are equal, that rise -/
namespace MT
open PySem L2
section
variable {K : PySem.W.Frag} {M : Addr → Prop} {H H' : Hp}
theorem take_filter_next {α : Type} {p : α → Bool} {xs : List α} {i : Nat} {x : α} (h : xs[i]? = some x) : (xs.take (i + 1)).filter p = (xs.take i).filter p ++ (if p x then [x] else []) := by
  rw [take_next h, List.filter_append]
  by_cases e : p x = true
  · rw [if_pos e, List.filter_cons_of_pos e]; rfl
  · rw [if_neg e, List.filter_cons_of_neg e]; rfl
theorem lc_keep {a : Addr} {xs : List V} {ds : List PyData} {J : It} {g : TG} {tt : TT} {te : TE} {vs : List Nat} {σ : St} {H1 : Hp} {D : Addr} {Qd : Hp → Prop} (p : PyData → Bool)
    (hD : H1 D = none) (hJ : SeqIt K a xs H1 J) (hda : DvAll K M H1 xs ds) (hlen : xs.length ≤ 10000000)
    (hs : ∀ x d H, d ∈ ds → Dv K M H x d → Same H1 H → ∀ (Ky : VK) (Kn : Hp → Prop), (p d = true → ∀ H', Same H H' → Ky x H') → (p d = false → ∀ H', Same H H' → Kn H') → LcStep g tt te vs σ x H Ky Kn)
    (hd : ∀ H ys, Same H1 H → H D = some (.lst ys) → DvAll K M H ys (ds.filter p) → Qd H) : LcW J g tt te vs σ H1 D Qd := by
  refine lcg_seq (fun _ => False) (fun _ _ => True) (fun i acc H => DvAll K M H1 acc ((ds.take i).filter p)) hD hJ (fun z => z) hlen (fun _ _ _ _ z => z) (fun _ _ _ _ _ z => z) trivial .nil ?_ ?_
  · intro i x acc H hx F hDa _ hA Ky Kn ky kn
    obtain ⟨d, hd1, hd2⟩ := hda.get hx
    have F2 := same_frm F
    have e := take_filter_next (p := p) hd1
    refine hs x d H (List.mem_of_getElem? hd1) (hd2.same F2) F2 _ _ (fun hp H' F' => ?_) (fun hp H' F' => ?_)
    · refine ky _ H' (F.trans (frm_same F')) (F' _ _ hDa) trivial ?_
      rw [e, if_pos hp]
      exact hA.append (.cons hd2 .nil)
    · refine kn H' (F.trans (frm_same F')) (F' _ _ hDa) trivial ?_
      rw [e, if_neg (by rw [hp]; exact Bool.false_ne_true), List.append_nil]
      exact hA
  · intro H acc F hDa _ hA _
    rw [List.take_of_length_le (by rw [hda.length]; exact Nat.le_refl _)] at hA
    exact hd H acc (same_frm F) hDa (hA.same (same_frm F))
theorem DvAll.dpAll {vs : List V} {ds : List PyData} (h : DvAll K M H vs ds) (t : ds.all tame = true) : DpAll K H vs ds := DvAll.dp ds vs h (tame_seq t).1
theorem all_filter {α : Type} {p q : α → Bool} {l : List α} (h : l.all p = true) : (l.filter q).all p = true := by
  rw [List.all_eq_true] at h ⊢
  exact fun x hx => h x (List.mem_filter.mp hx).1
theorem eq_nil {p l : Addr} {ys : List V} {ds : List PyData} {Q : VK} (hp : SqL K H p ys) (hd : DvAll K M H ys ds) (t : ds.all tame = true) (hl : SqL K H l []) (q : Q (.bl ds.isEmpty) H) : rEqD K (.ref p) (.ref l) H Q :=
  ⟨.list ds, .list [], .lst hp (hd.dpAll t), .lst hl .nil, shaped_list t, shaped_ints [], by cases ds <;> exact q⟩
theorem eq_nil' {p l : Addr} {ys : List V} {ds : List PyData} {Q : VK} {b : Bool} (hp : SqL K H p ys) (hd : DvAll K M H ys ds) (t : ds.all tame = true) (hl : SqL K H l []) (e : ds.isEmpty = b) (q : Q (.bl b) H) : rEqD K (.ref p) (.ref l) H Q :=
  eq_nil hp hd t hl (e ▸ q)
theorem cr_sortedIN {X : Cx} : CallR X (.builtin "sorted") (fun vs H Q => ∃ (a : Addr) (ns : List Int), vs = [V.ref a] ∧ SqL X.K H a (ns.map V.int) ∧ ∀ (ns' : List Int) (p : Addr) (H2 : Hp), ns'.Perm ns → New H H2 p (.lst (ns'.map V.int)) → Q (.ref p) H2) := by
  intro pins s σ H xs us Q I r h
  obtain ⟨a, ns, e, hs, q⟩ := h
  exact cr_sortedI pins s σ H xs us Q I r ⟨a, ns, e, hs, fun ns' p hp _ hn => q ns' p _ hp (New.mk' hn)⟩
theorem op_in_seqK {X : Cx} (e : X.K = K) : OpR X (compareOp .In) (rIn K false) := e ▸ op_in_seq
theorem iteNE {a b : Bool} {A B : Prop} (e : a = b) (h : B) : if (!decide (V.str (boolText a) = V.str (boolText b))) = true then A else B := iteNS (by rw [e]) h
theorem eqv_ints : ∀ ns ms : List Int, PyData.eqvAll (ns.map PyData.int) (ms.map PyData.int) = decide (ns = ms)
  | [], [] => by simp [PyData.eqvAll]
  | [], _ :: _ => by simp [PyData.eqvAll]
  | _ :: _, [] => by simp [PyData.eqvAll]
  | n :: ns, m :: ms => by
    have ih := eqv_ints ns ms
    simp only [List.map_cons, PyData.eqvAll, PyData.eqv, ih, List.cons.injEq]
    by_cases e : n = m
    · simp [e]
    · simp [e]
theorem eq_ints {p l : Addr} {ns ms : List Int} {Q : VK} (hp : SqL K H p (ns.map V.int)) (hl : SqL K H l (ms.map V.int)) (q : Q (.bl (decide (ns = ms))) H) : rEqD K (.ref p) (.ref l) H Q :=
  ⟨.list (ns.map .int), .list (ms.map .int), .lst hp (dp_ints ns), .lst hl (dp_ints ms), shaped_ints ns, shaped_ints ms, by
    have e : PyData.eqv (.list (ns.map .int)) (.list (ms.map .int)) = decide (ns = ms) := by simp only [PyData.eqv, eqv_ints]
    exact e ▸ q⟩
theorem inV_ints (z : Int) (ns : List Int) : inV (.int z) (ns.map V.int) = decide (z ∈ ns) := by
  unfold inV
  rw [List.any_map, Bool.eq_iff_iff, List.any_eq_true, decide_eq_true_iff]
  constructor
  · rintro ⟨x, hx, e⟩
    have e2 : (x == z) = true := by simpa [eqV] using e
    rw [← beq_iff_eq.mp e2]
    exact hx
  · intro h
    exact ⟨z, h, by simp [eqV]⟩
theorem flat_ints (ns : List Int) : (ns.map V.int).all flatV = true := by
  rw [List.all_map, List.all_eq_true]
  intro n _
  rfl
/-! ### the facts of lots -/
def upto (k : Nat) : List Int := (List.range k).map fun i => ((i : Nat) : Int)
theorem rises_iff : ∀ ns : List Int, risesD (ns.map PyData.int) = true ↔ ns.Pairwise (· < ·)
  | [] => by simp [risesD]
  | [x] => by simp [risesD]
  | x :: y :: r => by
    have ih := rises_iff (y :: r)
    show (decide (x < y) && risesD ((y :: r).map PyData.int)) = true ↔ _
    rw [Bool.and_eq_true, ih, decide_eq_true_iff, List.pairwise_cons (a := x)]
    constructor
    · rintro ⟨h1, h2⟩
      refine ⟨fun z hz => ?_, h2⟩
      rcases List.mem_cons.mp hz with e | hz
      · rw [e]; exact h1
      · exact Int.lt_trans h1 ((List.pairwise_cons.mp h2).1 z hz)
    · rintro ⟨h1, h2⟩
      exact ⟨h1 y (List.mem_cons_self ..), h2⟩
theorem asc_ext : ∀ {l m : List Int}, l.Pairwise (· < ·) → m.Pairwise (· < ·) → (∀ x, x ∈ l ↔ x ∈ m) → l = m
  | [], [], _, _, _ => rfl
  | [], y :: m, _, _, h => absurd ((h y).mpr (List.mem_cons_self ..)) (by simp)
  | x :: l, [], _, _, h => absurd ((h x).mp (List.mem_cons_self ..)) (by simp)
  | x :: l, y :: m, p, q, h => by
    have hp := List.pairwise_cons.mp p
    have hq := List.pairwise_cons.mp q
    have e : x = y := by
      rcases List.mem_cons.mp ((h x).mp (List.mem_cons_self ..)) with e | hx
      · exact e
      · rcases List.mem_cons.mp ((h y).mpr (List.mem_cons_self ..)) with e | hy
        · exact e.symm
        · have h1 := hq.1 x hx
          have h2 := hp.1 y hy
          omega
    subst e
    have t : l = m := asc_ext hp.2 hq.2 fun z => by
      constructor
      · intro hz
        rcases List.mem_cons.mp ((h z).mp (List.mem_cons_of_mem _ hz)) with e | h1
        · have := hp.1 z hz
          omega
        · exact h1
      · intro hz
        rcases List.mem_cons.mp ((h z).mpr (List.mem_cons_of_mem _ hz)) with e | h1
        · have := hq.1 z hz
          omega
        · exact h1
    rw [t]
theorem upto_asc (k : Nat) : (upto k).Pairwise (· < ·) := by
  unfold upto
  rw [List.pairwise_map]
  exact List.pairwise_lt_range.imp fun h => Int.ofNat_lt.mpr h
theorem mem_upto {k : Nat} {x : Int} : x ∈ upto k ↔ 0 ≤ x ∧ x < k := by
  unfold upto
  rw [List.mem_map]
  constructor
  · rintro ⟨i, hi, rfl⟩
    have := List.mem_range.mp hi
    omega
  · rintro ⟨h0, h1⟩
    exact ⟨x.toNat, List.mem_range.mpr (by omega), by omega⟩
/-- a lot is what is picked of all numbers below k, in order -/
theorem lot_iff (ns : List Int) (k : Nat) : decide (ns = (upto k).filter fun x => decide (x ∈ ns)) = ((ns.map PyData.int).all (fun x => withinD x (some 0) (some ((k : Int) - 1))) && risesD (ns.map PyData.int)) := by
  rw [Bool.eq_iff_iff, decide_eq_true_iff, Bool.and_eq_true, rises_iff, List.all_map, List.all_eq_true]
  have hw : (∀ x ∈ ns, ((fun x => withinD x (some 0) (some ((k : Int) - 1))) ∘ PyData.int) x = true) ↔ ∀ x ∈ ns, 0 ≤ x ∧ x < k := by
    constructor
    · intro h x hx
      have q : (decide (0 ≤ x) && decide (x ≤ (k : Int) - 1)) = true := h x hx
      simp only [Bool.and_eq_true, decide_eq_true_eq] at q
      omega
    · intro h x hx
      have q := h x hx
      show (decide (0 ≤ x) && decide (x ≤ (k : Int) - 1)) = true
      simp only [Bool.and_eq_true, decide_eq_true_eq]
      omega
  rw [hw]
  constructor
  · intro e
    refine ⟨fun x hx => ?_, ?_⟩
    · rw [e] at hx
      exact mem_upto.mp (List.mem_filter.mp hx).1
    · rw [e]
      exact (upto_asc k).filter _
  · rintro ⟨h1, h2⟩
    refine asc_ext h2 ((upto_asc k).filter _) fun x => ?_
    rw [List.mem_filter, decide_eq_true_iff]
    exact ⟨fun hx => ⟨mem_upto.mpr (h1 x hx), hx⟩, fun h => h.2⟩
theorem filter_none {α : Type} (p : α → Bool) (l : List α) : (l.filter fun x => !p x).isEmpty = l.all p := by
  induction l with
  | nil => rfl
  | cons x r ih =>
    rw [List.all_cons, ← ih]
    cases e : p x with
    | true => rw [List.filter_cons_of_neg (by rw [e]; exact Bool.false_ne_true)]; rfl
    | false => rw [List.filter_cons_of_pos (by rw [e]; rfl)]; rfl
theorem len_eq {n : Nat} {m : Int} : decide (V.int (n : Int) = V.int m) = decide ((n : Int) = m) := by
  rw [Bool.eq_iff_iff, decide_eq_true_iff, decide_eq_true_iff]
  exact ⟨fun e => V.int.inj e, fun e => by rw [e]⟩
def spTrue (c : Nat) : Sp := fun vs H Q _ => ∃ (a b : Addr) (cs : List Int) (n : Nat), vs = [.ref a] ∧ Sx a b cs n H ∧ n ≤ 800000 ∧ ∀ H', Frm (· = a) H H' → Sx a b cs (n + c) H' → Q (.bl true) H'
end
end MT
/-! texts -/
namespace MT
open PySem L2 TL
section
variable {K : PySem.W.Frag} {M : Addr → Prop} {H H' : Hp}
theorem tl_sign (c : Nat) : tl (⟨#[c]⟩ : Str) = [c] := rfl
theorem joinL_ones : ∀ l : List Nat, joinL [] (l.map fun c => [c]) = l
  | [] => rfl
  | [c] => rfl
  | c :: d :: r => by
    have ih := joinL_ones (d :: r)
    show [c] ++ ([] ++ joinL [] ((d :: r).map fun c => [c])) = c :: d :: r
    rw [ih]
    rfl
theorem tl_join_signs (l : List Nat) : tl (Txt.join "" (l.map fun c => (⟨#[c]⟩ : Str))) = l := by
  rw [join_eq, tl_join, List.map_map]
  have e : tl ("" : Str) = [] := by decide +kernel
  rw [e]
  exact joinL_ones l
theorem sum_ones (l : List Nat) : ((l.map fun c => (⟨#[c]⟩ : Str)).map (·.length)).sum = l.length := by
  induction l with
  | nil => rfl
  | cons c r ih =>
    rw [List.map_cons, List.map_cons, List.sum_cons, ih, List.length_cons]
    show 1 + r.length = _
    omega
theorem tl_cut_lo {z : Str} {i : Int} (h0 : 0 ≤ i) : tl (cutS z none (some i)) = (tl z).take i.toNat := by
  obtain ⟨j, rfl⟩ : ∃ j : Nat, i = j := ⟨_, (Int.toNat_of_nonneg h0).symm⟩
  show (((tl z).drop (HT.sIx z.length 0 none)).take (HT.sIx z.length z.length (some (j : Int)) - HT.sIx z.length 0 none)) = _
  rw [HT.sIx_none, HT.sIx_nat, List.drop_zero, Nat.sub_zero, len_tl, Int.toNat_natCast]
  by_cases h : j ≤ (tl z).length
  · rw [Nat.min_eq_left h]
  · rw [Nat.min_eq_right (by omega), List.take_of_length_le (Nat.le_refl _), List.take_of_length_le (by omega)]
theorem tl_cut_hi {z : Str} {i : Int} (h0 : 0 ≤ i) : tl (cutS z (some i) none) = (tl z).drop i.toNat := by
  obtain ⟨j, rfl⟩ : ∃ j : Nat, i = j := ⟨_, (Int.toNat_of_nonneg h0).symm⟩
  show (((tl z).drop (HT.sIx z.length 0 (some (j : Int)))).take (HT.sIx z.length z.length none - HT.sIx z.length 0 (some (j : Int)))) = _
  rw [HT.sIx_none, HT.sIx_nat, len_tl, Int.toNat_natCast]
  by_cases h : j ≤ (tl z).length
  · rw [Nat.min_eq_left h, List.take_of_length_le]
    rw [List.length_drop]
    exact Nat.le_refl _
  · rw [Nat.min_eq_right (by omega), List.drop_of_length_le (Nat.le_refl _), List.drop_of_length_le (by omega)]
    exact List.take_nil
theorem signs_lt {z : Str} (h : (tl z).all nameSign = true) : ∀ c ∈ tl z, c < 1114112 := fun c hc => by
  have q := List.all_eq_true.mp h c hc
  unfold nameSign at q
  simp only [Bool.or_eq_true, Bool.and_eq_true, decide_eq_true_eq] at q
  omega
theorem strOk_of {z : Str} (h : ∀ c ∈ tl z, c < 1114112) : PyData.strOk z = true := by
  unfold PyData.strOk
  rw [← Array.all_toList, List.all_eq_true]
  exact fun c hc => decide_eq_true (h c hc)
theorem strOk_signs {z : Str} (h : (tl z).all nameSign = true) : PyData.strOk z = true := by
  unfold PyData.strOk
  rw [← Array.all_toList, List.all_eq_true]
  intro c hc
  have q := List.all_eq_true.mp h c hc
  unfold nameSign at q
  simp only [Bool.or_eq_true, Bool.and_eq_true, decide_eq_true_eq] at q
  exact decide_eq_true (by omega)
theorem eq_data {v u : V} {d e : PyData} {b : Bool} {Q : VK} (hv : Dv K M H v d) (hu : Dv K M H u e) (td : tame d = true) (te : tame e = true) (eb : PyData.eqv d e = b) (q : Q (.bl b) H) : rEqD K v u H Q := by
  have h : ∀ d : PyData, tame d = true → SeqAt.shaped d = true ∧ d.canLay0 = true := fun d h => by
    unfold tame at h
    simp only [Bool.and_eq_true, decide_eq_true_eq] at h
    exact ⟨by unfold SeqAt.shaped; rw [Bool.and_eq_true]; exact ⟨h.1, decide_eq_true (by omega)⟩, h.1⟩
  exact ⟨d, e, Dv.dp d v hv (h d td).2, Dv.dp e u hu (h e te).2, (h d td).1, (h e te).1, eb ▸ q⟩
theorem nameD_bad {z : Str} {c : Nat} (h : c ∈ tl z) (hc : nameSign c = false) : nameD (.str z) = false := by
  show (_ && _ && _) = false
  have e : z.cps.toList.all nameSign = false := by
    cases q : z.cps.toList.all nameSign with
    | false => rfl
    | true => rw [List.all_eq_true.mp q c h] at hc; cases hc
  rw [e, Bool.and_false]
theorem nameD_good {z : Str} (h : (tl z).all nameSign = true) : nameD (.str z) = (decide (1 ≤ z.length) && decide (z.length ≤ 12)) := by
  show (_ && _ && z.cps.toList.all nameSign) = _
  have e : z.cps.toList.all nameSign = true := h
  rw [e, Bool.and_true]
theorem letter_at {d : Int} (h0 : 0 ≤ d) (h1 : d < 36) : ∃ c, nameSign c = true ∧ atI (("abcdefghijklmnopqrstuvwxyz0123456789" : Str).cps.toList) d = some c := by
  have e : (("abcdefghijklmnopqrstuvwxyz0123456789" : Str).cps.toList) = [97, 98, 99, 100, 101, 102, 103, 104, 105, 106, 107, 108, 109, 110, 111, 112, 113, 114, 115, 116, 117, 118, 119, 120, 121, 122, 48, 49, 50, 51, 52, 53, 54, 55, 56, 57] := by decide +kernel
  obtain ⟨j, rfl⟩ : ∃ j : Nat, d = j := ⟨_, (Int.toNat_of_nonneg h0).symm⟩
  rw [e]
  have hj : j < ([97, 98, 99, 100, 101, 102, 103, 104, 105, 106, 107, 108, 109, 110, 111, 112, 113, 114, 115, 116, 117, 118, 119, 120, 121, 122, 48, 49, 50, 51, 52, 53, 54, 55, 56, 57] : List Nat).length := by
    show j < 36
    omega
  exact ⟨_, (sign_mem _).mp (List.getElem_mem hj), atI_nat (List.getElem?_eq_getElem hj)⟩
end
end MT
set_option maxHeartbeats 4000000
namespace K01
open PySem L2 MT RZ


local macro_rules | `(tactic| walk_at "sm") => `(tactic| first | exact Same.refl _ | assumption | exact New.same (by assumption) | exact Same.trans (by assumption) (by walk_at "sm") | exact Same.trans (New.same (by assumption)) (by walk_at "sm"))
local macro_rules | `(tactic| walk_at "fr") => `(tactic| first | exact Frm.refl | assumption | exact frm_same (New.same (by assumption)) | exact frm_same (by assumption) | exact Frm.trans (by assumption) (by walk_at "fr") | exact Frm.trans (frm_same (New.same (by assumption))) (by walk_at "fr") | exact Frm.trans (frm_same (by assumption)) (by walk_at "fr"))
local macro_rules | `(tactic| walk_at "dv") => `(tactic| first | exact Dv.int _ | exact Dv.bl _ | exact Dv.non | exact Dv.str _ | assumption | exact Dv.same (by assumption) (by walk_at "sm") | exact Dv.mono (by assumption) (by walk_at "fr"))
local macro_rules | `(tactic| walk_at "dvs") => `(tactic| first | exact DvAll.nil | exact DvAll.ints _ | (refine DvAll.cons ?_ ?_; walk_at "dv"; walk_at "dvs"))

def top (i : Nat) : Stmt := PySem.Challenge.pw_meettrees_k01_plain_values_told.main.body.getD i (.Pass ⟨0, 0, 0, 0⟩)
abbrev s_is_list : Stmt := top 3
abbrev sl_is_list : List Str := ["value"]
theorem sc_is_list : FnScope sl_is_list ["value"] (defScope s_is_list) := ⟨rfl, rfl, rfl, by decide +kernel, rfl, by decide +kernel, by decide +kernel⟩
abbrev s_is_integer : Stmt := top 4
abbrev sl_is_integer : List Str := ["value"]
theorem sc_is_integer : FnScope sl_is_integer ["value"] (defScope s_is_integer) := ⟨rfl, rfl, rfl, by decide +kernel, rfl, by decide +kernel, by decide +kernel⟩
abbrev s_is_within : Stmt := top 5
abbrev sl_is_within : List Str := ["value", "least", "most"]
theorem sc_is_within : FnScope sl_is_within ["value", "least", "most"] (defScope s_is_within) := ⟨rfl, rfl, rfl, by decide +kernel, rfl, by decide +kernel, by decide +kernel⟩
abbrev s_are_integers : Stmt := top 6
abbrev sl_are_integers : List Str := ["value", "part"]
theorem sc_are_integers : FnScope sl_are_integers ["value"] (defScope s_are_integers) := ⟨rfl, rfl, rfl, by decide +kernel, rfl, by decide +kernel, by decide +kernel⟩
abbrev s_is_numbers : Stmt := top 7
abbrev sl_is_numbers : List Str := ["value", "many", "most", "part"]
theorem sc_is_numbers : FnScope sl_is_numbers ["value", "many", "most"] (defScope s_is_numbers) := ⟨rfl, rfl, rfl, by decide +kernel, rfl, by decide +kernel, by decide +kernel⟩
abbrev s_is_lot : Stmt := top 8
abbrev sl_is_lot : List Str := ["value", "many", "one", "other"]
theorem sc_is_lot : FnScope sl_is_lot ["value", "many"] (defScope s_is_lot) := ⟨rfl, rfl, rfl, by decide +kernel, rfl, by decide +kernel, by decide +kernel⟩
abbrev s_is_name : Stmt := top 9
abbrev sl_is_name : List Str := ["value", "sign"]
theorem sc_is_name : FnScope sl_is_name ["value"] (defScope s_is_name) := ⟨rfl, rfl, rfl, by decide +kernel, rfl, by decide +kernel, by decide +kernel⟩
abbrev s__law_satchel : Stmt := top 11
abbrev sl__law_satchel : List Str := ["script", "cell"]
theorem sc__law_satchel : FnScope sl__law_satchel ["script"] (defScope s__law_satchel) := ⟨rfl, rfl, rfl, by decide +kernel, rfl, by decide +kernel, by decide +kernel⟩
abbrev s__law_reach : Stmt := top 12
abbrev sl__law_reach : List Str := ["satchel", "many", "rest", "turn", "cell", "mixed"]
theorem sc__law_reach : FnScope sl__law_reach ["satchel", "many"] (defScope s__law_reach) := ⟨rfl, rfl, rfl, by decide +kernel, rfl, by decide +kernel, by decide +kernel⟩
abbrev s__law_gather : Stmt := top 13
abbrev sl__law_gather : List Str := ["satchel", "some"]
theorem sc__law_gather : FnScope sl__law_gather ["satchel", "some"] (defScope s__law_gather) := ⟨rfl, rfl, rfl, by decide +kernel, rfl, by decide +kernel, by decide +kernel⟩
abbrev s__law_value : Stmt := top 14
abbrev sl__law_value : List Str := ["satchel", "number", "some"]
theorem sc__law_value : FnScope sl__law_value ["satchel"] (defScope s__law_value) := ⟨rfl, rfl, rfl, by decide +kernel, rfl, by decide +kernel, by decide +kernel⟩
abbrev s__law_own_integer : Stmt := top 15
abbrev sl__law_own_integer : List Str := ["value"]
theorem sc__law_own_integer : FnScope sl__law_own_integer ["value"] (defScope s__law_own_integer) := ⟨rfl, rfl, rfl, by decide +kernel, rfl, by decide +kernel, by decide +kernel⟩
abbrev s__law_row : Stmt := top 16
abbrev sl__law_row : List Str := ["satchel", "most", "row", "at", "way", "turn"]
theorem sc__law_row : FnScope sl__law_row ["satchel", "most"] (defScope s__law_row) := ⟨rfl, rfl, rfl, by decide +kernel, rfl, by decide +kernel, by decide +kernel⟩
abbrev s__law_rows_right : Stmt := top 17
abbrev sl__law_rows_right : List Str := ["satchel", "most", "many", "row", "wholly", "fits", "some", "lot", "odd", "each", "turn", "at"]
theorem sc__law_rows_right : FnScope sl__law_rows_right ["satchel"] (defScope s__law_rows_right) := ⟨rfl, rfl, rfl, by decide +kernel, rfl, by decide +kernel, by decide +kernel⟩
abbrev s__law_names_right : Stmt := top 18
abbrev sl__law_names_right : List Str := ["satchel", "letters", "name", "at", "odd", "due", "value", "turn"]
theorem sc__law_names_right : FnScope sl__law_names_right ["satchel"] (defScope s__law_names_right) := ⟨rfl, rfl, rfl, by decide +kernel, rfl, by decide +kernel, by decide +kernel⟩
abbrev s_law : Stmt := top 19
abbrev sl_law : List Str := ["script", "satchel", "turn", "value", "low", "high", "number", "least", "most", "due"]
theorem sc_law : FnScope sl_law ["script"] (defScope s_law) := ⟨rfl, rfl, rfl, by decide +kernel, rfl, by decide +kernel, by decide +kernel⟩
def g_is_lot_many_value {α : Type} : List α → List α → List α
  | [], [w0, w1] => [w1, w0]
  | _, _ => []
def g_are_integers_value {α : Type} : List α → List α → List α
  | [], [w0] => [w0]
  | _, _ => []
def g_is_numbers_most_many_value {α : Type} : List α → List α → List α
  | [], [w0, w1, w2] => [w2, w1, w0]
  | _, _ => []
def g_is_name_value {α : Type} : List α → List α → List α
  | [], [w0] => [w0]
  | _, _ => []
def g_is_integer_value {α : Type} : List α → List α → List α
  | [], [w0] => [w0]
  | _, _ => []
def g_is_within_most_least_value {α : Type} : List α → List α → List α
  | [], [w0, w1, w2] => [w2, w1, w0]
  | _, _ => []
structure Txt (K : PySem.W.Frag) (mg : Str → Option Value) (fa : Nat → Addr) (fd : Nat → FuncData) : Prop where
  F_is_list : Fun K "is_list" "is_list" s_is_list (fa 3) (fd 3)
  g_is_list : mg "is_list" = some (.ref (fa 3))
  b_is_list : Binds K (fd 3) ["value"] []
  F_is_integer : Fun K "is_integer" "is_integer" s_is_integer (fa 4) (fd 4)
  g_is_integer : mg "is_integer" = some (.ref (fa 4))
  b_is_integer : Binds K (fd 4) ["value"] []
  F_is_within : Fun K "is_within" "is_within" s_is_within (fa 5) (fd 5)
  g_is_within : mg "is_within" = some (.ref (fa 5))
  b_is_within : Binds K (fd 5) ["value", "least", "most"] []
  F_are_integers : Fun K "are_integers" "are_integers" s_are_integers (fa 6) (fd 6)
  g_are_integers : mg "are_integers" = some (.ref (fa 6))
  b_are_integers : Binds K (fd 6) ["value"] []
  F_is_numbers : Fun K "is_numbers" "is_numbers" s_is_numbers (fa 7) (fd 7)
  g_is_numbers : mg "is_numbers" = some (.ref (fa 7))
  b_is_numbers : Binds K (fd 7) ["value", "many", "most"] []
  F_is_lot : Fun K "is_lot" "is_lot" s_is_lot (fa 8) (fd 8)
  g_is_lot : mg "is_lot" = some (.ref (fa 8))
  b_is_lot : Binds K (fd 8) ["value", "many"] []
  F_is_name : Fun K "is_name" "is_name" s_is_name (fa 9) (fd 9)
  g_is_name : mg "is_name" = some (.ref (fa 9))
  b_is_name : Binds K (fd 9) ["value"] []
  F__law_satchel : Fun K "_law_satchel" "_law_satchel" s__law_satchel (fa 11) (fd 11)
  g__law_satchel : mg "_law_satchel" = some (.ref (fa 11))
  b__law_satchel : Binds K (fd 11) ["script"] []
  F__law_reach : Fun K "_law_reach" "_law_reach" s__law_reach (fa 12) (fd 12)
  g__law_reach : mg "_law_reach" = some (.ref (fa 12))
  b__law_reach : Binds K (fd 12) ["satchel", "many"] []
  F__law_gather : Fun K "_law_gather" "_law_gather" s__law_gather (fa 13) (fd 13)
  g__law_gather : mg "_law_gather" = some (.ref (fa 13))
  b__law_gather : Binds K (fd 13) ["satchel", "some"] []
  F__law_value : Fun K "_law_value" "_law_value" s__law_value (fa 14) (fd 14)
  g__law_value : mg "_law_value" = some (.ref (fa 14))
  b__law_value : Binds K (fd 14) ["satchel"] []
  F__law_own_integer : Fun K "_law_own_integer" "_law_own_integer" s__law_own_integer (fa 15) (fd 15)
  g__law_own_integer : mg "_law_own_integer" = some (.ref (fa 15))
  b__law_own_integer : Binds K (fd 15) ["value"] []
  F__law_row : Fun K "_law_row" "_law_row" s__law_row (fa 16) (fd 16)
  g__law_row : mg "_law_row" = some (.ref (fa 16))
  b__law_row : Binds K (fd 16) ["satchel", "most"] []
  F__law_rows_right : Fun K "_law_rows_right" "_law_rows_right" s__law_rows_right (fa 17) (fd 17)
  g__law_rows_right : mg "_law_rows_right" = some (.ref (fa 17))
  b__law_rows_right : Binds K (fd 17) ["satchel"] []
  F__law_names_right : Fun K "_law_names_right" "_law_names_right" s__law_names_right (fa 18) (fd 18)
  g__law_names_right : mg "_law_names_right" = some (.ref (fa 18))
  b__law_names_right : Binds K (fd 18) ["satchel"] []
  F_law : Fun K "law" "law" s_law (fa 19) (fd 19)
  g_law : mg "law" = some (.ref (fa 19))
  b_law : Binds K (fd 19) ["script"] []
  kb_is_lot_many_value : KBn K (fd 8) ["value", "many"] 0 ["many", "value"] (fun us ws => g_is_lot_many_value us ws) (fun us ws => g_is_lot_many_value us ws)
  kb_are_integers_value : KBn K (fd 6) ["value"] 0 ["value"] (fun us ws => g_are_integers_value us ws) (fun us ws => g_are_integers_value us ws)
  kb_is_numbers_most_many_value : KBn K (fd 7) ["value", "many", "most"] 0 ["most", "many", "value"] (fun us ws => g_is_numbers_most_many_value us ws) (fun us ws => g_is_numbers_most_many_value us ws)
  kb_is_name_value : KBn K (fd 9) ["value"] 0 ["value"] (fun us ws => g_is_name_value us ws) (fun us ws => g_is_name_value us ws)
  kb_is_integer_value : KBn K (fd 4) ["value"] 0 ["value"] (fun us ws => g_is_integer_value us ws) (fun us ws => g_is_integer_value us ws)
  kb_is_within_most_least_value : KBn K (fd 5) ["value", "least", "most"] 0 ["most", "least", "value"] (fun us ws => g_is_within_most_least_value us ws) (fun us ws => g_is_within_most_least_value us ws)
  n_abs : mg "abs" = none
  n_all : mg "all" = none
  n_bool : mg "bool" = none
  n_int : mg "int" = none
  n_isinstance : mg "isinstance" = none
  n_len : mg "len" = none
  n_list : mg "list" = none
  n_range : mg "range" = none
  n_repr : mg "repr" = none
  n_sorted : mg "sorted" = none
  n_str : mg "str" = none
  n_tuple : mg "tuple" = none
  n_zip : mg "zip" = none
  c_NAME_SIGNS : ∃ u, mg "NAME_SIGNS" = some u ∧ RelV (.str "abcdefghijklmnopqrstuvwxyz0123456789") u
  c_LONGEST_NAME : ∃ u, mg "LONGEST_NAME" = some u ∧ RelV (.int 12) u
theorem ok__law_reach {P : Program} {w : World} {K : PySem.W.Frag} {mg : Str → Option Value} {base : Heap} {fa : Nat → Addr} {fd : Nat → FuncData} (T : Txt K mg fa fd) : FnOk P w K mg base CX0 1 (fa 12) (fd 12) ["satchel", "many"] spDraw := by
  have nd := sc__law_reach.nd
  refine T.F__law_reach.ok sc__law_reach (fun vs H Q E h => ?_) (fun cdv A outer s H vs Q E hr h => ?_)
  · obtain ⟨a, b, cs, n, m, rfl, _⟩ := h; rfl
  · obtain ⟨a, b, cs, n, m, rfl, ⟨t, r, S, htn⟩, hn, hm, hm2, k⟩ := h
    obtain ⟨ha, hb, ht, hr0⟩ := id S
    refine ⟨_, (pss_cons (ps_if (pt_cmpR op_gt (pe_ix ix_list (pv 0) pe_int (fun _ _ => rfl)) pe_int (nomark _))
          (pss_cons (ps_set (i := 2) nd rfl (Or.inl rfl) (pe_callTy call_int1 (by rfl) T.n_int (by decide +kernel) (pa_cons (pe_ix ix_list (pv 0) pe_int (fun _ _ => rfl)) pa_nil)))
        (pss_cons (ps_asg (pe_op op_fdivL (pv 2) (pv 1)) (pg_sub (pv 0) pe_int set_list))
        (pss_one (ps_ret (pe_op op_modL (pe_callTy call_int1 (by rfl) T.n_int (by decide +kernel) (pa_cons (pv 2) pa_nil)) (pv 1))))))
          pss_nil)
        (pss_cons (ps_set (i := 3) nd rfl (Or.inl rfl) (pe_ix ix_list (pv 0) pe_int (fun _ _ => rfl)))
        (pss_cons (ps_asg (pe_op op_add (pv 3) pe_int) (pg_sub (pv 0) pe_int set_list))
        (pss_cons (ps_set (i := 4) nd rfl (Or.inl rfl) (pe_op op_add (pe_op op_mulL pe_int (pv 3)) pe_int))
        (pss_cons (ps_if (pt_cmpR (op_neD hr.units) (pe_ix ix_list (pv 0) pe_int (fun _ _ => rfl)) (pe_lst pa_nil) (nomark _))
          (pss_one (ps_set (i := 4) nd rfl (Or.inl rfl) (pe_ix ix_list (pe_ix ix_list (pv 0) pe_int (fun _ _ => rfl)) (pe_op op_modL (pe_callTy call_int1 (by rfl) T.n_int (by decide +kernel) (pa_cons (pv 3) pa_nil)) (pe_callB call_len_seq (by rfl) T.n_len (by decide +kernel) (pa_cons (pe_ix ix_list (pv 0) pe_int (fun _ _ => rfl)) pa_nil))) (fun _ _ => rfl))))
          pss_nil)
        (pss_cons (ps_if (PW.pt (pw_and (pt_cmpR op_lt (pv 3) (pe_callB call_len_seq (by rfl) T.n_len (by decide +kernel) (pa_cons (pe_ix ix_list (pv 0) pe_int (fun _ _ => rfl)) pa_nil)) (nomark _)) (pw_and1 (pt_cmpR op_ge (pe_callB call_abs (by rfl) T.n_abs (by decide +kernel) (pa_cons (pv 4) pa_nil)) (pe_op op_powL pe_int pe_int) (nomark _)))))
          (pss_cons (ps_set (i := 2) nd rfl (Or.inl rfl) (pe_op op_add (pe_op op_mulL pe_int (pe_op op_sub (pe_callB call_abs (by rfl) T.n_abs (by decide +kernel) (pa_cons (pv 4) pa_nil)) (pe_op op_powL pe_int pe_int))) (pe_callTy call_int1 (by rfl) T.n_int (by decide +kernel) (pa_cons (pe_cmpR op_lt (pv 4) pe_int (nomark _)) pa_nil))))
        (pss_cons (ps_asg (pe_op op_fdivL (pv 2) (pv 1)) (pg_sub (pv 0) pe_int set_list))
        (pss_one (ps_ret (pe_op op_modL (pe_callTy call_int1 (by rfl) T.n_int (by decide +kernel) (pa_cons (pv 2) pa_nil)) (pv 1))))))
          pss_nil)
        (pss_cons (ps_set (i := 5) nd rfl (Or.inl rfl) (pe_op op_modL (pe_callTy call_int1 (by rfl) T.n_int (by decide +kernel) (pa_cons (pe_op op_powL (pe_op op_add (pe_op op_add (pe_op op_modL (pe_callTy call_int1 (by rfl) T.n_int (by decide +kernel) (pa_cons (pv 4) pa_nil)) pe_int) (pe_op op_mulL pe_int (pv 3))) pe_int) pe_int) pa_nil)) pe_int))
        (pss_cons (ps_set (i := 5) nd rfl (Or.inl rfl) (pe_op op_modL (pe_callTy call_int1 (by rfl) T.n_int (by decide +kernel) (pa_cons (pe_op op_powL (pe_op op_add (pe_op op_add (pe_op op_mulL (pv 5) (pe_op op_add (pe_op op_mulL pe_int (pv 3)) pe_int)) (pe_op op_mulL (pe_op op_mulL pe_int (pv 3)) (pv 3))) pe_int) pe_int) pa_nil)) pe_int))
        (pss_one (ps_ret (pe_op op_modL (pe_callTy call_int1 (by rfl) T.n_int (by decide +kernel) (pa_cons (pe_op op_fdivL (pv 5) pe_int) pa_nil)) (pv 1)))))))))))), ?_⟩
    refine ⟨_, rfl, a, _, 2, _, rfl, rfl, SqL.of ha, rfl, _, _, rfl, rfl, _, rfl, ?_⟩
    refine ite2 (fun h1 => ?_) (fun h1 => ?_)
    · have h1 : 0 < r := of_decide_eq_true h1
      refine ⟨_, rfl, a, _, 2, _, rfl, rfl, SqL.of ha, rfl, .inl ⟨_, rfl, ?_⟩⟩
      refine ⟨_, rfl, _, rfl, _, _, rfl, rfl, draw_div hm hm2, fun r1 er1 => ?_⟩
      refine ⟨_, rfl, a, _, 2, 2, rfl, rfl, ha, rfl, ?_⟩
      refine ⟨_, rfl, .inl ⟨_, rfl, _, rfl, _, _, rfl, rfl, hm, fun d _ d0 d1 => ?_⟩⟩
      exact k _ _ frm_upd ⟨t, r1, S.upd ht (by rw [er1]; exact Int.ediv_nonneg hr0 (Int.le_of_lt hm)), by omega⟩ d0 d1
    · refine ⟨_, rfl, a, _, 1, _, rfl, rfl, SqL.of ha, rfl, ?_⟩
      refine ⟨_, rfl, _, _, rfl, rfl, ?_⟩
      refine ⟨_, rfl, a, _, 1, 1, rfl, rfl, ha, rfl, ?_⟩
      refine ⟨_, rfl, _, _, rfl, rfl, .inl (by decide), fun c0 _ => ⟨_, _, rfl, rfl, ?_⟩⟩
      have S1 : Sat a b cs (t + 1) r (upd H a (.lst ([V.ref b, V.int t, V.int r].set 1 (.int (t + 1))))) := S.upd (by omega) hr0
      refine ⟨_, rfl, a, _, 0, _, rfl, rfl, SqL.of S1.ha, rfl, Nat.zero_le _, fun l hl => ?_⟩
      have E1 := same_new (o := .lst []) hl
      have S2 := S1.same E1
      have F2 : Frm (· = a) H _ := frm_upd.trans (frm_same E1)
      refine ints_ne (SqL.of S2.hb) (SqL.of upd_same) ⟨_, rfl, ?_⟩
      clear E1 hl
      revert S1 S2 F2
      generalize upd (upd H a (.lst ([V.ref b, V.int t, V.int r].set 1 (.int (t + 1))))) l (.lst []) = H2
      intro S1 S2 F2
      clear S1
      refine ite2 (fun h2 => ?_) (fun h2 => ?_)
      · have h3 : cs ≠ [] := by intro e; subst e; exact absurd h2 (by decide)
        have l0 : 0 < ((cs.map V.int).length : Int) := by
          cases cs with
          | nil => exact absurd rfl h3
          | cons c cs => exact Int.natCast_pos.mpr (Nat.succ_pos _)
        obtain ⟨c, hc⟩ := cell_at h3 t
        refine ⟨_, rfl, a, _, 0, _, rfl, rfl, SqL.of S2.ha, rfl, _, rfl, .inl ⟨_, rfl, _, rfl, a, _, 0, _, rfl, rfl, SqL.of S2.ha, rfl, b, _, rfl, .inl (SqL.of S2.hb), _, _, rfl, rfl, l0, fun z ez _ _ => ?_⟩⟩
        rw [← ez] at hc
        refine ⟨b, _, _, .int c, rfl, rfl, SqL.of S2.hb, hc, ?_⟩
        -- if turn < len(satchel[0]) and abs(cell) >= 10 ** 18
        refine ⟨_, rfl, _, rfl, a, _, 0, _, rfl, rfl, SqL.of S2.ha, rfl, b, _, rfl, .inl (SqL.of S2.hb), _, _, rfl, rfl, _, rfl, ?_⟩
        refine ite2 (fun h4 => ?_) (fun h4 => ?_)
        · refine ⟨_, rfl, _, rfl, _, _, rfl, rfl, ⟨by decide, by decide, by decide⟩, fun big hbig => ⟨_, _, rfl, rfl, _, rfl, ?_⟩⟩
          refine ite2 (fun h5 => ?_) (fun h5 => ?_)
          · have h5 := of_decide_eq_true h5
            refine ⟨_, rfl, _, rfl, _, _, rfl, rfl, ⟨by decide, by decide, by decide⟩, fun big2 hbig2 => ⟨_, _, rfl, rfl, _, _, rfl, rfl, .inl (by decide), fun y ey => ?_⟩⟩
            refine ⟨_, rfl, _, _, rfl, rfl, .inr ⟨_, rfl, _, _, rfl, rfl, ?_⟩⟩
            rw [← hbig2] at hbig
            refine ⟨_, rfl, _, rfl, _, _, rfl, rfl, draw_div hm hm2, fun r1 er1 => ?_⟩
            refine ⟨_, rfl, a, _, 2, 2, rfl, rfl, S2.ha, rfl, ?_⟩
            refine ⟨_, rfl, .inl ⟨_, rfl, _, rfl, _, _, rfl, rfl, hm, fun d _ d0 d1 => ?_⟩⟩
            refine k _ _ (F2.trans frm_upd) ⟨t + 1, r1, S2.upd S2.ht (by rw [er1]; exact Int.ediv_nonneg (draw_rest ey (by rw [← hbig]; exact h5)) (Int.le_of_lt hm)), by omega⟩ d0 d1
          · -- mixed = int((int(cell) % p + q * turn + k) ** 5) % p
            refine ⟨_, rfl, .inl ⟨_, rfl, _, _, rfl, rfl, by decide, fun z0 _ z1 z2 => ?_⟩⟩
            refine ⟨_, rfl, _, _, rfl, rfl, .inl (by decide), fun z3 z4 => ⟨_, _, rfl, rfl, _, _, rfl, rfl, _, _, rfl, rfl, ⟨by decide, by decide, ?_⟩, fun z5 _ => ?_⟩⟩
            · omega
            refine .inl ⟨_, rfl, _, _, rfl, rfl, by decide, fun mx _ m0 m1 => ?_⟩
            -- mixed = int((mixed * (2 * turn + k) + q * turn * turn + l) ** 3) % p
            refine ⟨_, rfl, _, rfl, _, _, rfl, rfl, .inl (by decide), fun y0 y1 => ⟨_, _, rfl, rfl, _, _, rfl, rfl, .inl ⟨by omega, by omega⟩, fun y2 y3 => ?_⟩⟩
            refine ⟨_, rfl, _, _, rfl, rfl, .inl (by decide), fun y4 y5 => ⟨_, rfl, _, _, rfl, rfl, .inl ⟨by omega, by omega⟩, fun y6 y7 => ?_⟩⟩
            have b1 := mul_bd (x := mx) (y := y0 + 5657) (A := 2147483648) (B := 3000000) m0 (by omega) (by omega) (by omega)
            have b2 := mul_bd (x := y4) (y := t) (A := 1000000000000) (B := 1000000) (by omega) (by omega) ht (by omega)
            rw [← y3] at b1
            rw [← y7] at b2
            refine ⟨_, _, rfl, rfl, _, _, rfl, rfl, _, _, rfl, rfl, ⟨by decide, by decide, ?_⟩, fun y8 _ => ?_⟩
            · clear y3 y7 y5 y1
              omega
            refine .inl ⟨_, rfl, _, _, rfl, rfl, by decide, fun my _ n0 n1 => ?_⟩
            -- return int(mixed // 64) % many
            refine ⟨_, rfl, _, _, rfl, rfl, ⟨by decide, by decide⟩, fun w0 _ => .inl ⟨_, rfl, _, rfl, _, _, rfl, rfl, hm, fun d _ d0 d1 => ?_⟩⟩
            exact k _ _ F2 ⟨_, _, S2, by omega⟩ d0 d1
        · refine iteF ?_
          -- mixed = int((int(cell) % p + q * turn + k) ** 5) % p
          refine ⟨_, rfl, .inl ⟨_, rfl, _, _, rfl, rfl, by decide, fun z0 _ z1 z2 => ?_⟩⟩
          refine ⟨_, rfl, _, _, rfl, rfl, .inl (by decide), fun z3 z4 => ⟨_, _, rfl, rfl, _, _, rfl, rfl, _, _, rfl, rfl, ⟨by decide, by decide, ?_⟩, fun z5 _ => ?_⟩⟩
          · omega
          refine .inl ⟨_, rfl, _, _, rfl, rfl, by decide, fun mx _ m0 m1 => ?_⟩
          -- mixed = int((mixed * (2 * turn + k) + q * turn * turn + l) ** 3) % p
          refine ⟨_, rfl, _, rfl, _, _, rfl, rfl, .inl (by decide), fun y0 y1 => ⟨_, _, rfl, rfl, _, _, rfl, rfl, .inl ⟨by omega, by omega⟩, fun y2 y3 => ?_⟩⟩
          refine ⟨_, rfl, _, _, rfl, rfl, .inl (by decide), fun y4 y5 => ⟨_, rfl, _, _, rfl, rfl, .inl ⟨by omega, by omega⟩, fun y6 y7 => ?_⟩⟩
          have b1 := mul_bd (x := mx) (y := y0 + 5657) (A := 2147483648) (B := 3000000) m0 (by omega) (by omega) (by omega)
          have b2 := mul_bd (x := y4) (y := t) (A := 1000000000000) (B := 1000000) (by omega) (by omega) ht (by omega)
          rw [← y3] at b1
          rw [← y7] at b2
          refine ⟨_, _, rfl, rfl, _, _, rfl, rfl, _, _, rfl, rfl, ⟨by decide, by decide, ?_⟩, fun y8 _ => ?_⟩
          · clear y3 y7 y5 y1
            omega
          refine .inl ⟨_, rfl, _, _, rfl, rfl, by decide, fun my _ n0 n1 => ?_⟩
          -- return int(mixed // 64) % many
          refine ⟨_, rfl, _, _, rfl, rfl, ⟨by decide, by decide⟩, fun w0 _ => .inl ⟨_, rfl, _, rfl, _, _, rfl, rfl, hm, fun d _ d0 d1 => ?_⟩⟩
          exact k _ _ F2 ⟨_, _, S2, by omega⟩ d0 d1
      · -- if turn < len(satchel[0]) and abs(cell) >= 10 ** 18
        refine ⟨_, rfl, _, rfl, a, _, 0, _, rfl, rfl, SqL.of S2.ha, rfl, b, _, rfl, .inl (SqL.of S2.hb), _, _, rfl, rfl, _, rfl, ?_⟩
        refine ite2 (fun h4 => ?_) (fun h4 => ?_)
        · refine ⟨_, rfl, _, rfl, _, _, rfl, rfl, ⟨by decide, by decide, by decide⟩, fun big hbig => ⟨_, _, rfl, rfl, _, rfl, ?_⟩⟩
          refine ite2 (fun h5 => ?_) (fun h5 => ?_)
          · have h5 := of_decide_eq_true h5
            refine ⟨_, rfl, _, rfl, _, _, rfl, rfl, ⟨by decide, by decide, by decide⟩, fun big2 hbig2 => ⟨_, _, rfl, rfl, _, _, rfl, rfl, .inl (by decide), fun y ey => ?_⟩⟩
            refine ⟨_, rfl, _, _, rfl, rfl, .inr ⟨_, rfl, _, _, rfl, rfl, ?_⟩⟩
            rw [← hbig2] at hbig
            refine ⟨_, rfl, _, rfl, _, _, rfl, rfl, draw_div hm hm2, fun r1 er1 => ?_⟩
            refine ⟨_, rfl, a, _, 2, 2, rfl, rfl, S2.ha, rfl, ?_⟩
            refine ⟨_, rfl, .inl ⟨_, rfl, _, rfl, _, _, rfl, rfl, hm, fun d _ d0 d1 => ?_⟩⟩
            refine k _ _ (F2.trans frm_upd) ⟨t + 1, r1, S2.upd S2.ht (by rw [er1]; exact Int.ediv_nonneg (draw_rest ey (by rw [← hbig]; exact h5)) (Int.le_of_lt hm)), by omega⟩ d0 d1
          · -- mixed = int((int(cell) % p + q * turn + k) ** 5) % p
            refine ⟨_, rfl, .inl ⟨_, rfl, _, _, rfl, rfl, by decide, fun z0 _ z1 z2 => ?_⟩⟩
            refine ⟨_, rfl, _, _, rfl, rfl, .inl (by decide), fun z3 z4 => ⟨_, _, rfl, rfl, _, _, rfl, rfl, _, _, rfl, rfl, ⟨by decide, by decide, ?_⟩, fun z5 _ => ?_⟩⟩
            · omega
            refine .inl ⟨_, rfl, _, _, rfl, rfl, by decide, fun mx _ m0 m1 => ?_⟩
            -- mixed = int((mixed * (2 * turn + k) + q * turn * turn + l) ** 3) % p
            refine ⟨_, rfl, _, rfl, _, _, rfl, rfl, .inl (by decide), fun y0 y1 => ⟨_, _, rfl, rfl, _, _, rfl, rfl, .inl ⟨by omega, by omega⟩, fun y2 y3 => ?_⟩⟩
            refine ⟨_, rfl, _, _, rfl, rfl, .inl (by decide), fun y4 y5 => ⟨_, rfl, _, _, rfl, rfl, .inl ⟨by omega, by omega⟩, fun y6 y7 => ?_⟩⟩
            have b1 := mul_bd (x := mx) (y := y0 + 5657) (A := 2147483648) (B := 3000000) m0 (by omega) (by omega) (by omega)
            have b2 := mul_bd (x := y4) (y := t) (A := 1000000000000) (B := 1000000) (by omega) (by omega) ht (by omega)
            rw [← y3] at b1
            rw [← y7] at b2
            refine ⟨_, _, rfl, rfl, _, _, rfl, rfl, _, _, rfl, rfl, ⟨by decide, by decide, ?_⟩, fun y8 _ => ?_⟩
            · clear y3 y7 y5 y1
              omega
            refine .inl ⟨_, rfl, _, _, rfl, rfl, by decide, fun my _ n0 n1 => ?_⟩
            -- return int(mixed // 64) % many
            refine ⟨_, rfl, _, _, rfl, rfl, ⟨by decide, by decide⟩, fun w0 _ => .inl ⟨_, rfl, _, rfl, _, _, rfl, rfl, hm, fun d _ d0 d1 => ?_⟩⟩
            exact k _ _ F2 ⟨_, _, S2, by omega⟩ d0 d1
        · refine iteF ?_
          -- mixed = int((int(cell) % p + q * turn + k) ** 5) % p
          refine ⟨_, rfl, .inl ⟨_, rfl, _, _, rfl, rfl, by decide, fun z0 _ z1 z2 => ?_⟩⟩
          refine ⟨_, rfl, _, _, rfl, rfl, .inl (by decide), fun z3 z4 => ⟨_, _, rfl, rfl, _, _, rfl, rfl, _, _, rfl, rfl, ⟨by decide, by decide, ?_⟩, fun z5 _ => ?_⟩⟩
          · omega
          refine .inl ⟨_, rfl, _, _, rfl, rfl, by decide, fun mx _ m0 m1 => ?_⟩
          -- mixed = int((mixed * (2 * turn + k) + q * turn * turn + l) ** 3) % p
          refine ⟨_, rfl, _, rfl, _, _, rfl, rfl, .inl (by decide), fun y0 y1 => ⟨_, _, rfl, rfl, _, _, rfl, rfl, .inl ⟨by omega, by omega⟩, fun y2 y3 => ?_⟩⟩
          refine ⟨_, rfl, _, _, rfl, rfl, .inl (by decide), fun y4 y5 => ⟨_, rfl, _, _, rfl, rfl, .inl ⟨by omega, by omega⟩, fun y6 y7 => ?_⟩⟩
          have b1 := mul_bd (x := mx) (y := y0 + 5657) (A := 2147483648) (B := 3000000) m0 (by omega) (by omega) (by omega)
          have b2 := mul_bd (x := y4) (y := t) (A := 1000000000000) (B := 1000000) (by omega) (by omega) ht (by omega)
          rw [← y3] at b1
          rw [← y7] at b2
          refine ⟨_, _, rfl, rfl, _, _, rfl, rfl, _, _, rfl, rfl, ⟨by decide, by decide, ?_⟩, fun y8 _ => ?_⟩
          · clear y3 y7 y5 y1
            omega
          refine .inl ⟨_, rfl, _, _, rfl, rfl, by decide, fun my _ n0 n1 => ?_⟩
          -- return int(mixed // 64) % many
          refine ⟨_, rfl, _, _, rfl, rfl, ⟨by decide, by decide⟩, fun w0 _ => .inl ⟨_, rfl, _, rfl, _, _, rfl, rfl, hm, fun d _ d0 d1 => ?_⟩⟩
          exact k _ _ F2 ⟨_, _, S2, by omega⟩ d0 d1
theorem ok_is_list {P : Program} {w : World} {K : PySem.W.Frag} {mg : Str → Option Value} {base : Heap} {fa : Nat → Addr} {fd : Nat → FuncData} (T : Txt K mg fa fd) : FnOk P w K mg base CX0 1 (fa 3) (fd 3) ["value"] (spIsList K) := by
  have nd := sc_is_list.nd
  refine T.F_is_list.ok sc_is_list (fun vs H Q E h => ?_) (fun cdv A outer s H vs Q E hr h => ?_)
  · obtain ⟨M, v, d, rfl, _⟩ := h; rfl
  · obtain ⟨M, v, d, rfl, hv, k⟩ := h
    refine ⟨_, (pss_one (ps_ret (pe_callB call_isiT (by rfl) T.n_isinstance (by decide +kernel) (pa_cons (pv 0) (pa_cons (pe_tup (pa_cons (pe_bltn (v := .ty "list") (u := .type "list") (by rfl) T.n_list (by decide +kernel) rfl) (pa_cons (pe_bltn (v := .ty "tuple") (u := .type "tuple") (by rfl) T.n_tuple (by decide +kernel) rfl) pa_nil))) pa_nil))))), ?_⟩
    refine ⟨_, rfl, (by show 2 ≤ sizeLine; decide), fun t ht => ?_⟩
    have e := same_new (o := .tup [V.ty "list", V.ty "tuple"]) ht
    exact ⟨_, _, _, _, _, _, rfl, upd_same, .cons (.ty "list") (.cons (.ty "tuple") .nil), (hv.same e).ty, kit_seq d, k _ e⟩
theorem ok_is_integer {P : Program} {w : World} {K : PySem.W.Frag} {mg : Str → Option Value} {base : Heap} {fa : Nat → Addr} {fd : Nat → FuncData} (T : Txt K mg fa fd) : FnOk P w K mg base CX0 1 (fa 4) (fd 4) ["value"] (spIsInt K) := by
  have nd := sc_is_integer.nd
  refine T.F_is_integer.ok sc_is_integer (fun vs H Q E h => ?_) (fun cdv A outer s H vs Q E hr h => ?_)
  · obtain ⟨M, v, d, rfl, _⟩ := h; rfl
  · obtain ⟨M, v, d, rfl, hv, k⟩ := h
    refine ⟨_, (pss_one (ps_ret (pe_and (pe_callB call_isi (by rfl) T.n_isinstance (by decide +kernel) (pa_cons (pv 0) (pa_cons (pe_bltn (v := .ty "int") (u := .type "int") (by rfl) T.n_int (by decide +kernel) rfl) pa_nil))) (pe_one (pe_not (pe_callB call_isi (by rfl) T.n_isinstance (by decide +kernel) (pa_cons (pv 0) (pa_cons (pe_bltn (v := .ty "bool") (u := .type "bool") (by rfl) T.n_bool (by decide +kernel) rfl) pa_nil)))))))), ?_⟩
    refine ⟨_, rfl, _, _, _, _, _, rfl, .ty "int", hv.ty, kit_int d, _, rfl, ite2 (fun h => ?_) (fun h => ?_)⟩
    · refine ⟨_, rfl, _, _, _, _, _, rfl, .ty "bool", hv.ty, kit_bool d, _, rfl, qbl k ?_⟩
      cases d <;> first | rfl | cases h
    · refine qbl k ?_
      cases d <;> first | rfl | exact absurd rfl h
theorem ok_is_within {P : Program} {w : World} {K : PySem.W.Frag} {mg : Str → Option Value} {base : Heap} {fa : Nat → Addr} {fd : Nat → FuncData} (T : Txt K mg fa fd) : FnOk P w K mg base CX0 2 (fa 5) (fd 5) ["value", "least", "most"] (spWithin K) := by
  have nd := sc_is_within.nd
  refine T.F_is_within.ok sc_is_within (fun vs H Q E h => ?_) (fun cdv A outer s H vs Q E hr h => ?_)
  · obtain ⟨M, v, d, lo, hi, rfl, _⟩ := h; rfl
  · obtain ⟨M, v, d, lo, hi, rfl, hv, k⟩ := h
    refine ⟨_, (pss_cons (ps_if (pt_not (pt_val (pe_call (ok_is_integer T) (hr.mono (by decide)) rfl T.g_is_integer T.F_is_integer.kp T.b_is_integer .nil pass0 (pa_cons (pv 0) pa_nil))))
          (pss_one (ps_ret pe_bl))
          pss_nil)
        (pss_one (ps_ret (pe_and (pe_or (pe_cmpR op_isN (pv 1) pe_non (nomark _)) (pe_one (pe_cmpR op_ge (pv 0) (pv 1) (nomark _)))) (pe_one (pe_or (pe_cmpR op_isN (pv 2) pe_non (nomark _)) (pe_one (pe_cmpR op_le (pv 0) (pv 2) (nomark _))))))))), ?_⟩
    refine ⟨_, rfl, M, v, d, rfl, hv, _, rfl, ite2 (fun h => ?_) (fun h => ?_)⟩
    · refine qbl k ?_
      cases d <;> first | rfl | cases h
    · obtain ⟨i, rfl⟩ := isInt_eq (d := d) (by cases e : isIntD d with | true => rfl | false => exact absurd (by rw [e]; rfl) h)
      cases hv
      have lower : ∀ R : Bool → Prop, R (match lo with | none => true | some l => decide (l ≤ i)) → (match lo with | none => R true | some l => R (decide (l ≤ i))) := fun R q => by cases lo <;> exact q
      cases lo with
      | none =>
        refine ⟨_, rfl, rfl, _, rfl, iteT ⟨_, rfl, iteT ?_⟩⟩
        cases hi with
        | none => exact ⟨_, rfl, rfl, _, rfl, iteT k⟩
        | some u => exact ⟨_, rfl, rfl, _, rfl, iteF ⟨_, rfl, _, rfl, _, _, rfl, rfl, k⟩⟩
      | some l =>
        refine ⟨_, rfl, rfl, _, rfl, iteF ⟨_, rfl, _, rfl, _, _, rfl, rfl, _, rfl, ite2 (fun h1 => ?_) (fun h1 => ?_)⟩⟩
        · have h2 : decide (l ≤ i) = true := h1
          cases hi with
          | none => exact ⟨_, rfl, rfl, _, rfl, iteT (qbl k (by show true = (decide (l ≤ i) && true); rw [h2]; rfl))⟩
          | some u => exact ⟨_, rfl, rfl, _, rfl, iteF ⟨_, rfl, _, rfl, _, _, rfl, rfl, qbl k (by show _ = (decide (l ≤ i) && decide (i ≤ u)); rw [h2]; rfl)⟩⟩
        · have h2 : decide (l ≤ i) = false := by cases e : decide (l ≤ i) with | true => exact absurd e h1 | false => rfl
          exact qbl k (by show false = (decide (l ≤ i) && _); rw [h2]; rfl)
theorem ok_are_integers {P : Program} {w : World} {K : PySem.W.Frag} {mg : Str → Option Value} {base : Heap} {fa : Nat → Addr} {fd : Nat → FuncData} (T : Txt K mg fa fd) : FnOk P w K mg base CX0 2 (fa 6) (fd 6) ["value"] (spAreInts K) := by
  have nd := sc_are_integers.nd
  refine T.F_are_integers.ok sc_are_integers (fun vs H Q E h => ?_) (fun cdv A outer s H vs Q E hr h => ?_)
  · obtain ⟨M, v, d, rfl, _⟩ := h; rfl
  · obtain ⟨M, v, d, rfl, hv, hz, k⟩ := h
    refine ⟨_, (pss_one (ps_ret (pe_and (pe_call (ok_is_list T) (hr.mono (by decide)) rfl T.g_is_list T.F_is_list.kp T.b_is_list .nil pass0 (pa_cons (pv 0) pa_nil)) (pe_one (pe_callB (cr_all rfl) (by rfl) T.n_all (by decide +kernel) (pa_cons (pe_lc (own := [("part", 1)]) (g := (gName 1)) (by rfl) nd (pi_seq (pv 0)) (blkOk_by (N := sl_are_integers) (sc := defScope s_are_integers) (by decide +kernel)) (fun _ _ _ _ _ => (pg_name (i := 1) nd rfl (Or.inl rfl))) (fun _ _ _ _ _ => pts_nil) (fun _ _ _ _ _ => (pe_call (ok_is_integer T) (hr.mono (by decide)) rfl T.g_is_integer T.F_is_integer.kp T.b_is_integer .nil pass0 (pa_cons (pv 1) pa_nil)))) pa_nil)))))), ?_⟩
    refine ⟨_, rfl, M, v, d, rfl, hv, fun H1 e1 => ⟨_, rfl, ite2 (fun h => ?_) (fun h => ?_)⟩⟩
    · obtain ⟨ds, hds⟩ := Option.isSome_iff_exists.mp h
      obtain ⟨p, xs, rfl, nM, sq, hda⟩ := (hv.same e1).seq hds
      refine ⟨_, rfl, p, xs, rfl, sq, fun J hJ D hD => lc_bools (M := M) isIntD hD hJ hda (by rw [hda.length]; exact hz _ hds) ?_ ?_⟩
      · intro x dx H2 hx _ Ky ky
        exact ⟨rfl, _, rfl, M, x, dx, rfl, hx, ky _ (Same.refl _)⟩
      · intro H2 e2 hD2
        refine ⟨D, _, rfl, SqL.of hD2, qbl (k _ (e1.trans e2)) ?_⟩
        unfold areIntsD
        rw [hds, List.all_map]
        rfl
    · refine qbl (k _ e1) ?_
      cases d <;> first | rfl | exact absurd rfl h
theorem ok_is_numbers {P : Program} {w : World} {K : PySem.W.Frag} {mg : Str → Option Value} {base : Heap} {fa : Nat → Addr} {fd : Nat → FuncData} (T : Txt K mg fa fd) : FnOk P w K mg base CX0 3 (fa 7) (fd 7) ["value", "many", "most"] (spNumbers K) := by
  have nd := sc_is_numbers.nd
  refine T.F_is_numbers.ok sc_is_numbers (fun vs H Q E h => ?_) (fun cdv A outer s H vs Q E hr h => ?_)
  · obtain ⟨M, v, d, n, m, rfl, _⟩ := h; rfl
  · obtain ⟨M, v, d, n, m, rfl, hv, hz, k⟩ := h
    refine ⟨_, (pss_cons (ps_if (PW.pt (pw_or (pt_not (pt_val (pe_call (ok_is_list T) (hr.mono (by decide)) rfl T.g_is_list T.F_is_list.kp T.b_is_list .nil pass0 (pa_cons (pv 0) pa_nil)))) (pw_or1 (pt_cmpR op_ne (pe_callB call_len_seq (by rfl) T.n_len (by decide +kernel) (pa_cons (pv 0) pa_nil)) (pv 1) (nomark _)))))
          (pss_one (ps_ret pe_bl))
          pss_nil)
        (pss_one (ps_ret (pe_callB (cr_all rfl) (by rfl) T.n_all (by decide +kernel) (pa_cons (pe_lc (own := [("part", 3)]) (g := (gName 3)) (by rfl) nd (pi_seq (pv 0)) (blkOk_by (N := sl_is_numbers) (sc := defScope s_is_numbers) (by decide +kernel)) (fun _ _ _ _ _ => (pg_name (i := 3) nd rfl (Or.inl rfl))) (fun _ _ _ _ _ => pts_nil) (fun _ _ _ _ _ => (pe_call (ok_is_within T) (hr.mono (by decide)) rfl T.g_is_within T.F_is_within.kp T.b_is_within .nil pass0 (pa_cons (pv 3) (pa_cons pe_int (pa_cons (pv 2) pa_nil)))))) pa_nil))))), ?_⟩
    refine ⟨_, rfl, M, v, d, rfl, hv, fun H1 e1 => ⟨_, rfl, ite2 (fun h => ?_) (fun h => ?_)⟩⟩
    · refine iteT (qbl (k _ e1) ?_)
      cases d <;> first | rfl | cases h
    · obtain ⟨ds, hds⟩ : ∃ ds, seqD d = some ds := by
        cases e : seqD d with
        | none => exact absurd (by rw [e]; rfl) h
        | some ds => exact ⟨ds, rfl⟩
      obtain ⟨p, xs, rfl, nM, sq, hda⟩ := (hv.same e1).seq hds
      refine ⟨_, rfl, p, xs, rfl, sq, _, rfl, rfl, _, rfl, ite2 (fun h1 => ?_) (fun h1 => ?_)⟩
      · refine qbl (k _ e1) ?_
        have h2 : ¬ ((ds.length : Int) = n) := by
          intro e
          rw [← hda.length] at e
          rw [decide_eq_true (show V.int (xs.length : Int) = V.int n by rw [e])] at h1
          exact absurd h1 (by decide)
        unfold numbersD
        rw [hds]
        show false = (decide ((ds.length : Int) = n) && _)
        rw [decide_eq_false h2]
        rfl
      · have h2 : (ds.length : Int) = n := by
          rw [← hda.length]
          by_cases e : (xs.length : Int) = n
          · exact e
          · exact absurd (by rw [decide_eq_false (show ¬ V.int (xs.length : Int) = V.int n from fun z => e (V.int.inj z))]; rfl) h1
        refine ⟨_, rfl, p, xs, rfl, sq, fun J hJ D hD => lc_bools (M := M) (fun x => withinD x (some 0) (some m)) hD hJ hda (by rw [hda.length]; exact hz _ hds) ?_ ?_⟩
        · intro x dx H2 hx _ Ky ky
          exact ⟨rfl, _, rfl, _, rfl, M, x, dx, some 0, some m, rfl, hx, ky _ (Same.refl _)⟩
        · intro H2 e2 hD2
          refine ⟨D, _, rfl, SqL.of hD2, qbl (k _ (e1.trans e2)) ?_⟩
          unfold numbersD
          rw [hds, List.all_map]
          show _ = (decide ((ds.length : Int) = n) && _)
          rw [decide_eq_true h2]
          rfl
theorem ok_is_lot {P : Program} {w : World} {K : PySem.W.Frag} {mg : Str → Option Value} {base : Heap} {fa : Nat → Addr} {fd : Nat → FuncData} (T : Txt K mg fa fd) : FnOk P w K mg base CX0 4 (fa 8) (fd 8) ["value", "many"] (spLot K) := by
  have nd := sc_is_lot.nd
  refine T.F_is_lot.ok sc_is_lot (fun vs H Q E h => ?_) (fun cdv A outer s H vs Q E hr h => ?_)
  · obtain ⟨M, v, d, n, rfl, _⟩ := h; rfl
  · obtain ⟨M, v, d, n, rfl, hv, hz, k⟩ := h
    refine ⟨_, (pss_cons (ps_if (PW.pt (pw_or (pt_not (pt_val (pe_call (ok_is_list T) (hr.mono (by decide)) rfl T.g_is_list T.F_is_list.kp T.b_is_list .nil pass0 (pa_cons (pv 0) pa_nil)))) (pw_or1 (pt_not (pt_val (pe_call (ok_is_numbers T) (hr.mono (by decide)) rfl T.g_is_numbers T.F_is_numbers.kp T.b_is_numbers .nil pass0 (pa_cons (pv 0) (pa_cons (pe_callB call_len_seq (by rfl) T.n_len (by decide +kernel) (pa_cons (pv 0) pa_nil)) (pa_cons (pe_op op_sub (pv 1) pe_int) pa_nil)))))))))
          (pss_one (ps_ret pe_bl))
          pss_nil)
        (pss_one (ps_ret (pe_callB (cr_all rfl) (by rfl) T.n_all (by decide +kernel) (pa_cons (pe_lc (own := [("one", 2), ("other", 3)]) (g := (gTup K 2 (gCons (gName 2) (gCons (gName 3) gNil)))) (by rfl) nd (pi_zipA (by rfl) T.n_zip (pa_cons (pv 0) (pa_cons (pe_slice sl_seq (pv 0) (po_some pe_int) po_none) pa_nil))) (blkOk_by (N := sl_is_lot) (sc := defScope s_is_lot) (by decide +kernel)) (fun _ _ _ _ _ => (pg_tup (by rfl) (pgs_cons (pg_name (i := 2) nd rfl (Or.inl rfl)) (pgs_cons (pg_name (i := 3) nd rfl (Or.inl rfl)) pgs_nil)))) (fun _ _ _ _ _ => pts_nil) (fun _ _ _ _ _ => (pe_cmpR op_lt (pv 2) (pv 3) (nomark _)))) pa_nil))))), ?_⟩
    refine ⟨_, rfl, M, v, d, rfl, hv, fun H1 e1 => ⟨_, rfl, ite2 (fun h => ?_) (fun h => ?_)⟩⟩
    · refine iteT (qbl (k _ e1) ?_)
      cases d <;> first | rfl | cases h
    · obtain ⟨ds, hds⟩ : ∃ ds, seqD d = some ds := by
        cases e : seqD d with
        | none => exact absurd (by rw [e]; rfl) h
        | some ds => exact ⟨ds, rfl⟩
      obtain ⟨p, xs, rfl, nM, sq, hda⟩ := (hv.same e1).seq hds
      have hlen : xs.length ≤ 10000000 := by rw [hda.length]; exact hz _ hds
      refine ⟨_, rfl, _, rfl, p, xs, rfl, sq, _, rfl, _, _, rfl, rfl, M, _, d, _, _, rfl, hv.same e1, hz, fun H2 e2 => ⟨_, rfl, ite2 (fun h1 => ?_) (fun h1 => ?_)⟩⟩
      · refine qbl (k _ (e1.trans e2)) ?_
        rw [numbers_len hds hda] at h1
        unfold lotD
        rw [hds]
        show false = (_ && _)
        cases e : ds.all (fun x => withinD x (some 0) (some (n - 1))) with
        | true => rw [e] at h1; exact absurd h1 (by decide)
        | false => rfl
      · rw [numbers_len hds hda] at h1
        have hw : ds.all (fun x => withinD x (some 0) (some (n - 1))) = true := by
          cases e : ds.all (fun x => withinD x (some 0) (some (n - 1))) with
          | true => rfl
          | false => rw [e] at h1; exact absurd rfl h1
        have sq2 : SqL K H2 p xs ∨ SqT K H2 p xs := sq.imp (fun s => e2.seq s) (fun s => Same.seqT e2 s)
        obtain ⟨ns, rfl, rfl⟩ := all_rises hda (within_ints hw)
        refine ⟨_, rfl, _, rfl, _, rfl, rest_seq sq2 fun b H3 e3 hb => ⟨p, b, ns.map V.int, (ns.map V.int).drop 1, rfl, ?_⟩⟩
        rcases hb with ⟨h1, h2⟩ | ⟨h1, h2⟩
        · refine .inl ⟨h1, h2, fun D hD => lc_zipP ltF hD (.inl ⟨rfl, h1, h2⟩) (by rw [List.length_map] at hlen ⊢; exact hlen) ?_ ?_⟩
          · intro i x y T H4 hx hy s hT Ky ky
            obtain ⟨i1, rfl⟩ := int_at hx
            obtain ⟨i2, rfl⟩ := int_at (ns := ns.drop 1) (by rw [← List.map_drop] at hy; exact hy)
            exact ⟨T, _, rfl, SqT.of hT, rfl, _, _, rfl, _, _, rfl, rfl, rfl, _, rfl, _, rfl, _, _, rfl, rfl, ky _ (Same.refl _)⟩
          · intro H4 e4 hD4
            rw [zip_lt] at hD4
            refine ⟨D, _, rfl, SqL.of hD4, qbl (k _ (((e1.trans e2).trans e3).trans e4)) ?_⟩
            unfold lotD
            rw [hds]
            show _ = (_ && _)
            rw [hw, ← rises_zip, List.all_map]
            rfl
        · refine .inr ⟨h1, h2, fun D hD => lc_zipP ltF hD (.inr ⟨rfl, h1, h2⟩) (by rw [List.length_map] at hlen ⊢; exact hlen) ?_ ?_⟩
          · intro i x y T H4 hx hy s hT Ky ky
            obtain ⟨i1, rfl⟩ := int_at hx
            obtain ⟨i2, rfl⟩ := int_at (ns := ns.drop 1) (by rw [← List.map_drop] at hy; exact hy)
            exact ⟨T, _, rfl, SqT.of hT, rfl, _, _, rfl, _, _, rfl, rfl, rfl, _, rfl, _, rfl, _, _, rfl, rfl, ky _ (Same.refl _)⟩
          · intro H4 e4 hD4
            rw [zip_lt] at hD4
            refine ⟨D, _, rfl, SqL.of hD4, qbl (k _ (((e1.trans e2).trans e3).trans e4)) ?_⟩
            unfold lotD
            rw [hds]
            show _ = (_ && _)
            rw [hw, ← rises_zip, List.all_map]
            rfl
theorem ok_is_name {P : Program} {w : World} {K : PySem.W.Frag} {mg : Str → Option Value} {base : Heap} {fa : Nat → Addr} {fd : Nat → FuncData} (T : Txt K mg fa fd) : FnOk P w K mg base CX0 3 (fa 9) (fd 9) ["value"] (spName K) := by
  have nd := sc_is_name.nd
  obtain ⟨_, g_LONGEST_NAME, r_LONGEST_NAME⟩ := T.c_LONGEST_NAME
  obtain ⟨_, g_NAME_SIGNS, r_NAME_SIGNS⟩ := T.c_NAME_SIGNS
  refine T.F_is_name.ok sc_is_name (fun vs H Q E h => ?_) (fun cdv A outer s H vs Q E hr h => ?_)
  · obtain ⟨M, v, d, rfl, _⟩ := h; rfl
  · obtain ⟨M, v, d, rfl, hv, hz, k⟩ := h
    refine ⟨_, (pss_cons (ps_if (PW.pt (pw_or (pt_not (pt_val (pe_callB call_isi (by rfl) T.n_isinstance (by decide +kernel) (pa_cons (pv 0) (pa_cons (pe_bltn (v := .ty "str") (u := .type "str") (by rfl) T.n_str (by decide +kernel) rfl) pa_nil))))) (pw_or1 (pt_not (pt_val (pe_call (ok_is_within T) (hr.mono (by decide)) rfl T.g_is_within T.F_is_within.kp T.b_is_within .nil pass0 (pa_cons (pe_callB call_len_str (by rfl) T.n_len (by decide +kernel) (pa_cons (pv 0) pa_nil)) (pa_cons pe_int (pa_cons (pe_glob rfl g_LONGEST_NAME r_LONGEST_NAME) pa_nil)))))))))
          (pss_one (ps_ret pe_bl))
          pss_nil)
        (pss_one (ps_ret (pe_callB (cr_all rfl) (by rfl) T.n_all (by decide +kernel) (pa_cons (pe_lc (own := [("sign", 1)]) (g := (gName 1)) (by rfl) nd (pi_str (pv 0)) (blkOk_by (N := sl_is_name) (sc := defScope s_is_name) (by decide +kernel)) (fun _ _ _ _ _ => (pg_name (i := 1) nd rfl (Or.inl rfl))) (fun _ _ _ _ _ => pts_nil) (fun _ _ _ _ _ => (pe_cmpR op_in_sign (pv 1) (pe_glob rfl g_NAME_SIGNS r_NAME_SIGNS) (by rfl)))) pa_nil))))), ?_⟩
    refine ⟨_, rfl, _, _, _, _, _, rfl, .ty "str", hv.ty, kit_str d, _, rfl, ite2 (fun h => ?_) (fun h => ?_)⟩
    · refine iteT (qbl (k _ (Same.refl _)) ?_)
      cases d <;> first | rfl | cases h
    · obtain ⟨x, rfl⟩ : ∃ x, d = .str x := by cases d <;> first | exact ⟨_, rfl⟩ | exact absurd rfl h
      cases hv
      have hx := hz x rfl
      refine ⟨_, rfl, x, rfl, Nat.le_trans hx (by rw [sizeLine_eq]; decide), (fun _ => False), _, .int x.length, some 1, some 12, rfl, .int _, _, rfl, ite2 (fun h1 => ?_) (fun h1 => ?_)⟩
      · refine qbl (k _ (Same.refl _)) ?_
        rw [within_len] at h1
        show false = (_ && _ && _)
        cases e : (decide (1 ≤ x.length) && decide (x.length ≤ 12)) with
        | true => rw [e] at h1; exact absurd h1 (by decide)
        | false => rfl
      · rw [within_len] at h1
        have h2 : (decide (1 ≤ x.length) && decide (x.length ≤ 12)) = true := by
          cases e : (decide (1 ≤ x.length) && decide (x.length ≤ 12)) with
          | true => rfl
          | false => rw [e] at h1; exact absurd rfl h1
        refine ⟨_, rfl, x, rfl, fun D hD => lc_strP (fun c => V.bl (nameSign c)) hD (by omega) ?_ ?_⟩
        · intro c H2 _ s Ky ky
          refine ⟨rfl, _, rfl, c, _, rfl, rfl, ?_⟩
          exact qbl (ky _ (Same.refl _)) (sign_in c)
        · intro H2 e2 hD2
          refine ⟨D, x.cps.toList.map nameSign, rfl, SqL.of (by rw [hD2, List.map_map]; rfl), qbl (k _ e2) ?_⟩
          show _ = (_ && _ && _)
          rw [h2, List.all_map]
          rfl
theorem ok__law_satchel {P : Program} {w : World} {K : PySem.W.Frag} {mg : Str → Option Value} {base : Heap} {fa : Nat → Addr} {fd : Nat → FuncData} (T : Txt K mg fa fd) : FnOk P w K mg base CX0 1 (fa 11) (fd 11) ["script"] (spStart K) := by
  have nd := sc__law_satchel.nd
  refine T.F__law_satchel.ok sc__law_satchel (fun vs H Q E h => ?_) (fun cdv A outer s H vs Q E hr h => ?_)
  · obtain ⟨a, ns, rfl, _⟩ := h; rfl
  · obtain ⟨a, ns, rfl, hS, hlen, k⟩ := h
    refine ⟨_, (pss_one (ps_ret (pe_lstN (pa_cons (pe_lc (own := [("cell", 1)]) (g := (gName 1)) (by rfl) nd (pi_list (pe_slice sl_listN (pv 0) po_none (po_some pe_int))) (blkOk_by (N := sl__law_satchel) (sc := defScope s__law_satchel) (by decide +kernel)) (fun _ _ _ _ _ => (pg_name (i := 1) nd rfl (Or.inl rfl))) (fun _ _ _ _ _ => pts_nil) (fun _ _ _ _ _ => (pe_callTy call_int1 (by rfl) T.n_int (by decide +kernel) (pa_cons (pv 1) pa_nil)))) (pa_cons pe_int (pa_cons pe_int pa_nil)))))), ?_⟩
    refine ⟨_, rfl, _, rfl, a, _, rfl, hS, fun p H1 n1 => ?_⟩
    have ec : cutV (ns.map V.int) none (some 60) = (ns.take 60).map V.int := (cutN (ns.map V.int) 60).trans (List.map_take ..).symm
    have hl : ((ns.take 60).map V.int).length ≤ 10000000 := by rw [List.length_map, List.length_take]; omega
    rw [ec] at n1
    refine ⟨p, rfl, ⟨_, SqL.of n1.2.1⟩, fun D hD => lcg_list (fun _ => False) (fun _ _ => True) (fun i acc _ => acc = ((ns.take 60).map V.int).take i) hD (fun H F => (same_frm F).seq (SqL.of n1.2.1)) hl (fun _ _ _ _ z => z) (fun _ _ _ _ _ z => z) trivial rfl ?_ ?_⟩
    · intro i x acc H2 hx F hDa _ hA Ky Kn ky kn
      obtain ⟨z, rfl⟩ := int_at hx
      refine ⟨rfl, _, rfl, .inl ⟨_, rfl, ky _ H2 F hDa trivial ?_⟩⟩
      rw [hA, take_next hx]
    · intro H2 acc F hDa _ hA _
      rw [hA, List.take_of_length_le (Nat.le_refl _)] at hDa
      refine ⟨(by show 3 ≤ sizeLine; decide), fun l H3 n3 => k l D (ns.take 60) H3 ((n1.1.trans (same_frm F)).trans n3.1) ⟨0, 0, ⟨n3.2.1, n3.1 _ _ hDa, Int.le_refl _, Int.le_refl _⟩, Int.le_refl _⟩ ?_⟩
      exact (n1.1.trans (same_frm F)).free n3.2.2
theorem ok__law_gather {P : Program} {w : World} {K : PySem.W.Frag} {mg : Str → Option Value} {base : Heap} {fa : Nat → Addr} {fd : Nat → FuncData} (T : Txt K mg fa fd) : FnOk P w K mg base CX0 2 (fa 13) (fd 13) ["satchel", "some"] (spPick K) := by
  have nd := sc__law_gather.nd
  refine T.F__law_gather.ok sc__law_gather (fun vs H Q E h => ?_) (fun cdv A outer s H vs Q E hr h => ?_)
  · obtain ⟨a, b, cs, n, p, xs, rfl, _⟩ := h; rfl
  · obtain ⟨a, b, cs, n, p, xs, rfl, S, hn, np, hs, hne, hz, k⟩ := h
    refine ⟨_, (pss_one (ps_ret (pe_ix ix_list (pv 1) (pe_call (ok__law_reach T) (hr.mono (by decide)) rfl T.g__law_reach T.F__law_reach.kp T.b__law_reach .nil pass0 (pa_cons (pv 0) (pa_cons (pe_callB call_len_seq (by rfl) T.n_len (by decide +kernel) (pa_cons (pv 1) pa_nil)) pa_nil))) (fun _ _ => rfl)))), ?_⟩
    have l0 : 0 < (xs.length : Int) := by
      cases xs with
      | nil => exact absurd rfl hne
      | cons x r => exact Int.natCast_pos.mpr (Nat.succ_pos _)
    refine ⟨_, rfl, _, rfl, _, rfl, p, xs, rfl, .inl hs, a, b, cs, n, _, rfl, S, hn, l0, by omega, fun H1 d F1 S1 d0 d1 => ?_⟩
    obtain ⟨x, hx, ha⟩ := atI_some d0 d1
    exact ⟨p, xs, d, x, rfl, rfl, F1.seq np hs, ha, k _ _ F1 S1 hx⟩
theorem ok__law_value {P : Program} {w : World} {K : PySem.W.Frag} {mg : Str → Option Value} {base : Heap} {fa : Nat → Addr} {fd : Nat → FuncData} (T : Txt K mg fa fd) : FnOk P w K mg base CX0 3 (fa 14) (fd 14) ["satchel"] (spValue K 5) := by
  have nd := sc__law_value.nd
  refine T.F__law_value.ok sc__law_value (fun vs H Q E h => ?_) (fun cdv A outer s H vs Q E hr h => ?_)
  · obtain ⟨a, b, cs, n, rfl, _⟩ := h; rfl
  · obtain ⟨a, b, cs, n, rfl, S, hn, k⟩ := h
    refine ⟨_, (pss_cons (ps_set (i := 1) nd rfl (Or.inl rfl) (pe_call (ok__law_gather T) (hr.mono (by decide)) rfl T.g__law_gather T.F__law_gather.kp T.b__law_gather .nil pass0 (pa_cons (pv 0) (pa_cons (pe_lstN (pa_cons (pe_op op_sub (pe_call (ok__law_reach T) (hr.mono (by decide)) rfl T.g__law_reach T.F__law_reach.kp T.b__law_reach .nil pass0 (pa_cons (pv 0) (pa_cons pe_int pa_nil))) pe_int) (pa_cons (pe_op op_add (pe_op op_powL pe_int pe_int) (pe_call (ok__law_reach T) (hr.mono (by decide)) rfl T.g__law_reach T.F__law_reach.kp T.b__law_reach .nil pass0 (pa_cons (pv 0) (pa_cons pe_int pa_nil)))) (pa_cons (pe_un un_neg (pe_call (ok__law_reach T) (hr.mono (by decide)) rfl T.g__law_reach T.F__law_reach.kp T.b__law_reach .nil pass0 (pa_cons (pv 0) (pa_cons pe_int pa_nil)))) pa_nil)))) pa_nil))))
        (pss_cons (ps_set (i := 2) nd rfl (Or.inl rfl) (pe_lstN (pa_cons (pv 1) (pa_cons (pe_callTy call_str_int (by rfl) T.n_str (by decide +kernel) (pa_cons (pv 1) pa_nil)) (pa_cons pe_non (pa_cons pe_bl (pa_cons pe_bl (pa_cons (pe_lstN (pa_cons (pv 1) pa_nil)) (pa_cons (pe_tupN (pa_cons (pv 1) (pa_cons pe_int pa_nil))) (pa_cons (pe_disp1N (pv 1) (pe_lstN (pa_cons (pv 1) pa_nil))) (pa_cons pe_str (pa_cons (pe_lstN pa_nil) (pa_cons (pe_tupN pa_nil) (pa_cons (pe_lstN (pa_cons (pe_lstN (pa_cons (pv 1) pa_nil)) (pa_cons (pe_tupN (pa_cons pe_int (pa_cons (pe_lstN (pa_cons pe_int pa_nil)) pa_nil))) pa_nil))) (pa_cons (pe_lstN (pa_cons pe_bl (pa_cons pe_int pa_nil))) (pa_cons pe_str pa_nil))))))))))))))))
        (pss_one (ps_ret (pe_call (ok__law_gather T) (hr.mono (by decide)) rfl T.g__law_gather T.F__law_gather.kp T.b__law_gather .nil pass0 (pa_cons (pv 0) (pa_cons (pv 2) pa_nil))))))), ?_⟩
    refine ⟨_, rfl, _, rfl, a, b, cs, _, _, rfl, S, by omega, by decide, by decide, fun H1 d1 F1 S1 l1 u1 => ⟨_, _, rfl, rfl, ?_⟩⟩
    refine ⟨_, _, rfl, rfl, ⟨by decide, by decide, by decide⟩, fun big hbig => ⟨_, rfl, a, b, cs, _, _, rfl, S1, by omega, by decide, by decide, fun H2 d2 F2 S2 l2 u2 => ⟨_, _, rfl, rfl, ?_⟩⟩⟩
    refine ⟨_, rfl, a, b, cs, _, _, rfl, S2, by omega, by decide, by decide, fun H3 d3 F3 S3 l3 u3 => ⟨_, rfl, (by show 3 ≤ sizeLine; decide), fun p4 H4 n4 => ?_⟩⟩
    have S4 := S3.new n4
    refine ⟨a, b, cs, _, p4, _, rfl, S4, by omega, S3.ne n4, SqL.of n4.2.1, (fun z => nomatch z), (by show 3 < 2 ^ 62; decide), fun H5 x F5 S5 hx => ?_⟩
    obtain ⟨i, rfl, hi⟩ : ∃ i : Int, x = .int i ∧ i.natAbs < 2 ^ 100 := by
      have hb : big = 100000000000000000000 := hbig.trans (by decide)
      simp only [List.mem_cons, List.not_mem_nil, or_false] at hx
      rcases hx with rfl | rfl | rfl
      · exact ⟨_, rfl, by omega⟩
      · exact ⟨_, rfl, by omega⟩
      · exact ⟨_, rfl, by omega⟩
    have hi2 : i.natAbs.log2 < 1920 := Nat.lt_of_lt_of_le (PySem.Flt.log2_lt_of (by decide) hi) (by decide)
    refine ⟨_, rfl, _, rfl, _, rfl, hi2, _, rfl, (by show 1 ≤ sizeLine; decide), fun p6 H6 n6 => ?_⟩
    have S6 := S5.new n6
    have v6 := S5.lst (K := K) n6 (.cons (.int i) .nil)
    refine ⟨_, rfl, (by show 2 ≤ sizeLine; decide), fun p7 H7 n7 => ?_⟩
    have S7 := S6.new n7
    have v7 := S6.tup (K := K) n7 (.cons (.int i) (.cons (.int 2) .nil))
    refine fun p8 H8 n8 => ⟨_, rfl, _, rfl, (by show 1 ≤ sizeLine; decide), fun p9 H9 n9 => ⟨n9.1 _ _ n8.2.1, Sum.inl i, rfl, fun H10 hc10 h10 => ?_⟩⟩
    have e10 : Same H7 H10 := n8.filled n9.1 hc10
    have S10 := S7.same e10
    have v10 : Dv K (· = a) H10 (.ref p8) (.dict []) := .dct (S7.ne n8) h10
    clear n8 n9 hc10
    refine ⟨(by show 0 ≤ sizeLine; decide), fun p11 H11 n11 => ?_⟩
    have S11 := S10.new n11
    have v11 := S10.lst (K := K) n11 .nil
    refine ⟨(by show 0 ≤ sizeLine; decide), fun p12 H12 n12 => ?_⟩
    have S12 := S11.new n12
    have v12 := S11.tup (K := K) n12 .nil
    refine ⟨_, rfl, (by show 1 ≤ sizeLine; decide), fun p13 H13 n13 => ?_⟩
    have S13 := S12.new n13
    have v13 := S12.lst (K := K) n13 (.cons (.int i) .nil)
    refine ⟨(by show 1 ≤ sizeLine; decide), fun p14 H14 n14 => ?_⟩
    have S14 := S13.new n14
    have v14 := S13.lst (K := K) n14 (.cons (.int 2) .nil)
    refine ⟨(by show 2 ≤ sizeLine; decide), fun p15 H15 n15 => ?_⟩
    have S15 := S14.new n15
    have v15 := S14.tup (K := K) n15 (.cons (.int 1) (.cons v14 .nil))
    refine ⟨(by show 2 ≤ sizeLine; decide), fun p16 H16 n16 => ?_⟩
    have S16 := S15.new n16
    have v16 := S15.lst (K := K) n16 (.cons (v13.same (by walk_at "sm")) (.cons v15 .nil))
    refine ⟨(by show 2 ≤ sizeLine; decide), fun p17 H17 n17 => ?_⟩
    have S17 := S16.new n17
    have v17 := S16.lst (K := K) n17 (.cons (.bl true) (.cons (.int 0) .nil))
    refine ⟨(by show 14 ≤ sizeLine; decide), fun p18 H18 n18 => ?_⟩
    have S18 := S17.new n18
    have vs : DvAll K (· = a) H17 [.int i, .str (toString i), .non, .bl true, .bl false, .ref p6, .ref p7, .ref p8, .str "", .ref p11, .ref p12, .ref p16, .ref p17, .str "[1]"] _ :=
      .cons (.int _) (.cons (.str _) (.cons .non (.cons (.bl _) (.cons (.bl _) (.cons (v6.same (by walk_at "sm")) (.cons (v7.same (by walk_at "sm")) (.cons (v10.same (by walk_at "sm")) (.cons (.str _) (.cons (v11.same (by walk_at "sm")) (.cons (v12.same (by walk_at "sm")) (.cons (v16.same (by walk_at "sm")) (.cons v17 (.cons (.str _) .nil)))))))))))))
    refine ⟨_, rfl, _, rfl, a, b, cs, _, p18, _, rfl, S18, by omega, S17.ne n18, SqL.of n18.2.1, (fun z => nomatch z), (by show 14 < 2 ^ 62; decide), fun H19 x F19 S19 hx => ?_⟩
    obtain ⟨d, hd, hv⟩ := (vs.same n18.1).mem hx
    refine k _ x d (by walk_at "fr") S19 (hv.mono F19) ?_
    refine fewD_of ?_
    simp only [List.mem_cons, List.not_mem_nil, or_false] at hd
    rcases hd with rfl | rfl | rfl | rfl | rfl | rfl | rfl | rfl | rfl | rfl | rfl | rfl | rfl | rfl <;> rfl
theorem ok__law_own_integer {P : Program} {w : World} {K : PySem.W.Frag} {mg : Str → Option Value} {base : Heap} {fa : Nat → Addr} {fd : Nat → FuncData} (T : Txt K mg fa fd) : FnOk P w K mg base CX0 1 (fa 15) (fd 15) ["value"] (spIsInt K) := by
  have nd := sc__law_own_integer.nd
  refine T.F__law_own_integer.ok sc__law_own_integer (fun vs H Q E h => ?_) (fun cdv A outer s H vs Q E hr h => ?_)
  · obtain ⟨M, v, d, rfl, _⟩ := h; rfl
  · obtain ⟨M, v, d, rfl, hv, k⟩ := h
    refine ⟨_, (pss_one (ps_ret (pe_and (pe_callB call_isi (by rfl) T.n_isinstance (by decide +kernel) (pa_cons (pv 0) (pa_cons (pe_bltn (v := .ty "int") (u := .type "int") (by rfl) T.n_int (by decide +kernel) rfl) pa_nil))) (pe_one (pe_not (pe_callB call_isi (by rfl) T.n_isinstance (by decide +kernel) (pa_cons (pv 0) (pa_cons (pe_bltn (v := .ty "bool") (u := .type "bool") (by rfl) T.n_bool (by decide +kernel) rfl) pa_nil)))))))), ?_⟩
    refine ⟨_, rfl, _, _, _, _, _, rfl, .ty "int", hv.ty, kit_int d, _, rfl, ite2 (fun h => ?_) (fun h => ?_)⟩
    · refine ⟨_, rfl, _, _, _, _, _, rfl, .ty "bool", hv.ty, kit_bool d, _, rfl, qbl k ?_⟩
      cases d <;> first | rfl | cases h
    · refine qbl k ?_
      cases d <;> first | rfl | exact absurd rfl h
theorem ok__law_row {P : Program} {w : World} {K : PySem.W.Frag} {mg : Str → Option Value} {base : Heap} {fa : Nat → Addr} {fd : Nat → FuncData} (T : Txt K mg fa fd) : FnOk P w K mg base CX0 3 (fa 16) (fd 16) ["satchel", "most"] (spRow K) := by
  have nd := sc__law_row.nd
  refine T.F__law_row.ok sc__law_row (fun vs H Q E h => ?_) (fun cdv A outer s H vs Q E hr h => ?_)
  · obtain ⟨a, b, cs, n, m, rfl, _⟩ := h; rfl
  · obtain ⟨a, b, cs, n, m, rfl, S, hn, m0, m1, k⟩ := h
    refine ⟨_, (pss_cons (ps_setLc (i := 2) (own := [("turn", 5)]) (g := (gName 5)) (by rfl) nd rfl rfl (sw_true rfl rfl rfl (by decide +kernel)) (pi_range1 rfl T.n_range (pa_cons (pe_call (ok__law_reach T) (hr.mono (by decide)) rfl T.g__law_reach T.F__law_reach.kp T.b__law_reach .nil pass0 (pa_cons (pv 0) (pa_cons pe_int pa_nil))) pa_nil)) (blkOk_by (N := sl__law_row) (sc := defScope s__law_row) (by decide +kernel)) (fun _ _ _ _ _ => (pg_name (i := 5) nd rfl (Or.inl rfl))) (fun _ _ _ _ _ => pts_nil) (fun _ _ _ _ _ => (pe_call (ok__law_reach T) (hr.mono (by decide)) rfl T.g__law_reach T.F__law_reach.kp T.b__law_reach .nil pass0 (pa_cons (pv 0) (pa_cons (pe_op op_add (pv 1) pe_int) pa_nil)))))
        (pss_cons (ps_par (i := 3) (j := 4) (by rfl) nd rfl rfl (by decide) rfl rfl (pa_cons (pe_call (ok__law_reach T) (hr.mono (by decide)) rfl T.g__law_reach T.F__law_reach.kp T.b__law_reach .nil pass0 (pa_cons (pv 0) (pa_cons (pe_op op_add (pe_callB call_len_seq (by rfl) T.n_len (by decide +kernel) (pa_cons (pv 2) pa_nil)) pe_int) pa_nil))) (pa_cons (pe_call (ok__law_reach T) (hr.mono (by decide)) rfl T.g__law_reach T.F__law_reach.kp T.b__law_reach .nil pass0 (pa_cons (pv 0) (pa_cons pe_int pa_nil))) pa_nil)) (by rfl))
        (pss_cons (ps_if (PW.pt (pw_and (pt_cmpR op_eq (pv 4) pe_int (nomark _)) (pw_and1 (pt_cmpR op_lt (pv 3) (pe_callB call_len_seq (by rfl) T.n_len (by decide +kernel) (pa_cons (pv 2) pa_nil)) (nomark _)))))
          (pss_one (ps_asg (pe_call (ok__law_gather T) (hr.mono (by decide)) rfl T.g__law_gather T.F__law_gather.kp T.b__law_gather .nil pass0 (pa_cons (pv 0) (pa_cons (pe_lstN (pa_cons pe_bl (pa_cons pe_non (pa_cons (pe_un un_neg pe_int) (pa_cons pe_str (pa_cons (pe_op op_add (pv 1) pe_int) (pa_cons (pe_lstN (pa_cons pe_int pa_nil)) (pa_cons (pv 1) pa_nil)))))))) pa_nil))) (pg_sub (pv 2) (pv 3) set_list)))
          pss_nil)
        (pss_one (ps_ret (pe_ifExp (pt_cmpR op_eq (pv 4) pe_int (nomark _)) (pe_callTy call_tuple_ofN (by rfl) T.n_tuple (by decide +kernel) (pa_cons (pv 2) pa_nil)) (pv 2))))))), ?_⟩
    refine ⟨_, rfl, a, b, cs, n, _, rfl, S, by omega, by decide, by decide, fun H1 c F1 S1 c0 c1 => ⟨c, rfl, by omega, by omega, fun D hD => ?_⟩⟩
    have neD := S1.neD hD
    refine lcg_range (· = a) (fun i H => Sx a b cs (n + 1 + i) H) (fun i acc _ => ∃ js : List Int, acc = js.map V.int ∧ js.length = i) hD (by omega) (fun i H l F S' => S1.updD hD S') (fun _ _ _ _ _ z => z) S1 ⟨[], rfl, rfl⟩ ?_ ?_
    · rintro i acc H2 hi F hDa hS ⟨js, hjs, hl⟩ Ky Kn ky kn
      refine ⟨rfl, _, rfl, _, rfl, _, _, rfl, rfl, a, b, cs, _, _, rfl, hS, by omega, by omega, by omega, fun H3 d F3 S3 d0 d1 => ky _ H3 (F.trans F3) (F3 D _ neD hDa) S3 ⟨js ++ [d], ?_, ?_⟩⟩
      · rw [hjs, List.map_append]; rfl
      · rw [List.length_append, hl]; rfl
    · rintro H2 acc F hDa hS ⟨js, rfl, hl⟩ _
      have nbD : D ≠ b := fun e => by obtain ⟨o, h⟩ := S1.atb; rw [← e, hD] at h; cases h
      refine ⟨_, rfl, _, rfl, D, _, rfl, .inl (SqL.of hDa), _, _, rfl, rfl, a, b, cs, _, _, rfl, hS, by omega, by omega, by rw [List.length_map]; omega, fun H3 at_ F3 S3 at0 at1 => ?_⟩
      refine ⟨_, rfl, a, b, cs, _, _, rfl, S3, by omega, by decide, by decide, fun H4 way F4 S4 w0 w1 => ⟨_, _, rfl, ?_⟩⟩
      have hD4 := F4 D _ neD (F3 D _ neD hDa)
      have F14 : Frm (· = a) H H4 := ((F1.trans F).trans F3).trans F4
      -- if way == 0 and at < len(row)
      refine ⟨_, rfl, rfl, _, rfl, ite2 (fun _ => ?_) (fun _ => ?_)⟩
      · refine ⟨_, rfl, _, rfl, D, _, rfl, .inl (SqL.of hD4), _, _, rfl, rfl, _, rfl, ite2 (fun hat => ?_) (fun _ => ?_)⟩
        · have hat := of_decide_eq_true hat
          -- row[at] = ..
          refine ⟨_, rfl, _, rfl, _, rfl, _, _, rfl, rfl, (by show 1 ≤ sizeLine; decide), fun p5 H5 n5 => ?_⟩
          have S5 := S4.new n5
          have v5 := S4.lst (K := K) n5 (.cons (.int 1) .nil)
          refine ⟨_, rfl, (by show 7 ≤ sizeLine; decide), fun p6 H6 n6 => ?_⟩
          have S6 := S5.new n6
          refine ⟨a, b, cs, _, p6, _, rfl, S6, by omega, S5.ne n6, SqL.of n6.2.1, (fun z => nomatch z), (by show 7 < 2 ^ 62; decide), fun H7 x F7 S7 hx => ?_⟩
          have g5 : (upd H7 D (.lst ((js.map V.int).set at_.toNat x))) p5 = some (.lst [.int 1]) := by
            rw [upd_ne (n5.ne hD4)]
            exact F7 _ _ (S4.ne n5) (n6.1 _ _ n5.2.1)
          have vs : DvAll K (· = a) (upd H7 D (.lst ((js.map V.int).set at_.toNat x))) [.bl true, .non, .int (-1), .str "1", .int (m + 1), .ref p5, .int m] _ :=
            .cons (.bl _) (.cons .non (.cons (.int _) (.cons (.str _) (.cons (.int _) (.cons (.lst (S4.ne n5) (SqL.of g5) (.cons (.int 1) .nil)) (.cons (.int _) .nil))))))
          obtain ⟨d, hd, hv⟩ := vs.mem hx
          have htd : tame d = true := by
            simp only [List.mem_cons, List.not_mem_nil, or_false] at hd
            rcases hd with rfl | rfl | rfl | rfl | rfl | rfl | rfl <;> first | rfl | decide +kernel
          have hD7 : H7 D = _ := F7 D _ neD (n6.1 _ _ (n5.1 _ _ hD4))
          refine ⟨_, rfl, _, rfl, D, _, _, at_.toNat, rfl, rfl, hD7, ixN_ok at0 hat, ?_⟩
          have F8 : Frm (· = a) H (upd H7 D (.lst ((js.map V.int).set at_.toNat x))) := fun c u nc e => by
            have q : c ≠ D := fun z => by
              have := F1 c u nc e
              rw [z, hD] at this
              cases this
            rw [upd_ne q]
            exact F7 _ _ nc (n6.1 _ _ (n5.1 _ _ (F14 _ _ nc e)))
          have Fz := F8
          have Sz := S7.put (xs := []) (ys := (js.map V.int).set at_.toNat x) neD nbD
          have hDz := (upd_same : upd H7 D (.lst ((js.map V.int).set at_.toNat x)) D = some _)
          obtain ⟨ds, eds⟩ : ∃ ds, ds = (js.map PyData.int).set at_.toNat d := ⟨_, rfl⟩
          have hda : DvAll K (· = a) (upd H7 D (.lst ((js.map V.int).set at_.toNat x))) ((js.map V.int).set at_.toNat x) ds := by rw [eds]; exact DvAll.set hv _ (DvAll.ints js)
          have hdl : ds.length ≤ 4 := by rw [eds]; exact (by rw [List.length_set, List.length_map]; omega)
          have hdt : ds.all tame = true := by rw [eds]; exact all_set htd _ (tame_ints js)
          -- return tuple(row) if way == 1 else row
          refine ⟨_, rfl, rfl, _, rfl, ite2 (fun _ => ?_) (fun _ => ?_)⟩
          · refine ⟨_, rfl, D, _, rfl, .inl ⟨SqL.of hDz, fun l Hz nz => k Hz _ (.tuple ds) ds (Fz.trans (frm_same nz.1)) ((Sz.le (by omega)).new nz) (Sz.tup nz hda) rfl hdl hdt⟩⟩
          · exact ⟨_, rfl, k _ _ (.list ds) ds Fz (Sz.le (by omega)) (.lst neD (SqL.of hDz) hda) rfl hdl hdt⟩
        · have Fz := F14
          have Sz := S4
          have hDz := hD4
          obtain ⟨ds, eds⟩ : ∃ ds, ds = js.map PyData.int := ⟨_, rfl⟩
          have hda : DvAll K (· = a) H4 (js.map V.int) ds := by rw [eds]; exact DvAll.ints js
          have hdl : ds.length ≤ 4 := by rw [eds]; exact (by rw [List.length_map]; omega)
          have hdt : ds.all tame = true := by rw [eds]; exact tame_ints js
          -- return tuple(row) if way == 1 else row
          refine ⟨_, rfl, rfl, _, rfl, ite2 (fun _ => ?_) (fun _ => ?_)⟩
          · refine ⟨_, rfl, D, _, rfl, .inl ⟨SqL.of hDz, fun l Hz nz => k Hz _ (.tuple ds) ds (Fz.trans (frm_same nz.1)) ((Sz.le (by omega)).new nz) (Sz.tup nz hda) rfl hdl hdt⟩⟩
          · exact ⟨_, rfl, k _ _ (.list ds) ds Fz (Sz.le (by omega)) (.lst neD (SqL.of hDz) hda) rfl hdl hdt⟩
      · refine iteF ?_
        have Fz := F14
        have Sz := S4
        have hDz := hD4
        obtain ⟨ds, eds⟩ : ∃ ds, ds = js.map PyData.int := ⟨_, rfl⟩
        have hda : DvAll K (· = a) H4 (js.map V.int) ds := by rw [eds]; exact DvAll.ints js
        have hdl : ds.length ≤ 4 := by rw [eds]; exact (by rw [List.length_map]; omega)
        have hdt : ds.all tame = true := by rw [eds]; exact tame_ints js
        -- return tuple(row) if way == 1 else row
        refine ⟨_, rfl, rfl, _, rfl, ite2 (fun _ => ?_) (fun _ => ?_)⟩
        · refine ⟨_, rfl, D, _, rfl, .inl ⟨SqL.of hDz, fun l Hz nz => k Hz _ (.tuple ds) ds (Fz.trans (frm_same nz.1)) ((Sz.le (by omega)).new nz) (Sz.tup nz hda) rfl hdl hdt⟩⟩
        · exact ⟨_, rfl, k _ _ (.list ds) ds Fz (Sz.le (by omega)) (.lst neD (SqL.of hDz) hda) rfl hdl hdt⟩
theorem ok__law_rows_right {P : Program} {w : World} {K : PySem.W.Frag} {mg : Str → Option Value} {base : Heap} {fa : Nat → Addr} {fd : Nat → FuncData} (T : Txt K mg fa fd) : FnOk P w K mg base CX0 5 (fa 17) (fd 17) ["satchel"] (spTrue 22) := by
  have nd := sc__law_rows_right.nd
  refine T.F__law_rows_right.ok sc__law_rows_right (fun vs H Q E h => ?_) (fun cdv A outer s H vs Q E hr h => ?_)
  · obtain ⟨a, b, cs, n, rfl, _⟩ := h; rfl
  · obtain ⟨a, b, cs, n, rfl, S, hn, k⟩ := h
    refine ⟨_, (pss_cons (ps_asg (pe_tupN (pa_cons (pe_call (ok__law_gather T) (hr.mono (by decide)) rfl T.g__law_gather T.F__law_gather.kp T.b__law_gather .nil pass0 (pa_cons (pv 0) (pa_cons (pe_lstN (pa_cons pe_int (pa_cons pe_int (pa_cons pe_int pa_nil)))) pa_nil))) (pa_cons (pe_call (ok__law_reach T) (hr.mono (by decide)) rfl T.g__law_reach T.F__law_reach.kp T.b__law_reach .nil pass0 (pa_cons (pv 0) (pa_cons pe_int pa_nil))) pa_nil))) (pg_tup (by rfl) (pgs_cons (pg_name (i := 1) nd rfl (Or.inr rfl)) (pgs_cons (pg_name (i := 2) nd rfl (Or.inl rfl)) pgs_nil))))
        (pss_cons (ps_set (i := 3) nd rfl (Or.inl rfl) (pe_call (ok__law_row T) (hr.mono (by decide)) rfl T.g__law_row T.F__law_row.kp T.b__law_row .nil pass0 (pa_cons (pv 0) (pa_cons (pv 1) pa_nil))))
        (pss_cons (ps_set (i := 4) nd rfl (Or.inl rfl) (pe_cmpR (op_eqD hr.units) (pe_lc (own := [("each", 9)]) (g := (gName 9)) (by rfl) nd (pi_seq (pv 3)) (blkOk_by (N := sl__law_rows_right) (sc := defScope s__law_rows_right) (by decide +kernel)) (fun _ _ _ _ _ => (pg_name (i := 9) nd rfl (Or.inl rfl))) (fun _ _ _ _ _ => (pts_one (pt_not (pt_val (pe_call (ok__law_own_integer T) (hr.mono (by decide)) rfl T.g__law_own_integer T.F__law_own_integer.kp T.b__law_own_integer .nil pass0 (pa_cons (pv 9) pa_nil)))))) (fun _ _ _ _ _ => (pv 9))) (pe_lstN pa_nil) (nomark _)))
        (pss_cons (ps_set (i := 5) nd rfl (Or.inl rfl) (PE.cl (pe_and (pv 4) (pe_and (pe_cmpR op_eq (pe_callB call_len_seq (by rfl) T.n_len (by decide +kernel) (pa_cons (pv 3) pa_nil)) (pv 2) (nomark _)) (pe_one (pe_cmpR (op_eqD hr.units) (pe_lc (own := [("each", 9)]) (g := (gName 9)) (by rfl) nd (pi_seq (pv 3)) (blkOk_by (N := sl__law_rows_right) (sc := defScope s__law_rows_right) (by decide +kernel)) (fun _ _ _ _ _ => (pg_name (i := 9) nd rfl (Or.inl rfl))) (fun _ _ _ _ _ => (pts_one (pt_not (pt_chain op_le op_le pe_int (pv 9) (pv 1))))) (fun _ _ _ _ _ => (pv 9))) (pe_lstN pa_nil) (nomark _)))))))
        (pss_cons (ps_if (PW.pt (pw_or (pt_cmpR op_ne (pe_callB call_repr_bool (by rfl) T.n_repr (by decide +kernel) (pa_cons (pe_callN0 (ok_are_integers T) (hr.mono (by decide)) rfl T.g_are_integers T.F_are_integers.kp T.kb_are_integers_value pass0 (pk_cons (pv 3) pk_nil)) pa_nil)) (pe_callB call_repr_bool (by rfl) T.n_repr (by decide +kernel) (pa_cons (pv 4) pa_nil)) (nomark _)) (pw_or1 (pt_cmpR op_ne (pe_callB call_repr_bool (by rfl) T.n_repr (by decide +kernel) (pa_cons (pe_callN0 (ok_is_numbers T) (hr.mono (by decide)) rfl T.g_is_numbers T.F_is_numbers.kp T.kb_is_numbers_most_many_value pass0 (pk_cons (pv 1) (pk_cons (pv 2) (pk_cons (pv 3) pk_nil)))) pa_nil)) (pe_callB call_repr_bool (by rfl) T.n_repr (by decide +kernel) (pa_cons (pv 5) pa_nil)) (nomark _)))))
          (pss_one (ps_ret pe_bl))
          pss_nil)
        (pss_cons (ps_set (i := 6) nd rfl (Or.inr rfl) (pe_callB cr_sortedIN (by rfl) T.n_sorted (by decide +kernel) (pa_cons (pe_lc (own := [("turn", 10)]) (g := (gName 10)) (by rfl) nd (pi_range1 rfl T.n_range (pa_cons (pe_call (ok__law_reach T) (hr.mono (by decide)) rfl T.g__law_reach T.F__law_reach.kp T.b__law_reach .nil pass0 (pa_cons (pv 0) (pa_cons pe_int pa_nil))) pa_nil)) (blkOk_by (N := sl__law_rows_right) (sc := defScope s__law_rows_right) (by decide +kernel)) (fun _ _ _ _ _ => (pg_name (i := 10) nd rfl (Or.inl rfl))) (fun _ _ _ _ _ => pts_nil) (fun _ _ _ _ _ => (pe_call (ok__law_reach T) (hr.mono (by decide)) rfl T.g__law_reach T.F__law_reach.kp T.b__law_reach .nil pass0 (pa_cons (pv 0) (pa_cons pe_int pa_nil))))) pa_nil)))
        (pss_cons (ps_set (i := 6) nd rfl (Or.inr rfl) (pe_call (ok__law_gather T) (hr.mono (by decide)) rfl T.g__law_gather T.F__law_gather.kp T.b__law_gather .nil pass0 (pa_cons (pv 0) (pa_cons (pe_lstN (pa_cons (pv 3) (pa_cons (pv 6) (pa_cons (pe_lc (own := [("at", 11)]) (g := (gName 11)) (by rfl) nd (pi_range1 rfl T.n_range (pa_cons pe_int pa_nil)) (blkOk_by (N := sl__law_rows_right) (sc := defScope s__law_rows_right) (by decide +kernel)) (fun _ _ _ _ _ => (pg_name (i := 11) nd rfl (Or.inl rfl))) (fun _ _ _ _ _ => (pts_one (pt_cmpR op_eq (pe_call (ok__law_reach T) (hr.mono (by decide)) rfl T.g__law_reach T.F__law_reach.kp T.b__law_reach .nil pass0 (pa_cons (pv 0) (pa_cons pe_int pa_nil))) pe_int (nomark _)))) (fun _ _ _ _ _ => (pv 11))) pa_nil)))) pa_nil))))
        (pss_cons (ps_set (i := 7) nd rfl (Or.inl rfl) (pe_cmpR (op_eqD hr.units) (pe_lc (own := [("each", 9)]) (g := (gName 9)) (by rfl) nd (pi_seq (pv 6)) (blkOk_by (N := sl__law_rows_right) (sc := defScope s__law_rows_right) (by decide +kernel)) (fun _ _ _ _ _ => (pg_name (i := 9) nd rfl (Or.inl rfl))) (fun _ _ _ _ _ => (pts_one (pt_not (pt_val (pe_call (ok__law_own_integer T) (hr.mono (by decide)) rfl T.g__law_own_integer T.F__law_own_integer.kp T.b__law_own_integer .nil pass0 (pa_cons (pv 9) pa_nil)))))) (fun _ _ _ _ _ => (pv 9))) (pe_lstN pa_nil) (nomark _)))
        (pss_cons (ps_set (i := 7) nd rfl (Or.inl rfl) (PE.cl (pe_and (pv 7) (pe_one (pe_cmpR (op_eqD hr.units) (pe_callTy call_list_ofN (by rfl) T.n_list (by decide +kernel) (pa_cons (pv 6) pa_nil)) (pe_lc (own := [("each", 9)]) (g := (gName 9)) (by rfl) nd (pi_range1 rfl T.n_range (pa_cons (pe_op op_add (pv 2) pe_int) pa_nil)) (blkOk_by (N := sl__law_rows_right) (sc := defScope s__law_rows_right) (by decide +kernel)) (fun _ _ _ _ _ => (pg_name (i := 9) nd rfl (Or.inl rfl))) (fun _ _ _ _ _ => (pts_one (pt_cmpR (op_in_seqK (K := K) rfl) (pv 9) (pv 6) (by rfl)))) (fun _ _ _ _ _ => (pv 9))) (nomark _))))))
        (pss_cons (ps_if (pt_cmpR op_ne (pe_callB call_repr_bool (by rfl) T.n_repr (by decide +kernel) (pa_cons (pe_callN0 (ok_is_lot T) (hr.mono (by decide)) rfl T.g_is_lot T.F_is_lot.kp T.kb_is_lot_many_value pass0 (pk_cons (pe_op op_add (pv 2) pe_int) (pk_cons (pv 6) pk_nil))) pa_nil)) (pe_callB call_repr_bool (by rfl) T.n_repr (by decide +kernel) (pa_cons (pv 7) pa_nil)) (nomark _))
          (pss_one (ps_ret pe_bl))
          pss_nil)
        (pss_cons (ps_set (i := 8) nd rfl (Or.inl rfl) (pe_call (ok__law_gather T) (hr.mono (by decide)) rfl T.g__law_gather T.F__law_gather.kp T.b__law_gather .nil pass0 (pa_cons (pv 0) (pa_cons (pe_lstN (pa_cons pe_non (pa_cons pe_int (pa_cons pe_str (pa_cons (pe_disp1N pe_int pe_int) (pa_cons pe_bl pa_nil)))))) pa_nil))))
        (pss_one (ps_ret (pe_cmpR (op_eqD hr.units) (pe_lstN (pa_cons (pe_call (ok_are_integers T) (hr.mono (by decide)) rfl T.g_are_integers T.F_are_integers.kp T.b_are_integers .nil pass0 (pa_cons (pv 8) pa_nil)) (pa_cons (pe_call (ok_is_numbers T) (hr.mono (by decide)) rfl T.g_is_numbers T.F_is_numbers.kp T.b_is_numbers .nil pass0 (pa_cons (pv 8) (pa_cons pe_int (pa_cons pe_int pa_nil)))) (pa_cons (pe_call (ok_is_lot T) (hr.mono (by decide)) rfl T.g_is_lot T.F_is_lot.kp T.b_is_lot .nil pass0 (pa_cons (pv 8) (pa_cons pe_int pa_nil))) pa_nil)))) (pe_lstN (pa_cons pe_bl (pa_cons pe_bl (pa_cons pe_bl pa_nil)))) (nomark _))))))))))))))), ?_⟩
    -- most, many = ..
    refine ⟨_, rfl, (by show 3 ≤ sizeLine; decide), fun p1 H1 n1 => ⟨a, b, cs, _, p1, _, rfl, S.new n1, by omega, S.ne n1, SqL.of n1.2.1, (fun z => nomatch z), (by show 3 < 2 ^ 62; decide), fun H2 x F2 S2 hx => ?_⟩⟩
    obtain ⟨m, rfl, m0, m1⟩ : ∃ m : Int, x = .int m ∧ 0 ≤ m ∧ m ≤ 65535 := by
      simp only [List.mem_cons, List.not_mem_nil, or_false] at hx
      rcases hx with rfl | rfl | rfl <;> exact ⟨_, rfl, by decide, by decide⟩
    refine ⟨_, rfl, a, b, cs, _, _, rfl, S2, by omega, by decide, by decide, fun H3 many F3 S3 y0 y1 => ⟨(by show 2 ≤ sizeLine; decide), fun p4 H4 n4 => ?_⟩⟩
    have S4 := S3.new n4
    refine ⟨p4, _, rfl, SqT.of n4.2.1, rfl, _, _, rfl, _, _, rfl, rfl, ?_⟩
    -- row = _law_row(satchel, most)
    refine ⟨_, rfl, _, rfl, a, b, cs, _, m, rfl, S4, by omega, m0, by omega, fun H5 v d ds F5 S5 hv hds hl ht => ?_⟩
    obtain ⟨p, xs, rfl, nM, sq, hda⟩ := hv.seq hds
    have hxl : xs.length ≤ 10000000 := by rw [hda.length]; omega
    have few : ∀ es, seqD d = some es → es.length ≤ 10000000 := fun es e => by rw [hds] at e; cases e; omega
    -- wholly = ..
    refine ⟨_, rfl, p, xs, rfl, sq, fun J hJ D hD => lc_keep (M := (· = a)) (fun e => !isIntD e) hD hJ hda hxl ?_ ?_⟩
    · intro x e H6 he hx s6 Ky Kn ky kn
      refine ⟨rfl, _, rfl, (· = a), x, e, rfl, hx, _, rfl, ite2 (fun h => ⟨_, rfl, ky h _ (Same.refl _)⟩) (fun h => kn (by simpa using h) _ (Same.refl _))⟩
    intro H6 ys s6 hD6 hdy
    refine ⟨(by show 0 ≤ sizeLine; decide), fun p7 H7 n7 => eq_nil' (SqL.of (n7.1 _ _ hD6)) (hdy.same n7.1) (all_filter ht) (SqL.of n7.2.1) (filter_none isIntD ds) ?_⟩
    have s7 : Same H5 H7 := s6.trans n7.1
    have sq7 : SqL K H7 p xs ∨ SqT K H7 p xs := sq.imp (fun s => s7.seq s) (fun s => Same.seqT s7 s)
    have hda7 := hda.same s7
    have hv7 := hv.same s7
    have S7 := S5.same s7
    have F7 : Frm (· = a) H H7 := ((((frm_same n1.1).trans F2).trans F3).trans ((frm_same n4.1).trans F5)).trans (frm_same s7)
    -- fits = ..
    refine ⟨fun z H8 => z = .bl (numbersD d many m) ∧ Same H7 H8, ?_, ?_⟩
    · rintro z H8 ⟨rfl, s8⟩
      have hv8 := hv7.same s8
      have S8 := S7.same s8
      -- if repr(..) != repr(wholly) or repr(..) != repr(fits)
      refine ⟨_, rfl, rfl, rfl, (· = a), _, d, rfl, hv8, few, fun H9 s9 => ⟨_, rfl, _, rfl, _, rfl, rfl, _, rfl, iteNE (by unfold areIntsD; rw [hds]) ?_⟩⟩
      refine ⟨_, rfl, _, rfl, _, rfl, rfl, rfl, (· = a), _, d, many, m, rfl, hv8.same s9, few, fun H10 s10 => ⟨_, rfl, _, rfl, _, rfl, rfl, _, rfl, iteNE rfl ?_⟩⟩
      have s710 : Same H7 H10 := (s8.trans s9).trans s10
      have S10 := S7.same s710
      have hv10 := hv7.same s710
      -- some = sorted(..)
      refine ⟨_, rfl, a, b, cs, _, _, rfl, S10, by omega, by decide, by decide, fun H11 c F11 S11 c0 c1 => ⟨c, rfl, by omega, by omega, fun D2 hD2 => ?_⟩⟩
      have neD2 := S11.neD hD2
      refine lcg_range (· = a) (fun i H => Sx a b cs (n + 11 + i) H) (fun i acc _ => ∃ js : List Int, acc = js.map V.int ∧ js.length = i) hD2 (by omega) (fun i H l F S' => S11.updD hD2 S') (fun _ _ _ _ _ z => z) (S11.le (by omega)) ⟨[], rfl, rfl⟩ ?_ ?_
      · rintro i acc H12 hi F hDa hS ⟨js, hjs, hl⟩ Ky Kn ky kn
        refine ⟨rfl, _, rfl, a, b, cs, _, _, rfl, hS, by omega, by decide, by decide, fun H13 d F3 S3 d0 d1 => ky _ H13 (F.trans F3) (F3 D2 _ neD2 hDa) (S3.le (by omega)) ⟨js ++ [d], ?_, ?_⟩⟩
        · rw [hjs, List.map_append]; rfl
        · rw [List.length_append, hl]; rfl
      rintro H12 acc F12 hDa hS12 ⟨js, rfl, hjl⟩ _
      refine ⟨D2, js, rfl, SqL.of hDa, fun ns2 p13 H13 hperm n13 => ?_⟩
      have hns2 : ns2.length ≤ 10 := by rw [hperm.length_eq]; omega
      have S13 := hS12.new n13
      have F1013 : Frm (· = a) H10 H13 := (F11.trans F12).trans (frm_same n13.1)
      have v13 : Dv K (· = a) H13 (.ref p13) (.list (ns2.map .int)) := .lst (hS12.ne n13) (SqL.of n13.2.1) (DvAll.ints ns2)
      -- some = gather(satchel, [row, some, [at for at in range(6) if ..]])
      refine ⟨_, rfl, _, rfl, _, rfl, 6, rfl, by decide, by decide, fun D3 hD3 => ?_⟩
      have neD3 := S13.neD hD3
      refine lcg_range (· = a) (fun i H => Sx a b cs (n + 14 + i) H) (fun i acc _ => ∃ js : List Int, acc = js.map V.int ∧ js.length ≤ i) hD3 (by decide) (fun i H l F S' => S13.updD hD3 S') (fun _ _ _ _ _ z => z) (S13.le (by omega)) ⟨[], rfl, Nat.le_refl _⟩ ?_ ?_
      · rintro i acc H14 hi F hDa hS ⟨ks, hks, hkl⟩ Ky Kn ky kn
        have hi : i < 6 := hi
        refine ⟨rfl, _, rfl, a, b, cs, _, _, rfl, hS, by omega, by decide, by decide, fun H15 d F3 S3 d0 d1 => ⟨rfl, _, rfl, ite2 (fun _ => ?_) (fun _ => ?_)⟩⟩
        · refine ⟨_, rfl, ky _ H15 (F.trans F3) (F3 D3 _ neD3 hDa) (S3.le (by omega)) ⟨ks ++ [0 + (i : Int)], ?_, ?_⟩⟩
          · rw [hks, List.map_append]; rfl
          · rw [List.length_append]; show _ + 1 ≤ _; omega
        · exact kn H15 (F.trans F3) (F3 D3 _ neD3 hDa) (S3.le (by omega)) ⟨ks, hks, by omega⟩
      rintro H14 acc F14 hDa14 hS14 ⟨ks, rfl, hkl⟩ _
      have hkl : ks.length ≤ 6 := hkl
      have v14 : Dv K (· = a) H14 (.ref D3) (.list (ks.map .int)) := .lst neD3 (SqL.of hDa14) (DvAll.ints ks)
      refine ⟨(by show 3 ≤ sizeLine; decide), fun p15 H15 n15 => ?_⟩
      have S15 := hS14.new n15
      have vs : DvAll K (· = a) H15 [.ref p, .ref p13, .ref D3] _ := .cons ((hv10.mono F1013).mono (F14.trans (frm_same n15.1))) (.cons (v13.mono (F14.trans (frm_same n15.1))) (.cons (v14.same n15.1) .nil))
      refine ⟨a, b, cs, _, p15, _, rfl, S15, by omega, hS14.ne n15, SqL.of n15.2.1, (fun z => nomatch z), (by show 3 < 2 ^ 62; decide), fun H16 x F16 S16 hx => ?_⟩
      obtain ⟨e, he, hev⟩ := (vs.mono F16).mem hx
      obtain ⟨es, hes, hel, het⟩ : ∃ es, seqD e = some es ∧ es.length ≤ 10 ∧ es.all tame = true := by
        simp only [List.mem_cons, List.not_mem_nil, or_false] at he
        rcases he with rfl | rfl | rfl
        · exact ⟨ds, hds, by omega, ht⟩
        · exact ⟨_, rfl, by rw [List.length_map]; exact hns2, tame_ints _⟩
        · exact ⟨_, rfl, by rw [List.length_map]; omega, tame_ints _⟩
      obtain ⟨q, zs, rfl, nMq, sqq, hdz⟩ := hev.seq hes
      have hzl : zs.length ≤ 10000000 := by rw [hdz.length]; omega
      have fewe : ∀ us, seqD e = some us → us.length ≤ 10000000 := fun us h => by rw [hes] at h; cases h; omega
      have F16' : Frm (· = a) H H16 := ((F7.trans (frm_same s710)).trans F1013).trans ((F14.trans (frm_same n15.1)).trans F16)
      have S16' : Sx a b cs (n + 21) H16 := S16.le (by omega)
      clear v14 v13 vs hx he F14 F16 F1013
      -- lot = ..
      refine ⟨_, rfl, q, zs, rfl, sqq, fun J hJ D4 hD4 => lc_keep (M := (· = a)) (fun e => !isIntD e) hD4 hJ hdz hzl ?_ ?_⟩
      · intro x e H17 he hx s17 Ky Kn ky kn
        refine ⟨rfl, _, rfl, (· = a), x, e, rfl, hx, _, rfl, ite2 (fun h => ⟨_, rfl, ky h _ (Same.refl _)⟩) (fun h => kn (by simpa using h) _ (Same.refl _))⟩
      intro H17 ys2 s17 hD17 hdy2
      refine ⟨(by show 0 ≤ sizeLine; decide), fun p18 H18 n18 => eq_nil' (SqL.of (n18.1 _ _ hD17)) (hdy2.same n18.1) (all_filter het) (SqL.of n18.2.1) (filter_none isIntD es) ?_⟩
      have s18 : Same H16 H18 := s17.trans n18.1
      have sq18 : SqL K H18 q zs ∨ SqT K H18 q zs := sqq.imp (fun s => s18.seq s) (fun s => Same.seqT s18 s)
      have hdz18 := hdz.same s18
      -- lot = lot and ..
      refine ⟨fun z H19 => z = .bl (lotD e (many + 2)) ∧ Same H18 H19, ?_, ?_⟩
      · rintro z H19 ⟨rfl, s19⟩
        have he19 := (hev.same s18).same s19
        refine ⟨_, rfl, _, _, rfl, rfl, _, rfl, rfl, rfl, (· = a), _, e, _, rfl, he19, fewe, fun H20 s20 => ⟨_, rfl, _, rfl, _, rfl, rfl, _, rfl, iteNE rfl ?_⟩⟩
        have s1620 : Same H16 H20 := (s18.trans s19).trans s20
        have S20 := S16'.same s1620
        -- odd = ..
        refine ⟨_, rfl, fun p21 H21 n21 => ⟨n21.2.1, Sum.inl 0, rfl, fun H22 hc22 h22 => ?_⟩⟩
        have e22 : Same H20 H22 := n21.filled (Same.refl _) hc22
        have S22 := S20.same e22
        have v22 : Dv K (· = a) H22 (.ref p21) (.dict []) := .dct (S20.ne n21) h22
        refine ⟨(by show 5 ≤ sizeLine; decide), fun p23 H23 n23 => ?_⟩
        have S23 := S22.new n23
        have vs : DvAll K (· = a) H23 [.non, .int 5, .str "12", .ref p21, .bl true] _ := .cons .non (.cons (.int _) (.cons (.str _) (.cons (v22.same n23.1) (.cons (.bl _) .nil))))
        refine ⟨a, b, cs, _, p23, _, rfl, S23, by omega, S22.ne n23, SqL.of n23.2.1, (fun z => nomatch z), (by show 5 < 2 ^ 62; decide), fun H24 x F24 S24 hx => ?_⟩
        obtain ⟨o, ho, hov⟩ := (vs.mono F24).mem hx
        have hno : seqD o = none := by
          simp only [List.mem_cons, List.not_mem_nil, or_false] at ho
          rcases ho with rfl | rfl | rfl | rfl | rfl <;> rfl
        have fewo : ∀ us, seqD o = some us → us.length ≤ 10000000 := fun us h => by rw [hno] at h; cases h
        refine ⟨_, rfl, (· = a), _, o, rfl, hov, fewo, fun H25 s25 => ?_⟩
        refine ⟨_, rfl, (· = a), _, o, 1, 9, rfl, hov.same s25, fewo, fun H26 s26 => ?_⟩
        refine ⟨_, rfl, (· = a), _, o, 9, rfl, (hov.same s25).same s26, fewo, fun H27 s27 => ⟨(by show 3 ≤ sizeLine; decide), fun p28 H28 n28 => ?_⟩⟩
        have e1 : areIntsD o = false := by unfold areIntsD; rw [hno]
        have e2 : numbersD o 1 9 = false := by unfold numbersD; rw [hno]
        have e3 : lotD o 9 = false := by unfold lotD; rw [hno]
        rw [e1, e2, e3] at n28
        refine ⟨(by show 3 ≤ sizeLine; decide), fun p29 H29 n29 => ?_⟩
        have q1 : DpAll K H29 [V.bl false, .bl false, .bl false] [.bool false, .bool false, .bool false] := .cons (.bl _) (.cons (.bl _) (.cons (.bl _) .nil))
        refine ⟨.list [.bool false, .bool false, .bool false], .list [.bool false, .bool false, .bool false], .lst (SqL.of (n29.1 _ _ n28.2.1)) q1, .lst (SqL.of n29.2.1) q1, by decide +kernel, by decide +kernel, ?_⟩
        have s2429 : Same H24 H29 := ((s25.trans s26).trans s27).trans (n28.1.trans n29.1)
        exact qbl (k _ ((((F16'.trans (frm_same s1620)).trans (frm_same e22)).trans (frm_same n23.1)).trans (F24.trans (frm_same s2429))) ((S24.le (by omega)).same s2429)) (by decide +kernel)
      · refine ⟨_, rfl, _, rfl, ite2 (fun hw => ?_) (fun hw => ?_)⟩
        · obtain ⟨ns, rfl, rfl⟩ := all_rises hdz18 hw
          refine ⟨_, rfl, q, _, rfl, sq18, fun p19 H19 n19 => ?_⟩
          have sq19 : SqL K H19 q (ns.map V.int) ∨ SqT K H19 q (ns.map V.int) := sq18.imp (fun s => n19.1.seq s) (fun s => Same.seqT n19.1 s)
          refine ⟨_, rfl, _, _, rfl, rfl, _, rfl, by omega, by omega, fun D5 hD5 => ?_⟩
          refine lcg_range (fun _ => False) (fun _ _ => True) (fun i acc _ => acc = (((upto (many + 2).toNat).take i).filter fun x => decide (x ∈ ns)).map V.int) hD5 (by omega) (fun _ _ _ _ z => z) (fun _ _ _ _ _ z => z) trivial rfl ?_ ?_
          · intro i acc H20 hi F hDa _ hA Ky Kn ky kn
            have s20 := same_frm F
            have hu : (upto (many + 2).toNat)[i]? = some (i : Int) := by
              unfold upto
              rw [List.getElem?_map, List.getElem?_range hi]
              rfl
            have e := take_filter_next (p := fun x => decide (x ∈ ns)) hu
            refine ⟨rfl, _, rfl, _, rfl, q, _, rfl, sq19.imp (fun s => s20.seq s) (fun s => Same.seqT s20 s), rfl, flat_ints ns, _, rfl, ite2 (fun h => ?_) (fun h => ?_)⟩
            · have h : decide ((i : Int) ∈ ns) = true := by rw [← inV_ints, ← Int.zero_add (i : Int)]; exact h
              refine ⟨_, rfl, ky _ H20 F hDa trivial ?_⟩
              rw [e, if_pos h, List.map_append, hA, Int.zero_add]
              rfl
            · have h : ¬ decide ((i : Int) ∈ ns) = true := by rw [← inV_ints, ← Int.zero_add (i : Int)]; exact h
              refine kn H20 F hDa trivial ?_
              rw [e, if_neg h, List.append_nil]
              exact hA
          · intro H20 acc F hDa _ hA _
            have s20 := same_frm F
            have hfull : (upto (many + 2).toNat).take (many + 2).toNat = upto (many + 2).toNat := List.take_of_length_le (by unfold upto; rw [List.length_map, List.length_range]; exact Nat.le_refl _)
            rw [hfull] at hA
            rw [hA] at hDa
            refine eq_ints (SqL.of (s20 _ _ n19.2.1)) (SqL.of hDa) ⟨?_, n19.1.trans s20⟩
            unfold lotD
            rw [hes]
            show V.bl _ = V.bl (_ && _)
            rw [lot_iff]
            have em : (((many + 2).toNat : Nat) : Int) - 1 = many + 2 - 1 := by omega
            rw [em]
        · refine ⟨?_, Same.refl _⟩
          have hw' : es.all isIntD = false := by
            cases h : es.all isIntD with
            | true => exact absurd h hw
            | false => rfl
          unfold lotD
          rw [hes]
          show V.bl false = V.bl (_ && _)
          cases h : es.all (fun x => withinD x (some 0) (some (many + 2 - 1))) with
          | false => rfl
          | true => rw [within_ints h] at hw'; cases hw'
    · refine ⟨_, rfl, _, rfl, ite2 (fun hw => ?_) (fun hw => ?_)⟩
      · refine ⟨_, rfl, p, xs, rfl, sq7, _, rfl, rfl, _, rfl, ite2 (fun hl2 => ?_) (fun hl2 => ?_)⟩
        · have hl3 : decide ((ds.length : Int) = many) = true := by rw [← hda.length, ← len_eq]; exact hl2
          refine ⟨_, rfl, p, xs, rfl, sq7, fun J hJ D hD => lc_keep (M := (· = a)) (fun e => !withinD e (some 0) (some m)) hD hJ hda7 hxl ?_ ?_⟩
          · intro x e H8 he hx s8 Ky Kn ky kn
            obtain ⟨i, rfl⟩ := isInt_eq (List.all_eq_true.mp hw e he)
            cases hx
            refine ⟨rfl, _, rfl, _, _, rfl, rfl, _, rfl, ite2 (fun h0 => ?_) (fun h0 => ?_)⟩
            · refine ⟨_, rfl, _, _, rfl, rfl, _, rfl, ite2 (fun h1 => ⟨_, rfl, ky ?_ _ (Same.refl _)⟩) (fun h1 => kn ?_ _ (Same.refl _))⟩
              · show (!(decide (0 ≤ i) && decide (i ≤ m))) = true
                rw [show decide (0 ≤ i) = true from h0]
                exact h1
              · show (!(decide (0 ≤ i) && decide (i ≤ m))) = false
                rw [show decide (0 ≤ i) = true from h0]
                simpa using h1
            · refine ⟨_, rfl, ite2 (fun h1 => ⟨_, rfl, ky ?_ _ (Same.refl _)⟩) (fun h1 => absurd rfl h1)⟩
              show (!(decide (0 ≤ i) && decide (i ≤ m))) = true
              have : decide (0 ≤ i) = false := by simpa using h0
              rw [this]
              rfl
          · intro H8 ys2 s8 hD8 hdy2
            refine ⟨(by show 0 ≤ sizeLine; decide), fun p9 H9 n9 => eq_nil' (SqL.of (n9.1 _ _ hD8)) (hdy2.same n9.1) (all_filter ht) (SqL.of n9.2.1) (filter_none (fun e => withinD e (some 0) (some m)) ds) ⟨?_, s8.trans n9.1⟩⟩
            unfold numbersD
            rw [hds]
            show V.bl _ = V.bl (decide ((ds.length : Int) = many) && _)
            rw [hl3]
            rfl
        · refine ⟨?_, Same.refl _⟩
          have hl3 : decide ((ds.length : Int) = many) = false := by rw [← hda.length, ← len_eq]; simpa using hl2
          unfold numbersD
          rw [hds]
          show V.bl _ = V.bl (decide ((ds.length : Int) = many) && _)
          rw [hl3]
          rfl
      · refine ⟨?_, Same.refl _⟩
        have hw' : ds.all isIntD = false := by
          cases h : ds.all isIntD with
          | true => exact absurd h hw
          | false => rfl
        unfold numbersD
        rw [hds]
        show V.bl false = V.bl (_ && _)
        cases h : ds.all (fun x => withinD x (some 0) (some m)) with
        | false => rw [Bool.and_false]
        | true => rw [within_ints h] at hw'; cases hw'
theorem ok__law_names_right {P : Program} {w : World} {K : PySem.W.Frag} {mg : Str → Option Value} {base : Heap} {fa : Nat → Addr} {fd : Nat → FuncData} (T : Txt K mg fa fd) : FnOk P w K mg base CX0 4 (fa 18) (fd 18) ["satchel"] (spTrue 16) := by
  have nd := sc__law_names_right.nd
  refine T.F__law_names_right.ok sc__law_names_right (fun vs H Q E h => ?_) (fun cdv A outer s H vs Q E hr h => ?_)
  · obtain ⟨a, b, cs, n, rfl, _⟩ := h; rfl
  · obtain ⟨a, b, cs, n, rfl, S, hn, k⟩ := h
    refine ⟨_, (pss_cons (ps_set (i := 1) nd rfl (Or.inr rfl) pe_str)
        (pss_cons (ps_set (i := 2) nd rfl (Or.inl rfl) (pe_join pe_str (pe_lc (own := [("turn", 7)]) (g := (gName 7)) (by rfl) nd (pi_range1 rfl T.n_range (pa_cons (pe_call (ok__law_gather T) (hr.mono (by decide)) rfl T.g__law_gather T.F__law_gather.kp T.b__law_gather .nil pass0 (pa_cons (pv 0) (pa_cons (pe_lstN (pa_cons pe_int (pa_cons pe_int (pa_cons pe_int (pa_cons pe_int (pa_cons pe_int pa_nil)))))) pa_nil))) pa_nil)) (blkOk_by (N := sl__law_names_right) (sc := defScope s__law_names_right) (by decide +kernel)) (fun _ _ _ _ _ => (pg_name (i := 7) nd rfl (Or.inl rfl))) (fun _ _ _ _ _ => pts_nil) (fun _ _ _ _ _ => (pe_ix ix_str (pv 1) (pe_call (ok__law_reach T) (hr.mono (by decide)) rfl T.g__law_reach T.F__law_reach.kp T.b__law_reach .nil pass0 (pa_cons (pv 0) (pa_cons pe_int pa_nil))) (fun _ _ => rfl))))))
        (pss_cons (ps_par (i := 3) (j := 4) (by rfl) nd rfl rfl (by decide) rfl rfl (pa_cons (pe_call (ok__law_reach T) (hr.mono (by decide)) rfl T.g__law_reach T.F__law_reach.kp T.b__law_reach .nil pass0 (pa_cons (pv 0) (pa_cons (pe_op op_add (pe_callB call_len_str (by rfl) T.n_len (by decide +kernel) (pa_cons (pv 2) pa_nil)) pe_int) pa_nil))) (pa_cons (pe_call (ok__law_gather T) (hr.mono (by decide)) rfl T.g__law_gather T.F__law_gather.kp T.b__law_gather .nil pass0 (pa_cons (pv 0) (pa_cons (pe_lstN (pa_cons pe_str (pa_cons pe_str (pa_cons pe_str (pa_cons pe_str (pa_cons pe_str (pa_cons pe_str (pa_cons pe_str (pa_cons pe_str (pa_cons pe_str pa_nil)))))))))) pa_nil))) pa_nil)) (by rfl))
        (pss_cons (ps_set (i := 5) nd rfl (Or.inl rfl) (PE.cl (pe_chain op_le op_le pe_int (pe_callB call_len_str (by rfl) T.n_len (by decide +kernel) (pa_cons (pv 2) pa_nil)) pe_int)))
        (pss_cons (ps_for PassesOwn.never rfl (pi_tup (pe_tupN (pa_cons (pv 2) (pa_cons (pe_op op_add_str (pe_op op_add_str (pe_slice sl_str (pv 2) po_none (po_some (pv 3))) (pv 4)) (pe_slice sl_str (pv 2) (po_some (pv 3)) po_none)) (pa_cons (pe_lstN (pa_cons (pv 2) pa_nil)) (pa_cons pe_non (pa_cons pe_int (pa_cons pe_bl pa_nil)))))))) (pg_name (i := 6) nd rfl (Or.inl rfl))
          (pss_one (ps_if (pt_cmpR op_ne (pe_callB call_repr_bool (by rfl) T.n_repr (by decide +kernel) (pa_cons (pe_callN0 (ok_is_name T) (hr.mono (by decide)) rfl T.g_is_name T.F_is_name.kp T.kb_is_name_value pass0 (pk_cons (pv 6) pk_nil)) pa_nil)) (pe_callB call_repr_bool (by rfl) T.n_repr (by decide +kernel) (pa_cons (PE.cl (pe_and (pv 5) (pe_one (pe_cmpR (op_eqD hr.units) (pv 6) (pv 2) (nomark _))))) pa_nil)) (nomark _))
          (pss_one (ps_ret pe_bl))
          pss_nil)))
        (pss_one (ps_ret pe_bl))))))), ?_⟩
    -- name = ''.join(..)
    refine ⟨⟨_, rfl⟩, _, rfl, (by show 5 ≤ sizeLine; decide), fun p1 H1 n1 => ⟨a, b, cs, _, p1, _, rfl, S.new n1, by omega, S.ne n1, SqL.of n1.2.1, (fun z => nomatch z), (by show 5 < 2 ^ 62; decide), fun H2 x F2 S2 hx => ?_⟩⟩
    obtain ⟨w, rfl, w0, w1⟩ : ∃ w : Int, x = .int w ∧ 0 ≤ w ∧ w ≤ 13 := by
      simp only [List.mem_cons, List.not_mem_nil, or_false] at hx
      rcases hx with rfl | rfl | rfl | rfl | rfl <;> exact ⟨_, rfl, by decide, by decide⟩
    refine ⟨w, rfl, by omega, by omega, fun D hD => ?_⟩
    have neD := S2.neD hD
    refine lcg_range (· = a) (fun i H => Sx a b cs (n + 1 + i) H) (fun i acc _ => ∃ l : List Nat, acc = l.map (fun c => V.str ⟨#[c]⟩) ∧ l.length = i ∧ l.all nameSign = true) hD (by omega) (fun i H l F S' => S2.updD hD S') (fun _ _ _ _ _ z => z) S2 ⟨[], rfl, rfl, rfl⟩ ?_ ?_
    · rintro i acc H3 hi F hDa hS ⟨l, hl, hll, hla⟩ Ky Kn ky kn
      refine ⟨rfl, _, rfl, _, rfl, a, b, cs, _, _, rfl, hS, by omega, by decide, by decide, fun H4 d F4 S4 d0 d1 => ?_⟩
      obtain ⟨c, hc, hat⟩ := letter_at d0 d1
      refine ⟨_, d, c, rfl, rfl, (by decide +kernel), hat, ky _ H4 (F.trans F4) (F4 D _ neD hDa) S4 ⟨l ++ [c], ?_, ?_, ?_⟩⟩
      · rw [hl, List.map_append]; rfl
      · rw [List.length_append, hll]; rfl
      · rw [List.all_append, hla]; simp [hc]
    rintro H3 acc F3 hDa hS3 ⟨l, rfl, hll, hla⟩ _
    refine ⟨_, D, l.map (fun c => (⟨#[c]⟩ : Str)), rfl, rfl, .inl (SqL.of (by rw [List.map_map]; exact hDa)), ?_, ?_⟩
    · rw [sum_ones, List.length_map]
      show l.length + l.length * 0 ≤ _
      omega
    obtain ⟨z, ez⟩ : ∃ z, z = Txt.join "" (l.map fun c => (⟨#[c]⟩ : Str)) := ⟨_, rfl⟩
    rw [← ez]
    have hz : TL.tl z = l := by rw [ez]; exact tl_join_signs l
    have hzl : z.length = w.toNat := by rw [TL.len_tl, hz, hll]
    have hzs : (TL.tl z).all nameSign = true := by rw [hz]; exact hla
    have hline : z.length ≤ sizeLine := by rw [sizeLine_eq]; omega
    have F13 : Frm (· = a) H H3 := ((frm_same n1.1).trans F2).trans F3
    -- at, odd = ..
    refine ⟨_, rfl, _, rfl, z, rfl, hline, _, _, rfl, rfl, a, b, cs, _, _, rfl, hS3, by omega, by omega, by omega, fun H4 at_ F4 S4 at0 at1 => ?_⟩
    refine ⟨_, rfl, (by show 9 ≤ sizeLine; decide), fun p5 H5 n5 => ⟨a, b, cs, _, p5, _, rfl, S4.new n5, by omega, S4.ne n5, SqL.of n5.2.1, (fun z => nomatch z), (by show 9 < 2 ^ 62; decide), fun H6 x F6 S6 hx => ⟨_, _, rfl, ?_⟩⟩⟩
    obtain ⟨o, rfl, oc, ho, hoc, ocl⟩ : ∃ o : Str, x = .str o ∧ ∃ c, TL.tl o = [c] ∧ nameSign c = false ∧ c < 200 := by
      simp only [List.mem_cons, List.not_mem_nil, or_false] at hx
      rcases hx with rfl | rfl | rfl | rfl | rfl | rfl | rfl | rfl | rfl <;> exact ⟨_, rfl, _, rfl, by decide +kernel, by decide +kernel⟩
    have S6' : Sx a b cs (n + 16) H6 := S6.le (by omega)
    have F6' : Frm (· = a) H H6 := (F13.trans F4).trans ((frm_same n5.1).trans F6)
    -- due = ..
    refine ⟨fun u H7 => u = .bl (nameD (.str z)) ∧ H6 = H7, ?_, ?_⟩
    · rintro u H7 ⟨rfl, rfl⟩
      have ol : o.length = 1 := by rw [TL.len_tl, ho]; rfl
      have cl : (cutS z none (some at_)).length ≤ 13 := by rw [TL.len_tl, tl_cut_lo at0, List.length_take, hz]; omega
      have cl2 : (cutS z (some at_) none).length ≤ 13 := by rw [TL.len_tl, tl_cut_hi at0, List.length_drop, hz]; omega
      have al : (cutS z none (some at_) ++ o).length ≤ 14 := by rw [TL.len_tl, TL.tl_append, List.length_append, ← TL.len_tl, ← TL.len_tl]; omega
      refine ⟨_, rfl, _, rfl, _, rfl, _, rfl, z, rfl, hline, _, rfl, _, _, rfl, rfl, (by rw [sizeLine_eq]; omega), _, rfl, _, rfl, _, rfl, z, rfl, hline, _, _, rfl, rfl, (by rw [sizeLine_eq]; omega), ?_⟩
      obtain ⟨t, et⟩ : ∃ t, t = (cutS z none (some at_) ++ o) ++ cutS z (some at_) none := ⟨_, rfl⟩
      have htb : oc ∈ TL.tl t := by rw [et, TL.tl_append, TL.tl_append, ho]; simp
      have htl : t.length ≤ 30 := by rw [et, TL.len_tl, TL.tl_append, List.length_append, ← TL.len_tl, ← TL.len_tl]; omega
      have hne : (t == z) = false := by
        rw [beq_eq_false_iff_ne]
        intro e
        rw [e] at htb
        have := List.all_eq_true.mp hzs oc htb
        rw [hoc] at this
        cases this
      rw [← et]
      refine ⟨_, rfl, (by show 1 ≤ sizeLine; decide), fun p8 H8 n8 => ⟨(by show 6 ≤ sizeLine; decide), fun p9 H9 n9 => ⟨p9, rfl, ⟨_, SqT.of n9.2.1⟩, ?_⟩⟩⟩
      have S8 := S6'.new n8
      have v8 := S6'.lst (K := K) n8 (.cons (.str z) .nil)
      have hk : PyData.strOk z = true := strOk_signs hzs
      have tz : tame (.str z) = true := by simp [tame, PyData.canLay0, PyData.depth, hk]
      have hkt : PyData.strOk t = true := strOk_of fun c hc => by
        rw [et, TL.tl_append, TL.tl_append, ho, tl_cut_lo at0, tl_cut_hi at0] at hc
        simp only [List.mem_append, List.mem_singleton] at hc
        rcases hc with (hc | rfl) | hc
        · exact signs_lt hzs c (List.mem_of_mem_take hc)
        · omega
        · exact signs_lt hzs c (List.mem_of_mem_drop hc)
      have tt : tame (.str t) = true := by simp [tame, PyData.canLay0, PyData.depth, hkt]
      have s9 : Same H6 H9 := n8.1.trans n9.1
      have vs : DvAll K (· = a) H9 [.str z, .str t, .ref p8, .non, .int 5, .bl true] _ := .cons (.str z) (.cons (.str t) (.cons (v8.same n9.1) (.cons .non (.cons (.int 5) (.cons (.bl true) .nil)))))
      refine for_tup (K := K) (a := p9) (xs := [V.str z, .str t, .ref p8, .non, .int 5, .bl true]) (fun i σ H' => (∃ u, σ = [some (.ref a), some (.str "abcdefghijklmnopqrstuvwxyz0123456789"), some (.str z), some (.int at_), some (.str o), some (.bl (nameD (.str z))), u, none]) ∧ Same H9 H') ⟨⟨_, rfl⟩, Same.refl _⟩ (fun i σ H' _ ⟨_, s⟩ => Same.seqT s (SqT.of n9.2.1)) ?_ ?_
      · rintro i x σ H' hx ⟨⟨u, rfl⟩, s⟩
        obtain ⟨d, hd, hv⟩ := (vs.same s).get hx
        obtain ⟨hq, few, ok⟩ : (nameD d = (nameD (.str z) && PyData.eqv d (.str z))) ∧ (∀ x, d = .str x → x.length ≤ 1000000) ∧ tame d = true := by
          have hm := List.mem_of_getElem? hd
          simp only [List.mem_cons, List.not_mem_nil, or_false] at hm
          rcases hm with rfl | rfl | rfl | rfl | rfl | rfl
          · exact ⟨by simp [PyData.eqv], (fun x e => by cases e; omega), tz⟩
          · exact ⟨by rw [nameD_bad htb hoc]; simp [PyData.eqv, hne], (fun x e => by cases e; omega), tt⟩
          · exact ⟨by simp [PyData.eqv, nameD], (fun x e => by cases e), (by simp [tame, PyData.canLay0, PyData.canLayAll0, hk, PyData.depth, PyData.depthAll])⟩
          · exact ⟨by simp [PyData.eqv, nameD], (fun x e => by cases e), rfl⟩
          · exact ⟨by simp [PyData.eqv, nameD], (fun x e => by cases e), rfl⟩
          · exact ⟨by simp [PyData.eqv, nameD], (fun x e => by cases e), rfl⟩
        refine ⟨_, rfl, rfl, rfl, (· = a), x, d, rfl, hv, few, fun H10 s10 => ⟨_, rfl, ?_⟩⟩
        have hv10 := hv.same s10
        refine ⟨fun y H11 => y = .bl (nameD d) ∧ H10 = H11, ?_, ?_⟩
        · rintro y H11 ⟨rfl, rfl⟩
          exact ⟨_, rfl, rfl, _, rfl, iteNE rfl ⟨⟨_, rfl⟩, s.trans s10⟩⟩
        · refine ⟨_, rfl, _, rfl, ite2 (fun hdue => ?_) (fun hdue => ?_)⟩
          · exact ⟨_, rfl, _, rfl, eq_data hv10 (.str z) ok tz (b := nameD d) (by rw [hq, hdue]; rfl) ⟨rfl, rfl⟩⟩
          · have hf : nameD (.str z) = false := by simpa using hdue
            exact ⟨by rw [hq, hf]; rfl, rfl⟩
      · rintro σ H' ⟨⟨u, rfl⟩, s⟩
        exact k _ (F6'.trans (frm_same (s9.trans s))) (S6'.same (s9.trans s))
    · refine ⟨_, rfl, z, rfl, hline, _, _, rfl, rfl, _, rfl, ite2 (fun h => ?_) (fun h => ?_)⟩
      · refine ⟨_, _, rfl, rfl, ?_, rfl⟩
        rw [nameD_good hzs]
        have h1 : 1 ≤ z.length := by have := of_decide_eq_true h; omega
        refine congrArg V.bl ?_
        rw [decide_eq_true h1, Bool.true_and, Bool.eq_iff_iff, decide_eq_true_iff, decide_eq_true_iff]
        omega
      · refine ⟨?_, rfl⟩
        rw [nameD_good hzs]
        have h1 : ¬ 1 ≤ z.length := fun q => h (decide_eq_true (by omega))
        rw [decide_eq_false h1]
        rfl
theorem ok_law {P : Program} {w : World} {K : PySem.W.Frag} {mg : Str → Option Value} {base : Heap} {fa : Nat → Addr} {fd : Nat → FuncData} (T : Txt K mg fa fd) : FnOk P w K mg base CX0 6 (fa 19) (fd 19) ["script"] (spLaw K) := by
  have nd := sc_law.nd
  refine T.F_law.ok sc_law (fun vs H Q E h => ?_) (fun cdv A outer s H vs Q E hr h => ?_)
  · obtain ⟨a0, ns, rfl, _⟩ := h; rfl
  · obtain ⟨a0, ns, rfl, hS, hlen, k⟩ := h
    refine ⟨_, (pss_cons (ps_set (i := 1) nd rfl (Or.inl rfl) (pe_call (ok__law_satchel T) (hr.mono (by decide)) rfl T.g__law_satchel T.F__law_satchel.kp T.b__law_satchel .nil pass0 (pa_cons (pv 0) pa_nil)))
        (pss_cons (ps_for PassesOwn.never rfl (pi_range1 rfl T.n_range (pa_cons pe_int pa_nil)) (pg_name (i := 2) nd rfl (Or.inl rfl))
          (pss_cons (ps_set (i := 3) nd rfl (Or.inl rfl) (pe_call (ok__law_value T) (hr.mono (by decide)) rfl T.g__law_value T.F__law_value.kp T.b__law_value .nil pass0 (pa_cons (pv 1) pa_nil)))
        (pss_cons (ps_par (i := 4) (j := 5) (by rfl) nd rfl rfl (by decide) rfl rfl (pa_cons (pe_op op_sub (pe_call (ok__law_reach T) (hr.mono (by decide)) rfl T.g__law_reach T.F__law_reach.kp T.b__law_reach .nil pass0 (pa_cons (pv 1) (pa_cons pe_int pa_nil))) pe_int) (pa_cons (pe_op op_sub (pe_call (ok__law_reach T) (hr.mono (by decide)) rfl T.g__law_reach T.F__law_reach.kp T.b__law_reach .nil pass0 (pa_cons (pv 1) (pa_cons pe_int pa_nil))) pe_int) pa_nil)) (by rfl))
        (pss_cons (ps_set (i := 6) nd rfl (Or.inl rfl) (pe_call (ok__law_gather T) (hr.mono (by decide)) rfl T.g__law_gather T.F__law_gather.kp T.b__law_gather .nil pass0 (pa_cons (pv 1) (pa_cons (pe_lstN (pa_cons (pv 3) (pa_cons (pv 4) (pa_cons (pv 5) (pa_cons (pe_op op_sub (pv 4) pe_int) (pa_cons (pe_op op_add (pv 5) pe_int) (pa_cons pe_int pa_nil))))))) pa_nil))))
        (pss_cons (ps_par (i := 7) (j := 8) (by rfl) nd rfl rfl (by decide) rfl rfl (pa_cons (pe_call (ok__law_gather T) (hr.mono (by decide)) rfl T.g__law_gather T.F__law_gather.kp T.b__law_gather .nil pass0 (pa_cons (pv 1) (pa_cons (pe_lstN (pa_cons (pv 4) (pa_cons pe_non pa_nil))) pa_nil))) (pa_cons (pe_call (ok__law_gather T) (hr.mono (by decide)) rfl T.g__law_gather T.F__law_gather.kp T.b__law_gather .nil pass0 (pa_cons (pv 1) (pa_cons (pe_lstN (pa_cons (pv 5) (pa_cons pe_non pa_nil))) pa_nil))) pa_nil)) (by rfl))
        (pss_cons (ps_set (i := 9) nd rfl (Or.inl rfl) (PE.cl (pe_and (pe_call (ok__law_own_integer T) (hr.mono (by decide)) rfl T.g__law_own_integer T.F__law_own_integer.kp T.b__law_own_integer .nil pass0 (pa_cons (pv 6) pa_nil)) (pe_and (pe_or (pe_cmpR op_isN (pv 7) pe_non (nomark _)) (pe_one (pe_cmpR op_ge (pv 6) (pv 7) (nomark _)))) (pe_one (pe_or (pe_cmpR op_isN (pv 8) pe_non (nomark _)) (pe_one (pe_cmpR op_le (pv 6) (pv 8) (nomark _)))))))))
        (pss_cons (ps_if (PW.pt (pw_or (pt_cmpR op_ne (pe_callB call_repr_bool (by rfl) T.n_repr (by decide +kernel) (pa_cons (pe_callN0 (ok_is_integer T) (hr.mono (by decide)) rfl T.g_is_integer T.F_is_integer.kp T.kb_is_integer_value pass0 (pk_cons (pv 6) pk_nil)) pa_nil)) (pe_callB call_repr_bool (by rfl) T.n_repr (by decide +kernel) (pa_cons (pe_call (ok__law_own_integer T) (hr.mono (by decide)) rfl T.g__law_own_integer T.F__law_own_integer.kp T.b__law_own_integer .nil pass0 (pa_cons (pv 6) pa_nil)) pa_nil)) (nomark _)) (pw_or1 (pt_cmpR op_ne (pe_callB call_repr_bool (by rfl) T.n_repr (by decide +kernel) (pa_cons (pe_callN0 (ok_is_within T) (hr.mono (by decide)) rfl T.g_is_within T.F_is_within.kp T.kb_is_within_most_least_value pass0 (pk_cons (pv 8) (pk_cons (pv 7) (pk_cons (pv 6) pk_nil)))) pa_nil)) (pe_callB call_repr_bool (by rfl) T.n_repr (by decide +kernel) (pa_cons (pv 9) pa_nil)) (nomark _)))))
          (pss_one (ps_ret pe_bl))
          pss_nil)
        (pss_one (ps_if (PW.pt (pw_or (pt_not (pt_val (pe_call (ok__law_rows_right T) (hr.mono (by decide)) rfl T.g__law_rows_right T.F__law_rows_right.kp T.b__law_rows_right .nil pass0 (pa_cons (pv 1) pa_nil)))) (pw_or1 (pt_not (pt_val (pe_call (ok__law_names_right T) (hr.mono (by decide)) rfl T.g__law_names_right T.F__law_names_right.kp T.b__law_names_right .nil pass0 (pa_cons (pv 1) pa_nil)))))))
          (pss_one (ps_ret pe_bl))
          pss_nil)))))))))
        (pss_one (ps_ret pe_bl)))), ?_⟩
    refine ⟨_, rfl, a0, ns, rfl, hS, hlen, fun a b cs H1 s1 S1 _ => ?_⟩
    refine ⟨4, rfl, by decide, by decide, for_range (fun i σ H' => (∃ u2 u3 u4 u5 u6 u7 u8 u9, σ = [some (.ref a0), some (.ref a), u2, u3, u4, u5, u6, u7, u8, u9]) ∧ Sx a b cs (48 * i) H') ⟨⟨none, none, none, none, none, none, none, none, rfl⟩, S1⟩ ?_ ?_⟩
    · rintro i σ H2 hi ⟨⟨u2, u3, u4, u5, u6, u7, u8, u9, rfl⟩, S2⟩
      have hi : i < 4 := hi
      -- value, low, high
      refine ⟨_, rfl, a, b, cs, _, rfl, S2, by omega, fun H3 v d F3 S3 hv few => ?_⟩
      refine ⟨_, rfl, a, b, cs, _, _, rfl, S3, by omega, by decide, by decide, fun H4 lw F4 S4 lw0 lw1 => ⟨_, _, rfl, rfl, ?_⟩⟩
      refine ⟨_, rfl, a, b, cs, _, _, rfl, S4, by omega, by decide, by decide, fun H5 hg F5 S5 hg0 hg1 => ⟨_, _, rfl, rfl, _, _, rfl, ?_⟩⟩
      -- number
      refine ⟨_, rfl, _, rfl, _, rfl, _, rfl, _, rfl, _, _, rfl, rfl, _, rfl, _, _, rfl, rfl, (by show 6 ≤ sizeLine; decide), fun p6 H6 n6 => ?_⟩
      have vs : DvAll K (· = a) H6 [v, .int (lw - 4), .int (hg - 4), .int (lw - 4 - 1), .int (hg - 4 + 1), .int 0] _ := .cons ((hv.mono (F4.trans F5)).same n6.1) (.cons (.int _) (.cons (.int _) (.cons (.int _) (.cons (.int _) (.cons (.int _) .nil)))))
      refine ⟨a, b, cs, _, p6, _, rfl, S5.new n6, by omega, S5.ne n6, SqL.of n6.2.1, (fun z => nomatch z), (by show 6 < 2 ^ 62; decide), fun H7 x F7 S7 hx => ?_⟩
      obtain ⟨e, _, he⟩ := (vs.mono F7).mem hx
      -- least, most
      refine ⟨_, rfl, _, rfl, (by show 2 ≤ sizeLine; decide), fun p8 H8 n8 => ⟨a, b, cs, _, p8, _, rfl, S7.new n8, by omega, S7.ne n8, SqL.of n8.2.1, (fun z => nomatch z), (by show 2 < 2 ^ 62; decide), fun H9 y F9 S9 hy => ?_⟩⟩
      obtain ⟨lo, rfl⟩ : ∃ lo, y = oI lo := by
        simp only [List.mem_cons, List.not_mem_nil, or_false] at hy
        rcases hy with rfl | rfl
        · exact ⟨some _, rfl⟩
        · exact ⟨none, rfl⟩
      refine ⟨_, rfl, _, rfl, (by show 2 ≤ sizeLine; decide), fun p10 H10 n10 => ⟨a, b, cs, _, p10, _, rfl, S9.new n10, by omega, S9.ne n10, SqL.of n10.2.1, (fun z => nomatch z), (by show 2 < 2 ^ 62; decide), fun H11 y F11 S11 hy => ⟨_, _, rfl, ?_⟩⟩⟩
      obtain ⟨hi', rfl⟩ : ∃ hi, y = oI hi := by
        simp only [List.mem_cons, List.not_mem_nil, or_false] at hy
        rcases hy with rfl | rfl
        · exact ⟨some _, rfl⟩
        · exact ⟨none, rfl⟩
      have he11 := ((he.same n8.1).mono F9).mono ((frm_same n10.1).trans F11)
      -- due
      refine ⟨fun z H' => z = .bl (withinD e lo hi') ∧ H11 = H', ?_, ?_⟩
      · rintro z H' ⟨rfl, rfl⟩
        refine ⟨_, rfl, rfl, rfl, (· = a), x, e, rfl, he11, _, rfl, _, rfl, (· = a), x, e, rfl, he11, _, rfl, rfl, _, rfl, iteNE rfl ?_⟩
        refine ⟨_, rfl, _, rfl, _, rfl, rfl, rfl, (· = a), x, e, lo, hi', rfl, he11, _, rfl, _, rfl, _, rfl, rfl, _, rfl, iteNE rfl ?_⟩
        refine ⟨_, rfl, a, b, cs, _, rfl, S11, by omega, fun H12 F12 S12 => ⟨_, rfl, iteF ?_⟩⟩
        refine ⟨_, rfl, a, b, cs, _, rfl, S12, by omega, fun H13 F13 S13 => ⟨_, rfl, iteF ?_⟩⟩
        exact ⟨⟨_, _, _, _, _, _, _, _, rfl⟩, S13.le (by omega)⟩
      · refine ⟨_, rfl, (· = a), x, e, rfl, he11, _, rfl, ite2 (fun h => ?_) (fun h => ?_)⟩
        · obtain ⟨i, rfl⟩ := isInt_eq h
          cases he11
          cases lo with
          | none =>
            refine ⟨_, rfl, rfl, _, rfl, iteT ⟨_, rfl, iteT ?_⟩⟩
            cases hi' with
            | none => exact ⟨_, rfl, rfl, _, rfl, iteT ⟨rfl, rfl⟩⟩
            | some u => exact ⟨_, rfl, rfl, _, rfl, iteF ⟨_, rfl, _, rfl, _, _, rfl, rfl, rfl, rfl⟩⟩
          | some l =>
            refine ⟨_, rfl, rfl, _, rfl, iteF ⟨_, rfl, _, rfl, _, _, rfl, rfl, _, rfl, ite2 (fun h1 => ?_) (fun h1 => ?_)⟩⟩
            · have h2 : decide (l ≤ i) = true := h1
              cases hi' with
              | none => exact ⟨_, rfl, rfl, _, rfl, iteT ⟨by show V.bl true = V.bl (decide (l ≤ i) && true); rw [h2]; rfl, rfl⟩⟩
              | some u => exact ⟨_, rfl, rfl, _, rfl, iteF ⟨_, rfl, _, rfl, _, _, rfl, rfl, by show V.bl _ = V.bl (decide (l ≤ i) && decide (i ≤ u)); rw [h2]; rfl, rfl⟩⟩
            · have h2 : decide (l ≤ i) = false := by cases e : decide (l ≤ i) with | true => exact absurd e h1 | false => rfl
              exact ⟨by show V.bl false = V.bl (decide (l ≤ i) && _); rw [h2]; rfl, rfl⟩
        · refine ⟨?_, rfl⟩
          cases e <;> first | rfl | exact absurd rfl h
    · rintro σ H2 ⟨⟨u2, u3, u4, u5, u6, u7, u8, u9, rfl⟩, S2⟩
      exact k _
theorem grel_is_lot_many_value : ∀ {vs zs : List V} {us ws : List Value}, Vals vs us → Vals zs ws → Vals (g_is_lot_many_value vs zs) (g_is_lot_many_value us ws)
  | _, _, _, _, .nil, .nil => .nil
  | _, _, _, _, .nil, (.cons _ .nil) => .nil
  | _, _, _, _, .nil, (.cons b0 (.cons b1 .nil)) => (.cons b1 (.cons b0 .nil))
  | _, _, _, _, .nil, (.cons _ (.cons _ (.cons _ _))) => .nil
  | _, _, _, _, (.cons _ _), .nil => .nil
  | _, _, _, _, (.cons _ _), (.cons _ .nil) => .nil
  | _, _, _, _, (.cons _ _), (.cons _ (.cons _ .nil)) => .nil
  | _, _, _, _, (.cons _ _), (.cons _ (.cons _ (.cons _ _))) => .nil
theorem grel_are_integers_value : ∀ {vs zs : List V} {us ws : List Value}, Vals vs us → Vals zs ws → Vals (g_are_integers_value vs zs) (g_are_integers_value us ws)
  | _, _, _, _, .nil, .nil => .nil
  | _, _, _, _, .nil, (.cons b0 .nil) => (.cons b0 .nil)
  | _, _, _, _, .nil, (.cons _ (.cons _ _)) => .nil
  | _, _, _, _, (.cons _ _), .nil => .nil
  | _, _, _, _, (.cons _ _), (.cons _ .nil) => .nil
  | _, _, _, _, (.cons _ _), (.cons _ (.cons _ _)) => .nil
theorem grel_is_numbers_most_many_value : ∀ {vs zs : List V} {us ws : List Value}, Vals vs us → Vals zs ws → Vals (g_is_numbers_most_many_value vs zs) (g_is_numbers_most_many_value us ws)
  | _, _, _, _, .nil, .nil => .nil
  | _, _, _, _, .nil, (.cons _ .nil) => .nil
  | _, _, _, _, .nil, (.cons _ (.cons _ .nil)) => .nil
  | _, _, _, _, .nil, (.cons b0 (.cons b1 (.cons b2 .nil))) => (.cons b2 (.cons b1 (.cons b0 .nil)))
  | _, _, _, _, .nil, (.cons _ (.cons _ (.cons _ (.cons _ _)))) => .nil
  | _, _, _, _, (.cons _ _), .nil => .nil
  | _, _, _, _, (.cons _ _), (.cons _ .nil) => .nil
  | _, _, _, _, (.cons _ _), (.cons _ (.cons _ .nil)) => .nil
  | _, _, _, _, (.cons _ _), (.cons _ (.cons _ (.cons _ .nil))) => .nil
  | _, _, _, _, (.cons _ _), (.cons _ (.cons _ (.cons _ (.cons _ _)))) => .nil
theorem grel_is_name_value : ∀ {vs zs : List V} {us ws : List Value}, Vals vs us → Vals zs ws → Vals (g_is_name_value vs zs) (g_is_name_value us ws)
  | _, _, _, _, .nil, .nil => .nil
  | _, _, _, _, .nil, (.cons b0 .nil) => (.cons b0 .nil)
  | _, _, _, _, .nil, (.cons _ (.cons _ _)) => .nil
  | _, _, _, _, (.cons _ _), .nil => .nil
  | _, _, _, _, (.cons _ _), (.cons _ .nil) => .nil
  | _, _, _, _, (.cons _ _), (.cons _ (.cons _ _)) => .nil
theorem grel_is_integer_value : ∀ {vs zs : List V} {us ws : List Value}, Vals vs us → Vals zs ws → Vals (g_is_integer_value vs zs) (g_is_integer_value us ws)
  | _, _, _, _, .nil, .nil => .nil
  | _, _, _, _, .nil, (.cons b0 .nil) => (.cons b0 .nil)
  | _, _, _, _, .nil, (.cons _ (.cons _ _)) => .nil
  | _, _, _, _, (.cons _ _), .nil => .nil
  | _, _, _, _, (.cons _ _), (.cons _ .nil) => .nil
  | _, _, _, _, (.cons _ _), (.cons _ (.cons _ _)) => .nil
theorem grel_is_within_most_least_value : ∀ {vs zs : List V} {us ws : List Value}, Vals vs us → Vals zs ws → Vals (g_is_within_most_least_value vs zs) (g_is_within_most_least_value us ws)
  | _, _, _, _, .nil, .nil => .nil
  | _, _, _, _, .nil, (.cons _ .nil) => .nil
  | _, _, _, _, .nil, (.cons _ (.cons _ .nil)) => .nil
  | _, _, _, _, .nil, (.cons b0 (.cons b1 (.cons b2 .nil))) => (.cons b2 (.cons b1 (.cons b0 .nil)))
  | _, _, _, _, .nil, (.cons _ (.cons _ (.cons _ (.cons _ _)))) => .nil
  | _, _, _, _, (.cons _ _), .nil => .nil
  | _, _, _, _, (.cons _ _), (.cons _ .nil) => .nil
  | _, _, _, _, (.cons _ _), (.cons _ (.cons _ .nil)) => .nil
  | _, _, _, _, (.cons _ _), (.cons _ (.cons _ (.cons _ .nil))) => .nil
  | _, _, _, _, (.cons _ _), (.cons _ (.cons _ (.cons _ (.cons _ _)))) => .nil
theorem all_mk {l : PySem.W.OpenLaw} {w : World} {K : PySem.W.Frag} {h : Heap} {mg : Str → Option Value} {fL f3 f4 f5 f6 f7 f8 f9 f11 f12 f13 f14 f15 f16 f17 f18 f19 : Addr} (X : K.In h) (G : h.Ns mainGlobals mg) (hfa : mg "law" = some (.ref fL))
    {od3 an3 od4 an4 od5 an5 od6 an6 od7 an7 od8 an8 od9 an9 od11 an11 od12 an12 od13 an13 od14 an14 od15 an15 od16 an16 od17 an17 od18 an18 od19 an19 : Option Addr} {sl3 sl4 sl5 sl6 sl7 sl8 sl9 sl11 sl12 sl13 sl14 sl15 sl16 sl17 sl18 sl19 : Array (Option Value)} {oc3 kV3 dc3 pm3 cd3 ct3 oc4 kV4 dc4 pm4 cd4 ct4 oc5 kV5 dc5 pm5 cd5 ct5 oc6 kV6 dc6 pm6 cd6 ct6 oc7 kV7 dc7 pm7 cd7 ct7 oc8 kV8 dc8 pm8 cd8 ct8 oc9 kV9 dc9 pm9 cd9 ct9 oc11 kV11 dc11 pm11 cd11 ct11 oc12 kV12 dc12 pm12 cd12 ct12 oc13 kV13 dc13 pm13 cd13 ct13 oc14 kV14 dc14 pm14 cd14 ct14 oc15 kV15 dc15 pm15 cd15 ct15 oc16 kV16 dc16 pm16 cd16 ct16 oc17 kV17 dc17 pm17 cd17 ct17 oc18 kV18 dc18 pm18 cd18 ct18 oc19 kV19 dc19 pm19 cd19 ct19 : Value}
    (a3 : PySem.W.nsIn K mainGlobals "is_list" = some (some (.ref f3))) (l3 : K.lookup f3 = some ⟨oc3, od3, .func (PySem.W.fnOf "is_list" "is_list" (defArgs s_is_list) (defBody s_is_list) (defScope s_is_list) .none kV3 dc3 pm3 an3 cd3 ct3), sl3⟩) (c3 : PySem.W.codeIn K cd3 "is_list" = true) (k3 : PySem.W.keepIn K (.ref f3) = true)
    (a4 : PySem.W.nsIn K mainGlobals "is_integer" = some (some (.ref f4))) (l4 : K.lookup f4 = some ⟨oc4, od4, .func (PySem.W.fnOf "is_integer" "is_integer" (defArgs s_is_integer) (defBody s_is_integer) (defScope s_is_integer) .none kV4 dc4 pm4 an4 cd4 ct4), sl4⟩) (c4 : PySem.W.codeIn K cd4 "is_integer" = true) (k4 : PySem.W.keepIn K (.ref f4) = true)
    (a5 : PySem.W.nsIn K mainGlobals "is_within" = some (some (.ref f5))) (l5 : K.lookup f5 = some ⟨oc5, od5, .func (PySem.W.fnOf "is_within" "is_within" (defArgs s_is_within) (defBody s_is_within) (defScope s_is_within) .none kV5 dc5 pm5 an5 cd5 ct5), sl5⟩) (c5 : PySem.W.codeIn K cd5 "is_within" = true) (k5 : PySem.W.keepIn K (.ref f5) = true)
    (a6 : PySem.W.nsIn K mainGlobals "are_integers" = some (some (.ref f6))) (l6 : K.lookup f6 = some ⟨oc6, od6, .func (PySem.W.fnOf "are_integers" "are_integers" (defArgs s_are_integers) (defBody s_are_integers) (defScope s_are_integers) .none kV6 dc6 pm6 an6 cd6 ct6), sl6⟩) (c6 : PySem.W.codeIn K cd6 "are_integers" = true) (k6 : PySem.W.keepIn K (.ref f6) = true)
    (a7 : PySem.W.nsIn K mainGlobals "is_numbers" = some (some (.ref f7))) (l7 : K.lookup f7 = some ⟨oc7, od7, .func (PySem.W.fnOf "is_numbers" "is_numbers" (defArgs s_is_numbers) (defBody s_is_numbers) (defScope s_is_numbers) .none kV7 dc7 pm7 an7 cd7 ct7), sl7⟩) (c7 : PySem.W.codeIn K cd7 "is_numbers" = true) (k7 : PySem.W.keepIn K (.ref f7) = true)
    (a8 : PySem.W.nsIn K mainGlobals "is_lot" = some (some (.ref f8))) (l8 : K.lookup f8 = some ⟨oc8, od8, .func (PySem.W.fnOf "is_lot" "is_lot" (defArgs s_is_lot) (defBody s_is_lot) (defScope s_is_lot) .none kV8 dc8 pm8 an8 cd8 ct8), sl8⟩) (c8 : PySem.W.codeIn K cd8 "is_lot" = true) (k8 : PySem.W.keepIn K (.ref f8) = true)
    (a9 : PySem.W.nsIn K mainGlobals "is_name" = some (some (.ref f9))) (l9 : K.lookup f9 = some ⟨oc9, od9, .func (PySem.W.fnOf "is_name" "is_name" (defArgs s_is_name) (defBody s_is_name) (defScope s_is_name) .none kV9 dc9 pm9 an9 cd9 ct9), sl9⟩) (c9 : PySem.W.codeIn K cd9 "is_name" = true) (k9 : PySem.W.keepIn K (.ref f9) = true)
    (a11 : PySem.W.nsIn K mainGlobals "_law_satchel" = some (some (.ref f11))) (l11 : K.lookup f11 = some ⟨oc11, od11, .func (PySem.W.fnOf "_law_satchel" "_law_satchel" (defArgs s__law_satchel) (defBody s__law_satchel) (defScope s__law_satchel) .none kV11 dc11 pm11 an11 cd11 ct11), sl11⟩) (c11 : PySem.W.codeIn K cd11 "_law_satchel" = true) (k11 : PySem.W.keepIn K (.ref f11) = true)
    (a12 : PySem.W.nsIn K mainGlobals "_law_reach" = some (some (.ref f12))) (l12 : K.lookup f12 = some ⟨oc12, od12, .func (PySem.W.fnOf "_law_reach" "_law_reach" (defArgs s__law_reach) (defBody s__law_reach) (defScope s__law_reach) .none kV12 dc12 pm12 an12 cd12 ct12), sl12⟩) (c12 : PySem.W.codeIn K cd12 "_law_reach" = true) (k12 : PySem.W.keepIn K (.ref f12) = true)
    (a13 : PySem.W.nsIn K mainGlobals "_law_gather" = some (some (.ref f13))) (l13 : K.lookup f13 = some ⟨oc13, od13, .func (PySem.W.fnOf "_law_gather" "_law_gather" (defArgs s__law_gather) (defBody s__law_gather) (defScope s__law_gather) .none kV13 dc13 pm13 an13 cd13 ct13), sl13⟩) (c13 : PySem.W.codeIn K cd13 "_law_gather" = true) (k13 : PySem.W.keepIn K (.ref f13) = true)
    (a14 : PySem.W.nsIn K mainGlobals "_law_value" = some (some (.ref f14))) (l14 : K.lookup f14 = some ⟨oc14, od14, .func (PySem.W.fnOf "_law_value" "_law_value" (defArgs s__law_value) (defBody s__law_value) (defScope s__law_value) .none kV14 dc14 pm14 an14 cd14 ct14), sl14⟩) (c14 : PySem.W.codeIn K cd14 "_law_value" = true) (k14 : PySem.W.keepIn K (.ref f14) = true)
    (a15 : PySem.W.nsIn K mainGlobals "_law_own_integer" = some (some (.ref f15))) (l15 : K.lookup f15 = some ⟨oc15, od15, .func (PySem.W.fnOf "_law_own_integer" "_law_own_integer" (defArgs s__law_own_integer) (defBody s__law_own_integer) (defScope s__law_own_integer) .none kV15 dc15 pm15 an15 cd15 ct15), sl15⟩) (c15 : PySem.W.codeIn K cd15 "_law_own_integer" = true) (k15 : PySem.W.keepIn K (.ref f15) = true)
    (a16 : PySem.W.nsIn K mainGlobals "_law_row" = some (some (.ref f16))) (l16 : K.lookup f16 = some ⟨oc16, od16, .func (PySem.W.fnOf "_law_row" "_law_row" (defArgs s__law_row) (defBody s__law_row) (defScope s__law_row) .none kV16 dc16 pm16 an16 cd16 ct16), sl16⟩) (c16 : PySem.W.codeIn K cd16 "_law_row" = true) (k16 : PySem.W.keepIn K (.ref f16) = true)
    (a17 : PySem.W.nsIn K mainGlobals "_law_rows_right" = some (some (.ref f17))) (l17 : K.lookup f17 = some ⟨oc17, od17, .func (PySem.W.fnOf "_law_rows_right" "_law_rows_right" (defArgs s__law_rows_right) (defBody s__law_rows_right) (defScope s__law_rows_right) .none kV17 dc17 pm17 an17 cd17 ct17), sl17⟩) (c17 : PySem.W.codeIn K cd17 "_law_rows_right" = true) (k17 : PySem.W.keepIn K (.ref f17) = true)
    (a18 : PySem.W.nsIn K mainGlobals "_law_names_right" = some (some (.ref f18))) (l18 : K.lookup f18 = some ⟨oc18, od18, .func (PySem.W.fnOf "_law_names_right" "_law_names_right" (defArgs s__law_names_right) (defBody s__law_names_right) (defScope s__law_names_right) .none kV18 dc18 pm18 an18 cd18 ct18), sl18⟩) (c18 : PySem.W.codeIn K cd18 "_law_names_right" = true) (k18 : PySem.W.keepIn K (.ref f18) = true)
    (a19 : PySem.W.nsIn K mainGlobals "law" = some (some (.ref f19))) (l19 : K.lookup f19 = some ⟨oc19, od19, .func (PySem.W.fnOf "law" "law" (defArgs s_law) (defBody s_law) (defScope s_law) .none kV19 dc19 pm19 an19 cd19 ct19), sl19⟩) (c19 : PySem.W.codeIn K cd19 "law" = true) (k19 : PySem.W.keepIn K (.ref f19) = true)
    (z_abs : PySem.W.nsIn K mainGlobals "abs" = some none)
    (z_all : PySem.W.nsIn K mainGlobals "all" = some none)
    (z_bool : PySem.W.nsIn K mainGlobals "bool" = some none)
    (z_int : PySem.W.nsIn K mainGlobals "int" = some none)
    (z_isinstance : PySem.W.nsIn K mainGlobals "isinstance" = some none)
    (z_len : PySem.W.nsIn K mainGlobals "len" = some none)
    (z_list : PySem.W.nsIn K mainGlobals "list" = some none)
    (z_range : PySem.W.nsIn K mainGlobals "range" = some none)
    (z_repr : PySem.W.nsIn K mainGlobals "repr" = some none)
    (z_sorted : PySem.W.nsIn K mainGlobals "sorted" = some none)
    (z_str : PySem.W.nsIn K mainGlobals "str" = some none)
    (z_tuple : PySem.W.nsIn K mainGlobals "tuple" = some none)
    (z_zip : PySem.W.nsIn K mainGlobals "zip" = some none)
    {t_NAME_SIGNS : Tok} (q_NAME_SIGNS : PySem.W.nsIn K mainGlobals "NAME_SIGNS" = some (some (.str "abcdefghijklmnopqrstuvwxyz0123456789" t_NAME_SIGNS)))
    {t_LONGEST_NAME : Tok} (q_LONGEST_NAME : PySem.W.nsIn K mainGlobals "LONGEST_NAME" = some (some (.int 12 t_LONGEST_NAME)))
    : ∃ fd : FuncData, (∀ (s : Shared) (v : Value), BindsTo s fd ⟨[v], []⟩ [("script", v)]) ∧ ∀ base : Heap, K.In base → base.Ns mainGlobals mg → FnOk l.prog w K mg base CX0 6 fL fd ["script"] (spLaw K) := by
  have e := hfa.symm.trans (PySem.W.mg_of X G a19)
  cases e
  have F3 := fun_mk (st := s_is_list) l3 c3 k3
  have F4 := fun_mk (st := s_is_integer) l4 c4 k4
  have F5 := fun_mk (st := s_is_within) l5 c5 k5
  have F6 := fun_mk (st := s_are_integers) l6 c6 k6
  have F7 := fun_mk (st := s_is_numbers) l7 c7 k7
  have F8 := fun_mk (st := s_is_lot) l8 c8 k8
  have F9 := fun_mk (st := s_is_name) l9 c9 k9
  have F11 := fun_mk (st := s__law_satchel) l11 c11 k11
  have F12 := fun_mk (st := s__law_reach) l12 c12 k12
  have F13 := fun_mk (st := s__law_gather) l13 c13 k13
  have F14 := fun_mk (st := s__law_value) l14 c14 k14
  have F15 := fun_mk (st := s__law_own_integer) l15 c15 k15
  have F16 := fun_mk (st := s__law_row) l16 c16 k16
  have F17 := fun_mk (st := s__law_rows_right) l17 c17 k17
  have F18 := fun_mk (st := s__law_names_right) l18 c18 k18
  have F19 := fun_mk (st := s_law) l19 c19 k19
  have T : Txt K mg (fun i => ([0, 0, 0, f3, f4, f5, f6, f7, f8, f9, 0, f11, f12, f13, f14, f15, f16, f17, f18, fL] : List Addr).getD i 0) (fun i => ([PySem.W.fnOf "" "" (defArgs s_law) [] (defScope s_law) .none .none .none .none none .none .none, PySem.W.fnOf "" "" (defArgs s_law) [] (defScope s_law) .none .none .none .none none .none .none, PySem.W.fnOf "" "" (defArgs s_law) [] (defScope s_law) .none .none .none .none none .none .none, PySem.W.fnOf "is_list" "is_list" (defArgs s_is_list) (defBody s_is_list) (defScope s_is_list) .none kV3 dc3 pm3 an3 cd3 ct3, PySem.W.fnOf "is_integer" "is_integer" (defArgs s_is_integer) (defBody s_is_integer) (defScope s_is_integer) .none kV4 dc4 pm4 an4 cd4 ct4, PySem.W.fnOf "is_within" "is_within" (defArgs s_is_within) (defBody s_is_within) (defScope s_is_within) .none kV5 dc5 pm5 an5 cd5 ct5, PySem.W.fnOf "are_integers" "are_integers" (defArgs s_are_integers) (defBody s_are_integers) (defScope s_are_integers) .none kV6 dc6 pm6 an6 cd6 ct6, PySem.W.fnOf "is_numbers" "is_numbers" (defArgs s_is_numbers) (defBody s_is_numbers) (defScope s_is_numbers) .none kV7 dc7 pm7 an7 cd7 ct7, PySem.W.fnOf "is_lot" "is_lot" (defArgs s_is_lot) (defBody s_is_lot) (defScope s_is_lot) .none kV8 dc8 pm8 an8 cd8 ct8, PySem.W.fnOf "is_name" "is_name" (defArgs s_is_name) (defBody s_is_name) (defScope s_is_name) .none kV9 dc9 pm9 an9 cd9 ct9, PySem.W.fnOf "" "" (defArgs s_law) [] (defScope s_law) .none .none .none .none none .none .none, PySem.W.fnOf "_law_satchel" "_law_satchel" (defArgs s__law_satchel) (defBody s__law_satchel) (defScope s__law_satchel) .none kV11 dc11 pm11 an11 cd11 ct11, PySem.W.fnOf "_law_reach" "_law_reach" (defArgs s__law_reach) (defBody s__law_reach) (defScope s__law_reach) .none kV12 dc12 pm12 an12 cd12 ct12, PySem.W.fnOf "_law_gather" "_law_gather" (defArgs s__law_gather) (defBody s__law_gather) (defScope s__law_gather) .none kV13 dc13 pm13 an13 cd13 ct13, PySem.W.fnOf "_law_value" "_law_value" (defArgs s__law_value) (defBody s__law_value) (defScope s__law_value) .none kV14 dc14 pm14 an14 cd14 ct14, PySem.W.fnOf "_law_own_integer" "_law_own_integer" (defArgs s__law_own_integer) (defBody s__law_own_integer) (defScope s__law_own_integer) .none kV15 dc15 pm15 an15 cd15 ct15, PySem.W.fnOf "_law_row" "_law_row" (defArgs s__law_row) (defBody s__law_row) (defScope s__law_row) .none kV16 dc16 pm16 an16 cd16 ct16, PySem.W.fnOf "_law_rows_right" "_law_rows_right" (defArgs s__law_rows_right) (defBody s__law_rows_right) (defScope s__law_rows_right) .none kV17 dc17 pm17 an17 cd17 ct17, PySem.W.fnOf "_law_names_right" "_law_names_right" (defArgs s__law_names_right) (defBody s__law_names_right) (defScope s__law_names_right) .none kV18 dc18 pm18 an18 cd18 ct18, PySem.W.fnOf "law" "law" (defArgs s_law) (defBody s_law) (defScope s_law) .none kV19 dc19 pm19 an19 cd19 ct19] : List FuncData).getD i (PySem.W.fnOf "" "" (defArgs s_law) [] (defScope s_law) .none .none .none .none none .none .none)) := {
    F_is_list := F3
    g_is_list := PySem.W.mg_of X G a3
    b_is_list := F3.binds (ps := ["value"]) fun _ _ _ _ _ _ us hl => match us, hl with | [_], _ => rfl
    F_is_integer := F4
    g_is_integer := PySem.W.mg_of X G a4
    b_is_integer := F4.binds (ps := ["value"]) fun _ _ _ _ _ _ us hl => match us, hl with | [_], _ => rfl
    F_is_within := F5
    g_is_within := PySem.W.mg_of X G a5
    b_is_within := F5.binds (ps := ["value", "least", "most"]) fun _ _ _ _ _ _ us hl => match us, hl with | [_, _, _], _ => rfl
    F_are_integers := F6
    g_are_integers := PySem.W.mg_of X G a6
    b_are_integers := F6.binds (ps := ["value"]) fun _ _ _ _ _ _ us hl => match us, hl with | [_], _ => rfl
    F_is_numbers := F7
    g_is_numbers := PySem.W.mg_of X G a7
    b_is_numbers := F7.binds (ps := ["value", "many", "most"]) fun _ _ _ _ _ _ us hl => match us, hl with | [_, _, _], _ => rfl
    F_is_lot := F8
    g_is_lot := PySem.W.mg_of X G a8
    b_is_lot := F8.binds (ps := ["value", "many"]) fun _ _ _ _ _ _ us hl => match us, hl with | [_, _], _ => rfl
    F_is_name := F9
    g_is_name := PySem.W.mg_of X G a9
    b_is_name := F9.binds (ps := ["value"]) fun _ _ _ _ _ _ us hl => match us, hl with | [_], _ => rfl
    F__law_satchel := F11
    g__law_satchel := PySem.W.mg_of X G a11
    b__law_satchel := F11.binds (ps := ["script"]) fun _ _ _ _ _ _ us hl => match us, hl with | [_], _ => rfl
    F__law_reach := F12
    g__law_reach := PySem.W.mg_of X G a12
    b__law_reach := F12.binds (ps := ["satchel", "many"]) fun _ _ _ _ _ _ us hl => match us, hl with | [_, _], _ => rfl
    F__law_gather := F13
    g__law_gather := PySem.W.mg_of X G a13
    b__law_gather := F13.binds (ps := ["satchel", "some"]) fun _ _ _ _ _ _ us hl => match us, hl with | [_, _], _ => rfl
    F__law_value := F14
    g__law_value := PySem.W.mg_of X G a14
    b__law_value := F14.binds (ps := ["satchel"]) fun _ _ _ _ _ _ us hl => match us, hl with | [_], _ => rfl
    F__law_own_integer := F15
    g__law_own_integer := PySem.W.mg_of X G a15
    b__law_own_integer := F15.binds (ps := ["value"]) fun _ _ _ _ _ _ us hl => match us, hl with | [_], _ => rfl
    F__law_row := F16
    g__law_row := PySem.W.mg_of X G a16
    b__law_row := F16.binds (ps := ["satchel", "most"]) fun _ _ _ _ _ _ us hl => match us, hl with | [_, _], _ => rfl
    F__law_rows_right := F17
    g__law_rows_right := PySem.W.mg_of X G a17
    b__law_rows_right := F17.binds (ps := ["satchel"]) fun _ _ _ _ _ _ us hl => match us, hl with | [_], _ => rfl
    F__law_names_right := F18
    g__law_names_right := PySem.W.mg_of X G a18
    b__law_names_right := F18.binds (ps := ["satchel"]) fun _ _ _ _ _ _ us hl => match us, hl with | [_], _ => rfl
    F_law := F19
    g_law := PySem.W.mg_of X G a19
    b_law := F19.binds (ps := ["script"]) fun _ _ _ _ _ _ us hl => match us, hl with | [_], _ => rfl
    kb_is_lot_many_value := MT.Fun.kbn F8 0 ["many", "value"] (fun us ws => g_is_lot_many_value us ws) (fun r1 r2 => grel_is_lot_many_value r1 r2) fun _ _ _ _ _ _ us ws h1 h2 => match us, h1, ws, h2 with | [], _, [_, _], _ => rfl
    kb_are_integers_value := MT.Fun.kbn F6 0 ["value"] (fun us ws => g_are_integers_value us ws) (fun r1 r2 => grel_are_integers_value r1 r2) fun _ _ _ _ _ _ us ws h1 h2 => match us, h1, ws, h2 with | [], _, [_], _ => rfl
    kb_is_numbers_most_many_value := MT.Fun.kbn F7 0 ["most", "many", "value"] (fun us ws => g_is_numbers_most_many_value us ws) (fun r1 r2 => grel_is_numbers_most_many_value r1 r2) fun _ _ _ _ _ _ us ws h1 h2 => match us, h1, ws, h2 with | [], _, [_, _, _], _ => rfl
    kb_is_name_value := MT.Fun.kbn F9 0 ["value"] (fun us ws => g_is_name_value us ws) (fun r1 r2 => grel_is_name_value r1 r2) fun _ _ _ _ _ _ us ws h1 h2 => match us, h1, ws, h2 with | [], _, [_], _ => rfl
    kb_is_integer_value := MT.Fun.kbn F4 0 ["value"] (fun us ws => g_is_integer_value us ws) (fun r1 r2 => grel_is_integer_value r1 r2) fun _ _ _ _ _ _ us ws h1 h2 => match us, h1, ws, h2 with | [], _, [_], _ => rfl
    kb_is_within_most_least_value := MT.Fun.kbn F5 0 ["most", "least", "value"] (fun us ws => g_is_within_most_least_value us ws) (fun r1 r2 => grel_is_within_most_least_value r1 r2) fun _ _ _ _ _ _ us ws h1 h2 => match us, h1, ws, h2 with | [], _, [_, _, _], _ => rfl
    n_abs := PySem.W.mg_none_of X G z_abs
    n_all := PySem.W.mg_none_of X G z_all
    n_bool := PySem.W.mg_none_of X G z_bool
    n_int := PySem.W.mg_none_of X G z_int
    n_isinstance := PySem.W.mg_none_of X G z_isinstance
    n_len := PySem.W.mg_none_of X G z_len
    n_list := PySem.W.mg_none_of X G z_list
    n_range := PySem.W.mg_none_of X G z_range
    n_repr := PySem.W.mg_none_of X G z_repr
    n_sorted := PySem.W.mg_none_of X G z_sorted
    n_str := PySem.W.mg_none_of X G z_str
    n_tuple := PySem.W.mg_none_of X G z_tuple
    n_zip := PySem.W.mg_none_of X G z_zip
    c_NAME_SIGNS := ⟨_, PySem.W.mg_of X G q_NAME_SIGNS, ⟨_, rfl⟩⟩
    c_LONGEST_NAME := ⟨_, PySem.W.mg_of X G q_LONGEST_NAME, ⟨_, rfl⟩⟩
  }
  exact ⟨PySem.W.fnOf "law" "law" (defArgs s_law) (defBody s_law) (defScope s_law) .none kV19 dc19 pm19 an19 cd19 ct19, fun s v => .of_eq rfl, fun base _ _ => ok_law T⟩
theorem walk {l : PySem.W.OpenLaw} {q : Program} {loose : List Str} {XP : (Str → Option Value) → Heap → Prop} {YP : World → Heap → Prop} {d : DefRec} {K : Params → PySem.W.Frag} (hn : l.most = some 63) (hdf : d.params.defaults = [])
    (hY : ∀ (w : World) (h : Heap), YP w h → (K w.params).In h)
    (F : ∀ (w : World) (mg : Str → Option Value) (fa : Addr) (h : Heap), (K w.params).In h → h.Ns mainGlobals mg → mg d.name = some (.ref fa) →
      ∃ fd : FuncData, (∀ (s : Shared) (u : Value), BindsTo s fd ⟨[u], []⟩ [("script", u)]) ∧ ∀ base : Heap, (K w.params).In base → base.Ns mainGlobals mg → FnOk l.prog w (K w.params) mg base CX0 6 fa fd ["script"] (spLaw (K w.params))) :
    PySem.W.WalkO q loose XP YP l.row.toRowW d [] (fun f vs => PySem.call f vs) :=
  L2.walk_of (n := 63) (k := 6) (x := "script") (CX := fun _ => CX0) (sp := fun w => spLaw (K w.params)) hn (by decide) hdf ⟨rfl, by decide, by decide⟩ hY F (fun _ _ a ns hl _ hS => ⟨a, ns, rfl, hS, hl, fun _ => rfl⟩) fun _ _ _ _ _ z => z
end K01
open PySem PySem.W PyProof.Rows in
set_option maxRecDepth 100000 in
set_option maxHeartbeats 0 in
theorem PySem.Challenge.cw_meettrees_k01_plain_values_told_holds : PySem.Challenge.rw_meettrees_k01_plain_values_told.Holds := by
  w_on; o_law; k_head; (case hw => w_witness2)
  k_fill
  refine K01.walk (l := PySem.Challenge.rw_meettrees_k01_plain_values_told) rfl rfl (fun w h Y => PySem.W.kIn_of Y) ?F
  case F =>
    intro w mg fa h KX G hmg
    refine' K01.all_mk KX G hmg ?a3 ?l3 ?c3 ?k3 ?a4 ?l4 ?c4 ?k4 ?a5 ?l5 ?c5 ?k5 ?a6 ?l6 ?c6 ?k6 ?a7 ?l7 ?c7 ?k7 ?a8 ?l8 ?c8 ?k8 ?a9 ?l9 ?c9 ?k9 ?a11 ?l11 ?c11 ?k11 ?a12 ?l12 ?c12 ?k12 ?a13 ?l13 ?c13 ?k13 ?a14 ?l14 ?c14 ?k14 ?a15 ?l15 ?c15 ?k15 ?a16 ?l16 ?c16 ?k16 ?a17 ?l17 ?c17 ?k17 ?a18 ?l18 ?c18 ?k18 ?a19 ?l19 ?c19 ?k19 ?z_abs ?z_all ?z_bool ?z_int ?z_isinstance ?z_len ?z_list ?z_range ?z_repr ?z_sorted ?z_str ?z_tuple ?z_zip ?q_NAME_SIGNS ?q_LONGEST_NAME
    (case a3 => k_is)
    (case l3 => k_is)
    (case c3 => k_is)
    (case k3 => k_is)
    (case a4 => k_is)
    (case l4 => k_is)
    (case c4 => k_is)
    (case k4 => k_is)
    (case a5 => k_is)
    (case l5 => k_is)
    (case c5 => k_is)
    (case k5 => k_is)
    (case a6 => k_is)
    (case l6 => k_is)
    (case c6 => k_is)
    (case k6 => k_is)
    (case a7 => k_is)
    (case l7 => k_is)
    (case c7 => k_is)
    (case k7 => k_is)
    (case a8 => k_is)
    (case l8 => k_is)
    (case c8 => k_is)
    (case k8 => k_is)
    (case a9 => k_is)
    (case l9 => k_is)
    (case c9 => k_is)
    (case k9 => k_is)
    (case a11 => k_is)
    (case l11 => k_is)
    (case c11 => k_is)
    (case k11 => k_is)
    (case a12 => k_is)
    (case l12 => k_is)
    (case c12 => k_is)
    (case k12 => k_is)
    (case a13 => k_is)
    (case l13 => k_is)
    (case c13 => k_is)
    (case k13 => k_is)
    (case a14 => k_is)
    (case l14 => k_is)
    (case c14 => k_is)
    (case k14 => k_is)
    (case a15 => k_is)
    (case l15 => k_is)
    (case c15 => k_is)
    (case k15 => k_is)
    (case a16 => k_is)
    (case l16 => k_is)
    (case c16 => k_is)
    (case k16 => k_is)
    (case a17 => k_is)
    (case l17 => k_is)
    (case c17 => k_is)
    (case k17 => k_is)
    (case a18 => k_is)
    (case l18 => k_is)
    (case c18 => k_is)
    (case k18 => k_is)
    (case a19 => k_is)
    (case l19 => k_is)
    (case c19 => k_is)
    (case k19 => k_is)
    (case z_abs => k_is)
    (case z_all => k_is)
    (case z_bool => k_is)
    (case z_int => k_is)
    (case z_isinstance => k_is)
    (case z_len => k_is)
    (case z_list => k_is)
    (case z_range => k_is)
    (case z_repr => k_is)
    (case z_sorted => k_is)
    (case z_str => k_is)
    (case z_tuple => k_is)
    (case z_zip => k_is)
    (case q_NAME_SIGNS => k_is)
    (case q_LONGEST_NAME => k_is)
