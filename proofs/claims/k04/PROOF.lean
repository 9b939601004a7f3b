import PyProof.Rows.All
import Wide.All
import OpenK.AllK
import Wide.FinOn
import HandS.ForMost
import HandS.Wide
import HandS.IsInst
import HandS.Defaults
import HandS.MakeKwOnly
import HandS.SortInts
import HandS.RaiseMore
import HandS.Zip
import HandS.TupAny
import HandS.Lambda
import HandS.EndTab
import HandS.ForExc
import HandS.ExcInit
import HandS.ExcField
import HandS.ExcIs
import KE.KExcIs
import KE.KUnpackStar
import HandS.TupMul
import HandS.ExcValue
import KE.KDflt
import HandS.Codes
import PyProof.ReprLen
import KE.KDictDisplayH
import HandS.Style
import HandS.TupLe
import KE.KDictWalk
import HandS.Star
import KE.KNestM
import PyProof.Rows.RegStrFacts
import HandS.DeepEq
import HandS.ListEq
import HandS.MakeKw
import HandS.OwnEq
import HandS.ClsMeth
import HandS.Rev
import HandS.Conv
import PyProof.InstNe
import PySem.Challenge.RW_meettrees_k04_blocks_and_disks_made
set_option Elab.async false
set_option linter.all false
set_option maxRecDepth 100000
/-! what all laws share: frames, what draws, calls by names alone -/
namespace MT
open PySem L2

/-! ### frames -/
/-- all but what M names stays -/
def Frm (M : Addr → Prop) (H H' : Hp) : Prop := ∀ c o, ¬ M c → H c = some o → H' c = some o
theorem Frm.refl {M : Addr → Prop} {H : Hp} : Frm M H H := fun _ _ _ h => h
theorem Frm.trans {M : Addr → Prop} {H H1 H2 : Hp} (a : Frm M H H1) (b : Frm M H1 H2) : Frm M H H2 := fun c o n h => b c o n (a c o n h)
theorem Frm.mono {M N : Addr → Prop} {H H' : Hp} (a : Frm M H H') (h : ∀ c, M c → N c) : Frm N H H' := fun c o n e => a c o (fun m => n (h c m)) e
theorem frm_same {M : Addr → Prop} {H H' : Hp} (s : Same H H') : Frm M H H' := fun c o _ h => s c o h
theorem same_new {H : Hp} {p : Addr} {o : HO} (h : H p = none) : Same H (upd H p o) := fun c u e => by
  rw [upd_ne (ne_of_none e h)]
  exact e
/-- a list in any heap behind -/
theorem Frm.seq {M : Addr → Prop} {K : PySem.W.Frag} {H H' : Hp} {a : Addr} {xs : List V} (e : Frm M H H') (n : ¬ M a) (h : SqL K H a xs) : SqL K H' a xs := by
  rcases h with (h | ⟨o, h⟩) | h
  · exact .inl (.inl (e _ _ n h))
  · exact .inl (.inr ⟨o, e _ _ n h⟩)
  · exact .inr h

/-! ### what draws -/
structure Sat (a b : Addr) (cs : List Int) (t r : Int) (H : Hp) : Prop where
  ha : H a = some (.lst [.ref b, .int t, .int r])
  hb : H b = some (.lst (cs.map V.int))
  ht : 0 ≤ t
  hr : 0 ≤ r
/-- at a stands what draws: at most n draws were made -/
def Sx (a b : Addr) (cs : List Int) (n : Nat) (H : Hp) : Prop := ∃ t r, Sat a b cs t r H ∧ t ≤ (n : Int)
theorem Sat.ne {a b : Addr} {cs : List Int} {t r : Int} {H : Hp} (s : Sat a b cs t r H) : b ≠ a := ne_of s.hb s.ha fun e => by
  injection e with e
  cases cs with
  | nil => cases e
  | cons x xs => injection e with e1 _; cases e1
theorem Sat.same {a b : Addr} {cs : List Int} {t r : Int} {H H' : Hp} (s : Sat a b cs t r H) (e : Same H H') : Sat a b cs t r H' := ⟨e _ _ s.ha, e _ _ s.hb, s.ht, s.hr⟩
theorem Sx.same {a b : Addr} {cs : List Int} {n : Nat} {H H' : Hp} (s : Sx a b cs n H) (e : Same H H') : Sx a b cs n H' := by
  obtain ⟨t, r, s, h⟩ := s
  exact ⟨t, r, s.same e, h⟩
theorem Sx.le {a b : Addr} {cs : List Int} {n m : Nat} {H : Hp} (s : Sx a b cs n H) (e : n ≤ m) : Sx a b cs m H := by
  obtain ⟨t, r, s, h⟩ := s
  exact ⟨t, r, s, by omega⟩
theorem Sat.upd {a b : Addr} {cs : List Int} {t r t' r' : Int} {H : Hp} (s : Sat a b cs t r H) (h1 : 0 ≤ t') (h2 : 0 ≤ r') : Sat a b cs t' r' (L2.upd H a (.lst [.ref b, .int t', .int r'])) := ⟨upd_same, by rw [upd_ne s.ne]; exact s.hb, h1, h2⟩
theorem frm_upd {H : Hp} {a : Addr} {o : HO} : Frm (· = a) H (L2.upd H a o) := fun c u n h => by rw [upd_ne n]; exact h
/-- the promise of a draw below m -/
def spDraw : Sp := fun vs H Q _ => ∃ (a b : Addr) (cs : List Int) (n : Nat) (m : Int), vs = [.ref a, .int m] ∧ Sx a b cs n H ∧ n ≤ 1000000 ∧ 0 < m ∧ m < 2 ^ 62 ∧
  ∀ H' d, Frm (· = a) H H' → Sx a b cs (n + 1) H' → 0 ≤ d → d < m → Q (.int d) H'
/-- the promise of a draw of one of some -/
def spPick (K : PySem.W.Frag) : Sp := fun vs H Q _ => ∃ (a b : Addr) (cs : List Int) (n : Nat) (p : Addr) (xs : List V), vs = [.ref a, .ref p] ∧ Sx a b cs n H ∧ n ≤ 1000000 ∧ p ≠ a ∧ SqL K H p xs ∧ xs ≠ [] ∧ xs.length < 2 ^ 62 ∧
  ∀ H' x, Frm (· = a) H H' → Sx a b cs (n + 1) H' → x ∈ xs → Q x H'

theorem draw_div {r m : Int} (h : 0 < m) (h2 : m < 2 ^ 62) : CDivW r m := wide_div (b := 62) h (by omega) (by decide) (by decide)
theorem canLay_ints : ∀ cs : List Int, PyData.canLayAll0 (cs.map PyData.int) = true
  | [] => by simp [PyData.canLayAll0]
  | c :: cs => by
    simp only [List.map_cons, PyData.canLayAll0, PyData.canLay0, canLay_ints cs, Bool.and_self]
theorem depth_ints : ∀ cs : List Int, PyData.depthAll (cs.map PyData.int) = 0
  | [] => by simp [PyData.depthAll]
  | c :: cs => by simp [PyData.depthAll, PyData.depth, depth_ints cs]
theorem shaped_ints (cs : List Int) : SeqAt.shaped (.list (cs.map PyData.int)) = true := by
  simp [SeqAt.shaped, PyData.canLay0, PyData.depth, canLay_ints, depth_ints]
theorem shaped_tints (cs : List Int) : SeqAt.shaped (.tuple (cs.map PyData.int)) = true := by
  simp [SeqAt.shaped, PyData.canLay0, PyData.depth, canLay_ints, depth_ints]
theorem dp_ints {K : PySem.W.Frag} {H : Hp} : ∀ cs : List Int, DpAll K H (cs.map V.int) (cs.map PyData.int)
  | [] => .nil
  | c :: cs => .cons (.int c) (dp_ints cs)
theorem ints_ne {K : PySem.W.Frag} {H : Hp} {p l : Addr} {cs : List Int} {Q : VK} (hp : SqL K H p (cs.map V.int)) (hl : SqL K H l []) (q : Q (.bl (!cs.isEmpty)) H) : rNeD K (.ref p) (.ref l) H Q :=
  ⟨.list (cs.map .int), .list [], .lst hp (dp_ints cs), .lst hl .nil, shaped_ints cs, shaped_ints [], by cases cs <;> exact q⟩
theorem mul_bd {x y A B : Int} (h0 : 0 ≤ x) (h1 : x ≤ A) (h2 : 0 ≤ y) (h3 : y ≤ B) : 0 ≤ x * y ∧ x * y ≤ A * B :=
  ⟨Int.mul_nonneg h0 h2, Int.le_trans (Int.mul_le_mul_of_nonneg_right h1 h2) (Int.mul_le_mul_of_nonneg_left h3 (Int.le_trans h0 h1))⟩
theorem cell_at {cs : List Int} (h : cs ≠ []) (t : Int) : ∃ c, atI (cs.map V.int) (t % ((cs.map V.int).length : Int)) = some (.int c) := by
  have l0 : 0 < cs.length := by cases cs with | nil => exact absurd rfl h | cons c cs => exact Nat.succ_pos _
  have e : ((cs.map V.int).length : Int) = cs.length := by rw [List.length_map]
  rw [e]
  have h1 : 0 ≤ t % (cs.length : Int) := Int.emod_nonneg _ (by omega)
  have h2 : t % (cs.length : Int) < cs.length := Int.emod_lt_of_pos _ (by omega)
  obtain ⟨j, hj⟩ : ∃ j : Nat, t % (cs.length : Int) = j := ⟨_, (Int.toNat_of_nonneg h1).symm⟩
  rw [hj]
  refine ⟨cs[j]'(by omega), atI_nat ?_⟩
  rw [List.getElem?_map, List.getElem?_eq_getElem (by omega)]
  rfl
theorem draw_rest {y v b : Int} {c : Bool} (e : y = 2 * (v - b)) (h : b ≤ v) : 0 ≤ y + (if c = true then 1 else 0) := by
  cases c
  · simp only [Bool.false_eq_true, if_false]; omega
  · simp only [if_true]; omega
/-! ### numbers as letters -/
section
variable {X : Cx}
theorem op_modL : OpR X (binaryOp .Mod) (fun x y H Q => ∃ i j, x = .int i ∧ y = .int j ∧ 0 < j ∧ ∀ z, z = i % j → 0 ≤ z → z < j → Q (.int z) H) := by
  intro pins s σ H x y v u Q I rx ry h
  obtain ⟨i, j, ex, ey, hj, q⟩ := h
  exact op_mod pins s σ H x y v u Q I rx ry ⟨i, j, ex, ey, hj, q _ rfl (Int.emod_nonneg _ (by omega)) (Int.emod_lt_of_pos _ hj)⟩
theorem op_mulL : OpR X (binaryOp .Mult) (fun x y H Q => ∃ i j, x = .int i ∧ y = .int j ∧ CMul i j ∧ ∀ z, z = i * j → Q (.int z) H) := by
  intro pins s σ H x y v u Q I rx ry h
  obtain ⟨i, j, ex, ey, hj, q⟩ := h
  exact op_mul pins s σ H x y v u Q I rx ry ⟨i, j, ex, ey, hj, q _ rfl⟩
theorem op_powL : OpR X (binaryOp .Pow) (fun x y H Q => ∃ i j, x = .int i ∧ y = .int j ∧ CPow i j ∧ ∀ z, z = i ^ j.toNat → Q (.int z) H) := by
  intro pins s σ H x y v u Q I rx ry h
  obtain ⟨i, j, ex, ey, hj, q⟩ := h
  exact op_pow pins s σ H x y v u Q I rx ry ⟨i, j, ex, ey, hj, q _ rfl⟩
theorem op_fdivL : OpR X (binaryOp .FloorDiv) (fun x y H Q => ∃ i j, x = .int i ∧ y = .int j ∧ CDivW i j ∧ ∀ z, z = i / j → Q (.int z) H) := by
  intro pins s σ H x y v u Q I rx ry h
  obtain ⟨i, j, ex, ey, hj, q⟩ := h
  exact op_fdivW pins s σ H x y v u Q I rx ry ⟨i, j, ex, ey, hj, q _ rfl⟩
end
/-! ### a call by names alone -/
section
variable {X : Cx} {CX : CXT} {k n : Nat} {f : Addr} {fd : FuncData} {ps ks : List Str} {sp : Sp} {E : XK} {x : Str} {p pos : Pos} {kws : List Keyword} {tk : TA} {g : List Value → List Value → List Value} {gV : List V → List V → List V}
theorem pe_callN0 (F : FnOk X.prog X.w X.K X.mg X.base CX k f fd ps sp) (hr : Room k X.A) (hg : Gl X x) (hm : X.mg x = some (.ref f)) (hk : PySem.W.keepIn X.K (.ref f) = true) (hb : KBn X.K fd ps 0 ks g gV) (hx : Passes CX X E)
    (hkw : PK X kws tk) (some_ : (backToKw pos (keywordEach kws X.env)).all (·.1.isSome) = true := by rfl) (names : (backToKw pos (keywordEach kws X.env)).filterMap (·.1) = ks := by rfl)
    (dbg : (x == ("__debug__" : Str)) = false := by decide)
    (plain : ((backTo pos (starEach [] X.env)).any (·.1) || (backToKw pos (keywordEach kws X.env)).any (·.1.isNone)) = false := by exact rfl) :
    PE X (.Call (.Name x p) [] kws pos) (tCallN 0 ks.length sp gV E tNil tk) :=
  ⟨fun pns st sl Hs Q I0 told => wpAny_Call_Name_kw (ld_glob I0 hg hm (PySem.W.callWith_KW0 (h₀ := X.base) I0.ok.mod.kin hk some_
    (thn (hkw.run pos pns st sl Hs _ I0 told) fun ws st2 ⟨zs, Ht, J, rel, _, len, go⟩ => ⟨J.kIn, by rw [names]; exact run_fnN (us := []) (vs := []) F hr hb hx J .nil rel rfl len go⟩) plain) dbg)⟩
end
theorem Fun.kbn {K : PySem.W.Frag} {x qual : Str} {st : Stmt} {f : Addr} {fd : FuncData} {ps : List Str} (F : Fun K x qual st f fd) (n : Nat) (ks : List Str) (g : {α : Type} → List α → List α → List α)
    (hrel : ∀ {vs zs : List V} {us ws : List Value}, Vals vs us → Vals zs ws → Vals (g vs zs) (g us ws))
    (h : ∀ (kV doc pm : Value) (an : Option Addr) (cdv ct : Value) (us ws : List Value), us.length = n → ws.length = ks.length → bindArgs (PySem.W.fnOf x qual (defArgs st) (defBody st) (defScope st) .none kV doc pm an cdv ct) ⟨us, ks.zip ws⟩ = pure (ps.zip (g us ws))) :
    KBn K fd ps n ks (fun us ws => g us ws) (fun vs zs => g vs zs) := by
  obtain ⟨oc, od, kV, doc, pm, an, cdv, ct, osl, rfl, lk, hcd⟩ := F.ex
  exact ⟨fun s us ws _ l1 l2 => BindsTo.of_eq (h kV doc pm an cdv ct us ws l1 l2), fun r1 r2 => hrel r1 r2⟩

/-! ### repr of a flag -/
def boolText (b : Bool) : Str := if b then "True" else "False"
theorem call_repr_bool {X : Cx} : CallR X (.builtin "repr") (fun xs H Q => ∃ b, xs = [.bl b] ∧ Q (.str (boolText b)) H) := by
  intro pins s σ H xs us Q I r h
  obtain ⟨b, rfl, q⟩ := h
  obtain ⟨u, rfl, r1⟩ := Vals.one r
  cases r1
  exact PySem.P.repr_of_bool ⟨.str (boolText b), H, I.tok _, ⟨_, rfl⟩, q⟩
theorem boolText_inj {a b : Bool} : decide (V.str (boolText a) = V.str (boolText b)) = (a == b) := by
  cases a <;> cases b <;> decide +kernel
end MT
/-! comprehensions over what may draw -/
namespace MT
open PySem L2

theorem Frm.updD {M : Addr → Prop} {H1 H : Hp} {D : Addr} {o : HO} (F : Frm M H1 H) (h : H1 D = none) : Frm M H1 (upd H D o) := fun c u n e => by
  rw [upd_ne (ne_of_none e h)]
  exact F c u n e
theorem Sx.updD {sa sb : Addr} {cs : List Int} {n m : Nat} {H1 H : Hp} {D : Addr} {o : HO} (S1 : Sx sa sb cs m H1) (h : H1 D = none) (S : Sx sa sb cs n H) : Sx sa sb cs n (upd H D o) := by
  obtain ⟨t, r, S, ht⟩ := S
  obtain ⟨t1, r1, S1, ht1⟩ := S1
  exact ⟨t, r, ⟨by rw [upd_ne (ne_of_none S1.ha h)]; exact S.ha, by rw [upd_ne (ne_of_none S1.hb h)]; exact S.hb, S.ht, S.hr⟩, ht⟩
/-- one turn: Ky of what is kept, Kn of what is passed by -/
def LcStep (g : TG) (tt : TT) (te : TE) (vs : List Nat) (σ : St) (x : V) (H : Hp) (Ky : VK) (Kn : Hp → Prop) : Prop :=
  g x (wipe σ vs) H fun σ2 H2 => wipe σ2 vs = wipe σ vs ∧ tt σ2 H2 fun b H3 => if b = true then te σ2 H3 Ky else Kn H3
/-- the walk J of a comprehension that fills the list at D, then Qd -/
def LcW (J : It) (g : TG) (tt : TT) (te : TE) (vs : List Nat) (σ : St) (H1 : Hp) (D : Addr) (Qd : Hp → Prop) : Prop :=
  ∃ Wd : Nat → Nat → Hp → Prop, (∃ left, Wd 0 left (upd H1 D (.lst []))) ∧ ∀ at_ left Hc, Wd at_ left Hc →
    (J.stop at_ Hc ∧ Qd Hc) ∨ (J.go at_ Hc ∧ ∃ Go : Hp → Prop, (∀ Hn, Go Hn → ∃ less, less < left ∧ Wd (at_ + 1) less Hn) ∧
      ∀ item Hn, J.yld at_ Hc item Hn → g item (wipe σ vs) Hn fun σt Ht => wipe σt vs = wipe σ vs ∧ tt σt Ht fun kept Hk =>
        if kept = true then te σt Hk fun new He => ∃ made, He D = some (.lst made) ∧ made.length < sizeLine ∧ Go (upd He D (.lst (made ++ [new]))) else Go Hk)
/-- over a list -/
theorem lcg_list {K : PySem.W.Frag} {a : Addr} {xs : List V} {g : TG} {tt : TT} {te : TE} {vs : List Nat} {σ : St} {H1 : Hp} {D : Addr} {Qd : Hp → Prop} (M : Addr → Prop) (St : Nat → Hp → Prop) (A : Nat → List V → Hp → Prop)
    (hD : H1 D = none) (src : ∀ H, Frm M H1 H → SqL K H a xs) (hlen : xs.length ≤ 10000000)
    (hup : ∀ i H l, Frm M H1 H → St i H → St i (upd H D (.lst l))) (hmono : ∀ i acc H l, Frm M H1 H → A i acc H → A i acc (upd H D (.lst l)))
    (h0 : St 0 H1) (hA0 : A 0 [] H1)
    (hs : ∀ i x acc H, xs[i]? = some x → Frm M H1 H → H D = some (.lst acc) → St i H → A i acc H → ∀ (Ky : VK) (Kn : Hp → Prop),
      (∀ y H', Frm M H1 H' → H' D = some (.lst acc) → St (i + 1) H' → A (i + 1) (acc ++ [y]) H' → Ky y H') → (∀ H', Frm M H1 H' → H' D = some (.lst acc) → St (i + 1) H' → A (i + 1) acc H' → Kn H') → LcStep g tt te vs σ x H Ky Kn)
    (hd : ∀ H acc, Frm M H1 H → H D = some (.lst acc) → St xs.length H → A xs.length acc H → acc.length ≤ xs.length → Qd H) :
    LcW (Itl K a) g tt te vs σ H1 D Qd := by
  refine lc_list (fun i H => i ≤ xs.length ∧ ∃ acc, Frm M H1 H ∧ H D = some (.lst acc) ∧ St i H ∧ A i acc H ∧ acc.length ≤ i)
    ⟨Nat.zero_le _, [], Frm.refl.updD hD, upd_same, hup _ _ _ Frm.refl h0, hmono _ _ _ _ Frm.refl hA0, Nat.le_refl _⟩ (fun i H _ ⟨_, _, F, _⟩ => src H F) ?_ ?_
  · rintro i x H hx ⟨hi, acc, F, hDa, hS, hA, hlen2⟩
    have hi2 : i < xs.length := (List.getElem?_eq_some_iff.mp hx).1
    refine hs i x acc H hx F hDa hS hA _ _ (fun y H' F' hD' hS' hA' => ?_) (fun H' F' hD' hS' hA' => ?_)
    · refine ⟨acc, hD', ?_, hi2, acc ++ [y], F'.updD hD, upd_same, hup _ _ _ F' hS', hmono _ _ _ _ F' hA', ?_⟩
      · rw [sizeLine_eq]
        omega
      · rw [List.length_append, List.length_singleton]
        omega
    · exact ⟨hi2, acc, F', hD', hS', hA', by omega⟩
  · rintro H ⟨_, acc, F, hDa, hS, hA, hlen2⟩
    exact hd H acc F hDa hS hA hlen2
/-- over a tuple -/
theorem lcg_tup {K : PySem.W.Frag} {a : Addr} {xs : List V} {g : TG} {tt : TT} {te : TE} {vs : List Nat} {σ : St} {H1 : Hp} {D : Addr} {Qd : Hp → Prop} (M : Addr → Prop) (St : Nat → Hp → Prop) (A : Nat → List V → Hp → Prop)
    (hD : H1 D = none) (src : ∀ H, Frm M H1 H → SqT K H a xs) (hlen : xs.length ≤ 10000000)
    (hup : ∀ i H l, Frm M H1 H → St i H → St i (upd H D (.lst l))) (hmono : ∀ i acc H l, Frm M H1 H → A i acc H → A i acc (upd H D (.lst l)))
    (h0 : St 0 H1) (hA0 : A 0 [] H1)
    (hs : ∀ i x acc H, xs[i]? = some x → Frm M H1 H → H D = some (.lst acc) → St i H → A i acc H → ∀ (Ky : VK) (Kn : Hp → Prop),
      (∀ y H', Frm M H1 H' → H' D = some (.lst acc) → St (i + 1) H' → A (i + 1) (acc ++ [y]) H' → Ky y H') → (∀ H', Frm M H1 H' → H' D = some (.lst acc) → St (i + 1) H' → A (i + 1) acc H' → Kn H') → LcStep g tt te vs σ x H Ky Kn)
    (hd : ∀ H acc, Frm M H1 H → H D = some (.lst acc) → St xs.length H → A xs.length acc H → acc.length ≤ xs.length → Qd H) :
    LcW (Itt K a) g tt te vs σ H1 D Qd := by
  refine lc_tup (fun i H => i ≤ xs.length ∧ ∃ acc, Frm M H1 H ∧ H D = some (.lst acc) ∧ St i H ∧ A i acc H ∧ acc.length ≤ i)
    ⟨Nat.zero_le _, [], Frm.refl.updD hD, upd_same, hup _ _ _ Frm.refl h0, hmono _ _ _ _ Frm.refl hA0, Nat.le_refl _⟩ (fun i H _ ⟨_, _, F, _⟩ => src H F) ?_ ?_
  · rintro i x H hx ⟨hi, acc, F, hDa, hS, hA, hlen2⟩
    have hi2 : i < xs.length := (List.getElem?_eq_some_iff.mp hx).1
    refine hs i x acc H hx F hDa hS hA _ _ (fun y H' F' hD' hS' hA' => ?_) (fun H' F' hD' hS' hA' => ?_)
    · refine ⟨acc, hD', ?_, hi2, acc ++ [y], F'.updD hD, upd_same, hup _ _ _ F' hS', hmono _ _ _ _ F' hA', ?_⟩
      · rw [sizeLine_eq]
        omega
      · rw [List.length_append, List.length_singleton]
        omega
    · exact ⟨hi2, acc, F', hD', hS', hA', by omega⟩
  · rintro H ⟨_, acc, F, hDa, hS, hA, hlen2⟩
    exact hd H acc F hDa hS hA hlen2
/-- over a range -/
theorem lcg_range {lo : Int} {n : Nat} {g : TG} {tt : TT} {te : TE} {vs : List Nat} {σ : St} {H1 : Hp} {D : Addr} {Qd : Hp → Prop} (M : Addr → Prop) (St : Nat → Hp → Prop) (A : Nat → List V → Hp → Prop)
    (hD : H1 D = none)  (hlen : n ≤ 10000000)
    (hup : ∀ i H l, Frm M H1 H → St i H → St i (upd H D (.lst l))) (hmono : ∀ i acc H l, Frm M H1 H → A i acc H → A i acc (upd H D (.lst l)))
    (h0 : St 0 H1) (hA0 : A 0 [] H1)
    (hs : ∀ i  acc H, i < n → Frm M H1 H → H D = some (.lst acc) → St i H → A i acc H → ∀ (Ky : VK) (Kn : Hp → Prop),
      (∀ y H', Frm M H1 H' → H' D = some (.lst acc) → St (i + 1) H' → A (i + 1) (acc ++ [y]) H' → Ky y H') → (∀ H', Frm M H1 H' → H' D = some (.lst acc) → St (i + 1) H' → A (i + 1) acc H' → Kn H') → LcStep g tt te vs σ (.int (lo + i)) H Ky Kn)
    (hd : ∀ H acc, Frm M H1 H → H D = some (.lst acc) → St n H → A n acc H → acc.length ≤ n → Qd H) :
    LcW (Itr lo n) g tt te vs σ H1 D Qd := by
  refine lc_range (fun i H => i ≤ n ∧ ∃ acc, Frm M H1 H ∧ H D = some (.lst acc) ∧ St i H ∧ A i acc H ∧ acc.length ≤ i)
    ⟨Nat.zero_le _, [], Frm.refl.updD hD, upd_same, hup _ _ _ Frm.refl h0, hmono _ _ _ _ Frm.refl hA0, Nat.le_refl _⟩  ?_ ?_
  · rintro i  H hx ⟨hi, acc, F, hDa, hS, hA, hlen2⟩
    have hi2 : i < n := hx
    refine hs i  acc H hx F hDa hS hA _ _ (fun y H' F' hD' hS' hA' => ?_) (fun H' F' hD' hS' hA' => ?_)
    · refine ⟨acc, hD', ?_, hi2, acc ++ [y], F'.updD hD, upd_same, hup _ _ _ F' hS', hmono _ _ _ _ F' hA', ?_⟩
      · rw [sizeLine_eq]
        omega
      · rw [List.length_append, List.length_singleton]
        omega
    · exact ⟨hi2, acc, F', hD', hS', hA', by omega⟩
  · rintro H ⟨_, acc, F, hDa, hS, hA, hlen2⟩
    exact hd H acc F hDa hS hA hlen2
end MT
/-! values as data, whatever else the heap holds -/
namespace MT
open PySem L2

mutual
/-- the value v is the data d, none of it at an address of M; a dict's parts are not told -/
inductive Dv (K : PySem.W.Frag) (M : Addr → Prop) (H : Hp) : V → PyData → Prop
  | non : Dv K M H .non .none
  | bl (b : Bool) : Dv K M H (.bl b) (.bool b)
  | int (i : Int) : Dv K M H (.int i) (.int i)
  | str (x : Str) : Dv K M H (.str x) (.str x)
  | lst {p : Addr} {xs : List V} {ds : List PyData} : ¬ M p → SqL K H p xs → DvAll K M H xs ds → Dv K M H (.ref p) (.list ds)
  | tup {p : Addr} {xs : List V} {ds : List PyData} : ¬ M p → SqT K H p xs → DvAll K M H xs ds → Dv K M H (.ref p) (.tuple ds)
  | dct {p : Addr} {kvs : List (Key × V)} {ks : List (PyData × PyData)} : ¬ M p → H p = some (.dK kvs) → Dv K M H (.ref p) (.dict ks)
  | dcT {p : Addr} {kvs : List (List Key × V)} {ks : List (PyData × PyData)} : ¬ M p → H p = some (.dT kvs) → Dv K M H (.ref p) (.dict ks)
inductive DvAll (K : PySem.W.Frag) (M : Addr → Prop) (H : Hp) : List V → List PyData → Prop
  | nil : DvAll K M H [] []
  | cons {v : V} {vs : List V} {d : PyData} {ds : List PyData} : Dv K M H v d → DvAll K M H vs ds → DvAll K M H (v :: vs) (d :: ds)
end
theorem Frm.seqT {M : Addr → Prop} {K : PySem.W.Frag} {H H' : Hp} {a : Addr} {xs : List V} (e : Frm M H H') (n : ¬ M a) (h : SqT K H a xs) : SqT K H' a xs := by
  rcases h with (h | ⟨o, h⟩) | h
  · exact .inl (.inl (e _ _ n h))
  · exact .inl (.inr ⟨o, e _ _ n h⟩)
  · exact .inr h
section
variable {K : PySem.W.Frag} {M : Addr → Prop} {H H' : Hp}
mutual
theorem Dv.frm (F : Frm M H H') : ∀ (d : PyData) (v : V), Dv K M H v d → Dv K M H' v d
  | .none, _, h => by cases h; exact .non
  | .bool b, _, h => by cases h; exact .bl b
  | .int i, _, h => by cases h; exact .int i
  | .str x, _, h => by cases h; exact .str x
  | .list ds, _, h => by
    cases h with
    | lst n s a => exact .lst n (F.seq n s) (DvAll.frm F ds _ a)
  | .tuple ds, _, h => by
    cases h with
    | tup n s a => exact .tup n (F.seqT n s) (DvAll.frm F ds _ a)
  | .dict _, _, h => by
    cases h with
    | dct n s => exact .dct n (F _ _ n s)
    | dcT n s => exact .dcT n (F _ _ n s)
theorem DvAll.frm (F : Frm M H H') : ∀ (ds : List PyData) (vs : List V), DvAll K M H vs ds → DvAll K M H' vs ds
  | [], _, h => by cases h; exact .nil
  | d :: ds, _, h => by
    cases h with
    | cons a b => exact .cons (Dv.frm F d _ a) (DvAll.frm F ds _ b)
end
theorem Dv.mono {d : PyData} {v : V} (h : Dv K M H v d) (F : Frm M H H') : Dv K M H' v d := Dv.frm F d v h
theorem DvAll.mono {ds : List PyData} {vs : List V} (h : DvAll K M H vs ds) (F : Frm M H H') : DvAll K M H' vs ds := DvAll.frm F ds vs h
theorem Dv.same {d : PyData} {v : V} (h : Dv K M H v d) (F : Same H H') : Dv K M H' v d := Dv.frm (frm_same F) d v h
theorem DvAll.same {ds : List PyData} {vs : List V} (h : DvAll K M H vs ds) (F : Same H H') : DvAll K M H' vs ds := DvAll.frm (frm_same F) ds vs h
theorem DvAll.length : ∀ {vs : List V} {ds : List PyData}, DvAll K M H vs ds → vs.length = ds.length
  | _, _, .nil => rfl
  | _, _, .cons _ t => congrArg Nat.succ (DvAll.length t)
theorem DvAll.get {vs : List V} {ds : List PyData} {i : Nat} {x : V} (h : DvAll K M H vs ds) (e : vs[i]? = some x) : ∃ d, ds[i]? = some d ∧ Dv K M H x d := by
  induction i generalizing vs ds with
  | zero => cases h with
    | nil => cases e
    | cons r _ => cases e; exact ⟨_, rfl, r⟩
  | succ i ih => cases h with
    | nil => cases e
    | cons _ t => exact ih t e
theorem DvAll.mem {vs : List V} {ds : List PyData} {x : V} (h : DvAll K M H vs ds) (m : x ∈ vs) : ∃ d, d ∈ ds ∧ Dv K M H x d := by
  obtain ⟨i, hi⟩ := List.mem_iff_getElem?.mp m
  obtain ⟨d, e, r⟩ := h.get hi
  exact ⟨d, List.mem_of_getElem? e, r⟩
theorem DvAll.append : ∀ {vs us : List V} {ds es : List PyData}, DvAll K M H vs ds → DvAll K M H us es → DvAll K M H (vs ++ us) (ds ++ es)
  | _, _, _, _, .nil, s => s
  | _, _, _, _, .cons r t, s => .cons r (DvAll.append t s)
theorem DvAll.set {x : V} {d : PyData} (r : Dv K M H x d) : ∀ {vs : List V} {ds : List PyData} (i : Nat), DvAll K M H vs ds → DvAll K M H (vs.set i x) (ds.set i d)
  | _, _, _, .nil => .nil
  | _, _, 0, .cons _ t => .cons r t
  | _, _, i + 1, .cons q t => .cons q (DvAll.set r i t)
theorem DvAll.ints : ∀ ns : List Int, DvAll K M H (ns.map V.int) (ns.map PyData.int)
  | [] => .nil
  | n :: ns => .cons (.int n) (DvAll.ints ns)
theorem DvAll.drop : ∀ {vs : List V} {ds : List PyData} (n : Nat), DvAll K M H vs ds → DvAll K M H (vs.drop n) (ds.drop n)
  | _, _, 0, h => h
  | _, _, _ + 1, .nil => .nil
  | _, _, n + 1, .cons _ t => DvAll.drop n t
theorem DvAll.take : ∀ {vs : List V} {ds : List PyData} (n : Nat), DvAll K M H vs ds → DvAll K M H (vs.take n) (ds.take n)
  | _, _, 0, _ => .nil
  | _, _, _ + 1, .nil => .nil
  | _, _, n + 1, .cons r t => .cons r (DvAll.take n t)

mutual
theorem Dv.dp : ∀ (d : PyData) (v : V), Dv K M H v d → d.canLay0 = true → Dp K H v d
  | .none, _, h, _ => by cases h; exact .non
  | .bool b, _, h, _ => by cases h; exact .bl b
  | .int i, _, h, _ => by cases h; exact .int i
  | .str x, _, h, _ => by cases h; exact .str x
  | .list ds, _, h, c => by
    cases h with
    | lst n s a => exact .lst s (DvAll.dp ds _ a (by simpa [PyData.canLay0] using c))
  | .tuple ds, _, h, c => by
    cases h with
    | tup n s a => exact .tup s (DvAll.dp ds _ a (by simpa [PyData.canLay0] using c))
  | .dict _, _, h, c => by simp [PyData.canLay0] at c
theorem DvAll.dp : ∀ (ds : List PyData) (vs : List V), DvAll K M H vs ds → PyData.canLayAll0 ds = true → DpAll K H vs ds
  | [], _, h, _ => by cases h; exact .nil
  | d :: ds, _, h, c => by
    have c' : d.canLay0 = true ∧ PyData.canLayAll0 ds = true := by simpa [PyData.canLayAll0] using c
    cases h with
    | cons a b => exact .cons (Dv.dp d _ a c'.1) (DvAll.dp ds _ b c'.2)
end

/-! ### types -/
def tyName : PyData → String
  | .dict _ => "dict" | .tuple _ => "tuple" | .list _ => "list" | .str _ => "str" | .int _ => "int" | .bool _ => "bool" | .none => "NoneType"
theorem tyx_lst {p : Addr} {xs : List V} (h : SqL K H p xs) : TyX K H (.ref p) (.type "list") := by
  rcases h with (h | ⟨o, h⟩) | ⟨o, _, _, h, c, _⟩
  · exact .base (.lst h)
  · exact .base (.frz h)
  · exact .kList h c
theorem tyx_tup {p : Addr} {xs : List V} (h : SqT K H p xs) : TyX K H (.ref p) (.type "tuple") := by
  rcases h with (h | ⟨o, h⟩) | ⟨o, _, _, h, c, _⟩
  · exact .base (.tup h)
  · exact .fTuple h
  · exact .kTuple h c
theorem Dv.ty {d : PyData} {v : V} (h : Dv K M H v d) : TyX K H v (.type (tyName d)) := by
  cases h with
  | non => exact .base .non
  | bl b => exact .base (.bl b)
  | int i => exact .base (.int i)
  | str x => exact .base (.str x)
  | lst _ s _ => exact tyx_lst s
  | tup _ s _ => exact tyx_tup s
  | dct _ s => exact .base (.dK s)
  | dcT _ s => exact .base (.dT s)
def isIntD : PyData → Bool
  | .int _ => true | _ => false
def isBoolD : PyData → Bool
  | .bool _ => true | _ => false
def isStrD : PyData → Bool
  | .str _ => true | _ => false
def seqD : PyData → Option (List PyData)
  | .list ds => some ds | .tuple ds => some ds | _ => none
theorem kit_tab : ∀ a ∈ ["NoneType", "bool", "int", "str", "list", "tuple", "dict"], ∀ b ∈ ["int", "bool", "str", "list", "tuple"], kitB a b = some (decide (a = b) || (decide (a = "bool") && decide (b = "int"))) := by decide +kernel
theorem tyName_mem (d : PyData) : tyName d ∈ ["NoneType", "bool", "int", "str", "list", "tuple", "dict"] := by cases d <;> simp [tyName]
theorem kit_tyN (d : PyData) {b : String} (h : b ∈ ["int", "bool", "str", "list", "tuple"]) : PySem.W.kitOne K (.type (tyName d)) (.type b) = some (decide (tyName d = b) || (decide (tyName d = "bool") && decide (b = "int"))) := kit_ty (kit_tab _ (tyName_mem d) _ h)
theorem kit_int (d : PyData) : PySem.W.kitOne K (.type (tyName d)) (.type "int") = some (isIntD d || isBoolD d) := by
  rw [kit_tyN d (by decide)]
  cases d <;> simp [tyName, isIntD, isBoolD]
theorem kit_bool (d : PyData) : PySem.W.kitOne K (.type (tyName d)) (.type "bool") = some (isBoolD d) := by
  rw [kit_tyN d (by decide)]
  cases d <;> simp [tyName, isIntD, isBoolD]
theorem kit_str (d : PyData) : PySem.W.kitOne K (.type (tyName d)) (.type "str") = some (isStrD d) := by
  rw [kit_tyN d (by decide)]
  cases d <;> simp [tyName, isStrD, isBoolD]
theorem kit_list (d : PyData) : ∃ b1 b2, PySem.W.kitOne K (.type (tyName d)) (.type "list") = some b1 ∧ PySem.W.kitOne K (.type (tyName d)) (.type "tuple") = some b2 ∧ (b1 || b2) = (seqD d).isSome := by
  refine ⟨_, _, kit_tyN d (by decide), kit_tyN d (by decide), ?_⟩
  cases d <;> simp [tyName, seqD]
theorem kit_seq (d : PyData) : PySem.W.kitAny K (.type (tyName d)) [.type "list", .type "tuple"] = some (seqD d).isSome := by
  obtain ⟨b1, b2, h1, h2, e⟩ := kit_list (K := K) d
  refine kitAny_cons h1 (fun q => kitAny_cons h2 (fun q2 => ?_) (fun q2 => ?_)) (fun q => ?_)
  · rw [← e, q, q2]; exact kitAny_nil
  · rw [← e, q2]; cases b1 <;> rfl
  · rw [← e, q]; rfl
theorem Dv.seq {d : PyData} {v : V} {ds : List PyData} (h : Dv K M H v d) (e : seqD d = some ds) : ∃ p xs, v = .ref p ∧ ¬ M p ∧ (SqL K H p xs ∨ SqT K H p xs) ∧ DvAll K M H xs ds := by
  cases h with
  | lst n s a => cases e; exact ⟨_, _, rfl, n, .inl s, a⟩
  | tup n s a => cases e; exact ⟨_, _, rfl, n, .inr s, a⟩
  | _ => cases e

/-! ### walks of lists and tuples -/
def SeqIt (K : PySem.W.Frag) (a : Addr) (xs : List V) (H1 : Hp) (J : It) : Prop := (J = Itl K a ∧ SqL K H1 a xs) ∨ (J = Itt K a ∧ SqT K H1 a xs)
def iSeq (K : PySem.W.Frag) (tl : TE) : TI := fun σ H R => tl σ H fun x H1 => ∃ a xs, x = .ref a ∧ (SqL K H1 a xs ∨ SqT K H1 a xs) ∧ ∀ J, SeqIt K a xs H1 J → R J H1
theorem pi_seq {X : Cx} {tg l : Expr} {tl : TE} (hl : PE X l tl) : PI X tg l (iSeq X.K tl) := by
  refine ⟨fun pns st sl Hs R I0 told => thn (hl.run pns st sl Hs _ I0 told) fun got st1 ⟨y, Ht, J, ry, a, xs, ey, sq, go⟩ => ?_⟩
  subst ey
  cases ry
  have free : ∀ b ∈ [st1.heap.objs.size], FpOk X pns Ht b := fun b hb => by
    rw [List.mem_singleton] at hb
    rw [hb]
    exact J.fpOk (Nat.le_refl _) (J.hok.fresh (Nat.le_refl _))
  rcases sq with isL | isT
  · obtain ⟨items, _, plain, _⟩ := J.list isL
    exact wpAny_pyIter_list plain.isList ⟨_, [st1.heap.objs.size], _, _, Ht, rfl, J.kept (t' := st1.toks) (fun _ _ e => Heap.get?_push_of_some _ e), turn_list a _, ⟨_, Heap.get?_push_size _ rfl, rfl, rfl⟩, free, go _ (.inl ⟨rfl, isL⟩)⟩
  · obtain ⟨items, _, plain, _⟩ := J.tuple isT
    exact wpAny_pyIter_tuple (show st1.heap.IsTuple a items.toArray from plain) ⟨_, [st1.heap.objs.size], _, _, Ht, rfl, J.kept (t' := st1.toks) (fun _ _ e => Heap.get?_push_of_some _ e), turn_tuple a _, ⟨_, Heap.get?_push_size _ rfl, rfl, rfl⟩, free, go _ (.inr ⟨rfl, isT⟩)⟩
theorem lcg_seq {a : Addr} {xs : List V} {J : It} {g : TG} {tt : TT} {te : TE} {vs : List Nat} {σ : St} {H1 : Hp} {D : Addr} {Qd : Hp → Prop} (M : Addr → Prop) (St : Nat → Hp → Prop) (A : Nat → List V → Hp → Prop)
    (hD : H1 D = none) (hJ : SeqIt K a xs H1 J) (nM : ¬ M a) (hlen : xs.length ≤ 10000000)
    (hup : ∀ i H l, Frm M H1 H → St i H → St i (upd H D (.lst l))) (hmono : ∀ i acc H l, Frm M H1 H → A i acc H → A i acc (upd H D (.lst l)))
    (h0 : St 0 H1) (hA0 : A 0 [] H1)
    (hs : ∀ i x acc H, xs[i]? = some x → Frm M H1 H → H D = some (.lst acc) → St i H → A i acc H → ∀ (Ky : VK) (Kn : Hp → Prop),
      (∀ y H', Frm M H1 H' → H' D = some (.lst acc) → St (i + 1) H' → A (i + 1) (acc ++ [y]) H' → Ky y H') → (∀ H', Frm M H1 H' → H' D = some (.lst acc) → St (i + 1) H' → A (i + 1) acc H' → Kn H') → LcStep g tt te vs σ x H Ky Kn)
    (hd : ∀ H acc, Frm M H1 H → H D = some (.lst acc) → St xs.length H → A xs.length acc H → acc.length ≤ xs.length → Qd H) : LcW J g tt te vs σ H1 D Qd := by
  rcases hJ with ⟨rfl, s⟩ | ⟨rfl, s⟩
  · exact lcg_list M St A hD (fun H F => F.seq nM s) hlen hup hmono h0 hA0 hs hd
  · exact lcg_tup M St A hD (fun H F => F.seqT nM s) hlen hup hmono h0 hA0 hs hd
theorem same_frm {H H' : Hp} (F : Frm (fun _ => False) H H') : Same H H' := fun c o h => F c o (fun z => z) h
/-- a list of flags: p of each item -/
theorem lc_bools {a : Addr} {xs : List V} {ds : List PyData} {J : It} {g : TG} {te : TE} {vs : List Nat} {σ : St} {H1 : Hp} {D : Addr} {Qd : Hp → Prop} (p : PyData → Bool)
    (hD : H1 D = none) (hJ : SeqIt K a xs H1 J) (hda : DvAll K M H1 xs ds) (hlen : xs.length ≤ 10000000)
    (hs : ∀ x d H, Dv K M H x d → Same H1 H → ∀ Ky : VK, (∀ H', Same H H' → Ky (.bl (p d)) H') → g x (wipe σ vs) H fun σ2 H2 => wipe σ2 vs = wipe σ vs ∧ te σ2 H2 Ky)
    (hd : ∀ H, Same H1 H → H D = some (.lst ((ds.map p).map V.bl)) → Qd H) : LcW J g tYes te vs σ H1 D Qd := by
  refine lcg_seq (fun _ => False) (fun _ _ => True) (fun i acc _ => acc = ((ds.take i).map p).map V.bl) hD hJ (fun z => z) hlen (fun _ _ _ _ z => z) (fun _ _ _ _ _ z => z) trivial rfl ?_ ?_
  · intro i x acc H hx F hDa _ hA Ky Kn ky kn
    obtain ⟨d, hd1, hd2⟩ := hda.get hx
    have F2 := same_frm F
    refine hs x d H (hd2.same F2) F2 _ fun H' F' => ?_
    refine ky _ H' (F.trans (frm_same F')) (F' _ _ hDa) trivial ?_
    rw [hA]
    have e : ds.take (i + 1) = ds.take i ++ [d] := by
      rw [List.take_add_one, hd1]
      rfl
    rw [e, List.map_append, List.map_append]
    rfl
  · intro H acc F hDa _ hA _
    refine hd H (same_frm F) ?_
    rw [hDa, hA, List.take_of_length_le (by rw [hda.length]; exact Nat.le_refl _)]
end
theorem qbl {Q : VK} {a b : Bool} {H : Hp} (q : Q (.bl b) H) (e : a = b) : Q (.bl a) H := e ▸ q
/-! ### what the checks answer, as data -/
def oI : Option Int → V
  | none => .non | some i => .int i
def withinD (d : PyData) (lo hi : Option Int) : Bool := match d with
  | .int i => (match lo with | none => true | some l => decide (l ≤ i)) && (match hi with | none => true | some u => decide (i ≤ u))
  | _ => false
def areIntsD (d : PyData) : Bool := match seqD d with
  | none => false | some ds => ds.all isIntD
def numbersD (d : PyData) (n m : Int) : Bool := match seqD d with
  | none => false | some ds => decide ((ds.length : Int) = n) && ds.all (fun x => withinD x (some 0) (some m))
def intOf : PyData → Int
  | .int i => i | _ => 0
def risesD : List PyData → Bool
  | x :: y :: r => decide (intOf x < intOf y) && risesD (y :: r)
  | _ => true
def lotD (d : PyData) (n : Int) : Bool := match seqD d with
  | none => false | some ds => ds.all (fun x => withinD x (some 0) (some (n - 1))) && risesD ds
def nameSign (c : Nat) : Bool := (decide (97 ≤ c) && decide (c ≤ 122)) || (decide (48 ≤ c) && decide (c ≤ 57))
def nameD : PyData → Bool
  | .str x => decide (1 ≤ x.length) && decide (x.length ≤ 12) && x.cps.toList.all nameSign
  | _ => false
theorem isInt_eq {d : PyData} (h : isIntD d = true) : ∃ i, d = .int i := by
  cases d <;> first | exact ⟨_, rfl⟩ | cases h
def spIsList (K : PySem.W.Frag) : Sp := fun vs H Q _ => ∃ (M : Addr → Prop) (v : V) (d : PyData), vs = [v] ∧ Dv K M H v d ∧ ∀ H', Same H H' → Q (.bl (seqD d).isSome) H'
def spIsInt (K : PySem.W.Frag) : Sp := fun vs H Q _ => ∃ (M : Addr → Prop) (v : V) (d : PyData), vs = [v] ∧ Dv K M H v d ∧ Q (.bl (isIntD d)) H
def spWithin (K : PySem.W.Frag) : Sp := fun vs H Q _ => ∃ (M : Addr → Prop) (v : V) (d : PyData) (lo hi : Option Int), vs = [v, oI lo, oI hi] ∧ Dv K M H v d ∧ Q (.bl (withinD d lo hi)) H
def spAreInts (K : PySem.W.Frag) : Sp := fun vs H Q _ => ∃ (M : Addr → Prop) (v : V) (d : PyData), vs = [v] ∧ Dv K M H v d ∧ (∀ ds, seqD d = some ds → ds.length ≤ 10000000) ∧ ∀ H', Same H H' → Q (.bl (areIntsD d)) H'
def spNumbers (K : PySem.W.Frag) : Sp := fun vs H Q _ => ∃ (M : Addr → Prop) (v : V) (d : PyData) (n m : Int), vs = [v, .int n, .int m] ∧ Dv K M H v d ∧ (∀ ds, seqD d = some ds → ds.length ≤ 10000000) ∧ ∀ H', Same H H' → Q (.bl (numbersD d n m)) H'
def spLot (K : PySem.W.Frag) : Sp := fun vs H Q _ => ∃ (M : Addr → Prop) (v : V) (d : PyData) (n : Int), vs = [v, .int n] ∧ Dv K M H v d ∧ (∀ ds, seqD d = some ds → ds.length ≤ 10000000) ∧ ∀ H', Same H H' → Q (.bl (lotD d n)) H'
def spName (K : PySem.W.Frag) : Sp := fun vs H Q _ => ∃ (M : Addr → Prop) (v : V) (d : PyData), vs = [v] ∧ Dv K M H v d ∧ (∀ x, d = .str x → x.length ≤ 1000000) ∧ ∀ H', Same H H' → Q (.bl (nameD d)) H'
end MT
/-! comprehensions over two at once, over signs -/
namespace MT
open PySem L2 RZ
section
variable {K : PySem.W.Frag} {M : Addr → Prop} {H H' : Hp}
def ZipIt (K : PySem.W.Frag) (a b : Addr) (xs ys : List V) (H1 : Hp) (J : It) : Prop := (J = Itz K a b ∧ SqL K H1 a xs ∧ SqL K H1 b ys) ∨ (J = ItzT K a b ∧ SqT K H1 a xs ∧ SqT K H1 b ys)
theorem Same.seqT {H H' : Hp} {a : Addr} {xs : List V} (e : Same H H') (h : SqT K H a xs) : SqT K H' a xs := Frm.seqT (M := fun _ => False) (frm_same e) (fun z => z) h
theorem lc_zipP {a b : Addr} {xs ys : List V} {J : It} {g : TG} {te : TE} {vs : List Nat} {σ : St} {H1 : Hp} {D : Addr} {Qd : Hp → Prop} (f : V × V → V)
    (hD : H1 D = none) (hJ : ZipIt K a b xs ys H1 J) (hlen : xs.length ≤ 10000000)
    (hs : ∀ (i : Nat) x y T H, xs[i]? = some x → ys[i]? = some y → Same H1 H → H T = some (.tup [x, y]) → ∀ Ky : VK, (∀ H', Same H H' → Ky (f (x, y)) H') → g (.ref T) (wipe σ vs) H fun σ2 H2 => wipe σ2 vs = wipe σ vs ∧ te σ2 H2 Ky)
    (hd : ∀ H, Same H1 H → H D = some (.lst ((xs.zip ys).map f)) → Qd H) : LcW J g tYes te vs σ H1 D Qd := by
  have key : ∀ (i m : Nat) (H : Hp), (m = (xs.zip ys).length - i ∧ i ≤ (xs.zip ys).length ∧ Same H1 H ∧ H D = some (.lst (((xs.zip ys).take i).map f))) →
      (xs.length ≤ i ∨ ys.length ≤ i) ∧ Qd H ∨ (∃ x y, xs[i]? = some x ∧ ys[i]? = some y ∧ ∀ T H', H' = upd H T (.tup [x, y]) → H T = none →
        g (.ref T) (wipe σ vs) H' fun σ2 H2 => wipe σ2 vs = wipe σ vs ∧ tYes σ2 H2 fun b H3 => if b = true then te σ2 H3 fun y H4 => ∃ acc, H4 D = some (.lst acc) ∧ acc.length < sizeLine ∧
          (i + 1 ≤ (xs.zip ys).length ∧ Same H1 (upd H4 D (.lst (acc ++ [y]))) ∧ (upd H4 D (.lst (acc ++ [y]))) D = some (.lst (((xs.zip ys).take (i + 1)).map f))) else (i + 1 ≤ (xs.zip ys).length ∧ Same H1 H3 ∧ H3 D = some (.lst (((xs.zip ys).take (i + 1)).map f)))) := by
    rintro i m H ⟨rfl, hi, s, hDa⟩
    have hl := List.length_zip (l₁ := xs) (l₂ := ys)
    by_cases hlt : i < (xs.zip ys).length
    · have h1 : i < xs.length := (by omega)
      have h2 : i < ys.length := (by omega)
      refine .inr ⟨xs[i], ys[i], List.getElem?_eq_getElem h1, List.getElem?_eq_getElem h2, fun T H' e hT => ?_⟩
      subst e
      have sT := same_new (o := .tup [xs[i], ys[i]]) hT
      refine hs i _ _ T _ (List.getElem?_eq_getElem h1) (List.getElem?_eq_getElem h2) (s.trans sT) upd_same _ fun H' s' => ?_
      refine ⟨_, s' _ _ (sT _ _ hDa), ?_, hlt, ?_, ?_⟩
      · rw [sizeLine_eq, List.length_map, List.length_take]
        omega
      · exact same_frm ((frm_same ((s.trans sT).trans s')).updD hD)
      · have e : (xs.zip ys).take (i + 1) = (xs.zip ys).take i ++ [(xs[i], ys[i])] := by
          rw [List.take_add_one, List.getElem?_eq_getElem hlt, List.getElem_zip]
          rfl
        rw [upd_same, e, List.map_append]
        rfl
    · have e : i = (xs.zip ys).length := by omega
      subst e
      refine .inl ⟨by omega, hd H s ?_⟩
      rw [hDa, List.take_of_length_le (Nat.le_refl _)]
  have st : (xs.zip ys).length = (xs.zip ys).length - 0 ∧ 0 ≤ (xs.zip ys).length ∧ Same H1 (upd H1 D (.lst [])) ∧ (upd H1 D (.lst [])) D = some (.lst (((xs.zip ys).take 0).map f)) :=
    ⟨by omega, Nat.zero_le _, same_new hD, by rw [upd_same]; rfl⟩
  rcases hJ with ⟨rfl, sa, sb⟩ | ⟨rfl, sa, sb⟩
  · refine ⟨fun i m H => m = (xs.zip ys).length - i ∧ i ≤ (xs.zip ys).length ∧ Same H1 H ∧ H D = some (.lst (((xs.zip ys).take i).map f)), ⟨_, st⟩, fun i m H w => ?_⟩
    obtain ⟨em, _, s, _⟩ := id w
    have q1 := s.seq sa
    have q2 := s.seq sb
    rcases key i m H w with ⟨z, q⟩ | ⟨x, y, hx, hy, q⟩
    · exact .inl ⟨⟨xs, ys, q1, q2, z⟩, q⟩
    · have hlt : i < (xs.zip ys).length := by
        rw [List.length_zip]
        exact Nat.lt_min.mpr ⟨(List.getElem?_eq_some_iff.mp hx).1, (List.getElem?_eq_some_iff.mp hy).1⟩
      refine .inr ⟨⟨xs, ys, x, y, q1, q2, hx, hy⟩, fun H' => i + 1 ≤ (xs.zip ys).length ∧ Same H1 H' ∧ H' D = some (.lst (((xs.zip ys).take (i + 1)).map f)), fun H' p => ⟨_, by omega, rfl, p⟩, ?_⟩
      rintro v H' ⟨T, x', y', rfl, hT, e, ax, ay⟩
      have ex := (ax xs q1).symm.trans hx
      have ey := (ay ys q2).symm.trans hy
      cases ex
      cases ey
      exact q T H' e hT
  · refine ⟨fun i m H => m = (xs.zip ys).length - i ∧ i ≤ (xs.zip ys).length ∧ Same H1 H ∧ H D = some (.lst (((xs.zip ys).take i).map f)), ⟨_, st⟩, fun i m H w => ?_⟩
    obtain ⟨em, _, s, _⟩ := id w
    have q1 := Same.seqT s sa
    have q2 := Same.seqT s sb
    rcases key i m H w with ⟨z, q⟩ | ⟨x, y, hx, hy, q⟩
    · exact .inl ⟨⟨xs, ys, q1, q2, z⟩, q⟩
    · have hlt : i < (xs.zip ys).length := by
        rw [List.length_zip]
        exact Nat.lt_min.mpr ⟨(List.getElem?_eq_some_iff.mp hx).1, (List.getElem?_eq_some_iff.mp hy).1⟩
      refine .inr ⟨⟨xs, ys, x, y, q1, q2, hx, hy⟩, fun H' => i + 1 ≤ (xs.zip ys).length ∧ Same H1 H' ∧ H' D = some (.lst (((xs.zip ys).take (i + 1)).map f)), fun H' p => ⟨_, by omega, rfl, p⟩, ?_⟩
      rintro v H' ⟨T, x', y', rfl, hT, e, ax, ay⟩
      have ex := (ax xs q1).symm.trans hx
      have ey := (ay ys q2).symm.trans hy
      cases ex
      cases ey
      exact q T H' e hT
/-- sign by sign -/
theorem lc_strP {z : Str} {g : TG} {te : TE} {vs : List Nat} {σ : St} {H1 : Hp} {D : Addr} {Qd : Hp → Prop} (f : Nat → V)
    (hD : H1 D = none) (hlen : z.length ≤ 10000000)
    (hs : ∀ c H, c ∈ z.cps.toList → Same H1 H → ∀ Ky : VK, (∀ H', Same H H' → Ky (f c) H') → g (.str ⟨#[c]⟩) (wipe σ vs) H fun σ2 H2 => wipe σ2 vs = wipe σ vs ∧ te σ2 H2 Ky)
    (hd : ∀ H, Same H1 H → H D = some (.lst (z.cps.toList.map f)) → Qd H) : LcW (Its z) g tYes te vs σ H1 D Qd := by
  have hz : z.length = z.cps.toList.length := by simp [Str.length]
  have hz2 : z.cps.size = z.cps.toList.length := by simp
  refine ⟨fun i m H => m = z.cps.toList.length - i ∧ i ≤ z.cps.toList.length ∧ Same H1 H ∧ H D = some (.lst ((z.cps.toList.take i).map f)), ⟨_, by omega, Nat.zero_le _, same_new hD, by rw [upd_same]; rfl⟩, ?_⟩
  rintro i m H ⟨rfl, hi, s, hDa⟩
  by_cases hlt : i < z.cps.toList.length
  · refine .inr ⟨by show i < z.cps.size; omega, fun H' => i + 1 ≤ z.cps.toList.length ∧ Same H1 H' ∧ H' D = some (.lst ((z.cps.toList.take (i + 1)).map f)), fun H' p => ⟨_, by omega, rfl, p⟩, ?_⟩
    rintro v H' ⟨rfl, c, hc, rfl⟩
    have hc2 : z.cps.toList[i]? = some c := by simpa using hc
    refine hs c _ (List.mem_of_getElem? hc2) s _ fun H' s' => ?_
    refine ⟨_, s' _ _ hDa, ?_, hlt, ?_, ?_⟩
    · rw [sizeLine_eq, List.length_map, List.length_take]
      omega
    · exact same_frm ((frm_same (s.trans s')).updD hD)
    · have e : z.cps.toList.take (i + 1) = z.cps.toList.take i ++ [c] := by
        rw [List.take_add_one, hc2]
        rfl
      rw [upd_same, e, List.map_append]
      rfl
  · have e : i = z.cps.toList.length := by omega
    subst e
    refine .inl ⟨by show z.cps.size ≤ _; omega, hd H s ?_⟩
    rw [hDa, List.take_of_length_le (Nat.le_refl _)]
theorem cutRest (xs : List V) : cutV xs (some (1 : Int)) none = List.drop 1 xs := by
  unfold cutV
  have e1 : HT.sIx xs.length 0 (some 1) = min 1 xs.length := HT.sIx_nat _ _ 1
  rw [e1, HT.sIx_none]
  have e2 : xs.drop (min 1 xs.length) = xs.drop 1 := by
    cases xs with
    | nil => rfl
    | cons x r =>
      have : min 1 (x :: r).length = 1 := by rw [List.length_cons]; omega
      rw [this]
  rw [e2]
  refine List.take_of_length_le ?_
  rw [List.length_drop]
  omega
theorem sl_seq {X : Cx} : SlR X (fun x lo hi H Q => rSlL X.K x lo hi H Q ∨ rSlA X.K x lo hi H Q) := sl_list.or sl_tupA
/-- the rest of a list or tuple behind its first one, as data -/
theorem rest_seq {a : Addr} {xs : List V} {H1 : Hp} {Q : VK} (sq : SqL K H1 a xs ∨ SqT K H1 a xs)
    (h : ∀ b H2, Same H1 H2 → ((SqL K H2 a xs ∧ SqL K H2 b (xs.drop 1)) ∨ (SqT K H2 a xs ∧ SqT K H2 b (xs.drop 1))) → Q (.ref b) H2) :
    rSlL K (.ref a) (some 1) none H1 Q ∨ rSlA K (.ref a) (some 1) none H1 Q := by
  rcases sq with s | s
  · refine .inl ⟨a, xs, rfl, s, fun p hp => ?_⟩
    have e := same_new (o := .lst (cutV xs (some 1) none)) hp
    refine h p _ e (.inl ⟨e.seq s, ?_⟩)
    rw [← cutRest]
    exact SqL.of upd_same
  · refine .inr ⟨a, xs, rfl, s, fun hw => ?_, fun _ p hp => ?_⟩
    · refine h a _ (Same.refl _) (.inr ⟨s, ?_⟩)
      have e1 : HT.sIx xs.length 0 (some 1) = min 1 xs.length := HT.sIx_nat _ _ 1
      have h0 := hw.1
      rw [e1] at h0
      cases xs with
      | nil => exact s
      | cons x r =>
        rw [List.length_cons] at h0
        omega
    · have e := same_new (o := .tup (cutV xs (some 1) none)) hp
      refine h p _ e (.inr ⟨Same.seqT e s, ?_⟩)
      rw [← cutRest]
      exact SqT.of upd_same
theorem all_rises : ∀ {xs : List V} {ds : List PyData}, DvAll K M H xs ds → ds.all isIntD = true → ∃ ns : List Int, xs = ns.map V.int ∧ ds = ns.map PyData.int
  | _, _, .nil, _ => ⟨[], rfl, rfl⟩
  | _, _, .cons (v := v) (d := d) h t, e => by
    rw [List.all_cons, Bool.and_eq_true] at e
    obtain ⟨i, rfl⟩ := isInt_eq e.1
    cases h
    obtain ⟨ns, e1, e2⟩ := all_rises t e.2
    exact ⟨i :: ns, by rw [e1]; rfl, by rw [e2]; rfl⟩
theorem rises_zip : ∀ ns : List Int, ((ns.zip (ns.drop 1)).all fun q => decide (q.1 < q.2)) = risesD (ns.map PyData.int)
  | [] => rfl
  | [_] => rfl
  | x :: y :: r => by
    have ih := rises_zip (y :: r)
    show (decide (x < y) && (((y :: r).zip r).all fun q => decide (q.1 < q.2))) = (decide (x < y) && risesD ((y :: r).map PyData.int))
    rw [← ih]
    rfl
def ltF : V × V → V
  | (.int i, .int j) => .bl (decide (i < j))
  | _ => .bl false
theorem int_at {ns : List Int} {i : Nat} {x : V} (h : (ns.map V.int)[i]? = some x) : ∃ z, x = .int z := by
  rw [List.getElem?_map] at h
  cases e : ns[i]? with
  | none => rw [e] at h; cases h
  | some z => rw [e] at h; exact ⟨z, (Option.some.inj h).symm⟩
theorem zip_lt (ns : List Int) : ((ns.map V.int).zip ((ns.map V.int).drop 1)).map ltF = ((ns.zip (ns.drop 1)).map fun q => decide (q.1 < q.2)).map V.bl := by
  rw [← List.map_drop, List.zip_map, List.map_map, List.map_map]
  rfl
theorem within_ints {ds : List PyData} {m : Int} (h : ds.all (fun x => withinD x (some 0) (some m)) = true) : ds.all isIntD = true := by
  rw [List.all_eq_true] at h ⊢
  intro d hd
  have q := h d hd
  cases d <;> first | rfl | cases q
theorem numbers_len {d : PyData} {ds : List PyData} {xs : List V} {m : Int} (h : seqD d = some ds) (hda : DvAll K M H xs ds) : numbersD d (xs.length : Int) m = ds.all (fun x => withinD x (some 0) (some m)) := by
  unfold numbersD
  rw [h, hda.length]
  show (decide ((ds.length : Int) = ds.length) && _) = _
  rw [decide_eq_true rfl]
  rfl
theorem within_len {n : Nat} : withinD (.int n) (some 1) (some 12) = (decide (1 ≤ n) && decide (n ≤ 12)) := by
  show (decide ((1 : Int) ≤ n) && decide ((n : Int) ≤ 12)) = _
  rw [Bool.eq_iff_iff]
  simp only [Bool.and_eq_true, decide_eq_true_eq]
  omega
theorem sign_mem (c : Nat) : (c ∈ [97, 98, 99, 100, 101, 102, 103, 104, 105, 106, 107, 108, 109, 110, 111, 112, 113, 114, 115, 116, 117, 118, 119, 120, 121, 122, 48, 49, 50, 51, 52, 53, 54, 55, 56, 57]) ↔ nameSign c = true := by
  unfold nameSign
  simp only [List.mem_cons, List.not_mem_nil, or_false, Bool.or_eq_true, Bool.and_eq_true, decide_eq_true_eq]
  omega
theorem sign_in (c : Nat) : decide (c ∈ (("abcdefghijklmnopqrstuvwxyz0123456789" : Str).cps.toList)) = nameSign c := by
  have e : (("abcdefghijklmnopqrstuvwxyz0123456789" : Str).cps.toList) = [97, 98, 99, 100, 101, 102, 103, 104, 105, 106, 107, 108, 109, 110, 111, 112, 113, 114, 115, 116, 117, 118, 119, 120, 121, 122, 48, 49, 50, 51, 52, 53, 54, 55, 56, 57] := by decide +kernel
  rw [e, Bool.eq_iff_iff, decide_eq_true_iff, sign_mem]
end
end MT
/-! what is made, told by what it is and not by how the heap is written -/
namespace MT
open PySem L2
section
variable {X : Cx} {e a : Expr} {es : List Expr} {t : TE} {ta : TA} {pos : Pos}
theorem PE.imp {t' : TE} (h : PE X e t) (i : ∀ σ H Q, t' σ H Q → t σ H Q) : PE X e t' := ⟨fun pins s σ H Q I q => h.run pins s σ H Q I (i σ H Q q)⟩
def clA (t : TA) : TA := fun σ H R => ∃ R', (∀ xs H1, R' xs H1 → R xs H1) ∧ t σ H R'
theorem PA.cl (h : PA X es ta) : PA X es (clA ta) := ⟨fun pos pins s σ H Q I ⟨R', i, q⟩ => thn (h.run pos pins s σ H R' I q) fun us s1 ⟨xs, H1, I1, r1, q1⟩ => ⟨xs, H1, I1, r1, i _ _ q1⟩⟩
/-- a new object o at p -/
def New (H H' : Hp) (p : Addr) (o : HO) : Prop := Same H H' ∧ H' p = some o ∧ H p = none
theorem New.mk' {H : Hp} {p : Addr} {o : HO} (h : H p = none) : New H (upd H p o) p o := ⟨same_new h, upd_same, h⟩
def tLstN (t : TA) : TE := fun σ H Q => t σ H fun xs H1 => xs.length ≤ sizeLine ∧ ∀ p H2, New H1 H2 p (.lst xs) → Q (.ref p) H2
theorem pe_lstN (h : PA X es ta) : PE X (.List es pos) (tLstN ta) := PE.imp (pe_lst (PA.cl h)) fun σ H Q q => ⟨_, fun xs H1 z => ⟨z.1, fun p hp => z.2 p _ (New.mk' hp)⟩, q⟩
def tTupN (t : TA) : TE := fun σ H Q => t σ H fun xs H1 => xs.length ≤ sizeLine ∧ ∀ p H2, New H1 H2 p (.tup xs) → Q (.ref p) H2
theorem pe_tupN {x1} (h : PA X es ta) : PE X (.Tuple es x1 pos) (tTupN ta) := PE.imp (pe_tup (PA.cl h)) fun σ H Q q => ⟨_, fun xs H1 z => ⟨z.1, fun p hp => z.2 p _ (New.mk' hp)⟩, q⟩
theorem sl_listN : SlR X (fun x lo hi H Q => ∃ a xs, x = .ref a ∧ SqL X.K H a xs ∧ ∀ p H2, New H H2 p (.lst (cutV xs lo hi)) → Q (.ref p) H2) := by
  intro pins s σ H x v vl vu lo hi sl Q I rx hs pl pu h
  obtain ⟨a, xs, ex, hx, q⟩ := h
  exact sl_list pins s σ H x v vl vu lo hi sl Q I rx hs pl pu ⟨a, xs, ex, hx, fun p hp => q p _ (New.mk' hp)⟩
theorem call_list_ofN : CallR X (.type "list") (fun xs H Q => ∃ p ys, xs = [.ref p] ∧ (SqL X.K H p ys ∨ SqT X.K H p ys) ∧ ∀ l H2, New H H2 l (.lst ys) → Q (.ref l) H2) := by
  intro pins s σ H xs us Q I r h
  obtain ⟨p, ys, e1, e2, q⟩ := h
  exact call_list_of pins s σ H xs us Q I r ⟨p, ys, e1, e2, fun l hl => q l _ (New.mk' hl)⟩
theorem call_tuple_ofN : CallR X (.type "tuple") (fun xs H Q => ∃ p ys, xs = [.ref p] ∧ ((SqL X.K H p ys ∧ ∀ l H2, New H H2 l (.tup ys) → Q (.ref l) H2) ∨ (SqT X.K H p ys ∧ Q (.ref p) H))) := by
  intro pins s σ H xs us Q I r h
  obtain ⟨p, ys, e1, q⟩ := h
  refine call_tuple_of pins s σ H xs us Q I r ⟨p, ys, e1, ?_⟩
  rcases q with ⟨h1, q⟩ | q
  · exact .inl ⟨h1, fun l hl => q l _ (New.mk' hl)⟩
  · exact .inr q
def clE (t : TE) : TE := fun σ H R => ∃ R', (∀ x H1, R' x H1 → R x H1) ∧ t σ H R'
theorem PE.cl (h : PE X e t) : PE X e (clE t) := ⟨fun pins s σ H Q I ⟨R', i, q⟩ => thn (h.run pins s σ H R' I q) fun u s1 ⟨x, H1, I1, r1, q1⟩ => ⟨x, H1, I1, r1, i _ _ q1⟩⟩
/-- {k: v}, one pair -/
theorem pe_disp1N {k v : Expr} {tk tv : TE} (hk : PE X k tk) (hv : PE X v tv) : PE X (.Dict [some k] [v] pos) (fun σ H Q => ∀ p H0, New H H0 p (.dK []) → tk σ H0 fun x H1 => tv σ H1 fun y H2 =>
    H2 p = some (.dK []) ∧ ∃ key : Key, x = kV key ∧ ∀ H3, (∀ c, c ≠ p → H3 c = H2 c) → H3 p = some (.dK [(key, y)]) → Q (.ref p) H3) := by
  refine PE.imp (pe_disp (pps_cons (PE.cl hk) (PE.cl hv) pps_nil) rfl rfl (fun z => by cases z) (show 1 ≤ 15 by decide)) fun σ H Q q p hp => ?_
  refine ⟨_, fun x H1 z => ⟨_, fun y H2 z2 => ?_, z⟩, q p _ (New.mk' hp)⟩
  obtain ⟨e, key, ex, q2⟩ := z2
  subst ex
  exact ⟨e, [(key, y)], rfl, (show 1 ≤ 15 by decide), q2 _ (fun c hc => upd_ne hc) upd_same⟩
end
section
variable {K : PySem.W.Frag} {M : Addr → Prop} {H H' : Hp}
theorem New.same {H H' : Hp} {p : Addr} {o : HO} (n : New H H' p o) : Same H H' := n.1
theorem New.ne {H H' : Hp} {p a : Addr} {o u : HO} (n : New H H' p o) (h : H a = some u) : p ≠ a := fun e => by
  have := n.2.2
  rw [e, h] at this
  cases this
theorem New.lst {H H' : Hp} {p a : Addr} {xs : List V} {ds : List PyData} {u : HO} (n : New H H' p (.lst xs)) (h : H a = some u) (hx : DvAll K (· = a) H xs ds) : Dv K (· = a) H' (.ref p) (.list ds) :=
  .lst (n.ne h) (SqL.of n.2.1) (hx.same n.1)
theorem New.tup {H H' : Hp} {p a : Addr} {xs : List V} {ds : List PyData} {u : HO} (n : New H H' p (.tup xs)) (h : H a = some u) (hx : DvAll K (· = a) H xs ds) : Dv K (· = a) H' (.ref p) (.tuple ds) :=
  .tup (n.ne h) (SqT.of n.2.1) (hx.same n.1)
theorem Sx.at {a b : Addr} {cs : List Int} {n : Nat} (S : Sx a b cs n H) : ∃ o, H a = some o := by
  obtain ⟨t, r, S, _⟩ := S
  exact ⟨_, S.ha⟩
theorem Sx.new {a b p : Addr} {cs : List Int} {n : Nat} {o : HO} (S : Sx a b cs n H) (e : New H H' p o) : Sx a b cs n H' := S.same e.1
theorem Sx.ne {a b p : Addr} {cs : List Int} {n : Nat} {o : HO} (S : Sx a b cs n H) (e : New H H' p o) : p ≠ a := by
  obtain ⟨u, h⟩ := S.at
  exact e.ne h
theorem Sx.lst {a b p : Addr} {cs : List Int} {n : Nat} {xs : List V} {ds : List PyData} (S : Sx a b cs n H) (e : New H H' p (.lst xs)) (hx : DvAll K (· = a) H xs ds) : Dv K (· = a) H' (.ref p) (.list ds) := by
  obtain ⟨u, h⟩ := S.at
  exact e.lst h hx
theorem Sx.tup {a b p : Addr} {cs : List Int} {n : Nat} {xs : List V} {ds : List PyData} (S : Sx a b cs n H) (e : New H H' p (.tup xs)) (hx : DvAll K (· = a) H xs ds) : Dv K (· = a) H' (.ref p) (.tuple ds) := by
  obtain ⟨u, h⟩ := S.at
  exact e.tup h hx
theorem New.filled {H H0 H2 H3 : Hp} {p : Addr} {o : HO} (n : New H H0 p o) (s : Same H0 H2) (h : ∀ c, c ≠ p → H3 c = H2 c) : Same H H3 := fun c u e => by
  rw [h c (fun z => n.ne e z.symm)]
  exact s _ _ (n.1 _ _ e)
theorem sIx_nat' (n d k : Nat) : HT.sIx n d (some (k : Int)) = min k n := HT.sIx_nat n d k
theorem cutN (xs : List V) (k : Nat) : cutV xs none (some (k : Int)) = xs.take k := by
  unfold cutV
  rw [HT.sIx_none, HT.sIx_nat, List.drop_zero, Nat.sub_zero]
  by_cases h : k ≤ xs.length
  · rw [Nat.min_eq_left h]
  · rw [Nat.min_eq_right (by omega), List.take_of_length_le (Nat.le_refl _), List.take_of_length_le (by omega)]
theorem atI_some {xs : List V} {d : Int} (h0 : 0 ≤ d) (h1 : d < (xs.length : Int)) : ∃ x, x ∈ xs ∧ atI xs d = some x := by
  obtain ⟨j, rfl⟩ : ∃ j : Nat, d = j := ⟨_, (Int.toNat_of_nonneg h0).symm⟩
  have hj : j < xs.length := by omega
  exact ⟨xs[j], List.getElem_mem hj, atI_nat (List.getElem?_eq_getElem hj)⟩
theorem take_next {α : Type} {xs : List α} {i : Nat} {x : α} (h : xs[i]? = some x) : xs.take (i + 1) = xs.take i ++ [x] := by
  rw [List.take_add_one, h]
  rfl
/-- few items, whatever it is -/
def fewD (d : PyData) : Prop := ∀ ds, seqD d = some ds → ds.length ≤ 10000000
theorem fewD_of {d : PyData} (h : match seqD d with | none => true | some ds => decide (ds.length ≤ 10000000)) : fewD d := fun ds e => by
  rw [e] at h
  exact of_decide_eq_true h
/-- the promises of what a law draws: the script's first n, a value of any kind -/
def spStart (K : PySem.W.Frag) : Sp := fun vs H Q _ => ∃ (a : Addr) (ns : List Int), vs = [.ref a] ∧ SqL K H a (ns.map V.int) ∧ ns.length ≤ 63 ∧ ∀ p b cs H', Same H H' → Sx p b cs 0 H' → H p = none → Q (.ref p) H'
def spValue (K : PySem.W.Frag) (c : Nat) : Sp := fun vs H Q _ => ∃ (a b : Addr) (cs : List Int) (n : Nat), vs = [.ref a] ∧ Sx a b cs n H ∧ n ≤ 900000 ∧ ∀ H' v d, Frm (· = a) H H' → Sx a b cs (n + c) H' → Dv K (· = a) H' v d → fewD d → Q v H'
theorem Sx.neD {a b D : Addr} {cs : List Int} {n : Nat} (S : Sx a b cs n H) (hD : H D = none) : D ≠ a := fun e => by
  obtain ⟨o, h⟩ := S.at
  rw [← e, hD] at h
  cases h
/-- a written list: at an address of its own the state of what draws stays -/
theorem Sx.put {a b p : Addr} {cs : List Int} {n : Nat} {xs ys : List V} (S : Sx a b cs n H) (h : p ≠ a) (hb : p ≠ b) : Sx a b cs n (upd H p (.lst ys)) := by
  obtain ⟨t, r, S, ht⟩ := S
  exact ⟨t, r, ⟨by rw [upd_ne h.symm]; exact S.ha, by rw [upd_ne hb.symm]; exact S.hb, S.ht, S.hr⟩, ht⟩
theorem Sx.atb {a b : Addr} {cs : List Int} {n : Nat} (S : Sx a b cs n H) : ∃ o, H b = some o := by
  obtain ⟨t, r, S, _⟩ := S
  exact ⟨_, S.hb⟩
def tame (e : PyData) : Bool := e.canLay0 && decide (e.depth ≤ 5)
theorem tame_seq : ∀ {ds : List PyData}, ds.all tame = true → PyData.canLayAll0 ds = true ∧ PyData.depthAll ds ≤ 5
  | [], _ => ⟨by simp [PyData.canLayAll0], by simp [PyData.depthAll]⟩
  | d :: ds, h => by
    rw [List.all_cons, Bool.and_eq_true] at h
    obtain ⟨h1, h2⟩ := tame_seq h.2
    unfold tame at h
    simp only [Bool.and_eq_true, decide_eq_true_eq] at h
    exact ⟨by simp only [PyData.canLayAll0, h.1.1, h1, Bool.and_self], by simp only [PyData.depthAll]; omega⟩
theorem shaped_list {ds : List PyData} (h : ds.all tame = true) : SeqAt.shaped (.list ds) = true := by
  obtain ⟨h1, h2⟩ := tame_seq h
  unfold SeqAt.shaped
  rw [Bool.and_eq_true]
  exact ⟨by simp only [PyData.canLay0, h1], decide_eq_true (by simp only [PyData.depth]; omega)⟩
theorem shaped_tup {ds : List PyData} (h : ds.all tame = true) : SeqAt.shaped (.tuple ds) = true := by
  obtain ⟨h1, h2⟩ := tame_seq h
  unfold SeqAt.shaped
  rw [Bool.and_eq_true]
  exact ⟨by simp only [PyData.canLay0, h1], decide_eq_true (by simp only [PyData.depth]; omega)⟩
theorem all_set {α : Type} {p : α → Bool} {x : α} (hx : p x = true) : ∀ {l : List α} (i : Nat), l.all p = true → (l.set i x).all p = true
  | [], _, h => h
  | y :: r, 0, h => by
    rw [List.all_cons, Bool.and_eq_true] at h
    rw [List.set_cons_zero, List.all_cons, hx, h.2]
    rfl
  | y :: r, i + 1, h => by
    rw [List.all_cons, Bool.and_eq_true] at h
    rw [List.set_cons_succ, List.all_cons, h.1, all_set hx i h.2]
    rfl
theorem tame_ints (ns : List Int) : (ns.map PyData.int).all tame = true := by
  rw [List.all_map, List.all_eq_true]
  intro n _
  rfl
theorem ixN_ok {n : Nat} {i : Int} (h0 : 0 ≤ i) (h1 : i < n) : ixN n i = some i.toNat := by
  unfold ixN
  rw [if_pos h0, if_pos h1]
def spRow (K : PySem.W.Frag) : Sp := fun vs H Q _ => ∃ (a b : Addr) (cs : List Int) (n : Nat) (m : Int), vs = [.ref a, .int m] ∧ Sx a b cs n H ∧ n ≤ 900000 ∧ 0 ≤ m ∧ m < 2 ^ 60 ∧
  ∀ H' v d ds, Frm (· = a) H H' → Sx a b cs (n + 8) H' → Dv K (· = a) H' v d → seqD d = some ds → ds.length ≤ 4 → ds.all tame = true → Q v H'
def spLaw (K : PySem.W.Frag) : Sp := fun vs H Q _ => ∃ (a : Addr) (ns : List Int), vs = [.ref a] ∧ SqL K H a (ns.map V.int) ∧ ns.length ≤ 63 ∧ ∀ H', Q (.bl true) H'
end
end MT
/-! what is kept of a list; lists of numbers that are equal, that rise -/
namespace MT
open PySem L2
section
variable {K : PySem.W.Frag} {M : Addr → Prop} {H H' : Hp}
theorem take_filter_next {α : Type} {p : α → Bool} {xs : List α} {i : Nat} {x : α} (h : xs[i]? = some x) : (xs.take (i + 1)).filter p = (xs.take i).filter p ++ (if p x then [x] else []) := by
  rw [take_next h, List.filter_append]
  by_cases e : p x = true
  · rw [if_pos e, List.filter_cons_of_pos e]; rfl
  · rw [if_neg e, List.filter_cons_of_neg e]; rfl
theorem lc_keep {a : Addr} {xs : List V} {ds : List PyData} {J : It} {g : TG} {tt : TT} {te : TE} {vs : List Nat} {σ : St} {H1 : Hp} {D : Addr} {Qd : Hp → Prop} (p : PyData → Bool)
    (hD : H1 D = none) (hJ : SeqIt K a xs H1 J) (hda : DvAll K M H1 xs ds) (hlen : xs.length ≤ 10000000)
    (hs : ∀ x d H, d ∈ ds → Dv K M H x d → Same H1 H → ∀ (Ky : VK) (Kn : Hp → Prop), (p d = true → ∀ H', Same H H' → Ky x H') → (p d = false → ∀ H', Same H H' → Kn H') → LcStep g tt te vs σ x H Ky Kn)
    (hd : ∀ H ys, Same H1 H → H D = some (.lst ys) → DvAll K M H ys (ds.filter p) → Qd H) : LcW J g tt te vs σ H1 D Qd := by
  refine lcg_seq (fun _ => False) (fun _ _ => True) (fun i acc H => DvAll K M H1 acc ((ds.take i).filter p)) hD hJ (fun z => z) hlen (fun _ _ _ _ z => z) (fun _ _ _ _ _ z => z) trivial .nil ?_ ?_
  · intro i x acc H hx F hDa _ hA Ky Kn ky kn
    obtain ⟨d, hd1, hd2⟩ := hda.get hx
    have F2 := same_frm F
    have e := take_filter_next (p := p) hd1
    refine hs x d H (List.mem_of_getElem? hd1) (hd2.same F2) F2 _ _ (fun hp H' F' => ?_) (fun hp H' F' => ?_)
    · refine ky _ H' (F.trans (frm_same F')) (F' _ _ hDa) trivial ?_
      rw [e, if_pos hp]
      exact hA.append (.cons hd2 .nil)
    · refine kn H' (F.trans (frm_same F')) (F' _ _ hDa) trivial ?_
      rw [e, if_neg (by rw [hp]; exact Bool.false_ne_true), List.append_nil]
      exact hA
  · intro H acc F hDa _ hA _
    rw [List.take_of_length_le (by rw [hda.length]; exact Nat.le_refl _)] at hA
    exact hd H acc (same_frm F) hDa (hA.same (same_frm F))
theorem DvAll.dpAll {vs : List V} {ds : List PyData} (h : DvAll K M H vs ds) (t : ds.all tame = true) : DpAll K H vs ds := DvAll.dp ds vs h (tame_seq t).1
theorem all_filter {α : Type} {p q : α → Bool} {l : List α} (h : l.all p = true) : (l.filter q).all p = true := by
  rw [List.all_eq_true] at h ⊢
  exact fun x hx => h x (List.mem_filter.mp hx).1
theorem eq_nil {p l : Addr} {ys : List V} {ds : List PyData} {Q : VK} (hp : SqL K H p ys) (hd : DvAll K M H ys ds) (t : ds.all tame = true) (hl : SqL K H l []) (q : Q (.bl ds.isEmpty) H) : rEqD K (.ref p) (.ref l) H Q :=
  ⟨.list ds, .list [], .lst hp (hd.dpAll t), .lst hl .nil, shaped_list t, shaped_ints [], by cases ds <;> exact q⟩
theorem eq_nil' {p l : Addr} {ys : List V} {ds : List PyData} {Q : VK} {b : Bool} (hp : SqL K H p ys) (hd : DvAll K M H ys ds) (t : ds.all tame = true) (hl : SqL K H l []) (e : ds.isEmpty = b) (q : Q (.bl b) H) : rEqD K (.ref p) (.ref l) H Q :=
  eq_nil hp hd t hl (e ▸ q)
theorem cr_sortedIN {X : Cx} : CallR X (.builtin "sorted") (fun vs H Q => ∃ (a : Addr) (ns : List Int), vs = [V.ref a] ∧ SqL X.K H a (ns.map V.int) ∧ ∀ (ns' : List Int) (p : Addr) (H2 : Hp), ns'.Perm ns → New H H2 p (.lst (ns'.map V.int)) → Q (.ref p) H2) := by
  intro pins s σ H xs us Q I r h
  obtain ⟨a, ns, e, hs, q⟩ := h
  exact cr_sortedI pins s σ H xs us Q I r ⟨a, ns, e, hs, fun ns' p hp _ hn => q ns' p _ hp (New.mk' hn)⟩
theorem op_in_seqK {X : Cx} (e : X.K = K) : OpR X (compareOp .In) (rIn K false) := e ▸ op_in_seq
theorem iteNE {a b : Bool} {A B : Prop} (e : a = b) (h : B) : if (!decide (V.str (boolText a) = V.str (boolText b))) = true then A else B := iteNS (by rw [e]) h
theorem eqv_ints : ∀ ns ms : List Int, PyData.eqvAll (ns.map PyData.int) (ms.map PyData.int) = decide (ns = ms)
  | [], [] => by simp [PyData.eqvAll]
  | [], _ :: _ => by simp [PyData.eqvAll]
  | _ :: _, [] => by simp [PyData.eqvAll]
  | n :: ns, m :: ms => by
    have ih := eqv_ints ns ms
    simp only [List.map_cons, PyData.eqvAll, PyData.eqv, ih, List.cons.injEq]
    by_cases e : n = m
    · simp [e]
    · simp [e]
theorem eq_ints {p l : Addr} {ns ms : List Int} {Q : VK} (hp : SqL K H p (ns.map V.int)) (hl : SqL K H l (ms.map V.int)) (q : Q (.bl (decide (ns = ms))) H) : rEqD K (.ref p) (.ref l) H Q :=
  ⟨.list (ns.map .int), .list (ms.map .int), .lst hp (dp_ints ns), .lst hl (dp_ints ms), shaped_ints ns, shaped_ints ms, by
    have e : PyData.eqv (.list (ns.map .int)) (.list (ms.map .int)) = decide (ns = ms) := by simp only [PyData.eqv, eqv_ints]
    exact e ▸ q⟩
theorem inV_ints (z : Int) (ns : List Int) : inV (.int z) (ns.map V.int) = decide (z ∈ ns) := by
  unfold inV
  rw [List.any_map, Bool.eq_iff_iff, List.any_eq_true, decide_eq_true_iff]
  constructor
  · rintro ⟨x, hx, e⟩
    have e2 : (x == z) = true := by simpa [eqV] using e
    rw [← beq_iff_eq.mp e2]
    exact hx
  · intro h
    exact ⟨z, h, by simp [eqV]⟩
theorem flat_ints (ns : List Int) : (ns.map V.int).all flatV = true := by
  rw [List.all_map, List.all_eq_true]
  intro n _
  rfl
/-! ### the facts of lots -/
def upto (k : Nat) : List Int := (List.range k).map fun i => ((i : Nat) : Int)
theorem rises_iff : ∀ ns : List Int, risesD (ns.map PyData.int) = true ↔ ns.Pairwise (· < ·)
  | [] => by simp [risesD]
  | [x] => by simp [risesD]
  | x :: y :: r => by
    have ih := rises_iff (y :: r)
    show (decide (x < y) && risesD ((y :: r).map PyData.int)) = true ↔ _
    rw [Bool.and_eq_true, ih, decide_eq_true_iff, List.pairwise_cons (a := x)]
    constructor
    · rintro ⟨h1, h2⟩
      refine ⟨fun z hz => ?_, h2⟩
      rcases List.mem_cons.mp hz with e | hz
      · rw [e]; exact h1
      · exact Int.lt_trans h1 ((List.pairwise_cons.mp h2).1 z hz)
    · rintro ⟨h1, h2⟩
      exact ⟨h1 y (List.mem_cons_self ..), h2⟩
theorem asc_ext : ∀ {l m : List Int}, l.Pairwise (· < ·) → m.Pairwise (· < ·) → (∀ x, x ∈ l ↔ x ∈ m) → l = m
  | [], [], _, _, _ => rfl
  | [], y :: m, _, _, h => absurd ((h y).mpr (List.mem_cons_self ..)) (by simp)
  | x :: l, [], _, _, h => absurd ((h x).mp (List.mem_cons_self ..)) (by simp)
  | x :: l, y :: m, p, q, h => by
    have hp := List.pairwise_cons.mp p
    have hq := List.pairwise_cons.mp q
    have e : x = y := by
      rcases List.mem_cons.mp ((h x).mp (List.mem_cons_self ..)) with e | hx
      · exact e
      · rcases List.mem_cons.mp ((h y).mpr (List.mem_cons_self ..)) with e | hy
        · exact e.symm
        · have h1 := hq.1 x hx
          have h2 := hp.1 y hy
          omega
    subst e
    have t : l = m := asc_ext hp.2 hq.2 fun z => by
      constructor
      · intro hz
        rcases List.mem_cons.mp ((h z).mp (List.mem_cons_of_mem _ hz)) with e | h1
        · have := hp.1 z hz
          omega
        · exact h1
      · intro hz
        rcases List.mem_cons.mp ((h z).mpr (List.mem_cons_of_mem _ hz)) with e | h1
        · have := hq.1 z hz
          omega
        · exact h1
    rw [t]
theorem upto_asc (k : Nat) : (upto k).Pairwise (· < ·) := by
  unfold upto
  rw [List.pairwise_map]
  exact List.pairwise_lt_range.imp fun h => Int.ofNat_lt.mpr h
theorem mem_upto {k : Nat} {x : Int} : x ∈ upto k ↔ 0 ≤ x ∧ x < k := by
  unfold upto
  rw [List.mem_map]
  constructor
  · rintro ⟨i, hi, rfl⟩
    have := List.mem_range.mp hi
    omega
  · rintro ⟨h0, h1⟩
    exact ⟨x.toNat, List.mem_range.mpr (by omega), by omega⟩
/-- a lot is what is picked of all numbers below k, in order -/
theorem lot_iff (ns : List Int) (k : Nat) : decide (ns = (upto k).filter fun x => decide (x ∈ ns)) = ((ns.map PyData.int).all (fun x => withinD x (some 0) (some ((k : Int) - 1))) && risesD (ns.map PyData.int)) := by
  rw [Bool.eq_iff_iff, decide_eq_true_iff, Bool.and_eq_true, rises_iff, List.all_map, List.all_eq_true]
  have hw : (∀ x ∈ ns, ((fun x => withinD x (some 0) (some ((k : Int) - 1))) ∘ PyData.int) x = true) ↔ ∀ x ∈ ns, 0 ≤ x ∧ x < k := by
    constructor
    · intro h x hx
      have q : (decide (0 ≤ x) && decide (x ≤ (k : Int) - 1)) = true := h x hx
      simp only [Bool.and_eq_true, decide_eq_true_eq] at q
      omega
    · intro h x hx
      have q := h x hx
      show (decide (0 ≤ x) && decide (x ≤ (k : Int) - 1)) = true
      simp only [Bool.and_eq_true, decide_eq_true_eq]
      omega
  rw [hw]
  constructor
  · intro e
    refine ⟨fun x hx => ?_, ?_⟩
    · rw [e] at hx
      exact mem_upto.mp (List.mem_filter.mp hx).1
    · rw [e]
      exact (upto_asc k).filter _
  · rintro ⟨h1, h2⟩
    refine asc_ext h2 ((upto_asc k).filter _) fun x => ?_
    rw [List.mem_filter, decide_eq_true_iff]
    exact ⟨fun hx => ⟨mem_upto.mpr (h1 x hx), hx⟩, fun h => h.2⟩
theorem filter_none {α : Type} (p : α → Bool) (l : List α) : (l.filter fun x => !p x).isEmpty = l.all p := by
  induction l with
  | nil => rfl
  | cons x r ih =>
    rw [List.all_cons, ← ih]
    cases e : p x with
    | true => rw [List.filter_cons_of_neg (by rw [e]; exact Bool.false_ne_true)]; rfl
    | false => rw [List.filter_cons_of_pos (by rw [e]; rfl)]; rfl
theorem len_eq {n : Nat} {m : Int} : decide (V.int (n : Int) = V.int m) = decide ((n : Int) = m) := by
  rw [Bool.eq_iff_iff, decide_eq_true_iff, decide_eq_true_iff]
  exact ⟨fun e => V.int.inj e, fun e => by rw [e]⟩
def spTrue (c : Nat) : Sp := fun vs H Q _ => ∃ (a b : Addr) (cs : List Int) (n : Nat), vs = [.ref a] ∧ Sx a b cs n H ∧ n ≤ 800000 ∧ ∀ H', Frm (· = a) H H' → Sx a b cs (n + c) H' → Q (.bl true) H'
end
end MT
/-! texts -/
namespace MT
open PySem L2 TL
section
variable {K : PySem.W.Frag} {M : Addr → Prop} {H H' : Hp}
theorem tl_sign (c : Nat) : tl (⟨#[c]⟩ : Str) = [c] := rfl
theorem joinL_ones : ∀ l : List Nat, joinL [] (l.map fun c => [c]) = l
  | [] => rfl
  | [c] => rfl
  | c :: d :: r => by
    have ih := joinL_ones (d :: r)
    show [c] ++ ([] ++ joinL [] ((d :: r).map fun c => [c])) = c :: d :: r
    rw [ih]
    rfl
theorem tl_join_signs (l : List Nat) : tl (Txt.join "" (l.map fun c => (⟨#[c]⟩ : Str))) = l := by
  rw [join_eq, tl_join, List.map_map]
  have e : tl ("" : Str) = [] := by decide +kernel
  rw [e]
  exact joinL_ones l
theorem sum_ones (l : List Nat) : ((l.map fun c => (⟨#[c]⟩ : Str)).map (·.length)).sum = l.length := by
  induction l with
  | nil => rfl
  | cons c r ih =>
    rw [List.map_cons, List.map_cons, List.sum_cons, ih, List.length_cons]
    show 1 + r.length = _
    omega
theorem tl_cut_lo {z : Str} {i : Int} (h0 : 0 ≤ i) : tl (cutS z none (some i)) = (tl z).take i.toNat := by
  obtain ⟨j, rfl⟩ : ∃ j : Nat, i = j := ⟨_, (Int.toNat_of_nonneg h0).symm⟩
  show (((tl z).drop (HT.sIx z.length 0 none)).take (HT.sIx z.length z.length (some (j : Int)) - HT.sIx z.length 0 none)) = _
  rw [HT.sIx_none, HT.sIx_nat, List.drop_zero, Nat.sub_zero, len_tl, Int.toNat_natCast]
  by_cases h : j ≤ (tl z).length
  · rw [Nat.min_eq_left h]
  · rw [Nat.min_eq_right (by omega), List.take_of_length_le (Nat.le_refl _), List.take_of_length_le (by omega)]
theorem tl_cut_hi {z : Str} {i : Int} (h0 : 0 ≤ i) : tl (cutS z (some i) none) = (tl z).drop i.toNat := by
  obtain ⟨j, rfl⟩ : ∃ j : Nat, i = j := ⟨_, (Int.toNat_of_nonneg h0).symm⟩
  show (((tl z).drop (HT.sIx z.length 0 (some (j : Int)))).take (HT.sIx z.length z.length none - HT.sIx z.length 0 (some (j : Int)))) = _
  rw [HT.sIx_none, HT.sIx_nat, len_tl, Int.toNat_natCast]
  by_cases h : j ≤ (tl z).length
  · rw [Nat.min_eq_left h, List.take_of_length_le]
    rw [List.length_drop]
    exact Nat.le_refl _
  · rw [Nat.min_eq_right (by omega), List.drop_of_length_le (Nat.le_refl _), List.drop_of_length_le (by omega)]
    exact List.take_nil
theorem signs_lt {z : Str} (h : (tl z).all nameSign = true) : ∀ c ∈ tl z, c < 1114112 := fun c hc => by
  have q := List.all_eq_true.mp h c hc
  unfold nameSign at q
  simp only [Bool.or_eq_true, Bool.and_eq_true, decide_eq_true_eq] at q
  omega
theorem strOk_of {z : Str} (h : ∀ c ∈ tl z, c < 1114112) : PyData.strOk z = true := by
  unfold PyData.strOk
  rw [← Array.all_toList, List.all_eq_true]
  exact fun c hc => decide_eq_true (h c hc)
theorem strOk_signs {z : Str} (h : (tl z).all nameSign = true) : PyData.strOk z = true := by
  unfold PyData.strOk
  rw [← Array.all_toList, List.all_eq_true]
  intro c hc
  have q := List.all_eq_true.mp h c hc
  unfold nameSign at q
  simp only [Bool.or_eq_true, Bool.and_eq_true, decide_eq_true_eq] at q
  exact decide_eq_true (by omega)
theorem eq_data {v u : V} {d e : PyData} {b : Bool} {Q : VK} (hv : Dv K M H v d) (hu : Dv K M H u e) (td : tame d = true) (te : tame e = true) (eb : PyData.eqv d e = b) (q : Q (.bl b) H) : rEqD K v u H Q := by
  have h : ∀ d : PyData, tame d = true → SeqAt.shaped d = true ∧ d.canLay0 = true := fun d h => by
    unfold tame at h
    simp only [Bool.and_eq_true, decide_eq_true_eq] at h
    exact ⟨by unfold SeqAt.shaped; rw [Bool.and_eq_true]; exact ⟨h.1, decide_eq_true (by omega)⟩, h.1⟩
  exact ⟨d, e, Dv.dp d v hv (h d td).2, Dv.dp e u hu (h e te).2, (h d td).1, (h e te).1, eb ▸ q⟩
theorem nameD_bad {z : Str} {c : Nat} (h : c ∈ tl z) (hc : nameSign c = false) : nameD (.str z) = false := by
  show (_ && _ && _) = false
  have e : z.cps.toList.all nameSign = false := by
    cases q : z.cps.toList.all nameSign with
    | false => rfl
    | true => rw [List.all_eq_true.mp q c h] at hc; cases hc
  rw [e, Bool.and_false]
theorem nameD_good {z : Str} (h : (tl z).all nameSign = true) : nameD (.str z) = (decide (1 ≤ z.length) && decide (z.length ≤ 12)) := by
  show (_ && _ && z.cps.toList.all nameSign) = _
  have e : z.cps.toList.all nameSign = true := h
  rw [e, Bool.and_true]
theorem letter_at {d : Int} (h0 : 0 ≤ d) (h1 : d < 36) : ∃ c, nameSign c = true ∧ atI (("abcdefghijklmnopqrstuvwxyz0123456789" : Str).cps.toList) d = some c := by
  have e : (("abcdefghijklmnopqrstuvwxyz0123456789" : Str).cps.toList) = [97, 98, 99, 100, 101, 102, 103, 104, 105, 106, 107, 108, 109, 110, 111, 112, 113, 114, 115, 116, 117, 118, 119, 120, 121, 122, 48, 49, 50, 51, 52, 53, 54, 55, 56, 57] := by decide +kernel
  obtain ⟨j, rfl⟩ : ∃ j : Nat, d = j := ⟨_, (Int.toNat_of_nonneg h0).symm⟩
  rw [e]
  have hj : j < ([97, 98, 99, 100, 101, 102, 103, 104, 105, 106, 107, 108, 109, 110, 111, 112, 113, 114, 115, 116, 117, 118, 119, 120, 121, 122, 48, 49, 50, 51, 52, 53, 54, 55, 56, 57] : List Nat).length := by
    show j < 36
    omega
  exact ⟨_, (sign_mem _).mp (List.getElem_mem hj), atI_nat (List.getElem?_eq_getElem hj)⟩
end
end MT
/-! promises of defs that are called while no repr is under way; repr of data -/
namespace MT
open PySem L2
/-- as FnOk, where no repr is under way -/
structure FnG (P : Program) (w : World) (K : PySem.W.Frag) (mg : Str → Option Value) (base : Heap) (CX : CXT) (k : Nat) (f : Addr) (fd : FuncData) (ps : List Str) (sp : Sp) : Prop where
  len : ∀ vs H Q E, sp vs H Q E → vs.length = ps.length
  run : ∀ (A : Around) (outer : List Env) (s : Shared) (H : Hp) (args : Args) (us : List Value) (vs : List V) (Q : VK) (E : XK), A.guards = some [] → Room k A → Env0 P w K mg base A outer s H → BindsTo s fd args (ps.zip us) → Vals vs us → sp vs H Q E →
    codeAny (model P w) A (.call (.ref f) args) (CR CX outer P w H s Q E) s
section
variable {P : Program} {w : World} {K : PySem.W.Frag} {mg : Str → Option Value} {base : Heap}
theorem okG {CX : CXT} {x qual : Str} {st : Stmt} {f : Addr} {fd : FuncData} {N ps : List Str} {k : Nat} {sp : Sp} (F : Fun K x qual st f fd) (S : FnScope N ps (defScope st)) (len : ∀ vs H Q E, sp vs H Q E → vs.length = ps.length)
    (hbody : ∀ (cdv : Value) (A : Around) (outer : List Env) (s : Shared) (H : Hp) (vs : List V) (Q : VK) (E : XK), (A.deeper (PyProof.Rows.envOfC qual (defScope st) s.heap.objs.size f cdv)).guards = some [] → Room k (A.deeper (PyProof.Rows.envOfC qual (defScope st) s.heap.objs.size f cdv)) → sp vs H Q E →
      ∃ t, PSs (cxOf CX P w K mg base N qual (defScope st) f cdv A outer s H E) (defBody st) t ∧ t { nx := fun _ H' => Q .non H', rt := Q } (L2.start N vs) H) : FnG P w K mg base CX (k + 1) f fd ps sp := by
  obtain ⟨_, _, _, _, _, _, cdv, _, _, rfl, lk, hcd⟩ := F.ex
  exact ⟨len, fun A outer s H args us vs Q E hg hr e0 hb r h => LamX.run_ofS lk hcd S hr e0 hb r (len _ _ _ _ h) fun hr' => hbody cdv A outer s H vs Q E hg hr' h⟩
end
section
variable {X : Cx} {CX : CXT} {k n : Nat} {f : Addr} {fd : FuncData} {ps ks : List Str} {sp : Sp} {E : XK} {x : Str} {p pos : Pos} {e : Expr} {es : List Expr} {kws : List Keyword} {t tk : TA} {g : List Value → List Value → List Value} {gV : List V → List V → List V} {ds : List Value} {dvs : List V}
theorem back {pins : List (Addr × Obj)} {σ : L2.St} {H : Hp} {s : Shared} {Q : VK} {v : Value} {args : Args} (I : Inv X pins σ H s) (hx : Passes CX X E)
    (c : codeAny (model X.prog X.w) X.A (.call v args) (CR CX X.stack X.prog X.w H s Q E) s) : codeAny (model X.prog X.w) X.A (.call v args) (fun r s' => match r with | .ok (.ret u) => EP X pins σ Q u s' | .ok _ => False | .error e => X.xe e s') s :=
  codeAny_mono c fun r s' q => by
    cases r with
    | error e => exact hx pins σ H s e s' I q
    | ok fl =>
      cases fl with
      | ret u => exact I.after q
      | _ => exact q.elim
theorem pe_callG (F : FnG X.prog X.w X.K X.mg X.base CX k f fd ps sp) (hq : X.A.guards = some []) (hr : Room k X.A) (hg : Gl X x) (hm : X.mg x = some (.ref f)) (hk : PySem.W.keepIn X.K (.ref f) = true) (hb : Binds X.K fd ps ds) (hd : Vals dvs ds) (hx : Passes CX X E)
    (ha : PA X (e :: es) t) (dbg : (x == ("__debug__" : Str)) = false := by decide) (he : starEach (e :: es) X.env = (false, eval e X.env) :: starEach es X.env := by rfl) (plain : (backTo pos (starEach es X.env)).any (·.1) = false := by rfl) :
    PE X (.Call (.Name x p) (e :: es) [] pos) (tCall sp dvs E t) :=
  ⟨fun pns st sl Hs Q I0 told => wpAny_Call_Name_kw (ld_glob I0 hg hm (PySem.W.callWith_K (h₀ := X.base) I0.ok.mod.kin hk (thn (ha.run pos pns st sl Hs _ I0 told) fun us s1 ⟨vs, H1, J, r, q⟩ => ⟨J.kIn, by
      have r2 : Vals (vs ++ dvs) (us ++ ds) := r.append hd
      have hl : (us ++ ds).length = ps.length := by rw [← r2.length]; exact F.len _ _ _ _ q
      refine wpAny_call (codeAny_mono (back J hx (F.run X.A X.stack s1 H1 ⟨us, []⟩ (us ++ ds) (vs ++ dvs) Q E hq hr J.env0 (hb s1 us J.kIn hl) r2 q)) fun r' s' z => ?_)
      cases r' with
      | error e => exact z
      | ok fl => cases fl with
        | ret u => exact z
        | _ => exact z.elim⟩) he plain) dbg)⟩
/-! ### repr of data -/
theorem call_reprD (hq : X.A.guards = some []) (hr : Room k X.A) : CallR X (.builtin "repr") (fun xs H Q => ∃ v d, xs = [v] ∧ Dp X.K H v d ∧ d.showable = true ∧ d.hasDict = false ∧ d.depth ≤ 64 ∧ d.shown.length ≤ sizeLine ∧ Q (.str d.shown) H) := by
  intro pns st sl Hs xs us Q I0 r h
  obtain ⟨v, d, rfl, hd, sh, nd, dp, sz, q⟩ := h
  obtain ⟨u, rfl, rv⟩ := Vals.one r
  obtain ⟨as, rd⟩ := Dp.reads I0 d v u hd rv
  have hu := hr.un
  have fin : ∀ (h' : Heap) (tk : Nat), (∀ b o, st.heap.get? b = some o → h'.get? b = some o) → Inv X pns sl Hs { st with heap := h', toks := tk } := fun h' tk kp => I0.kept kp
  have go : ∀ a, u = .ref a → wpAny (model X.prog X.w) X.A (call (.builtin "repr") [u]) (EP X pns sl Q) X.xe st := fun a e => by
    subst e
    refine repr_of_reads' rd sh (fun z => absurd z (by rw [nd]; exact Bool.false_ne_true)) hq (by omega) (fun _ _ z => z) (fun h' tk1 tk2 kp => ⟨.str d.shown, Hs, fin h' tk2 kp, ⟨_, rfl⟩, q⟩) sz
  cases hd with
  | non => cases rv; exact PySem.P.repr_of_none ⟨.str _, _, I0.tok _, ⟨_, rfl⟩, q⟩
  | bl b => cases rv; exact PySem.P.repr_of_bool ⟨.str _, _, I0.tok _, ⟨_, rfl⟩, q⟩
  | int i => obtain ⟨t, rfl⟩ := rv; exact PySem.P.repr_of_int (by simpa [PyData.showable] using sh) ⟨.str _, _, I0.tok _, ⟨_, rfl⟩, q⟩
  | str z => obtain ⟨t, rfl⟩ := rv; exact PySem.P.repr_of_str ⟨.str _, _, I0.tok _, ⟨_, rfl⟩, q⟩ sz
  | lst _ _ => exact go _ rv
  | tup _ _ => exact go _ rv
end
end MT
/-! errors of the program: made, raised, caught, asked -/
namespace MT
open PySem L2
/-- an error's own __init__: it keeps its one part -/
def spInit (K : PySem.W.Frag) (f : Str) : Sp := fun vs H Q _ => ∃ (a C : Addr) (p : V), vs = [.ref a, p] ∧ OexC K C ∧ PySem.W.findIn K (.ref C) f = some none ∧ H a = some (exo a C none) ∧
  ∀ dx, H dx = none → dx ≠ a → Q .non (upd (upd H dx (exd dx [(f, p)])) a (exo a C (some dx)))
/-- what the text says of an error's class -/
structure ErrC (K : PySem.W.Frag) (mg : Str → Option Value) (x : Str) (C fI : Addr) (f : Str) : Prop where
  gC : mg x = some (.ref C)
  oex : OexC K C
  noF : PySem.W.findIn K (.ref C) f = some none
  iC : PySem.W.findIn K (.ref C) "__init__" = some (some (.ref fI))
  tI : PySem.W.typeIn K (.ref fI) = some (.type "function")
  xf : XfC K C
  cl : PySem.W.findIn K (.ref C) "__class__" = some (some (.builtin "object.__class__"))
  ob : PySem.W.mroIn K C (.type "object") = some true
/-- C(e): its class, its dict, which is new -/
def tMkE (C : Addr) (f : Str) (ta : TA) : L2.St → Hp → XK → Prop := fun σ H Q => ta σ H fun vs H1 => ∃ p, vs = [p] ∧ ∀ d H2, New H1 H2 d (.xd [(f, p)]) → Q (.ref C) (some d) H2
theorem mk_new {H : Hp} {a dx C : Addr} {f : Str} {p : V} (n : H a = none) (nx : H dx = none) (ne : dx ≠ a) :
    New H (upd (del (upd (upd (upd H a (exo a C none)) dx (exd dx [(f, p)])) a (exo a C (some dx))) a) dx (.xd [(f, p)])) dx (.xd [(f, p)]) := by
  refine ⟨fun c o e => ?_, upd_same, nx⟩
  have h1 : c ≠ a := ne_of_none e n
  have h2 : c ≠ dx := ne_of_none e nx
  rw [upd_ne h2, del_ne h1, upd_ne h1, upd_ne h2, upd_ne h1]
  exact e
section
variable {X : Cx} {x f : Str} {C fI : Addr} {k : Nat} {fd : FuncData} {e : Expr} {es : List Expr} {ta : TA} {p pos : Pos}
theorem pmk_err {CX : CXT} (T : ErrC X.K X.mg x C fI f) (F : FnOk X.prog X.w X.K X.mg X.base CX k fI fd ["self", f] (spInit X.K f)) (hr : Room (k + 1) X.A) (hb : Binds X.K fd ["self", f] []) (hx : Passes CX X (fun _ _ _ => False)) (hg : Gl X x) (ha : PA X (e :: es) ta)
    (hdb : (x == ("__debug__" : Str)) = false := by decide) (he : starEach (e :: es) X.env = (false, eval e X.env) :: starEach es X.env := by rfl) (hpl : (backTo pos (starEach es X.env)).any (·.1) = false := by rfl) :
    PMk X (.Call (.Name x p) (e :: es) [] pos) (tMkE C f ta) := by
  intro pins s σ H Q I h
  refine pmk_oex T.oex T.iC T.tI F hr hb .nil hx hg T.gC (PA.cl ha) hdb he hpl pins s σ H Q I ⟨_, fun vs H1 z => ?_, h⟩
  obtain ⟨y, rfl, q⟩ := z
  refine ⟨by show 1 ≤ 1000; decide, fun a na => ⟨a, C, y, rfl, T.oex, T.noF, upd_same, fun dx nx ne => ?_⟩⟩
  rw [upd_ne ne] at nx
  exact ⟨rfl, dx, [(f, y)], upd_same, by rw [upd_ne ne, upd_same], nx, q dx _ (mk_new na nx ne)⟩
end
end MT
namespace MT
open PySem
def clsBody (x : Stmt) : List Stmt := match x with
  | .ClassDef (body := inner) .. => inner
  | _ => []
end MT
/-! a star among the targets; any of integers; tuples times and joined -/
namespace MT
open PySem L2 PyProof.Rows
section
variable {P : Program} {w : World} {A : Around} {E : Value → Shared → Prop} {st : Shared} {l : Addr} {its : Array Value} {n i : Nat} {Q : List Value → Shared → Prop}
/-- what is left over stands in a new list -/
def Rests (st : Shared) (its : Array Value) (n i : Nat) (Q : List Value → Shared → Prop) : Prop :=
  ∀ D h' tk, (∀ b o, st.heap.get? b = some o → h'.get? b = some o) → st.heap.get? D = none →
    h'.get? D = some { cls := .type "list", data := .seq ((its.toList.drop i).take (its.size + 1 - n)).toArray } →
    Q (its.toList.take i ++ [.ref D] ++ (its.toList.drop i).drop (its.size + 1 - n)) { st with heap := h', toks := tk }
theorem rests_end {h1 : Heap} {tk : Nat} (old : ∀ b o, st.heap.get? b = some o → h1.get? b = some o) (hi : i < n) (hn : n ≤ its.size + 1) (hz : its.size ≤ 16384) (k : Rests st its n i Q) :
    wpAny (model P w) A (newList ((its.toList.drop i).take (its.size + 1 - n)) >>= fun d => pure (its.toList.take i ++ [d] ++ (its.toList.drop i).drop (its.size + 1 - n))) Q E { st with heap := h1, toks := tk } := by
  have e1 : (its.toList.drop i).length = its.size - i := by simp
  refine wpAny_bind (wpAny_newList (s := { st with heap := h1, toks := tk }) ?_ (by rw [List.length_take, sizeLine_eq]; omega))
  refine wpAny_pure (k h1.objs.size _ tk (fun b o e => Heap.get?_push_of_some _ (old b o e)) ?_ (Heap.get?_push_size _ rfl))
  cases e : st.heap.get? h1.objs.size with
  | none => rfl
  | some o => exact absurd (Heap.lt_size (old _ _ e)) (Nat.lt_irrefl _)
theorem rests_mid (hi : i < n) (hn : n ≤ its.size + 1) : ¬ (its.toList.drop i).length < n - 1 - i ∧ (its.toList.drop i).length - (n - 1 - i) = its.size + 1 - n := by
  have e1 : (its.toList.drop i).length = its.size - i := by simp
  omega
theorem rests_list (hl : st.heap.IsList l its) (hh : A.handled = none) (hi : i < n) (hn : n ≤ its.size + 1) (hz : its.size ≤ 16384) (k : Rests st its n i Q) :
    wpAny (model P w) A (unpackItems (.ref l) n (some i)) Q E st := by
  have lt : l < st.heap.objs.size := by
    obtain ⟨o, e, _⟩ := hl
    exact Heap.lt_size e
  have ne : l ≠ st.heap.objs.size := Nat.ne_of_lt lt
  unfold unpackItems notIterableAtAll
  refine wpAny_bind (wpAny_bind (wpAny_specialOf hl.typeIs slot_list_iter.lookup (wpAny_pure ?_)))
  rw [if_neg (by decide)]
  refine wpAny_bind (wpAny_holding (wpAny_pyIter_list hl (wpAny_bind ?_)))
  refine (wpAny_holding (PySem.W.kun_draw ne i 0 _ _ ⟨_, Heap.get?_push_size _ rfl, rfl, rfl⟩ (hl.push _) (by omega) fun ha ia sa => ?_))
  have la : ha.IsList l its := (hl.push _).extBut sa.extBut ne
  rw [Nat.zero_add] at ia
  have lta : st.heap.objs.size < ha.objs.size := by
    obtain ⟨o, e, _⟩ := ia
    exact Heap.lt_size e
  have ltl : l < ha.objs.size := by
    obtain ⟨o, e, _⟩ := la
    exact Heap.lt_size e
  rw [List.drop_zero]
  rw [if_neg (by rw [List.length_take, Array.length_toList]; omega)]
  refine wpAny_bind (wpAny_holding (PySem.W.kun_collect (s := { st with heap := ha }) (.inr (.inr (.inl rfl))) (Walks.list (A := A.in1) hh _ l ne its) (fun j u z => z.1.typeIs) (by omega) ⟨ia, la⟩ lta ltl (fun hb tk kb => ?_) (by rw [sizeLine_eq]; omega)))
  simp only [if_neg (rests_mid hi hn).1, (rests_mid hi hn).2]
  exact rests_end (st := st) (h1 := hb) (tk := tk) (fun b o e => kb b o (Nat.ne_of_lt (Heap.lt_size e)) (sa.extBut b o (Nat.ne_of_lt (Heap.lt_size e)) (Heap.get?_push_of_some _ e))) hi hn hz k
theorem rests_tuple (hl : IsTup st.heap l its) (hh : A.handled = none) (hi : i < n) (hn : n ≤ its.size + 1) (hz : its.size ≤ 16384) (k : Rests st its n i Q) :
    wpAny (model P w) A (unpackItems (.ref l) n (some i)) Q E st := by
  have lt : l < st.heap.objs.size := by
    obtain ⟨o, e, _⟩ := hl
    exact Heap.lt_size e
  have ne : l ≠ st.heap.objs.size := Nat.ne_of_lt lt
  unfold unpackItems notIterableAtAll
  refine wpAny_bind (wpAny_bind (wpAny_specialOf hl.typeIs slot_tuple_iter.lookup (wpAny_pure ?_)))
  rw [if_neg (by decide)]
  refine wpAny_bind (wpAny_holding (iter_tuple hl (wpAny_bind ?_)))
  refine (wpAny_holding (draw_tuple ne i 0 _ _ ⟨_, Heap.get?_push_size _ rfl, rfl, rfl⟩ (hl.push _) (by omega) fun ha ia sa => ?_))
  have la : IsTup ha l its := (hl.push _).extBut sa.extBut ne
  rw [Nat.zero_add] at ia
  have lta : st.heap.objs.size < ha.objs.size := by
    obtain ⟨o, e, _⟩ := ia
    exact Heap.lt_size e
  have ltl : l < ha.objs.size := by
    obtain ⟨o, e, _⟩ := la
    exact Heap.lt_size e
  rw [List.drop_zero]
  rw [if_neg (by rw [List.length_take, Array.length_toList]; omega)]
  refine wpAny_bind (wpAny_holding (PySem.W.kun_collect (s := { st with heap := ha }) (.inr (.inr (.inr rfl))) (Walks.tuple (A := A.in1) hh _ l ne its) (fun j u z => z.1.typeIs) (by omega) ⟨ia, la⟩ lta ltl (fun hb tk kb => ?_) (by rw [sizeLine_eq]; omega)))
  simp only [if_neg (rests_mid hi hn).1, (rests_mid hi hn).2]
  exact rests_end (st := st) (h1 := hb) (tk := tk) (fun b o e => kb b o (Nat.ne_of_lt (Heap.lt_size e)) (sa.extBut b o (Nat.ne_of_lt (Heap.lt_size e)) (Heap.get?_push_of_some _ e))) hi hn hz k
end
theorem vals_take : ∀ (k : Nat) {xs : List V} {us : List Value}, Vals xs us → Vals (xs.take k) (us.take k)
  | 0, _, _, _ => .nil
  | _ + 1, _, _, .nil => .nil
  | k + 1, _, _, .cons a r => .cons a (vals_take k r)
theorem vals_drop : ∀ (k : Nat) {xs : List V} {us : List Value}, Vals xs us → Vals (xs.drop k) (us.drop k)
  | 0, _, _, r => r
  | _ + 1, _, _, .nil => .nil
  | k + 1, _, _, .cons _ r => vals_drop k r
section
variable {X : Cx} {e : Expr} {es : List Expr} {t : TG} {u : TGs} {p pos : Pos}
/-- (.., *e, ..): e's turn -/
theorem pgs_star (h1 : PG X e t) (h2 : PGs X es u) : PGs X (.Starred e p :: es) (gCons t u) := by
  refine ⟨fun pins st sl H vs us Q I r h => ?_⟩
  obtain ⟨v, vr, rfl, h⟩ := h
  cases r with
  | cons r rr =>
    show wpAny _ _ (assignInOrder (assign e X.env :: (assignEach es X.env).map (·.2)) _) _ _ _
    exact assignInOrder_cons (thn (h1.run pins st sl H _ _ _ I r h) fun _ s1 ⟨s2, H1, I1, q1⟩ => h2.run pins s1 s2 H1 _ _ Q I1 rr q1)
/-- (a, .., *b, ..) = a list or a tuple: n targets, the star at i -/
def gStar (K : PySem.W.Frag) (n i : Nat) (t : TGs) : TG := fun v σ H Q => ∃ a xs, v = .ref a ∧ (SqL K H a xs ∨ SqT K H a xs) ∧ n ≤ xs.length + 1 ∧ xs.length ≤ 16384 ∧
  ∀ D H', New H H' D (.lst ((xs.drop i).take (xs.length + 1 - n))) → t (xs.take i ++ [.ref D] ++ (xs.drop i).drop (xs.length + 1 - n)) σ H' Q
theorem pg_star {k : Nat} {n i : Nat} (hc : X.calm = true) (h : PGs X es u) (hi : i < n) (hn : (assignEach es X.env).length = n := by rfl) (hst : (assignEach es X.env).findIdx? (·.1) = some i := by rfl) :
    PG X (.Tuple es k pos) (gStar X.K n i u) := by
  refine ⟨fun pins st sl H v uv Q I r hw => ?_⟩
  obtain ⟨a, xs, rfl, sq, h1, h2, q⟩ := hw
  cases r
  have go : ∀ (its : List Value), Vals xs its → Rests st its.toArray n i (fun us s1 => wpAny (model X.prog X.w) X.A (assignInOrder ((assignEach es X.env).map (·.2)) us) (fun _ s' => ∃ σ' H', Inv X pins σ' H' s' ∧ Q σ' H') X.xe s1) := by
    intro its rv D h' tk old dn dnew
    have el : its.toArray.size = xs.length := by rw [List.size_toArray, rv.length]
    have hD : H D = none := I.hok.gone dn
    rw [el] at dnew ⊢
    have new : ObjOk X.prog X.w (upd H D (.lst ((xs.drop i).take (xs.length + 1 - n)))) h' D (.lst ((xs.drop i).take (xs.length + 1 - n))) :=
      ⟨by rw [List.length_take, sizeLine_eq]; omega, _, 0, vals_take _ (vals_drop i rv), dnew⟩
    have J : Inv X pins sl (upd H D (.lst ((xs.drop i).take (xs.length + 1 - n)))) { st with heap := h', toks := tk } := I.laidN old dn hD new
    exact h.run pins _ sl _ _ _ Q J (by
      have r1 : Vals [V.ref D] [Value.ref D] := .cons rfl .nil
      have r2 := ((vals_take i rv).append r1).append (vals_drop (xs.length + 1 - n) (vals_drop i rv))
      simpa using r2) (q D _ (New.mk' hD))
  rw [assign_Tuple]
  refine wpAny_bind (wpAny_standAt ?_)
  unfold unpack
  rw [hn, hst]
  rcases sq with sq | sq
  · obtain ⟨its, rv, pl, _⟩ := I.list sq
    exact wpAny_bind (wpAny_holding (rests_list pl.isList (I.ok.hd hc) hi (by rw [List.size_toArray, ← rv.length]; exact h1) (by rw [List.size_toArray, ← rv.length]; exact h2) (go its rv)))
  · obtain ⟨its, rv, pl, _⟩ := I.tuple sq
    exact wpAny_bind (wpAny_holding (rests_tuple pl (I.ok.hd hc) hi (by rw [List.size_toArray, ← rv.length]; exact h1) (by rw [List.size_toArray, ← rv.length]; exact h2) (go its rv)))
theorem anyI_range (ns : List Int) : (List.range ns.length).any (fun i => ns.getD i 0 != 0) = ns.any (· != 0) := by
  induction ns with
  | nil => rfl
  | cons n r ih =>
    rw [List.length_cons, List.range_succ_eq_map, List.any_cons, List.any_map, List.any_cons, ← ih]
    rfl
/-- any(integers) -/
theorem cr_anyI (hc : X.calm = true) : CallR X (.builtin "any") (fun vs H Q => ∃ (a : Addr) (ns : List Int), vs = [.ref a] ∧ SqL X.K H a (ns.map V.int) ∧ Q (.bl (ns.any (· != 0))) H) := by
  intro pins st sl H vs us Q I r h
  obtain ⟨a, ns, rfl, hs, q⟩ := h
  obtain ⟨its, rv, hl, _⟩ := I.list hs
  rw [Vals.ref1 r]
  have el : its.length = ns.length := by rw [← rv.length, List.length_map]
  have tr : TruthOf X.prog X.w X.A.in1 (fun i v => its.toArray[i]? = some v) (fun i => ns.getD i 0 != 0) := fun i v s1 Q1 E1 hv hq => by
    have hv : its[i]? = some v := by simpa using hv
    obtain ⟨x, hx, rx⟩ : ∃ x, (ns.map V.int)[i]? = some x ∧ RelV x v := by
      cases e : (ns.map V.int)[i]? with
      | none => rw [Vals.none_of rv e] at hv; cases hv
      | some x =>
        obtain ⟨u, eu, ru⟩ := Vals.get rv e
        rw [hv] at eu
        cases eu
        exact ⟨x, rfl, ru⟩
    rw [List.getElem?_map] at hx
    obtain ⟨z, hz, rfl⟩ := Option.map_eq_some_iff.mp hx
    obtain ⟨tk, rfl⟩ := rx
    have e : ns.getD i 0 = z := by rw [List.getD_eq_getElem?_getD, hz]; rfl
    have hq : Q1 (ns.getD i 0 != 0) s1 := hq
    rw [e] at hq
    exact PySem.P.truthy_int hq
  refine call_any_walk (iter_any hl.isList fun s₂ e2 sx hne => ?_)
  subst e2
  refine ⟨_, _, _, _, _, _, _, rfl, Walks.list (A := X.A.in1) (I.ok.hd hc) _ a hne its.toArray, sx, tr, fun h' tk hk => ?_⟩
  refine ⟨.bl _, H, I.kept fun b o eo => hk b o (fun m => ?_) (Heap.get?_push_of_some _ eo), ?_, q⟩
  · exact Nat.ne_of_lt (Heap.lt_size eo) (by simpa using m)
  · show Value.bool _ = Value.bool _
    rw [List.size_toArray, el, anyI_range]
end
end MT
namespace MT
open PySem L2
section
variable {X : Cx}
/-- [..] * k, a new list -/
theorem op_repN : OpR X (binaryOp .Mult) (fun x y H Q => ∃ l k xs, x = .ref l ∧ y = .int k ∧ H l = some (.lst xs) ∧ -(2 ^ 63) ≤ k ∧ k < 2 ^ 63 ∧ xs.length * k.toNat ≤ sizeLine ∧ ∀ p H2, New H H2 p (.lst (List.replicate k.toNat xs).flatten) → Q (.ref p) H2) := by
  intro pins st sl H x y v u Q I rx ry h
  obtain ⟨l, k, xs, e1, e2, h1, h2, h3, h4, q⟩ := h
  exact op_rep pins st sl H x y v u Q I rx ry ⟨l, k, xs, e1, e2, h1, h2, h3, h4, fun p hp => q p _ (New.mk' hp)⟩
/-- list + list, a new list -/
theorem op_catN : OpR X (binaryOp .Add) (fun x y H Q => ∃ l b xs zs, x = .ref l ∧ y = .ref b ∧ H l = some (.lst xs) ∧ H b = some (.lst zs) ∧ xs.length + zs.length ≤ sizeLine ∧ ∀ p H2, New H H2 p (.lst (xs ++ zs)) → Q (.ref p) H2) := by
  intro pins st sl H x y v u Q I rx ry h
  obtain ⟨l, b, xs, zs, e1, e2, h1, h2, h3, q⟩ := h
  exact op_cat pins st sl H x y v u Q I rx ry ⟨l, b, xs, zs, e1, e2, h1, h2, h3, fun p hp => q p _ (New.mk' hp)⟩
/-- (..) * k, a new tuple -/
theorem op_repTN : OpR X (binaryOp .Mult) (fun x y H Q => ∃ l k xs, x = .ref l ∧ y = .int k ∧ SqT X.K H l xs ∧ xs ≠ [] ∧ 2 ≤ k ∧ k ≤ 1000 ∧ xs.length ≤ 1000 ∧ ∀ p H2, New H H2 p (.tup (List.replicate k.toNat xs).flatten) → Q (.ref p) H2) := by
  intro pins st sl H x y v u Q I rx ry h
  obtain ⟨l, k, xs, e1, e2, h1, h2, h3, h4, h5, q⟩ := h
  exact op_repT pins st sl H x y v u Q I rx ry ⟨l, k, xs, e1, e2, h1, h2, h3, h4, h5, fun p hp => q p _ (New.mk' hp)⟩
/-- tuple + tuple, neither empty: a new one -/
theorem op_catTN : OpR X (binaryOp .Add) (fun x y H Q => ∃ a b xs ys, x = .ref a ∧ y = .ref b ∧ SqT X.K H a xs ∧ SqT X.K H b ys ∧ xs.length + ys.length ≤ sizeLine ∧ xs ≠ [] ∧ ys ≠ [] ∧ ∀ p H2, New H H2 p (.tup (xs ++ ys)) → Q (.ref p) H2) := by
  intro pins st sl H x y v u Q I rx ry h
  obtain ⟨a, b, xs, ys, e1, e2, h1, h2, h3, n1, n2, q⟩ := h
  exact op_catA pins st sl H x y v u Q I rx ry ⟨a, b, xs, ys, e1, e2, h1, h2, h3, fun z => absurd z n1, fun _ z => absurd z n2, fun _ _ p hp => q p _ (New.mk' hp)⟩
end
end MT
namespace MT
open PySem L2
def repStr (x : Str) (n : Int) : Str := ⟨(List.replicate n.toNat x.cps).foldl (· ++ ·) #[]⟩
/-- text * number -/
theorem op_repS {X : Cx} : OpR X (binaryOp .Mult) (fun x y H Q => ∃ (z : Str) (n : Int), x = .str z ∧ y = .int n ∧ 2 ≤ n ∧ n ≤ 1000 ∧ 1 ≤ z.length ∧ z.length ≤ 1000 ∧ (repStr z n).length ≤ sizeLine ∧ Q (.str (repStr z n)) H) := by
  intro pins st sl H x y v u Q I rx ry h
  obtain ⟨z, n, rfl, rfl, n2, n3, l1, l2, ls, q⟩ := h
  obtain ⟨t, rfl⟩ := rx
  obtain ⟨t2, rfl⟩ := ry
  have c1 : ¬ n < 1 := by omega
  have c2 : (n == 1 || z.length == 0) = false := by
    rw [Bool.or_eq_false_iff]
    exact ⟨beq_eq_false_iff_ne.mpr (by omega), beq_eq_false_iff_ne.mpr (by omega)⟩
  refine PySem.P.mul_str (by rw [decide_eq_false (by omega), decide_eq_false (by omega)]; rfl) (fun _ _ w => ?_) (fun _ _ => ?_) ?_
  · have h0 := (mul_bd (x := (z.length : Int)) (y := n) (A := 1000) (B := 1000) (by omega) (by omega) (by omega) (by omega)).2
    have h1 : (z.length : Int) ≤ (2 ^ 63 - 1) / n := Int.le_ediv_of_mul_le (by omega) (by omega)
    omega
  · unfold Builtin.Str.tooLong
    rw [decide_eq_false]
    have : z.length * n.toNat ≤ 1000 * 1000 := Nat.mul_le_mul l2 (by omega)
    rw [sizeLine_eq]
    omega
  · rw [if_neg c1, if_neg (by rw [c2]; exact Bool.false_ne_true)]
    exact ⟨ls, .str _, H, I.tok _, ⟨_, rfl⟩, q⟩
end MT
/-! lambda name=number: .., handed to a def -/
namespace MT
open PySem PySem.Spec PyProof.Rows L2 LamX
abbrev dfObj (q : Str) (params : Arguments) (body : Expr) (scope : Scope) (clo : List (Str × Addr)) (T0 : Addr) (doc pm : Value) (c' : Addr) (ctv : Value) : Obj :=
  PySem.W.kdv_obj "<lambda>" q params (.expr body) scope clo (.ref T0) doc pm c' ctv
section
variable {X : Cx} {pins : List (Addr × Obj)} {σ : L2.St} {H : Hp} {s : Shared}
/-- the lambda is made, its default in a tuple of its own -/
theorem df_make {TS : List (Addr × Str)} {c P : Addr} {params : Arguments} {body de : Expr} {scope : Scope} {pos : Pos} {n : Int} {E : Value → Shared → Prop} {Q : Value → Shared → Prop} (I : Inv X pins σ H s) (TB : LamX.TabB X.base X.mg c P) (cod : X.env.code = .ref c)
    (mem : (P, X.env.qual ++ "<lambda>") ∈ TS) (uni : ∀ p ∈ TS, p.1 = P → p.2 = X.env.qual ++ "<lambda>") (tabs : Tabs TS H) (hde : params.defaults = [de]) (kwd : params.kw_defaults = [])
    (hev : ∀ Q1 : Value → Shared → Prop, (∀ tk t, Q1 (.int n t) { s with toks := tk }) → wpAny (model X.prog X.w) X.A (eval de X.env) Q1 E s)
    (fre : ∀ y ∈ scope.names, y.2 = .free → ∃ c, X.env.cells.lookup y.1 = some c)
    (k : ∀ (f c' T0 : Addr) (doc pm ctv : Value) (H1 : Hp) (s' : Shared), Inv X pins σ H1 s' → ExtN H H1 → Tabs TS H1 →
      s'.heap.get? f = some (dfObj (X.env.qual ++ "<lambda>") params body scope (cloFrom X.env.cells scope.names []) T0 doc pm c' ctv) → H1 f = none → f ∉ frs X.stack → H1 c' = some (CodeO c' (X.env.qual ++ "<lambda>")) → H1 T0 = some (.tup [.int n]) → Q (.ref f) s') :
    wpAny (model X.prog X.w) X.A (eval (.Lambda params body scope pos) X.env) Q E s := by
  refine PySem.W.kdv_lam (by rw [hde]; rfl) kwd ?_
  rw [hde]
  refine PySem.W.kdv_all1 (hev _ fun tk t => PySem.W.kdv_all0 ?_)
  rw [makeFunction_eq]
  simp only [List.zip_nil_right, List.filterMap_nil, List.isEmpty_nil, List.isEmpty_cons, if_true, pure_bind, Bool.false_eq_true, if_false]
  refine wpAny_bind (wpAny_newTextTuple ?_)
  obtain ⟨hp, g, dr, tk0, os⟩ := s
  have nT : H hp.objs.size = none := I.hok.fresh (Nat.le_refl _)
  have I0 : Inv X pins σ (upd H hp.objs.size (.tup [.int n])) ⟨hp.push (PySem.W.kdv_tup [.int n t]), g, dr, tk, os⟩ :=
    I.laid (t' := tk) (a := hp.objs.size) (o := .tup [.int n]) (h' := hp.push (PySem.W.kdv_tup [.int n t])) (fun b o e => Heap.get?_push_of_some _ e) (Nat.le_refl _)
      ⟨(by show 1 ≤ sizeLine; rw [sizeLine_eq]; decide), [.int n t], .cons ⟨t, rfl⟩ .nil, ⟨_, Heap.get?_push_size _ rfl, rfl, _, rfl⟩⟩
  have x0 : ExtN H (upd H hp.objs.size (.tup [.int n])) := ExtN.of (same_new nT)
  have tb0 : Tabs TS (upd H hp.objs.size (.tup [.int n])) := tabs.ext (same_new nT)
  have t0 : (upd H hp.objs.size (.tup [.int n])) hp.objs.size = some (.tup [.int n]) := upd_same
  revert I0 x0 tb0 t0
  generalize upd H hp.objs.size (.tup [.int n]) = H0
  intro I0 x0 tb0 t0
  obtain ⟨ps, tP, ok, am⟩ := tb0 _ mem
  have bP := TB.bm.keeps I0.bk
  have gP := I0.hok P _ tP
  have away : ∀ f, (hp.push (PySem.W.kdv_tup [.int n t])).objs.size ≤ f → f ∉ frs X.stack := fun f hf z => by
    rcases List.mem_cons.mp (I0.stkSub _ z) with w | w
    · have lt := I0.lt
      rw [← w] at lt
      exact absurd (Nat.lt_of_lt_of_le lt hf) (Nat.lt_irrefl _)
    · exact I0.nofs hf w
  cases am1 : codeAmong pos ps.toList with
  | none =>
    refine PySem.W.kdv_makeTail (mg := X.mg) (closure_ok fre) I0.ok.glob (I0.mod.glob.keeps I0.bk) cod (TB.code.keeps I0.bk) gP ok am1 TB.gP bP fun c' ctv doc ha ta xa ga la ra da => ?_
    obtain ⟨c2, oc, vs, tq, ee, goc, dd, vv⟩ := ra
    cases ee
    have big := Nat.le_trans ga (Nat.le_of_lt la)
    have nC : H0 c' = none := I0.hok.fresh ga
    have I1 := inv_table (t' := ta) (more := #[rawInt pos.line, rawInt pos.col, .ref c']) (h' := ha.push (dfObj (X.env.qual ++ "<lambda>") params body scope (cloFrom X.env.cells scope.names []) hp.objs.size doc ((X.mg "__name__").getD .none) c' ctv)) I0 tP
      (fun b o ne e => Heap.get?_push_of_some _ (xa b o ne e)) (Heap.get?_push_of_some _ da) ga ⟨oc, vs, tq, Heap.get?_push_of_some _ goc, dd, vv⟩
    have xx : ExtN H0 (upd (upd H0 P (.tbl (ps ++ #[rawInt pos.line, rawInt pos.col, .ref c']))) c' (CodeO c' (X.env.qual ++ "<lambda>"))) := fun b o e nt => by
      rw [upd_ne (ne_of_none e nC), upd_ne (fun z => nt ps (Option.some.inj (e.symm.trans (by rw [z]; exact tP))))]
      exact e
    have lst : (ps ++ #[rawInt pos.line, rawInt pos.col, .ref c']).toList = ps.toList ++ [rawInt pos.line, rawInt pos.col, .ref c'] := by simp
    refine k ha.objs.size c' hp.objs.size doc _ ctv _ _ I1 (x0.trans xx) (fun p hp' => ?_) (Heap.get?_push_size _ rfl) ?_ (away _ big) upd_same (xx _ _ t0 fun ps' z => by cases z)
    · by_cases pb : p.1 = P
      · rw [uni p hp' pb, pb]
        refine ⟨_, by rw [upd_ne (ne_of_none tP nC), upd_same], by rw [lst]; exact PySem.TriplesOk_snoc _ _ _ _ ok, fun pz cv hcv => ?_⟩
        rw [lst] at hcv
        rcases among_app _ ok hcv with z | z
        · obtain ⟨cz, w1, w2⟩ := am pz cv z
          exact ⟨cz, w1, xx _ _ w2 codeO_ne⟩
        · exact ⟨c', z, upd_same⟩
      · obtain ⟨pq, w1, w2, w3⟩ := tb0 p hp'
        refine ⟨pq, by rw [upd_ne (ne_of_none w1 nC), upd_ne pb]; exact w1, w2, fun pz cv hcv => ?_⟩
        obtain ⟨cz, v1, v2⟩ := w3 pz cv hcv
        exact ⟨cz, v1, xx _ _ v2 codeO_ne⟩
    · have d1 : ha.objs.size ≠ c' := Nat.ne_of_gt la
      have d2 : ha.objs.size ≠ P := Nat.ne_of_gt (Nat.lt_of_lt_of_le (Heap.lt_size gP) big)
      rw [upd_ne d1, upd_ne d2]
      exact I0.hok.fresh big
  | some cv =>
    obtain ⟨c', ee, coo⟩ := am pos cv am1
    subst ee
    refine PySem.W.kdv_makeTailHit (mg := X.mg) (closure_ok fre) I0.ok.glob (I0.mod.glob.keeps I0.bk) cod (TB.code.keeps I0.bk) gP ok am1 bP fun ctv doc ha ta xa big => ?_
    have I1 : Inv X pins σ H0 ⟨ha.push (dfObj (X.env.qual ++ "<lambda>") params body scope (cloFrom X.env.cells scope.names []) hp.objs.size doc ((X.mg "__name__").getD .none) c' ctv), g, dr, ta, os⟩ := I0.kept fun b o e => Heap.get?_push_of_some _ (xa b o e)
    exact k ha.objs.size c' hp.objs.size doc _ ctv H0 _ I1 x0 tb0 (Heap.get?_push_size _ rfl) (I0.hok.fresh big) (away _ big) coo t0
end

/-- the lambda's one parameter x is its only own name -/
structure DfS (sc scope : Scope) (x : Str) : Prop where
  kind : scope.kind = .function
  co : scope.isCoroutine = false
  gen : scope.isGenerator = false
  own : ∀ y ∈ scope.names, y.2 ≠ .cell ∧ (y.2 = .local → y.1 = x)
  par : scope.names.lookup x = some .local
  free : ∀ y ∈ scope.names, y.2 = .free → sc.names.lookup y.1 = some .cell ∨ sc.names.lookup y.1 = some .free
def dfSB (sc scope : Scope) (x : Str) : Bool :=
  decide (scope.kind = .function) && !scope.isCoroutine && !scope.isGenerator && decide (scope.names.lookup x = some .local) &&
    scope.names.all fun y => !decide (y.2 = .cell) && (!decide (y.2 = .local) || decide (y.1 = x)) && (!decide (y.2 = .free) || decide (sc.names.lookup y.1 = some .cell) || decide (sc.names.lookup y.1 = some .free))
theorem dfS_by {sc scope : Scope} {x : Str} (h : dfSB sc scope x = true) : DfS sc scope x := by
  unfold dfSB at h
  simp only [Bool.and_eq_true, Bool.or_eq_true, Bool.not_eq_true', decide_eq_true_eq, decide_eq_false_iff_not, List.all_eq_true] at h
  obtain ⟨⟨⟨⟨w1, w2⟩, w3⟩, w5⟩, w4⟩ := h
  refine ⟨w1, w2, w3, fun y hy => ⟨(w4 y hy).1.1, fun e => ?_⟩, w5, fun y hy e => ?_⟩
  · rcases (w4 y hy).1.2 with z | z
    · exact absurd e z
    · exact z
  · rcases (w4 y hy).2 with (z | z) | z
    · exact absurd e z
    · exact .inl z
    · exact .inr z
section
variable {s s1 : Shared} {X : Cx} {pins : List (Addr × Obj)} {σ : L2.St} {H HZ : Hp}
theorem DfS.cells {scope : Scope} {x : Str} (L : DfS X.env.scope scope x) (ok : X.Ok) : ∀ y ∈ scope.names, y.2 = .free → ∃ c, X.env.cells.lookup y.1 = some c := fun y hy e => (L.free y hy e).elim (fun w => ok.has _ (.inl w)) fun w => ok.has _ (.inr w)
theorem df_start {A : Around} {outer : List Env} {E : XK} {scope : Scope} {x : Str} {u : Value} {f c' : Addr} {hn : Heap} {tk : Nat} (I : Inv X pins σ H s) (L : DfS X.env.scope scope x) (nx : x ∉ X.N) (en : Env0 X.prog X.w X.K X.mg X.base A outer s1 HZ)
    (calm : A.handled = none) (un : Un (frs X.stack) [] H HZ s.heap s1.heap) (ns : hn.Ns s1.heap.objs.size fun y => [(x, u)].reverse.lookup y) (old : ∀ b o, s1.heap.get? b = some o → hn.get? b = some o) :
    Inv (lamCx X A outer s1 HZ E scope f c') [] σ HZ { s1 with heap := hn, toks := tk } := by
  have fre := L.cells I.ok
  have up : ∀ {y c}, (cloFrom X.env.cells scope.names []).lookup y = some c → X.env.cells.lookup y = some c := fun {y c} e => by
    rcases cloFrom_mem (PySem.mem_of_lookup e) with w | ⟨w1, w2⟩
    · cases w
    · obtain ⟨ca, wc⟩ := fre _ w1 rfl
      have wc : X.env.cells.lookup y = some ca := wc
      have ec : c = ca := by
        rw [w2, wc] <;> rfl
      rw [ec]
      exact wc
  have has : ∀ {y}, scope.names.lookup y = some .free → ∃ c, (cloFrom X.env.cells scope.names []).lookup y = some c := fun {y} hl =>
    mem_lookup (cloFrom_has (cells := X.env.cells) (acc := []) (show (y, NameKind.free) ∈ scope.names from PySem.mem_of_lookup hl))
  have keepC : ∀ {c : Addr} {v : Option Value}, H c = none → s.heap.IsCell c v → hn.IsCell c v := fun {c v} no ⟨o, go, gd⟩ => by
    obtain ⟨sl, w⟩ := un.any go no (by simp)
    exact ⟨_, old _ _ w, gd⟩
  have none' : ∀ b : Addr, b ∉ (lamCx X A outer s1 HZ E scope f c').ex := fun b w => absurd (show b ∈ ([] : List Addr) from w) (by simp)
  refine ⟨⟨en.mod, L.kind, rfl, rfl, Nat.le_refl _, fun y z c w1 w2 => I.ok.inj y z c (up w1) (up w2), fun y hy => ?_, fun y c w _ => absurd (show false = true from w) Bool.false_ne_true, fun _ => calm, Around.frames_deeper en.frames, .inr ⟨rfl, rfl⟩, fun b w => absurd w (none' b), en.bs, en.bsz, fun b _ _ => none' b,
      fun b w => absurd w (none' b), en.funs, en.frf⟩,
    rfl, en.bare, Un.kept old, ⟨_, ns, fun i y v w1 w2 w3 => ?_⟩, fun y c w => ?_, en.hok.fresh (Nat.le_refl _), fun y c w => ?_, fun q hq => absurd (show q ∈ ([] : List (Addr × Obj)) ++ [] from hq) (by simp), en.hok.kept old, I.len⟩
  · rcases (show scope.names.lookup y = some .cell ∨ scope.names.lookup y = some .free from hy) with w | w
    · exact absurd rfl (L.own _ (PySem.mem_of_lookup w)).1
    · exact has w
  · rcases (show Vis scope y from w3) with w | w | w
    · have ey : y = x := (L.own _ (PySem.mem_of_lookup w)).2 rfl
      exact absurd (ey ▸ List.mem_of_getElem? (show X.N[i]? = some y from w1)) nx
    · exact absurd rfl (L.own _ (PySem.mem_of_lookup w)).1
    · obtain ⟨m, _, gl⟩ := I.loc
      have vis : Vis X.env.scope y := (L.free _ (PySem.mem_of_lookup w) rfl).elim (fun z => .inr (.inl z)) (fun z => .inr (.inr z))
      obtain ⟨u', r, q⟩ := gl i y v w1 w2 vis
      obtain ⟨ca, wa⟩ := has w
      refine ⟨u', r, .inr ⟨.inr w, ca, wa, ?_⟩⟩
      have w5 := up wa
      rcases q with ⟨z, _⟩ | ⟨_, cb, wb, z⟩
      · rcases L.free _ (PySem.mem_of_lookup w) rfl with z2 | z2 <;> cases (show X.env.scope.names.lookup y = some NameKind.local from z).symm.trans z2
      · rw [w5] at wb
        cases wb
        exact keepC (I.freeC y _ w5) z
  · obtain ⟨u', z⟩ := I.cell y c (up w)
    exact ⟨u', keepC (I.freeC y c (up w)) z⟩
  · obtain ⟨v, o, go, _⟩ := I.cell y c (up w)
    exact un.free c o go (I.freeC y c (up w)) (by simp)
/-- a(), in the def that got the lambda -/
theorem df_act {CXg : CXT} {Eg : XK} {Ng : List Str} {qg : Str} {sg : Scope} {g f c' T0 : Addr} {cdg doc pm ctv : Value} {params : Arguments} {body : Expr} {scope : Scope} {x : Str} {n : Int} {m i : Nat} {a : Str} {pn : List (Addr × Obj)} {xe : Value → Shared → Prop} {W : WX} {tb : XK → TE} {p1 p2 : Pos}
    (I : Inv X pins σ H s) (L : DfS X.env.scope scope x) (nx : x ∉ X.N) (gf : s.heap.get? f = some (dfObj (X.env.qual ++ "<lambda>") params body scope (cloFrom X.env.cells scope.names []) T0 doc pm c' ctv)) (nf : H f = none) (ff : f ∉ frs X.stack) (gT : H T0 = some (.tup [.int n]))
    (bnd : ∀ (doc pm ctv : Value) (cl : List (Str × Addr)), ∃ k, bindArgs (PySem.W.kdv_fn "<lambda>" (X.env.qual ++ "<lambda>") params (.expr body) scope cl (.ref T0) doc pm (.ref c') ctv) ⟨[], []⟩ = seqItems? (.ref T0) >>= k ∧ ∀ u, k (some [u].toArray) = pure [(x, u)])
    (tk : Takes ((cxOf CXg X.prog X.w X.K X.mg X.base Ng qg sg g cdg X.A X.stack s H Eg).tr pn xe) W) (hr : Room (m + 1) (X.A.deeper (envOfC qg sg s.heap.objs.size g cdg)))
    (hb : ∀ (A : Around) (outer : List Env) (s : Shared) (H : Hp) (E : XK), Room m (A.deeper (lamEnv X scope s.heap.objs.size f c')) → PE (lamCx X A outer s H E scope f c') body (tb E))
    (aN : Ng[i]? = some a) (va : Vis sg a) (dbg2 : (a == ("__debug__" : Str)) = false := by decide) (dbg3 : (a == ("__classdict__" : Str)) = false := by decide) :
    PE ((cxOf CXg X.prog X.w X.K X.mg X.base Ng qg sg g cdg X.A X.stack s H Eg).tr pn xe) (.Call (.Name a p1) [] [] p2) (fun σZ HZ Q => ∃ E : XK, (∀ cls d H', E cls d H' → W cls d σZ H') ∧ σZ[i]? = some (some (.ref f)) ∧ HZ c' = some (CodeO c' (X.env.qual ++ "<lambda>")) ∧ tb E σ HZ Q) := by
  refine ⟨fun pz sz lz HZ Q IZ told => ?_⟩
  obtain ⟨E, hW, w1, w2, w3⟩ := told
  refine wpAny_Call_Name_kw (thn ((pe_var (pos := p1) (i := i) aN va dbg2 dbg3).run pz sz lz HZ (fun v H1 => v = .ref f ∧ H1 = HZ) IZ ⟨.ref f, w1, rfl, rfl⟩) fun u sy ⟨v, HY, J, r, ev, eH⟩ => ?_)
  subst ev eH
  obtain rfl : u = Value.ref f := r
  have un : Un (frs X.stack) [] H HY s.heap sy.heap := J.base
  have gf1 := un.keep f _ gf nf ff (fun z => nomatch (show f ∈ ([] : List Addr) from z))
  have gT1 := un.tups T0 _ gT
  refine PySem.W.callWith_F0 ⟨_, _, _, _, gf1⟩ ?_
  obtain ⟨⟨oc, vs, t, goc, gd, gv⟩, _, _⟩ := J.hok c' _ w2
  obtain ⟨_, its, rv, o, ho, ht, n0, hd0⟩ := (show ObjOk X.prog X.w HY sy.heap T0 (.tup [.int n]) from J.hok T0 _ gT1)
  obtain ⟨u0, rfl, _⟩ := Vals.one rv
  obtain ⟨kk, b1, b2⟩ := bnd doc pm ctv (cloFrom X.env.cells scope.names [])
  obtain ⟨o1, o2, o3, o4⟩ := o
  simp only at ht hd0
  subst ht hd0
  have bt := BindsTo.of_defaults (fd := PySem.W.kdv_fn "<lambda>" (X.env.qual ++ "<lambda>") params (.expr body) scope (cloFrom X.env.cells scope.names []) (.ref T0) doc pm (.ref c') ctv) (args := ⟨[], []⟩) (binds := [(x, u0)]) rfl ho rfl b1 (b2 u0)
  have rc : codeAny (model X.prog X.w) (X.A.deeper (envOfC qg sg s.heap.objs.size g cdg)) (.call (.ref f) ⟨[], []⟩) (CR (L2.CX X.prog X.w) (envOfC qg sg s.heap.objs.size g cdg :: X.stack) X.prog X.w HY sy Q E) sy := by
    refine PySem.W.kla_callFunE hr.depth gf1 rfl L.co L.gen rfl ⟨c', oc, vs, t, rfl, goc, gd, gv⟩ ?_
    refine bt _ _ _ _ ?_
    refine wpAny_newFunctionEnv (fun y hy => (L.own y hy).1) (fun y hy => ?_) (fun hn ns sb => ⟨J.nolimit.fresh _ sb, ?_⟩) L.kind
    · rw [List.mem_singleton.mp hy]
      exact L.par
    show codeAny _ _ (.expr body (lamEnv X scope sy.heap.objs.size f c')) _ _
    have old : ∀ b o, sy.heap.get? b = some o → hn.get? b = some o := fun b o e => sb.extBut b o (Nat.ne_of_lt (Heap.lt_size e)) (Heap.get?_push_of_some _ e)
    have J2 := df_start (f := f) (c' := c') (E := E) (tk := sy.toks + ([(x, u0)] : List (Str × Value)).length) I L nx J.env0 hr.hd un ns old
    refine PySem.W.kla_codeExpr (wpAny_mono ((hb _ _ sy HY E (hr.deeper _)).run [] _ _ HY Q J2 w3) (fun v sq q => ?_) fun e sq q => q)
    obtain ⟨v', Hq, Jq, rq, qq⟩ := q
    exact ⟨v', Hq, Jq.os, Jq.bare, Jq.base, Jq.hok, rq, qq⟩
  refine wpAny_call (codeAny_mono rc fun r sq q => ?_)
  cases r with
  | error e => exact tk e sq (XE.of_call J (fun cls d H' w => hW cls d H' w) q)
  | ok fl =>
    cases fl with
    | ret u => exact J.after q
    | _ => exact q.elim
end

section
variable {s s1 : Shared} {X : Cx} {pins : List (Addr × Obj)} {σ : L2.St} {H HZ : Hp}
/-- the same without a parameter -/
theorem nf_act {CXg : CXT} {Eg : XK} {Ng : List Str} {qg : Str} {sg : Scope} {g f c' : Addr} {cdg pm ctv : Value} {params : Arguments} {body : Expr} {scope : Scope} {m i : Nat} {a : Str} {pn : List (Addr × Obj)} {xe : Value → Shared → Prop} {W : WX} {tb : XK → TE} {p1 p2 : Pos}
    (I : Inv X pins σ H s) (L : LamS X.env.scope scope) (gf : s.heap.get? f = some (PySem.W.kla_obj "<lambda>" (X.env.qual ++ "<lambda>") params body scope (cloFrom X.env.cells scope.names []) pm c' ctv)) (nf : H f = none) (ff : f ∉ frs X.stack)
    (bnd : bindArgs (PySem.W.kla_fn "<lambda>" (X.env.qual ++ "<lambda>") params body scope (cloFrom X.env.cells scope.names []) pm (.ref c') ctv) ⟨[], []⟩ = pure [])
    (tk : Takes ((cxOf CXg X.prog X.w X.K X.mg X.base Ng qg sg g cdg X.A X.stack s H Eg).tr pn xe) W) (hr : Room (m + 1) (X.A.deeper (envOfC qg sg s.heap.objs.size g cdg)))
    (hb : ∀ (A : Around) (outer : List Env) (s : Shared) (H : Hp) (E : XK), Room m (A.deeper (lamEnv X scope s.heap.objs.size f c')) → PE (lamCx X A outer s H E scope f c') body (tb E))
    (aN : Ng[i]? = some a) (va : Vis sg a) (dbg2 : (a == ("__debug__" : Str)) = false := by decide) (dbg3 : (a == ("__classdict__" : Str)) = false := by decide) :
    PE ((cxOf CXg X.prog X.w X.K X.mg X.base Ng qg sg g cdg X.A X.stack s H Eg).tr pn xe) (.Call (.Name a p1) [] [] p2) (fun σZ HZ Q => ∃ E : XK, (∀ cls d H', E cls d H' → W cls d σZ H') ∧ σZ[i]? = some (some (.ref f)) ∧ HZ c' = some (CodeO c' (X.env.qual ++ "<lambda>")) ∧ tb E σ HZ Q) := by
  refine ⟨fun pz sz lz HZ Q IZ told => ?_⟩
  obtain ⟨E, hW, w1, w2, w3⟩ := told
  refine wpAny_Call_Name_kw (thn ((pe_var (pos := p1) (i := i) aN va dbg2 dbg3).run pz sz lz HZ (fun v H1 => v = .ref f ∧ H1 = HZ) IZ ⟨.ref f, w1, rfl, rfl⟩) fun u sy ⟨v, HY, J, r, ev, eH⟩ => ?_)
  subst ev eH
  obtain rfl : u = Value.ref f := r
  have un : Un (frs X.stack) [] H HY s.heap sy.heap := J.base
  have gf1 := un.keep f _ gf nf ff (fun z => nomatch (show f ∈ ([] : List Addr) from z))
  refine PySem.W.callWith_F0 ⟨_, _, _, _, gf1⟩ ?_
  obtain ⟨⟨oc, vs, t, goc, gd, gv⟩, _, _⟩ := J.hok c' _ w2
  have rc : codeAny (model X.prog X.w) (X.A.deeper (envOfC qg sg s.heap.objs.size g cdg)) (.call (.ref f) ⟨[], []⟩) (CR (L2.CX X.prog X.w) (envOfC qg sg s.heap.objs.size g cdg :: X.stack) X.prog X.w HY sy Q E) sy := by
    refine PySem.W.kla_callFunE hr.depth gf1 rfl L.co L.gen rfl ⟨c', oc, vs, t, rfl, goc, gd, gv⟩ ?_
    rw [bnd]
    refine wpAny_pure (wpAny_newFunctionEnv (fun y hy => (L.own y hy).2) (fun y hy => absurd hy (by simp)) (fun hn ns sb => ⟨J.nolimit.fresh _ sb, ?_⟩) L.kind)
    show codeAny _ _ (.expr body (lamEnv X scope sy.heap.objs.size f c')) _ _
    have old : ∀ b o, sy.heap.get? b = some o → hn.get? b = some o := fun b o e => sb.extBut b o (Nat.ne_of_lt (Heap.lt_size e)) (Heap.get?_push_of_some _ e)
    have J2 := lam_start2 (f := f) (c' := c') (E := E) (tk := sy.toks + ([] : List (Str × Value)).length) I L J.env0 hr.hd un ns old
    refine PySem.W.kla_codeExpr (wpAny_mono ((hb _ _ sy HY E (hr.deeper _)).run [] _ _ HY Q J2 w3) (fun v sq q => ?_) fun e sq q => q)
    obtain ⟨v', Hq, Jq, rq, qq⟩ := q
    exact ⟨v', Hq, Jq.os, Jq.bare, Jq.base, Jq.hok, rq, qq⟩
  refine wpAny_call (codeAny_mono rc fun r sq q => ?_)
  cases r with
  | error e => exact tk e sq (XE.of_call J (fun cls d H' w => hW cls d H' w) q)
  | ok fl =>
    cases fl with
    | ret u => exact J.after q
    | _ => exact q.elim
end
/-- the def that calls what it got, the wish told of the very slots -/
def GivesN (X : Cx) (Ng : List Str) (gn : Str) (sg : Scope) (g : Addr) (cdg : Value) (bg : List Stmt) (a : Str) (q : Str) (TT : (XK → Hp → VK → Prop) → Hp → VK → Prop) : Prop :=
  ∀ (f c' : Addr) (s : Shared) (H : Hp) (Q : VK) (tl : XK → Hp → VK → Prop),
    (∀ (W : WX) (pn : List (Addr × Obj)) (xe : Value → Shared → Prop) (p1 p2 : Pos), Takes ((cxOf C8.CX0 X.prog X.w X.K X.mg X.base Ng gn sg g cdg X.A X.stack s H C8.E0).tr pn xe) W →
      PE ((cxOf C8.CX0 X.prog X.w X.K X.mg X.base Ng gn sg g cdg X.A X.stack s H C8.E0).tr pn xe) (.Call (.Name a p1) [] [] p2)
        (fun σZ HZ Q => ∃ E : XK, (∀ cls d H', E cls d H' → W cls d σZ H') ∧ σZ[0]? = some (some (.ref f)) ∧ HZ c' = some (CodeO c' q) ∧ tl E HZ Q)) →
    H c' = some (CodeO c' q) → TT tl H Q →
    ∃ t, PSs (cxOf C8.CX0 X.prog X.w X.K X.mg X.base Ng gn sg g cdg X.A X.stack s H C8.E0).nox bg t ∧ t { nx := fun _ H' => Q .non H', rt := Q } (L2.start Ng [.ref f]) H
section
variable {X : Cx}
/-- g(lambda x=number: body) -/
theorem df_call {TS : List (Addr × Str)} {TT : (XK → Hp → VK → Prop) → Hp → VK → Prop} {gn a x : Str} {g c P : Addr} {m : Nat} {n : Int} {pg : Arguments} {bg : List Stmt} {sg : Scope} {dV kV dcg pmg cdv ctg ocg : Value} {ang odg : Option Addr} {slg : Array (Option Value)} {Ng : List Str}
    {params : Arguments} {body de : Expr} {scope : Scope} {t : XK → TE} {p lpos pos : Pos} (hg : Gl X gn) (hm : X.mg gn = some (.ref g)) (hk : PySem.W.keepIn X.K (.ref g) = true)
    (lk : X.K.lookup g = some ⟨ocg, odg, .func (PySem.W.fnOf gn gn pg bg sg dV kV dcg pmg ang cdv ctg), slg⟩) (cg : PySem.W.codeIn X.K cdv gn = true) (bg' : L2.Binds X.K (PySem.W.fnOf gn gn pg bg sg dV kV dcg pmg ang cdv ctg) [a] []) (Sg : FnScope Ng [a] sg) (aN : Ng[0]? = some a) (va : Vis sg a)
    (hG : GivesN X Ng gn sg g cdv bg a (X.env.qual ++ "<lambda>") TT)
    (TB : LamX.TabB X.base X.mg c P) (cod : X.env.code = .ref c) (mem : (P, X.env.qual ++ "<lambda>") ∈ TS) (uni : ∀ p ∈ TS, p.1 = P → p.2 = X.env.qual ++ "<lambda>") (hr : Room (m + 2) X.A) (L : DfS X.env.scope scope x) (nx : x ∉ X.N)
    (hde : params.defaults = [de]) (kwd : params.kw_defaults = []) (hev : ∀ (s : Shared) (E Q1 : Value → Shared → Prop), (∀ tk t, Q1 (.int n t) { s with toks := tk }) → wpAny (model X.prog X.w) X.A (eval de X.env) Q1 E s)
    (bnd : ∀ (T0 : Addr) (doc pm cv ctv : Value) (cl : List (Str × Addr)), ∃ k, bindArgs (PySem.W.kdv_fn "<lambda>" (X.env.qual ++ "<lambda>") params (.expr body) scope cl (.ref T0) doc pm cv ctv) ⟨[], []⟩ = seqItems? (.ref T0) >>= k ∧ ∀ u, k (some [u].toArray) = pure [(x, u)])
    (hbody : ∀ (A : Around) (outer : List Env) (s : Shared) (H : Hp) (E : XK) (f c' : Addr), Room m (A.deeper (lamEnv X scope s.heap.objs.size f c')) → PE (lamCx X A outer s H E scope f c') body (t E))
    (dbg1 : (gn == ("__debug__" : Str)) = false := by decide) (dbg2 : (a == ("__debug__" : Str)) = false := by decide) (dbg3 : (a == ("__classdict__" : Str)) = false := by decide) :
    PE X (.Call (.Name gn p) [.Lambda params body scope lpos] [] pos) (tLam TS TT t) := by
  refine ⟨fun pins st sl H Q I told => ?_⟩
  obtain ⟨tabs, told⟩ := told
  refine wpAny_Call_Name_kw (ld_glob I hg hm ?_ dbg1)
  refine PySem.W.callWith_K (h₀ := X.base) I.ok.mod.kin hk ?_ rfl rfl
  show wpAny _ _ (spliced ((false, eval (.Lambda params body scope lpos) X.env) :: backTo pos (starEach [] X.env))) _ _ st
  refine Calls.spliced_cons (df_make I TB cod mem uni tabs hde kwd (fun Q1 => hev st _ Q1) (L.cells I.ok) fun f c' T0 doc pm' ctv H1 sz J xx t1 gf nf ff coo gT => ?_)
  refine Calls.spliced_nil ⟨J.kIn, ?_⟩
  have rc : codeAny (model X.prog X.w) X.A (.call (.ref g) ⟨[.ref f], []⟩) (CR C8.CX0 X.stack X.prog X.w H1 sz Q C8.E0) sz := by
    refine run_ofS (N := Ng) (ps := [a]) (us := [.ref f]) (vs := [.ref f]) lk cg Sg hr J.env0 (bg' sz [.ref f] J.kIn rfl) (.cons rfl .nil) rfl fun hr' => ?_
    obtain ⟨tz, pz, qz⟩ := hG f c' sz H1 Q (fun E H' Q' => t E sl H' Q') (fun W pn xe p1 p2 tk => df_act (tb := t) (i := 0) (T0 := T0) (n := n) J L nx gf nf ff gT (fun doc pm ctv cl => bnd T0 doc pm (.ref c') ctv cl) tk hr' (fun A outer s H E hr2 => hbody A outer s H E f c' hr2) aN va dbg2 dbg3) coo (told H1 xx t1)
    exact ⟨tz, pz.nox, qz⟩
  refine wpAny_call (codeAny_mono rc fun r s2 q => ?_)
  cases r with
  | error e => exact (show False from q).elim
  | ok fl =>
    cases fl with
    | ret u => exact J.after q
    | _ => exact q.elim
/-- g(lambda: body) -/
theorem nf_call {TS : List (Addr × Str)} {TT : (XK → Hp → VK → Prop) → Hp → VK → Prop} {gn a : Str} {g c P : Addr} {m : Nat} {pg : Arguments} {bg : List Stmt} {sg : Scope} {dV kV dcg pmg cdv ctg ocg : Value} {ang odg : Option Addr} {slg : Array (Option Value)} {Ng : List Str}
    {params : Arguments} {body : Expr} {scope : Scope} {t : XK → TE} {p lpos pos : Pos} (hg : Gl X gn) (hm : X.mg gn = some (.ref g)) (hk : PySem.W.keepIn X.K (.ref g) = true)
    (lk : X.K.lookup g = some ⟨ocg, odg, .func (PySem.W.fnOf gn gn pg bg sg dV kV dcg pmg ang cdv ctg), slg⟩) (cg : PySem.W.codeIn X.K cdv gn = true) (bg' : L2.Binds X.K (PySem.W.fnOf gn gn pg bg sg dV kV dcg pmg ang cdv ctg) [a] []) (Sg : FnScope Ng [a] sg) (aN : Ng[0]? = some a) (va : Vis sg a)
    (hG : GivesN X Ng gn sg g cdv bg a (X.env.qual ++ "<lambda>") TT)
    (TB : LamX.TabB X.base X.mg c P) (cod : X.env.code = .ref c) (mem : (P, X.env.qual ++ "<lambda>") ∈ TS) (uni : ∀ p ∈ TS, p.1 = P → p.2 = X.env.qual ++ "<lambda>") (hr : Room (m + 2) X.A) (L : LamS X.env.scope scope) (dfl : defaultsOf params X.env = ([], []))
    (bnd : ∀ (qq : Str) (cl : List (Str × Addr)) (pm cv ctv : Value), bindArgs (PySem.W.kla_fn "<lambda>" qq params body scope cl pm cv ctv) ⟨[], []⟩ = pure [])
    (hbody : ∀ (A : Around) (outer : List Env) (s : Shared) (H : Hp) (E : XK) (f c' : Addr), Room m (A.deeper (lamEnv X scope s.heap.objs.size f c')) → PE (lamCx X A outer s H E scope f c') body (t E))
    (dbg1 : (gn == ("__debug__" : Str)) = false := by decide) (dbg2 : (a == ("__debug__" : Str)) = false := by decide) (dbg3 : (a == ("__classdict__" : Str)) = false := by decide) :
    PE X (.Call (.Name gn p) [.Lambda params body scope lpos] [] pos) (tLam TS TT t) := by
  refine ⟨fun pins st sl H Q I told => ?_⟩
  obtain ⟨tabs, told⟩ := told
  refine wpAny_Call_Name_kw (ld_glob I hg hm ?_ dbg1)
  refine PySem.W.callWith_K (h₀ := X.base) I.ok.mod.kin hk ?_ rfl rfl
  show wpAny _ _ (spliced ((false, eval (.Lambda params body scope lpos) X.env) :: backTo pos (starEach [] X.env))) _ _ st
  refine Calls.spliced_cons (lam_make2 I TB cod mem uni tabs dfl (L.has I.ok) fun f c' pm' ctv H1 sz J xx t1 gf nf ff coo => ?_)
  refine Calls.spliced_nil ⟨J.kIn, ?_⟩
  have rc : codeAny (model X.prog X.w) X.A (.call (.ref g) ⟨[.ref f], []⟩) (CR C8.CX0 X.stack X.prog X.w H1 sz Q C8.E0) sz := by
    refine run_ofS (N := Ng) (ps := [a]) (us := [.ref f]) (vs := [.ref f]) lk cg Sg hr J.env0 (bg' sz [.ref f] J.kIn rfl) (.cons rfl .nil) rfl fun hr' => ?_
    obtain ⟨tz, pz, qz⟩ := hG f c' sz H1 Q (fun E H' Q' => t E sl H' Q') (fun W pn xe p1 p2 tk => nf_act (tb := t) (i := 0) J L gf nf ff (bnd _ _ _ _ _) tk hr' (fun A outer s H E hr2 => hbody A outer s H E f c' hr2) aN va dbg2 dbg3) coo (told H1 xx t1)
    exact ⟨tz, pz.nox, qz⟩
  refine wpAny_call (codeAny_mono rc fun r s2 q => ?_)
  cases r with
  | error e => exact (show False from q).elim
  | ok fl =>
    cases fl with
    | ret u => exact J.after q
    | _ => exact q.elim
end
end MT
/-! a caught error that has its dict: asked for its class, its part read -/
namespace MT
open PySem PySem.Spec PyProof.Rows L2
section
variable {X : Cx} {a : Addr} {oe : Obj} {cls : Value} {d : Option Addr} {pn : List (Addr × Obj)} {e : Expr} {te : TE} {pos : Pos} {n : Str}
theorem pe_xfG (hz : Zc cls d oe) (hf : ∃ vs, oe.data = .fields vs) (he : PE (X.suite a ((a, oe) :: pn)) e te) (hb : attributeBase e n X.env (eval e X.env) = eval e X.env := by rfl) :
    PE (X.suite a ((a, oe) :: pn)) (.Attribute e n pos) (fun σ H Q => ∃ C : Addr, XfC X.K C ∧ PySem.W.findIn X.K (.ref C) n = some none ∧ tXf a cls d C n te σ H Q) :=
  ⟨fun pins st sl H Q I ⟨C, w1, w2, w3⟩ => (pe_xf w1 w2 hz hf he hb).run pins st sl H Q I w3⟩
/-- what is told of the caught error: its class D, its dict -/
def Held (K : PySem.W.Frag) (cls : Value) (d : Option Addr) (H : Hp) (D : Addr) : Prop := cls = .ref D ∧ ExcC K D ∧ ∃ (dd : Addr) (fs : List (Str × V)), d = some dd ∧ H dd = some (.xd fs)
theorem held_kit {pins : List (Addr × Obj)} {st : Shared} {sl : L2.St} {H : Hp} {D : Addr} (hz : Zc cls d oe) (hf : ∃ vs, oe.data = .fields vs) (I : Inv (X.suite a ((a, oe) :: pn)) pins sl H st) (h : Held X.K cls d H D) :
    ∃ P : Heap → Prop, PySem.W.KitX X.K (.ref a) (.ref D) P ∧ P st.heap := by
  obtain ⟨rfl, C, dd, fs, rfl, hd⟩ := h
  obtain ⟨ga, _⟩ := I.pin (a, oe) (List.mem_append_left _ List.mem_cons_self)
  obtain ⟨vs, fv⟩ := hf
  obtain ⟨mA, ns, _⟩ := (show ObjOk X.prog X.w H st.heap dd (.xd fs) from I.hok dd _ hd)
  obtain ⟨od, ho, _⟩ := lookIn_ns ns
  have J : PySem.W.InstAt st.heap a oe D (some od) := ⟨ga, hz.1, by unfold PySem.W.notCls; rw [fv] <;> rfl, by rw [hz.2]; exact ho⟩
  refine ⟨_, PySem.W.kitx_exc ?_ C.hg C.hk C.hs C.ha C.hn C.ht C.hm, J⟩
  obtain ⟨cd, w, _⟩ := PySem.W.any_some C.hd
  rw [w]
  rfl
/-- isinstance(error, class) -/
theorem call_isX1 (hz : Zc cls d oe) (hf : ∃ vs, oe.data = .fields vs) : CallR (X.suite a ((a, oe) :: pn)) (.builtin "isinstance") (fun xs H Q => ∃ (D C : Addr) (b : Bool), xs = [.ref a, .ref C] ∧ Held X.K cls d H D ∧ PySem.W.kitOne X.K (.ref D) (.ref C) = some b ∧ Q (.bl b) H) := by
  intro pins st sl H xs us Q I r h
  obtain ⟨D, C, b, rfl, hh, e, q⟩ := h
  obtain ⟨u1, u2, rfl, r1, r2⟩ := Vals.two r
  cases (show u1 = Value.ref a from r1)
  cases (show u2 = Value.ref C from r2)
  obtain ⟨P, Z, p⟩ := held_kit hz hf I hh
  exact PySem.W.kia_one Z I.kIn p e (fun z => nomatch z) fun tk => ⟨.bl b, H, I.tok tk, rfl, q⟩
/-- isinstance(error, (classes)) -/
theorem call_isX2 (hz : Zc cls d oe) (hf : ∃ vs, oe.data = .fields vs) : CallR (X.suite a ((a, oe) :: pn)) (.builtin "isinstance") (fun xs H Q => ∃ (D tp : Addr) (cs : List Addr) (b : Bool), xs = [.ref a, .ref tp] ∧ H tp = some (.tup (cs.map V.ref)) ∧ Held X.K cls d H D ∧
    PySem.W.kitAny X.K (.ref D) (cs.map Value.ref) = some b ∧ Q (.bl b) H) := by
  intro pins st sl H xs us Q I r h
  obtain ⟨D, tp, cs, b, rfl, ht, hh, e, q⟩ := h
  obtain ⟨u1, u2, rfl, r1, r2⟩ := Vals.two r
  cases (show u1 = Value.ref a from r1)
  cases (show u2 = Value.ref tp from r2)
  obtain ⟨P, Z, p⟩ := held_kit hz hf I hh
  obtain ⟨_, its, rv, o, ho, w1, m, w2⟩ := (show ObjOk X.prog X.w H st.heap tp (.tup (cs.map V.ref)) from I.hok tp _ ht)
  have key : ∀ (cs : List Addr) (its : List Value), Vals (cs.map V.ref) its → its = cs.map Value.ref := by
    intro cs
    induction cs with
    | nil => intro its r; cases r; rfl
    | cons c cs ih =>
      intro its r
      cases r with
      | cons h t => rw [ih _ t, show _ = Value.ref c from h]; rfl
  have ek := key cs its rv
  subst ek
  obtain ⟨o1, o2, o3, o4⟩ := o
  simp only at w1 w2
  subst w1 w2
  exact PySem.W.kia_tup Z I.kIn p ho e (fun z => nomatch z) fun tk => ⟨.bl b, H, I.tok tk, rfl, q⟩
end
/-- one class of the program asked for another -/
theorem kit_ref {K : PySem.W.Frag} {D C : Addr} {b : Bool} (h : D ≠ C) (hc : (PySem.W.clsIn K C).isSome = true) (ht : PySem.W.typeIn K (.ref C) = some (.type "type")) (e : PySem.W.subIn K (.ref D) (.ref C) = some b) : PySem.W.kitOne K (.ref D) (.ref C) = some b := by
  unfold PySem.W.kitOne PySem.W.kitCls
  have ne : (Value.ref D == Value.ref C) = false := beq_eq_false_iff_ne.mpr fun z => h (Value.ref.inj z)
  rw [ne]
  simp [hc, ht, e]
theorem kit_self {K : PySem.W.Frag} {D : Addr} : PySem.W.kitOne K (.ref D) (.ref D) = some true := by
  unfold PySem.W.kitOne
  simp
end MT
/-! data along what makes lambdas -/
namespace MT
open PySem L2 LamX
theorem ext_seq {K : PySem.W.Frag} {H H' : Hp} {a : Addr} {xs : List V} (e : ExtN H H') (h : SqL K H a xs) : SqL K H' a xs := by
  rcases h with (h | ⟨o, h⟩) | h
  · exact .inl (.inl (e _ _ h fun _ z => by cases z))
  · exact .inl (.inr ⟨o, e _ _ h fun _ z => by cases z⟩)
  · exact .inr h
theorem ext_seqT {K : PySem.W.Frag} {H H' : Hp} {a : Addr} {xs : List V} (e : ExtN H H') (h : SqT K H a xs) : SqT K H' a xs := by
  rcases h with (h | ⟨o, h⟩) | h
  · exact .inl (.inl (e _ _ h fun _ z => by cases z))
  · exact .inl (.inr ⟨o, e _ _ h fun _ z => by cases z⟩)
  · exact .inr h
abbrev nowhere : Addr → Prop := fun _ => False
section
variable {K : PySem.W.Frag} {M : Addr → Prop} {H H' : Hp}
mutual
theorem Dv.extR (e : ExtN H H') : ∀ (d : PyData) (v : V), Dv K M H v d → Dv K nowhere H' v d
  | .none, _, h => by cases h; exact .non
  | .bool b, _, h => by cases h; exact .bl b
  | .int i, _, h => by cases h; exact .int i
  | .str x, _, h => by cases h; exact .str x
  | .list ds, _, h => by
    cases h with
    | lst _ s a => exact .lst (fun z => z) (ext_seq e s) (DvAll.extR e ds _ a)
  | .tuple ds, _, h => by
    cases h with
    | tup _ s a => exact .tup (fun z => z) (ext_seqT e s) (DvAll.extR e ds _ a)
  | .dict _, _, h => by
    cases h with
    | dct _ s => exact .dct (fun z => z) (e _ _ s fun _ z => by cases z)
    | dcT _ s => exact .dcT (fun z => z) (e _ _ s fun _ z => by cases z)
theorem DvAll.extR (e : ExtN H H') : ∀ (ds : List PyData) (vs : List V), DvAll K M H vs ds → DvAll K nowhere H' vs ds
  | [], _, h => by cases h; exact .nil
  | d :: ds, _, h => by
    cases h with
    | cons a b => exact .cons (Dv.extR e d _ a) (DvAll.extR e ds _ b)
end
theorem Dv.ext {d : PyData} {v : V} (h : Dv K M H v d) (e : ExtN H H') : Dv K nowhere H' v d := Dv.extR e d v h
theorem DvAll.ext {ds : List PyData} {vs : List V} (h : DvAll K M H vs ds) (e : ExtN H H') : DvAll K nowhere H' vs ds := DvAll.extR e ds vs h
theorem Same.ext (e : Same H H') : ExtN H H' := ExtN.of e
theorem tabs_frm {a : Addr} {P : Addr} {q : Str} (h : H P = some (.tbl #[])) (ne : P ≠ a) (F : Frm (· = a) H H') : H' P = some (.tbl #[]) := F _ _ ne h
theorem tabs_nil {P : Addr} {q : Str} (h : H P = some (.tbl #[])) : Tabs [(P, q)] H := fun p hp => by
  rw [List.mem_singleton.mp hp]
  exact TabS.nil h
end

theorem okGn {P : Program} {w : World} {K : PySem.W.Frag} {mg : Str → Option Value} {base : Heap} {x qual : Str} {st : Stmt} {f : Addr} {fd : FuncData} {N ps : List Str} {k : Nat} {sp : Sp} (F : Fun K x qual st f fd) (S : FnScope N ps (defScope st)) (len : ∀ vs H Q E, sp vs H Q E → vs.length = ps.length)
    (hbody : ∀ (cdv : Value) (A : Around) (outer : List Env) (s : Shared) (H : Hp) (vs : List V) (Q : VK) (E : XK), (A.deeper (PyProof.Rows.envOfC qual (defScope st) s.heap.objs.size f cdv)).guards = some [] → Room k (A.deeper (PyProof.Rows.envOfC qual (defScope st) s.heap.objs.size f cdv)) → sp vs H Q E →
      ∃ t, PSs (cxOf CX0 P w K mg base N qual (defScope st) f cdv A outer s H E).nox (defBody st) t ∧ t { nx := fun _ H' => Q .non H', rt := Q } (L2.start N vs) H) : FnG P w K mg base CX0 (k + 1) f fd ps sp :=
  okG F S len fun cdv A outer s H vs Q E hq hr h => by
    obtain ⟨t, w1, w2⟩ := hbody cdv A outer s H vs Q E hq hr h
    exact ⟨t, w1.nox, w2⟩
end MT
/-! a law's end: its promise told where no repr is under way; one table of code objects -/
namespace MT
open PySem PySem.Spec PyProof.Rows L2
abbrev scriptO (vs : List Value) : Obj := { cls := .type "list", data := .seq vs.toArray }
/-- what is tracked at first: the empty table, and the script's list (if the text's own part doesn't have it) -/
def startH (K : PySem.W.Frag) (PT a : Addr) (vs : List Value) (ns : List Int) : Hp := fun b =>
  if b = PT then some (.tbl #[]) else if b = a ∧ (K.lookup a).isNone = true then some (.frz (scriptO vs) (.lst (ns.map V.int))) else none
section
variable {K : PySem.W.Frag} {PT a b : Addr} {vs : List Value} {ns : List Int}
theorem startH_tab : startH K PT a vs ns PT = some (.tbl #[]) := if_pos rfl
theorem startH_cases {u : HO} (h : startH K PT a vs ns b = some u) : (b = PT ∧ u = .tbl #[]) ∨ (b = a ∧ K.lookup a = none ∧ u = .frz (scriptO vs) (.lst (ns.map V.int))) := by
  unfold startH at h
  split at h
  · rename_i e
    exact .inl ⟨e, (Option.some.inj h).symm⟩
  · split at h
    · rename_i e
      exact .inr ⟨e.1, by simpa using e.2, (Option.some.inj h).symm⟩
    · cases h
theorem startH_none (h1 : b ≠ PT) (h2 : b = a → K.lookup a ≠ none) : startH K PT a vs ns b = none := by
  cases e : startH K PT a vs ns b with
  | none => rfl
  | some u =>
    rcases startH_cases e with ⟨w, _⟩ | ⟨w, n, _⟩
    · exact absurd w h1
    · exact absurd n (h2 w)
end
theorem runG {P : Program} {w : World} {K : PySem.W.Frag} {mg mb : Str → Option Value} {k : Nat} {fa a c PT : Addr} {fd : FuncData} {x : Str} {sp : Sp} {st : Shared} {vs : List Value} {ns : List Int} (inK : K.In st.heap) (glob : st.heap.Ns mainGlobals mg)
    (blt : st.heap.Ns builtinsNs mb) (boot : ∀ x : Str, x ≠ "__name__" → mb x = bootBuiltins x) (lim : st.heap.NoLimit) (gens : st.gens = #[]) (tab : st.heap.get? PT = some { cls := .none, data := .fields #[] }) (noK : K.lookup PT = none) (code : PySem.W.CodeHd st.heap c PT)
    (bmain : ∃ (bm : Addr) (ob : Obj), mg "__builtins__" = some (.ref bm) ∧ bm ≠ builtinsNs ∧ st.heap.get? bm = some ob ∧ ob.cls = .type "module" ∧ ob.dict = some builtinsNs ∧ ob.data = .plain) (obj : st.heap.get? a = some (scriptO vs)) (areI : IntsAre vs ns)
    (len : ns.length ≤ sizeLine) (room : Room k callerA) (prom : ∀ base : Heap, K.In base → base.Ns mainGlobals mg → LamX.TabB base mg c PT → FnG P w K mg base CX0 k fa fd [x] sp) (bind : ∀ (s : Shared) (u : Value), BindsTo s fd ⟨[u], []⟩ [(x, u)])
    (told : ∀ H : Hp, H PT = some (.tbl #[]) → SqL K H a (ns.map V.int) → sp [.ref a] H (fun v _ => v = .bl true) fun _ _ _ => False) :
    codeAny (model P w) callerA (.call (.ref fa) ⟨[.ref a], []⟩) (fun r s' => r = .ok (.ret (.bool true)) ∧ OldK st.heap s'.heap ∧ s'.os = st.os ∧ AllBare s'.gens) st := by
  have rv := vals_ints areI
  have lv := areI.length
  have ne : PT ≠ a := fun z => by rw [z, obj] at tab; cases tab
  obtain ⟨H, eH⟩ : ∃ H, H = startH K PT a vs ns := ⟨_, rfl⟩
  have HP : H PT = some (.tbl #[]) := by rw [eH]; exact startH_tab
  -- what has other data is not tracked
  have free : ∀ {b : Addr} {o : Obj}, st.heap.get? b = some o → o ≠ { cls := .none, data := .fields #[] } → o ≠ scriptO vs → H b = none := fun {b o} e n1 n2 => by
    rw [eH]
    refine startH_none (fun z => n1 ?_) fun z => absurd ?_ n2
    · rw [z, tab] at e; exact (Option.some.inj e).symm
    · rw [z, obj] at e; exact (Option.some.inj e).symm
  have dicts : ∀ {b : Addr} {o : Obj} {es : Array DictEntry} {ep : Nat}, st.heap.get? b = some o → o.data = .dict es ep → H b = none := fun {b o es ep} e d =>
    free e (fun z => by rw [z] at d; cases d) (fun z => by rw [z] at d; cases d)
  have plain : ∀ {b : Addr} {o : Obj}, st.heap.get? b = some o → o.data = .plain → H b = none := fun {b o} e d =>
    free e (fun z => by rw [z] at d; cases d) (fun z => by rw [z] at d; cases d)
  have stay : ∀ {b : Addr} {m : Str → Option Value}, st.heap.Ns b m → (hidT st.heap H).Ns b m := fun {b m} ⟨o, es, ep, e, d, r⟩ => ⟨o, es, ep, hidT_get e (dicts e d), d, r⟩
  have inB : K.In (hidT st.heap H) := fun b o e => hidT_get (inK b o e) (by
    rw [eH]
    refine startH_none (fun z => ?_) fun z q => ?_
    · rw [z, noK] at e; cases e
    · rw [z, q] at e; cases e)
  have sq : SqL K H a (ns.map V.int) := by
    cases q : K.lookup a with
    | none => exact .inl (.inr ⟨scriptO vs, by rw [eH]; unfold startH; rw [if_neg (Ne.symm ne), if_pos ⟨rfl, by rw [q]; rfl⟩]⟩)
    | some o =>
      have e := inK a o q
      rw [obj] at e
      cases e
      exact .inr ⟨_, vs.toArray, _, q, rfl, rfl, rfl, by rw [List.size_toArray, lv]; exact len, by simpa using rv⟩
  have ok : HOk P w H st.heap := fun b u e => by
    rw [eH] at e
    rcases startH_cases e with ⟨rfl, rfl⟩ | ⟨rfl, _, rfl⟩
    · exact tab
    · exact ⟨obj, by rw [List.length_map]; exact len, vs, _, rv, obj⟩
  have tb : LamX.TabB (hidT st.heap H) mg c PT := by
    refine ⟨?_, ?_, fun z => ?_⟩
    · obtain ⟨o, us, file, tf, flags, tg, inF, text, tt, g0, rest⟩ := code
      refine ⟨o, us, file, tf, flags, tg, inF, text, tt, hidT_get g0 (free g0 (fun z => ?_) fun z => ?_), rest⟩
      · have := rest.1
        rw [z] at this
        cases this
      · have := rest.2.1
        rw [z] at this
        cases this
    · obtain ⟨bm, ob, w1, w2, w3, w4, w5, w6⟩ := bmain
      refine ⟨bm, ob, w1, w2, fun z => ?_, fun z => ?_, hidT_get w3 (plain w3 w6), w4, w5, w6⟩
      · obtain ⟨o, es, ep, e, d, _⟩ := glob
        rw [z, e] at w3
        cases w3
        rw [w6] at d
        cases d
      · rw [z, tab] at w3
        cases w3
        cases w6
    · obtain ⟨o, es, ep, e, d, _⟩ := glob
      rw [z, tab] at e
      cases e
      cases d
  have en : Env0 P w K mg (hidT st.heap H) callerA [] st H := ⟨rfl, ⟨inB, stay glob, ⟨mb, stay blt, boot⟩, let ⟨mc, z1, z2⟩ := lim; ⟨mc, stay z1, z2⟩⟩, fun b o e => of_hidT e, Nat.le_of_eq (hidT_size _ _), trivial, fun b z => absurd (show b ∈ ([] : List Addr) from z) (by simp), ok, .of_eq gens⟩
  refine codeAny_mono ((prom _ inB (stay glob) tb).run callerA [] st H ⟨[.ref a], []⟩ [.ref a] [.ref a] _ _ rfl room en (bind st _) (.cons rfl .nil) (told H HP sq)) fun r s' z => ?_
  cases r with
  | error e => exact (show False from z).elim
  | ok fl =>
    cases fl with
    | next => exact z.elim
    | brk => exact z.elim
    | cont => exact z.elim
    | ret u =>
      obtain ⟨v, H', so, bare, un, ok', ru, qv⟩ := z
      obtain rfl : v = .bl true := qv
      obtain rfl : u = Value.bool true := ru
      obtain ⟨more, tm⟩ := un.tbls PT #[] HP
      have g' : s'.heap.get? PT = some { cls := .none, data := .fields (#[] ++ more) } := ok' PT _ tm
      have kept : ∀ b o, b ≠ PT → st.heap.get? b = some o → s'.heap.get? b = some o := fun b o nb e => by
        cases q : H b with
        | none => exact un.keep b o e q (fun z => nomatch (show b ∈ ([] : List Addr) from z)) (by simp)
        | some u =>
          have q0 := q
          rw [eH] at q0
          rcases startH_cases q0 with ⟨w1, _⟩ | ⟨_, _, rfl⟩
          · exact absurd w1 nb
          · have e1 := (ok b _ q).1
            have e2 := (ok' b _ (un.frzs b _ _ q)).1
            rw [e] at e1
            rw [e1]
            exact e2
      refine ⟨rfl, ⟨fun b o e => ?_, fun b o e => ?_⟩, so, bare⟩
      · by_cases nb : b = PT
        · rw [nb, tab] at e
          cases e
          exact .inr (.inl ⟨by rw [nb]; exact (code.tab tab).isCodeTable, rfl, #[], more, rfl, by rw [nb]; exact g'⟩)
        · exact .inl (kept b o nb e)
      · by_cases nb : b = PT
        · exact ⟨_, by rw [nb]; exact g'⟩
        · exact ⟨o, kept b o nb e⟩
end MT
namespace MT
open PySem PySem.Spec PyProof.Rows L2
/-- what the law's end wants at the head's heap -/
def LawG (l : PySem.W.OpenLaw) (w : World) (K : PySem.W.Frag) (k n : Nat) (x : Str) (mg : Str → Option Value) (fa : Addr) (h : Heap) : Prop :=
  ∃ (fd : FuncData) (sp : Sp) (c PT : Addr), h.get? PT = some { cls := .none, data := .fields #[] } ∧ K.lookup PT = none ∧ PySem.W.CodeHd h c PT ∧ (∀ (s : Shared) (u : Value), BindsTo s fd ⟨[u], []⟩ [(x, u)]) ∧
    (∀ (H : Hp) (a : Addr) (ns : List Int), ns.length ≤ n → H PT = some (.tbl #[]) → SqL K H a (ns.map V.int) → sp [.ref a] H (fun v _ => v = .bl true) fun _ _ _ => False) ∧
    ∀ base : Heap, K.In base → base.Ns mainGlobals mg → LamX.TabB base mg c PT → FnG l.prog w K mg base CX0 k fa fd [x] sp
theorem walkG {l : PySem.W.OpenLaw} {n k : Nat} {q : Program} {loose : List Str} {XP : (Str → Option Value) → Heap → Prop} {YP : World → Heap → Prop} {d : DefRec} {K : Params → PySem.W.Frag} {x : Str} (hn : l.most = some n) (big : n ≤ sizeLine) (hdf : d.params.defaults = []) (room : Room k callerA)
    (inK : ∀ (w : World) (h : Heap), YP w h → (K w.params).In h) (F : ∀ (w : World) (mg : Str → Option Value) (fa : Addr) (h : Heap), YP w h → (K w.params).In h → h.Ns mainGlobals mg → mg d.name = some (.ref fa) → LawG l w (K w.params) k n x mg fa h) :
    PySem.W.WalkO q loose XP YP l.row.toRowW d [] (fun f vs => PySem.call f vs) :=
  Att.attach_callB hn hdf fun w s0 s1 mg mb fa o pm cd doc a vs ns G Y _ _ _ gmg gobj gints glen _ gg => by
    have X := inK w _ Y
    obtain ⟨fd, sp, c, PT, w1, w2, w3, w4, w5, w6⟩ := F w mg fa _ Y X G.T.g gmg
    exact runG X G.T.g G.T.b G.T.builtins G.T.nolimit gg w1 w2 w3 G.T.bmain gobj gints (Nat.le_trans glen big) room w6 w4 fun H h1 h2 => w5 H a ns glen h1 h2
/-- what the text says of an error's class, from its single facts -/
theorem errC_mk {K : PySem.W.Frag} {mg : Str → Option Value} {h : Heap} {x : Str} {C CM fI N : Addr} {f : Str} {nm q : Str} {bs : List Value} {sn : List Str} {sub : List Value} {ab : Bool} {col : Option Bool} {dd : Option Addr} {m0 m1 m2 m3 m5 : Option Value} (X : K.In h) (G : h.Ns mainGlobals mg) (gC : PySem.W.nsIn K mainGlobals x = some (some (.ref C)))
    (cl : K.lookup C = some (excClassObj nm q C N bs [.ref CM, .type "ValueError", .type "Exception", .type "BaseException", .type "object"] true sn sub ab col dd m0 m1 m2 m3 m5 "ValueError.__new__"))
    (sa : PySem.W.findIn K (.ref C) "__setattr__" = some (some (.builtin "object.__setattr__"))) (ga : PySem.W.findIn K (.ref C) "__getattribute__" = some (some (.builtin "BaseException.__getattribute__"))) (gg : PySem.W.findIn K (.ref C) "__getattr__" = some none)
    (nf : PySem.W.findIn K (.ref C) f = some none) (ii : PySem.W.findIn K (.ref C) "__init__" = some (some (.ref fI))) (ti : PySem.W.typeIn K (.ref fI) = some (.type "function")) (kC : PySem.W.keepIn K (.ref C) = true) (eC : PySem.W.subIn K (.ref C) (.type "BaseException") = some true)
    (tC : PySem.W.typeIn K (.ref C) = some (.type "type")) (hC : PySem.W.hasDictIn K C = true) (cc : PySem.W.findIn K (.ref C) "__class__" = some (some (.builtin "object.__class__"))) (oo : PySem.W.mroIn K C (.type "object") = some true) : ErrC K mg x C fI f where
  gC := PySem.W.mg_of X G gC
  oex := ⟨⟨nm, q, N, bs, _, sn, sub, ab, col, dd, m0, m1, m2, m3, m5, cl, rfl⟩, sa, eC, tC, kC⟩
  noF := nf
  iC := ii
  tI := ti
  xf := ⟨ga, gg, eC, hC⟩
  cl := cc
  ob := oo
end MT
/-! a caught error that a variable keeps beyond its clause -/
namespace MT
open PySem PySem.Spec PyProof.Rows L2
/-- at a: an error, its class, its dict -/
def keptO (a : Addr) (cls : Value) (d : Option Addr) : HO := .ext fun h => ∃ (o : Obj) (vs : Array Value), h.get? a = some o ∧ Zc cls d o ∧ o.data = .fields vs
theorem keptO_at {P : Program} {w : World} {H : Hp} {h : Heap} {a : Addr} {cls : Value} {d : Option Addr} (hok : HOk P w H h) (e : H a = some (keptO a cls d)) : ∃ (o : Obj) (vs : Array Value), h.get? a = some o ∧ Zc cls d o ∧ o.data = .fields vs := by
  have x : ObjOk P w H h a (.ext fun h => ∃ (o : Obj) (vs : Array Value), h.get? a = some o ∧ Zc cls d o ∧ o.data = .fields vs) := hok a _ e
  exact x.1
theorem keptO_ok {P : Program} {w : World} {H : Hp} {h : Heap} {a : Addr} {cls : Value} {d : Option Addr} {o : Obj} {vs : Array Value} (e : h.get? a = some o) (z : Zc cls d o) (f : o.data = .fields vs) : ObjOk P w H h a (keptO a cls d) :=
  ⟨⟨o, vs, e, z, f⟩, ⟨o, e⟩, fun _ _ ⟨p, us, q, r⟩ k => ⟨p, us, k p q, r⟩⟩
section
variable {X : Cx} {pins : List (Addr × Obj)} {σ : L2.St} {H : Hp} {s : Shared} {a : Addr} {cls : Value} {d : Option Addr}
/-- what is pinned, and was not there when the def began, may be tracked -/
theorem keep_pin {o : Obj} {vs : Array Value} (I : Inv X ((a, o) :: pins) σ H s) (z : Zc cls d o) (f : o.data = .fields vs) (new : X.s_0.heap.get? a = none) (away : ∀ p ∈ X.pn ++ pins, p.1 ≠ a) : Inv X pins σ (upd H a (keptO a cls d)) s := by
  obtain ⟨at_, na, nl, nf, _⟩ := I.pin (a, o) (List.mem_append_right _ List.mem_cons_self)
  have old : ∀ b u, X.s_0.heap.get? b = some u → b ≠ a := fun b u e q => by rw [q, new] at e; cases e
  have had : ∀ b u, H b = some u → b ≠ a := fun b u e q => by rw [q, na] at e; cases e
  refine ⟨I.ok, I.os, I.bare, ⟨I.base.keep, I.base.slot, fun b u e n x => ?_, I.base.there, fun b xs e => ?_, fun b u v e => ?_, fun b ps e => ?_⟩, I.loc, I.cell, ?_, fun x c e => ?_, fun p hp => ?_, fun b u e => ?_, I.len⟩
  · rw [upd_ne (old b u e)]
    exact I.base.free b u e n x
  · have q := I.base.tups b xs e
    rw [upd_ne (had _ _ q)]
    exact q
  · have q := I.base.frzs b u v e
    rw [upd_ne (had _ _ q)]
    exact q
  · obtain ⟨m, q⟩ := I.base.tbls b ps e
    exact ⟨m, by rw [upd_ne (had _ _ q)]; exact q⟩
  · rw [upd_ne (Ne.symm nl)]
    exact I.free
  · obtain ⟨v, u, gu, du⟩ := I.cell x c e
    have ca : c ≠ a := fun q => by
      rw [q, at_] at gu
      cases gu
      rw [f] at du
      cases du
    rw [upd_ne ca]
    exact I.freeC x c e
  · have hm : p ∈ X.pn ++ (a, o) :: pins := by
      rcases List.mem_append.mp hp with q | q
      · exact List.mem_append_left _ q
      · exact List.mem_append_right _ (List.mem_cons_of_mem _ q)
    obtain ⟨w1, w2, w3⟩ := I.pin p hm
    exact ⟨w1, by rw [upd_ne (away p hp)]; exact w2, w3⟩
  · by_cases hb : b = a
    · subst hb
      rw [upd_same] at e
      cases e
      exact keptO_ok at_ z f
    · rw [upd_ne hb] at e
      exact (I.hok b u e).stay (fun _ _ _ q => q) (fun c q => by rw [upd_ne (had _ _ q)]; exact q) (fun c xs q => by rw [upd_ne (had _ _ q)]; exact q)
/-- what is wanted where try lets an error in, whose clause is n2 = n -/
def wKeep (K : PySem.W.Frag) (c : Value) (i j : Nat) (Wout : WX) (D : Ends) : WX := fun cls d σ H =>
  ∃ b, PySem.W.exmOne K cls c = some b ∧ (b = true → ∀ a, H a = none → D.nx (((σ.set i (some (.ref a))).set j (some (.ref a))).set i none) (upd H a (keptO a cls d))) ∧ (b = false → Wout cls d σ H)
end
section
variable {X : Cx} {x n n2 : Str} {c : Value} {i j : Nat} {body : List Stmt} {np p1 p2 p3 pos pos' : Pos} {tb : WX → TS} {Wout : WX}
theorem ps_try_keep (hs : X.stack = X.env :: X.outer) (fr : X.env.frame = some X.env.locals) (nd : X.N.Nodup) (ni : X.N[i]? = some n) (nk : X.env.kindOf n = some .local) (nj : X.N[j]? = some n2) (jk : Loc X.env.scope n2) (jl : X.fn n2 = true ∨ X.env.scope.names.lookup n2 = some .local) (hx : X.ex = []) (vi : Vis X.env.scope n) (hc : Names X x c) (out : Takes X Wout)
    (run : ∀ (W : WX) (pn : List (Addr × Obj)) (xe : Value → Shared → Prop), Takes (X.tr pn xe) W → PassesOwn (model X.prog X.w) X.A X.env xe → PSs (X.tr pn xe) body (tb W)) (dbg : (n == ("__debug__" : Str)) = false := by decide) (dbg2 : (n == ("__classdict__" : Str)) = false := by decide) (sw : swapsWith (.Name n p2) (some (.Name n2 p1)) p3.line X.env = pure false := by rfl) :
    PS X (.Try body [.ExceptHandler (some (.Name x np)) (some n) [.Assign [.Name n2 p1] (.Name n p2) p3] pos'] [] [] pos) (fun D σ H => tb (wKeep X.K c i j Wout D) D σ H) := by
  refine ⟨fun pins st sl H D I told => wpAny_Try_except ?_⟩
  have good := I.ok
  have frames : X.A.frames = some (X.env :: X.outer) := good.frames.trans (by rw [hs])
  refine wpAny_mono ((run (wKeep X.K c i j Wout D) (X.pn ++ pins) (fun e z1 => wpAny (model X.prog X.w) X.A (noteFrame e X.env) (fun _ z2 => wpAny (model X.prog X.w) X.A (setFlight e none) (fun _ z3 =>
    wpAny (model X.prog X.w) X.A (handleBy e X.env [.ExceptHandler (some (.Name x np)) (some n) [.Assign [.Name n2 p1] (.Name n p2) p3] pos']) (SP X pins D) X.xe z3) X.xe z2) X.xe z1) (fun u z air => ?_) PassesOwn.looking).run [] st sl H D (I.toTry _) told) (fun f z1 q => ?_) (fun e z1 q => q)
  · obtain ⟨a, B, sI, ps', sl', H', cls, d, rfl, J', ground, up, sky, na, eos, eg, b, exm, yes, no⟩ := air
    have J : Inv X pins sl' H' sI := J'.ofTry good
    have sky2 : Sky B (X.env :: X.outer) a (Zc cls d) X.env.locals z.heap := hs ▸ sky
    show wpAny (model X.prog X.w) X.A (noteFrame (.ref a) X.env) _ _ _
    refine Sky.land Zc.steady frames fr sky2 fun g3 fly3 up3 => ?_
    have J3 : Inv X pins sl' H' { z with heap := g3 } := J.landed ground fly3.1 (up.trans up3) eos eg
    obtain ⟨o3, v3, at3, zc3, da3⟩ := fly3.there
    have off : a ∉ frs (X.env :: X.outer) := fun m => by
      obtain ⟨_, q, e, nofields⟩ := fly3.2.2.1.mem m
      rw [at3] at e
      cases e
      exact nofields _ da3
    have offL : a ≠ X.env.locals := fun e => off (List.mem_filterMap.mpr ⟨X.env, List.mem_cons_self, by rw [fr, e]⟩)
    have offF : a ∉ X.fs := fun m => by
      obtain ⟨e, h1, h2⟩ := List.mem_filterMap.mp m
      exact off (List.mem_filterMap.mpr ⟨e, List.mem_cons_of_mem _ h1, h2⟩)
    have newI : sI.heap.get? a = none := by
      cases e : sI.heap.get? a with
      | none => rfl
      | some o =>
        have q := ground a o e (by rw [hs]; exact off)
        rw [fly3.2.1] at q
        cases q
    have new0 : X.s_0.heap.get? a = none := by
      cases e : X.s_0.heap.get? a with
      | none => rfl
      | some o =>
        obtain ⟨o', q⟩ := J.base.there a o e (by rw [hx]; exact fun w => nomatch w)
        rw [newI] at q
        cases q
    have away : ∀ p ∈ X.pn ++ pins, p.1 ≠ a := fun p hp e => by
      have q := (J.pin p hp).1
      rw [e, newI] at q
      cases q
    have S3 := J3.suite at3 da3 na offL offF
    refine wpAny_handleBy_cons (codeAny_handlers_test ?_) (fun q => nomatch q)
    have looks : PySem.W.Looks (model X.prog X.w) g3 (typeOf (.ref a)) cls := fun A Q E s k q => wpAny_typeOf_ref (k _ _ at3) (by rw [zc3.1]; exact q)
    have matches_ := PySem.W.exm_one (M := model X.prog X.w) J3.kIn looks exm
    have named : ∀ {Q E : Value → Shared → Prop}, Q c { z with heap := g3 } → wpAny (model X.prog X.w) (X.A.mark (some (.ref a))) (eval (.Name x np) X.env) Q E { z with heap := g3 } := fun {Q E} q => by
      obtain ⟨g, dg, m | ⟨m, v, nn⟩⟩ := hc
      · exact ld_glob (X := X.suite a ((a, o3) :: (X.pn ++ pins))) S3 g m q dg
      · exact ld_blt (X := X.suite a ((a, o3) :: (X.pn ++ pins))) S3 g m v q nn dg
    refine named (matches_.here ?_)
    cases b with
    | false =>
      show wpAny _ X.A (handleBy (.ref a) X.env []) _ _ _
      refine wpAny_handleBy_nil ?_
      obtain ⟨_, _, _, o4, v4, T, oT, ts', at4, zc4, da4, one, rest⟩ := id fly3
      unfold PySem.passOn
      refine wpAny_bind (wpAny_field at4 da4 one ?_)
      rw [if_neg (show ¬ ((Value.ref T == Value.none) = true) from by simp)]
      have last : wpAny (model X.prog X.w) X.A (setFlight (.ref a) X.env.frame) (fun _ z4 => wpAny (model X.prog X.w) X.A (throw (.ref a) : Sem Flow) (SP X pins D) X.xe z4) X.xe { z with heap := g3 } := by
        rw [fr]
        refine HandSPX.setFlight_upZ fly3 fun g4 held4 up4 => wpAny_throw (out _ _ ?_)
        exact ⟨a, B, sI, pins, sl', H', cls, d, rfl, J, ground, (up.trans up3).trans up4, .inr (.inr (hs.symm ▸ held4)), na, eos, eg, no rfl⟩
      first
        | exact wpAny_bind (wpAny_pure (wpAny_bind last))
        | exact wpAny_bind last
    | true =>
      refine codeAny_handlers_suite_as (HandSPX.lands_againZ fly3 fun g4 fly4 up4 => ?_)
      have J4 : Inv X pins sl' H' { z with heap := g4 } := J.landed ground fly4.1 ((up.trans up3).trans up4) eos eg
      obtain ⟨o4, v4, at4, zc4, da4⟩ := fly4.there
      have S4 := J4.suite at4 da4 na offL offF
      refine store_ok (X := X.suite a ((a, o4) :: (X.pn ++ pins))) (v := .ref a) S4 nd ni (.inl nk) rfl (fun z5 S5 => ?_) (.inr nk)
      have w := (pss_one (ps_set (X := X.suite a ((a, o4) :: (X.pn ++ pins))) (pos := p3) nd nj jk (pe_var (pos := p2) ni vi dbg dbg2) sw jl)).run [] z5 _ H' { nx := fun sl2 H2 => sl2 = (sl'.set i (some (.ref a))).set j (some (.ref a)) ∧ H2 = H', rt := fun _ _ => False } S5 ⟨.ref a, by
        have li : i < sl'.length := by rw [J.len]; exact (List.getElem?_eq_some_iff.mp ni).1
        rw [List.getElem?_set_self li], rfl, rfl⟩
      refine wpAny_mono w (fun f z6 q => ?_) (fun _ _ q => False.elim q)
      cases f with
      | next =>
        obtain ⟨sl6, H6, S6, rfl, rfl⟩ := q
        have P6 : Inv X ((a, o4) :: pins) ((sl'.set i (some (.ref a))).set j (some (.ref a))) H6 z6 := ⟨good, S6.os, S6.bare, S6.base, S6.loc, S6.cell, S6.free, S6.freeC, fun p hp => S6.pin p (by
          rw [List.append_nil]
          rcases List.mem_append.mp hp with m | m
          · exact List.mem_cons_of_mem _ (List.mem_append_left _ m)
          · rcases List.mem_cons.mp m with m | m
            · rw [m]; exact List.mem_cons_self
            · exact List.mem_cons_of_mem _ (List.mem_append_right _ m)), S6.hok, S6.len⟩
        exact gone_ok P6 nd ni nk fun z7 P7 => ⟨_, _, keep_pin P7 zc4 da4 new0 away, yes rfl a na⟩
      | brk => exact q.elim fun _ q => q.elim fun _ q => q.2.elim
      | cont => exact q.elim fun _ q => q.elim fun _ q => q.2.elim
      | ret u => exact q.elim fun _ q => q.elim fun _ q => q.elim fun _ q => q.2.2.elim
  · cases f with
    | next =>
      obtain ⟨sl', H', J', w⟩ := q
      exact wpAny_execs_nil ⟨sl', H', J'.ofTry good, w⟩
    | brk =>
      obtain ⟨sl', H', J', w⟩ := q
      exact ⟨sl', H', J'.ofTry good, w⟩
    | cont =>
      obtain ⟨sl', H', J', w⟩ := q
      exact ⟨sl', H', J'.ofTry good, w⟩
    | ret u =>
      obtain ⟨v, sl', H', J', r, w⟩ := q
      exact ⟨v, sl', H', J'.ofTry good, r, w⟩
end

/-! ### .. asked for its class, its part read -/
section
variable {X : Cx} {pins : List (Addr × Obj)} {sl : L2.St} {H : Hp} {st : Shared} {a : Addr} {e : Expr} {te : TE} {pos : Pos} {n : Str}
theorem kept_kit {D dd : Addr} {fs : List (Str × V)} (I : Inv X pins sl H st) (k : H a = some (keptO a (.ref D) (some dd))) (C : ExcC X.K D) (hd : H dd = some (.xd fs)) : ∃ P : Heap → Prop, PySem.W.KitX X.K (.ref a) (.ref D) P ∧ P st.heap := by
  obtain ⟨o, vs, ga, z, f⟩ := keptO_at I.hok k
  obtain ⟨mA, ns, _⟩ := (show ObjOk X.prog X.w H st.heap dd (.xd fs) from I.hok dd _ hd)
  obtain ⟨od, ho, _⟩ := lookIn_ns ns
  have J : PySem.W.InstAt st.heap a o D (some od) := ⟨ga, z.1, by unfold PySem.W.notCls; rw [f] <;> rfl, by rw [z.2]; exact ho⟩
  refine ⟨_, PySem.W.kitx_exc ?_ C.hg C.hk C.hs C.ha C.hn C.ht C.hm, J⟩
  obtain ⟨cd, w, _⟩ := PySem.W.any_some C.hd
  rw [w]
  rfl
/-- what isinstance of None, or of a kept error, tells -/
def Tell (K : PySem.W.Frag) (H : Hp) (v : V) (C : Addr) (b : Bool) : Prop := (v = .non ∧ PySem.W.kitOne K (.type "NoneType") (.ref C) = some b) ∨
  ∃ (a D dd : Addr) (fs : List (Str × V)), v = .ref a ∧ H a = some (keptO a (.ref D) (some dd)) ∧ H dd = some (.xd fs) ∧ ExcC K D ∧ PySem.W.kitOne K (.ref D) (.ref C) = some b
theorem call_isK : CallR X (.builtin "isinstance") (fun xs H Q => ∃ (v : V) (C : Addr) (b : Bool), xs = [v, .ref C] ∧ Tell X.K H v C b ∧ Q (.bl b) H) := by
  intro pins st sl H xs us Q I r h
  obtain ⟨v, C, b, rfl, t, q⟩ := h
  obtain ⟨u1, u2, rfl, r1, r2⟩ := Vals.two r
  cases (show u2 = Value.ref C from r2)
  rcases t with ⟨rfl, e⟩ | ⟨a, D, dd, fs, rfl, k, hd, hc, e⟩
  · cases (show u1 = Value.none from r1)
    exact PySem.W.kia_one PySem.W.kitx_none I.kIn True.intro e (fun z => nomatch z) fun tk => ⟨.bl b, H, I.tok tk, rfl, q⟩
  · cases (show u1 = Value.ref a from r1)
    obtain ⟨P, Z, p⟩ := kept_kit I k hc hd
    exact PySem.W.kia_one Z I.kIn p e (fun z => nomatch z) fun tk => ⟨.bl b, H, I.tok tk, rfl, q⟩
theorem pe_xfK (he : PE X e te) (hb : attributeBase e n X.env (eval e X.env) = eval e X.env := by rfl) :
    PE X (.Attribute e n pos) (fun σ H Q => te σ H fun x H1 => ∃ (a C dd : Addr) (fs : List (Str × V)) (v : V), x = .ref a ∧ H1 a = some (keptO a (.ref C) (some dd)) ∧ XfC X.K C ∧ PySem.W.findIn X.K (.ref C) n = some none ∧ H1 dd = some (.xd fs) ∧ fs.lookup n = some v ∧ Q v H1) := by
  refine ⟨fun pins st sl H Q I h => attr_of hb (thn (he.run pins st sl H _ I h) fun u s1 told => ?_)⟩
  obtain ⟨x, H1, I1, rx, a, C, dd, fs, v, rfl, k, T, no, hd, l, q⟩ := told
  obtain rfl : u = Value.ref a := rx
  obtain ⟨o, vs, ga, z, f⟩ := keptO_at I1.hok k
  obtain ⟨mA, ns, own⟩ := (show ObjOk X.prog X.w H1 s1.heap dd (.xd fs) from I1.hok dd _ hd)
  obtain ⟨od, ho, lk⟩ := lookIn_ns ns
  obtain ⟨w, hw, rw_⟩ := RelO.some_of (v := v) (o := mA n) (by rw [← l]; exact own n)
  have J : PySem.W.InstAt s1.heap a o C (some od) := ⟨ga, z.1, by unfold PySem.W.notCls; rw [f] <;> rfl, by rw [z.2]; exact ho⟩
  exact HandSPX.exc_get I1.kIn J T.ga T.gg T.exC (PySem.W.findObj_own T.hdC no rfl (by rw [lk, hw])) (handed_of rw_) ⟨v, H1, I1.tok _, rw_, q⟩
end
end MT
/-! errors of two parts; what stays but for tables; a draw of a text's sign -/
namespace MT
open PySem L2 LamX
/-- an error's own __init__ that keeps two parts -/
def spInit2 (K : PySem.W.Frag) (f g : Str) : Sp := fun vs H Q _ => ∃ (a C : Addr) (p q : V), vs = [.ref a, p, q] ∧ OexC K C ∧ PySem.W.findIn K (.ref C) f = some none ∧ PySem.W.findIn K (.ref C) g = some none ∧ H a = some (exo a C none) ∧
  ∀ dx, H dx = none → dx ≠ a → Q .non (upd (upd (upd H dx (exd dx [(f, p)])) a (exo a C (some dx))) dx (exd dx [(g, q), (f, p)]))
structure ErrC2 (K : PySem.W.Frag) (mg : Str → Option Value) (x : Str) (C fI : Addr) (f g : Str) : Prop where
  one : ErrC K mg x C fI f
  noG : PySem.W.findIn K (.ref C) g = some none
def tMkE2 (C : Addr) (f g : Str) (ta : TA) : L2.St → Hp → XK → Prop := fun σ H Q => ta σ H fun vs H1 => ∃ p q, vs = [p, q] ∧ ∀ d H2, New H1 H2 d (.xd [(g, q), (f, p)]) → Q (.ref C) (some d) H2
theorem mk_new2 {H : Hp} {a dx C : Addr} {f g : Str} {p q : V} (n : H a = none) (nx : H dx = none) (ne : dx ≠ a) :
    New H (upd (del (upd (upd (upd (upd H a (exo a C none)) dx (exd dx [(f, p)])) a (exo a C (some dx))) dx (exd dx [(g, q), (f, p)])) a) dx (.xd [(g, q), (f, p)])) dx (.xd [(g, q), (f, p)]) := by
  refine ⟨fun c o e => ?_, upd_same, nx⟩
  have h1 : c ≠ a := ne_of_none e n
  have h2 : c ≠ dx := ne_of_none e nx
  rw [upd_ne h2, del_ne h1, upd_ne h2, upd_ne h1, upd_ne h2, upd_ne h1]
  exact e
section
variable {X : Cx} {x f g : Str} {C fI : Addr} {k : Nat} {fd : FuncData} {e : Expr} {es : List Expr} {ta : TA} {p pos : Pos}
theorem pmk_err2 {CX : CXT} (T : ErrC2 X.K X.mg x C fI f g) (F : FnOk X.prog X.w X.K X.mg X.base CX k fI fd ["self", f, g] (spInit2 X.K f g)) (hr : Room (k + 1) X.A) (hb : Binds X.K fd ["self", f, g] []) (hx : Passes CX X (fun _ _ _ => False)) (hg : Gl X x) (ha : PA X (e :: es) ta)
    (hdb : (x == ("__debug__" : Str)) = false := by decide) (he : starEach (e :: es) X.env = (false, eval e X.env) :: starEach es X.env := by rfl) (hpl : (backTo pos (starEach es X.env)).any (·.1) = false := by rfl) :
    PMk X (.Call (.Name x p) (e :: es) [] pos) (tMkE2 C f g ta) := by
  intro pins s σ H Q I h
  refine pmk_oex T.one.oex T.one.iC T.one.tI F hr hb .nil hx hg T.one.gC (PA.cl ha) hdb he hpl pins s σ H Q I ⟨_, fun vs H1 z => ?_, h⟩
  obtain ⟨y, v, rfl, q⟩ := z
  refine ⟨by show 2 ≤ 1000; decide, fun a na => ⟨a, C, y, v, rfl, T.one.oex, T.one.noF, T.noG, upd_same, fun dx nx ne => ?_⟩⟩
  rw [upd_ne ne] at nx
  exact ⟨rfl, dx, [(g, v), (f, y)], by rw [upd_ne (Ne.symm ne), upd_same], upd_same, nx, q dx _ (mk_new2 na nx ne)⟩
end
/-! ### all but the tables stays -/
/-- all but what M names, and the tables, stays -/
def Fx (M : Addr → Prop) (H H' : Hp) : Prop := ∀ c o, ¬ M c → H c = some o → (∀ ps, o ≠ .tbl ps) → H' c = some o
theorem Fx.refl {M : Addr → Prop} {H : Hp} : Fx M H H := fun _ _ _ h _ => h
theorem Fx.trans {M : Addr → Prop} {H H1 H2 : Hp} (a : Fx M H H1) (b : Fx M H1 H2) : Fx M H H2 := fun c o n h t => b c o n (a c o n h t) t
theorem fx_frm {M : Addr → Prop} {H H' : Hp} (a : Frm M H H') : Fx M H H' := fun c o n h _ => a c o n h
theorem fx_same {M : Addr → Prop} {H H' : Hp} (a : Same H H') : Fx M H H' := fun c o _ h _ => a c o h
theorem fx_ext {M : Addr → Prop} {H H' : Hp} (a : ExtN H H') : Fx M H H' := fun c o _ h t => a c o h t
theorem Fx.seq {M : Addr → Prop} {K : PySem.W.Frag} {H H' : Hp} {a : Addr} {xs : List V} (e : Fx M H H') (n : ¬ M a) (h : SqL K H a xs) : SqL K H' a xs := by
  rcases h with (h | ⟨o, h⟩) | h
  · exact .inl (.inl (e _ _ n h fun _ z => by cases z))
  · exact .inl (.inr ⟨o, e _ _ n h fun _ z => by cases z⟩)
  · exact .inr h
theorem Fx.seqT {M : Addr → Prop} {K : PySem.W.Frag} {H H' : Hp} {a : Addr} {xs : List V} (e : Fx M H H') (n : ¬ M a) (h : SqT K H a xs) : SqT K H' a xs := by
  rcases h with (h | ⟨o, h⟩) | h
  · exact .inl (.inl (e _ _ n h fun _ z => by cases z))
  · exact .inl (.inr ⟨o, e _ _ n h fun _ z => by cases z⟩)
  · exact .inr h
section
variable {K : PySem.W.Frag} {M : Addr → Prop} {H H' : Hp}
mutual
theorem Dv.fx (F : Fx M H H') : ∀ (d : PyData) (v : V), Dv K M H v d → Dv K M H' v d
  | .none, _, h => by cases h; exact .non
  | .bool b, _, h => by cases h; exact .bl b
  | .int i, _, h => by cases h; exact .int i
  | .str x, _, h => by cases h; exact .str x
  | .list ds, _, h => by
    cases h with
    | lst n s a => exact .lst n (F.seq n s) (DvAll.fx F ds _ a)
  | .tuple ds, _, h => by
    cases h with
    | tup n s a => exact .tup n (F.seqT n s) (DvAll.fx F ds _ a)
  | .dict _, _, h => by
    cases h with
    | dct n s => exact .dct n (F _ _ n s fun _ z => by cases z)
    | dcT n s => exact .dcT n (F _ _ n s fun _ z => by cases z)
theorem DvAll.fx (F : Fx M H H') : ∀ (ds : List PyData) (vs : List V), DvAll K M H vs ds → DvAll K M H' vs ds
  | [], _, h => by cases h; exact .nil
  | d :: ds, _, h => by
    cases h with
    | cons a b => exact .cons (Dv.fx F d _ a) (DvAll.fx F ds _ b)
end
theorem Dv.fm {d : PyData} {v : V} (h : Dv K M H v d) (F : Fx M H H') : Dv K M H' v d := Dv.fx F d v h
theorem DvAll.fm {ds : List PyData} {vs : List V} (h : DvAll K M H vs ds) (F : Fx M H H') : DvAll K M H' vs ds := DvAll.fx F ds vs h
end
theorem Sx.ext {a b : Addr} {cs : List Int} {n : Nat} {H H' : Hp} (S : Sx a b cs n H) (e : ExtN H H') : Sx a b cs n H' := by
  obtain ⟨t, r, S, h⟩ := S
  exact ⟨t, r, ⟨e _ _ S.ha (fun _ z => by cases z), e _ _ S.hb (fun _ z => by cases z), S.ht, S.hr⟩, h⟩
theorem lst_tbl {xs : List V} {ps : Array Value} : HO.lst xs ≠ .tbl ps := fun z => by cases z
/-- the tables stay where a list is written -/
theorem tabs_frm' {TS : List (Addr × Str)} {a : Addr} {xs : List V} {H H' : Hp} (t : Tabs TS H) (F : Frm (· = a) H H') (ha : H a = some (.lst xs)) : Tabs TS H' := fun p hp => by
  obtain ⟨ps, h1, h2, h3⟩ := t p hp
  refine ⟨ps, F _ _ (fun z => ?_) h1, h2, fun pos cv hc => ?_⟩
  · rw [z, ha] at h1
    cases h1
  · obtain ⟨c, e1, e2⟩ := h3 pos cv hc
    refine ⟨c, e1, F _ _ (fun z => ?_) e2⟩
    rw [z, ha] at e2
    cases Option.some.inj e2
theorem tabs_draw {TS : List (Addr × Str)} {a b : Addr} {cs : List Int} {n : Nat} {H H' : Hp} (t : Tabs TS H) (F : Frm (· = a) H H') (S : Sx a b cs n H) : Tabs TS H' := by
  obtain ⟨_, _, S, _⟩ := S
  exact tabs_frm' t F S.ha
/-! ### one of a list, or of a text's signs -/
def spPickA (K : PySem.W.Frag) : Sp := fun vs H Q E => spPick K vs H Q E ∨ ∃ (a b : Addr) (cs : List Int) (n : Nat) (z : Str), vs = [.ref a, .str z] ∧ Sx a b cs n H ∧ n ≤ 1000000 ∧ 0 < z.length ∧ z.length ≤ 1000 ∧
  ∀ H' c, Frm (· = a) H H' → Sx a b cs (n + 1) H' → c ∈ z.cps.toList → Q (.str ⟨#[c]⟩) H'
theorem ix_or {X : Cx} {r1 r2 : V → V → Hp → VK → Prop} (h1 : IxR X r1) (h2 : IxR X r2) : IxR X (fun x y H Q => r1 x y H Q ∨ r2 x y H Q) := by
  intro va sc pins s σ H x y v u Q I rx ry h e
  rcases h with h | h
  · exact h1 va sc pins s σ H x y v u Q I rx ry h e
  · exact h2 va sc pins s σ H x y v u Q I rx ry h e
theorem call_or {X : Cx} {f : Value} {r1 r2 : List V → Hp → VK → Prop} (h1 : CallR X f r1) (h2 : CallR X f r2) : CallR X f (fun xs H Q => r1 xs H Q ∨ r2 xs H Q) := by
  intro pins s σ H xs us Q I r h
  rcases h with h | h
  · exact h1 pins s σ H xs us Q I r h
  · exact h2 pins s σ H xs us Q I r h
theorem sign_some {z : Str} {d : Int} (h0 : 0 ≤ d) (h1 : d < (z.length : Int)) : ∃ c, c ∈ z.cps.toList ∧ atI z.cps.toList d = some c := by
  obtain ⟨j, rfl⟩ : ∃ j : Nat, d = j := ⟨_, (Int.toNat_of_nonneg h0).symm⟩
  have hj : j < z.cps.toList.length := by
    have : z.length = z.cps.toList.length := TL.len_tl z
    omega
  exact ⟨_, List.getElem_mem hj, atI_nat (List.getElem?_eq_getElem hj)⟩
end MT
/-! a law's end, with any number of tables of code objects -/
namespace MT
open PySem PySem.Spec PyProof.Rows L2
def startHs (K : PySem.W.Frag) (Ps : List Addr) (a : Addr) (vs : List Value) (ns : List Int) : Hp := fun b =>
  if b ∈ Ps then some (.tbl #[]) else if b = a ∧ (K.lookup a).isNone = true then some (.frz (scriptO vs) (.lst (ns.map V.int))) else none
section
variable {K : PySem.W.Frag} {Ps : List Addr} {a b : Addr} {vs : List Value} {ns : List Int}
theorem startHs_tab (h : b ∈ Ps) : startHs K Ps a vs ns b = some (.tbl #[]) := if_pos h
theorem startHs_cases {u : HO} (h : startHs K Ps a vs ns b = some u) : (b ∈ Ps ∧ u = .tbl #[]) ∨ (b = a ∧ K.lookup a = none ∧ u = .frz (scriptO vs) (.lst (ns.map V.int))) := by
  unfold startHs at h
  split at h
  · rename_i e
    exact .inl ⟨e, (Option.some.inj h).symm⟩
  · split at h
    · rename_i e
      exact .inr ⟨e.1, by simpa using e.2, (Option.some.inj h).symm⟩
    · cases h
theorem startHs_none (h1 : b ∉ Ps) (h2 : b = a → K.lookup a ≠ none) : startHs K Ps a vs ns b = none := by
  cases e : startHs K Ps a vs ns b with
  | none => rfl
  | some u =>
    rcases startHs_cases e with ⟨w, _⟩ | ⟨w, n, _⟩
    · exact absurd w h1
    · exact absurd n (h2 w)
end
theorem runGs {P : Program} {w : World} {K : PySem.W.Frag} {mg mb : Str → Option Value} {k : Nat} {fa a : Addr} {cp : List (Addr × Addr)} {fd : FuncData} {x : Str} {sp : Sp} {st : Shared} {vs : List Value} {ns : List Int} (inK : K.In st.heap) (glob : st.heap.Ns mainGlobals mg)
    (blt : st.heap.Ns builtinsNs mb) (boot : ∀ x : Str, x ≠ "__name__" → mb x = bootBuiltins x) (lim : st.heap.NoLimit) (gens : st.gens = #[]) (tab : ∀ q ∈ cp, st.heap.get? q.2 = some { cls := .none, data := .fields #[] }) (noK : ∀ q ∈ cp, K.lookup q.2 = none) (code : ∀ q ∈ cp, PySem.W.CodeHd st.heap q.1 q.2)
    (bmain : ∃ (bm : Addr) (ob : Obj), mg "__builtins__" = some (.ref bm) ∧ bm ≠ builtinsNs ∧ st.heap.get? bm = some ob ∧ ob.cls = .type "module" ∧ ob.dict = some builtinsNs ∧ ob.data = .plain) (obj : st.heap.get? a = some (scriptO vs)) (areI : IntsAre vs ns)
    (len : ns.length ≤ sizeLine) (room : Room k callerA) (prom : ∀ base : Heap, K.In base → base.Ns mainGlobals mg → (∀ q ∈ cp, LamX.TabB base mg q.1 q.2) → FnG P w K mg base CX0 k fa fd [x] sp) (bind : ∀ (s : Shared) (u : Value), BindsTo s fd ⟨[u], []⟩ [(x, u)])
    (told : ∀ H : Hp, (∀ q ∈ cp, H q.2 = some (.tbl #[])) → SqL K H a (ns.map V.int) → sp [.ref a] H (fun v _ => v = .bl true) fun _ _ _ => False) :
    codeAny (model P w) callerA (.call (.ref fa) ⟨[.ref a], []⟩) (fun r s' => r = .ok (.ret (.bool true)) ∧ OldK st.heap s'.heap ∧ s'.os = st.os ∧ AllBare s'.gens) st := by
  have rv := vals_ints areI
  have lv := areI.length
  obtain ⟨Ps, ePs⟩ : ∃ Ps, Ps = cp.map (·.2) := ⟨_, rfl⟩
  have inP : ∀ {b : Addr}, b ∈ Ps → ∃ q ∈ cp, q.2 = b := fun {b} h => by
    rw [ePs] at h
    exact List.mem_map.mp h
  have tabP : ∀ {b : Addr}, b ∈ Ps → st.heap.get? b = some { cls := .none, data := .fields #[] } := fun {b} h => by
    obtain ⟨q, hq, e⟩ := inP h
    rw [← e]
    exact tab q hq
  have ne : ∀ {b : Addr}, b ∈ Ps → b ≠ a := fun {b} h z => by
    have t := tabP h
    rw [z, obj] at t
    cases t
  obtain ⟨H, eH⟩ : ∃ H, H = startHs K Ps a vs ns := ⟨_, rfl⟩
  have HP : ∀ {b : Addr}, b ∈ Ps → H b = some (.tbl #[]) := fun {b} h => by rw [eH]; exact startHs_tab h
  -- what has other data is not tracked
  have free : ∀ {b : Addr} {o : Obj}, st.heap.get? b = some o → o ≠ { cls := .none, data := .fields #[] } → o ≠ scriptO vs → H b = none := fun {b o} e n1 n2 => by
    rw [eH]
    refine startHs_none (fun z => n1 ?_) fun z => absurd ?_ n2
    · have t := tabP z
      rw [t] at e
      exact (Option.some.inj e).symm
    · rw [z, obj] at e; exact (Option.some.inj e).symm
  have dicts : ∀ {b : Addr} {o : Obj} {es : Array DictEntry} {ep : Nat}, st.heap.get? b = some o → o.data = .dict es ep → H b = none := fun {b o es ep} e d =>
    free e (fun z => by rw [z] at d; cases d) (fun z => by rw [z] at d; cases d)
  have plain : ∀ {b : Addr} {o : Obj}, st.heap.get? b = some o → o.data = .plain → H b = none := fun {b o} e d =>
    free e (fun z => by rw [z] at d; cases d) (fun z => by rw [z] at d; cases d)
  have stay : ∀ {b : Addr} {m : Str → Option Value}, st.heap.Ns b m → (hidT st.heap H).Ns b m := fun {b m} ⟨o, es, ep, e, d, r⟩ => ⟨o, es, ep, hidT_get e (dicts e d), d, r⟩
  have inB : K.In (hidT st.heap H) := fun b o e => hidT_get (inK b o e) (by
    rw [eH]
    refine startHs_none (fun z => ?_) fun z q => ?_
    · obtain ⟨q, hq, eq⟩ := inP z
      have t := noK q hq
      rw [eq, e] at t
      cases t
    · rw [z, q] at e; cases e)
  have sq : SqL K H a (ns.map V.int) := by
    cases q : K.lookup a with
    | none => exact .inl (.inr ⟨scriptO vs, by rw [eH]; unfold startHs; rw [if_neg (fun z => ne z rfl), if_pos ⟨rfl, by rw [q]; rfl⟩]⟩)
    | some o =>
      have e := inK a o q
      rw [obj] at e
      cases e
      exact .inr ⟨_, vs.toArray, _, q, rfl, rfl, rfl, by rw [List.size_toArray, lv]; exact len, by simpa using rv⟩
  have ok : HOk P w H st.heap := fun b u e => by
    rw [eH] at e
    rcases startHs_cases e with ⟨hb, rfl⟩ | ⟨rfl, _, rfl⟩
    · exact tabP hb
    · exact ⟨obj, by rw [List.length_map]; exact len, vs, _, rv, obj⟩
  have tb : ∀ q ∈ cp, LamX.TabB (hidT st.heap H) mg q.1 q.2 := fun q hq => by
    have tq := tab q hq
    refine ⟨?_, ?_, fun z => ?_⟩
    · obtain ⟨o, us, file, tf, flags, tg, inF, text, tt, g0, rest⟩ := code q hq
      refine ⟨o, us, file, tf, flags, tg, inF, text, tt, hidT_get g0 (free g0 (fun z => ?_) fun z => ?_), rest⟩
      · have := rest.1
        rw [z] at this
        cases this
      · have := rest.2.1
        rw [z] at this
        cases this
    · obtain ⟨bm, ob, w1, w2, w3, w4, w5, w6⟩ := bmain
      refine ⟨bm, ob, w1, w2, fun z => ?_, fun z => ?_, hidT_get w3 (plain w3 w6), w4, w5, w6⟩
      · obtain ⟨o, es, ep, e, d, _⟩ := glob
        rw [z, e] at w3
        cases w3
        rw [w6] at d
        cases d
      · rw [z, tq] at w3
        cases w3
        cases w6
    · obtain ⟨o, es, ep, e, d, _⟩ := glob
      rw [z, tq] at e
      cases e
      cases d
  have en : Env0 P w K mg (hidT st.heap H) callerA [] st H := ⟨rfl, ⟨inB, stay glob, ⟨mb, stay blt, boot⟩, let ⟨mc, z1, z2⟩ := lim; ⟨mc, stay z1, z2⟩⟩, fun b o e => of_hidT e, Nat.le_of_eq (hidT_size _ _), trivial, fun b z => absurd (show b ∈ ([] : List Addr) from z) (by simp), ok, .of_eq gens⟩
  refine codeAny_mono ((prom _ inB (stay glob) tb).run callerA [] st H ⟨[.ref a], []⟩ [.ref a] [.ref a] _ _ rfl room en (bind st _) (.cons rfl .nil) (told H (fun q hq => HP (by rw [ePs]; exact List.mem_map.mpr ⟨q, hq, rfl⟩)) sq)) fun r s' z => ?_
  cases r with
  | error e => exact (show False from z).elim
  | ok fl =>
    cases fl with
    | next => exact z.elim
    | brk => exact z.elim
    | cont => exact z.elim
    | ret u =>
      obtain ⟨v, H', so, bare, un, ok', ru, qv⟩ := z
      obtain rfl : v = .bl true := qv
      obtain rfl : u = Value.bool true := ru
      have grown : ∀ {b : Addr}, b ∈ Ps → ∃ more : Array Value, s'.heap.get? b = some { cls := .none, data := .fields (#[] ++ more) } := fun {b} h => by
        obtain ⟨more, tm⟩ := un.tbls b #[] (HP h)
        exact ⟨more, ok' b _ tm⟩
      have kept : ∀ b o, b ∉ Ps → st.heap.get? b = some o → s'.heap.get? b = some o := fun b o nb e => by
        cases q : H b with
        | none => exact un.keep b o e q (fun z => nomatch (show b ∈ ([] : List Addr) from z)) (by simp)
        | some u =>
          have q0 := q
          rw [eH] at q0
          rcases startHs_cases q0 with ⟨w1, _⟩ | ⟨_, _, rfl⟩
          · exact absurd w1 nb
          · have e1 := (ok b _ q).1
            have e2 := (ok' b _ (un.frzs b _ _ q)).1
            rw [e] at e1
            rw [e1]
            exact e2
      refine ⟨rfl, ⟨fun b o e => ?_, fun b o e => ?_⟩, so, bare⟩
      · by_cases nb : b ∈ Ps
        · have t := tabP nb
          rw [t] at e
          cases e
          obtain ⟨q, hq, eq⟩ := inP nb
          obtain ⟨more, g'⟩ := grown nb
          exact .inr (.inl ⟨by rw [← eq]; exact ((code q hq).tab (tab q hq)).isCodeTable, rfl, #[], more, rfl, g'⟩)
        · exact .inl (kept b o nb e)
      · by_cases nb : b ∈ Ps
        · obtain ⟨more, g'⟩ := grown nb
          exact ⟨_, g'⟩
        · exact ⟨o, kept b o nb e⟩
/-- what the law's end wants at the head's heap -/
def LawGs (l : PySem.W.OpenLaw) (w : World) (K : PySem.W.Frag) (k n : Nat) (x : Str) (mg : Str → Option Value) (fa : Addr) (h : Heap) : Prop :=
  ∃ (fd : FuncData) (sp : Sp) (cp : List (Addr × Addr)), (∀ q ∈ cp, h.get? q.2 = some { cls := .none, data := .fields #[] }) ∧ (∀ q ∈ cp, K.lookup q.2 = none) ∧ (∀ q ∈ cp, PySem.W.CodeHd h q.1 q.2) ∧ (∀ (s : Shared) (u : Value), BindsTo s fd ⟨[u], []⟩ [(x, u)]) ∧
    (∀ (H : Hp) (a : Addr) (ns : List Int), ns.length ≤ n → (∀ q ∈ cp, H q.2 = some (.tbl #[])) → SqL K H a (ns.map V.int) → sp [.ref a] H (fun v _ => v = .bl true) fun _ _ _ => False) ∧
    ∀ base : Heap, K.In base → base.Ns mainGlobals mg → (∀ q ∈ cp, LamX.TabB base mg q.1 q.2) → FnG l.prog w K mg base CX0 k fa fd [x] sp
theorem walkGs {l : PySem.W.OpenLaw} {n k : Nat} {q : Program} {loose : List Str} {XP : (Str → Option Value) → Heap → Prop} {YP : World → Heap → Prop} {d : DefRec} {K : Params → PySem.W.Frag} {x : Str} (hn : l.most = some n) (big : n ≤ sizeLine) (hdf : d.params.defaults = []) (room : Room k callerA)
    (inK : ∀ (w : World) (h : Heap), YP w h → (K w.params).In h) (F : ∀ (w : World) (mg : Str → Option Value) (fa : Addr) (h : Heap), YP w h → (K w.params).In h → h.Ns mainGlobals mg → mg d.name = some (.ref fa) → LawGs l w (K w.params) k n x mg fa h) :
    PySem.W.WalkO q loose XP YP l.row.toRowW d [] (fun f vs => PySem.call f vs) :=
  Att.attach_callB hn hdf fun w s0 s1 mg mb fa o pm cd doc a vs ns G Y _ _ _ gmg gobj gints glen _ gg => by
    have X := inK w _ Y
    obtain ⟨fd, sp, cp, w1, w2, w3, w4, w5, w6⟩ := F w mg fa _ Y X G.T.g gmg
    exact runGs X G.T.g G.T.b G.T.builtins G.T.nolimit gg w1 w2 w3 G.T.bmain gobj gints (Nat.le_trans glen big) room w6 w4 fun H h1 h2 => w5 H a ns glen h1 h2
end MT
/-! paths and their texts -/
namespace MT
open PySem L2 TL
def spotD (d : PyData) : Bool := match seqD d with
  | none => false
  | some ds => decide (ds.length ≤ 6) && ds.all nameD
theorem tl_slash : tl ("/" : Str) = [47] := by decide +kernel
theorem len_nil {z : Str} (h : z.length = 0) : z = "" := by
  refine ext_tl ?_
  rw [len_tl] at h
  rw [List.eq_nil_of_length_eq_zero h]
  decide +kernel
theorem name_len {z : Str} (h : nameD (.str z) = true) : 1 ≤ z.length ∧ z.length ≤ 12 := by
  have h : (decide (1 ≤ z.length) && decide (z.length ≤ 12) && z.cps.toList.all nameSign) = true := h
  simp only [Bool.and_eq_true, decide_eq_true_eq] at h
  exact h.1
theorem name_signs {z : Str} (h : nameD (.str z) = true) : (tl z).all nameSign = true := by
  have h : (decide (1 ≤ z.length) && decide (z.length ≤ 12) && z.cps.toList.all nameSign) = true := h
  rw [Bool.and_eq_true] at h
  exact h.2
theorem name_slash {z : Str} (h : nameD (.str z) = true) : 47 ∉ tl z := fun m => by
  have q := List.all_eq_true.mp (name_signs h) 47 m
  revert q
  decide
theorem name_mk {z : Str} (h1 : 1 ≤ z.length) (h2 : z.length ≤ 12) (h3 : (tl z).all nameSign = true) : nameD (.str z) = true := by
  rw [nameD_good h3, decide_eq_true h1, decide_eq_true h2]
  rfl
/-- the text of a path -/
def pathT (ns : List Str) : Str := ("/" : Str) ++ Txt.join "/" ns
theorem tl_pathT (ns : List Str) : tl (pathT ns) = 47 :: joinL [47] (ns.map tl) := by
  unfold pathT
  rw [tl_append, tl_slash, join_eq, tl_join, tl_slash]
  rfl
theorem split_back {ns : List Str} (h0 : ns ≠ []) (h : ∀ z ∈ ns, nameD (.str z) = true) : Txt.split (Txt.join "/" ns) "/" = ns :=
  split_join tl_slash (by decide +kernel) h0 fun z hz => name_slash (h z hz)
theorem cut_one (z : Str) : tl (cutS z (some 1) none) = (tl z).drop 1 := tl_cut_hi (i := 1) (by decide)
theorem cut_pathT (ns : List Str) : cutS (pathT ns) (some 1) none = Txt.join "/" ns := by
  refine ext_tl ?_
  rw [cut_one, tl_pathT, join_eq, tl_join, tl_slash]
  rfl
theorem cut_head (z : Str) : tl (cutS z none (some 1)) = (tl z).take 1 := tl_cut_lo (i := 1) (by decide)
theorem starts_iff (z : Str) : Txt.startswith z "/" = true ↔ cutS z none (some 1) = "/" := by
  have e : Txt.startswith z "/" = ((tl z).take 1 == [47]) := by
    have one : ("/" : Str).length = 1 := by decide +kernel
    have q : Txt.startswith z "/" = (decide (0 + ("/" : Str).length ≤ z.length) && ((tl z).drop 0).take ("/" : Str).length == tl ("/" : Str)) := by
      unfold Txt.startswith
      rw [StrLaws.subAt_eq]
    rw [q, one, tl_slash, List.drop_zero]
    cases h : tl z with
    | nil =>
      have w : (List.take 1 ([] : List Nat) == [47]) = false := rfl
      rw [w, Bool.and_false]
    | cons c r =>
      have hz : 0 + 1 ≤ z.length := by rw [len_tl, h, List.length_cons]; omega
      rw [decide_eq_true hz]
      rfl
  rw [e]
  constructor
  · intro h
    refine ext_tl ?_
    rw [cut_head, tl_slash]
    exact eq_of_beq h
  · intro h
    have q : tl (cutS z none (some 1)) = tl ("/" : Str) := by rw [h]
    rw [cut_head, tl_slash] at q
    rw [q]
    rfl
theorem pathT_starts (ns : List Str) : Txt.startswith (pathT ns) "/" = true := by
  refine (starts_iff _).mpr (ext_tl ?_)
  rw [cut_head, tl_pathT, tl_slash]
  rfl
theorem starts_mk {z : Str} (h : Txt.startswith z "/" = true) : z = ("/" : Str) ++ cutS z (some 1) none := by
  have q : tl (cutS z none (some 1)) = tl ("/" : Str) := by rw [(starts_iff z).mp h]
  rw [cut_head, tl_slash] at q
  refine ext_tl ?_
  rw [tl_append, cut_one, tl_slash, ← q]
  exact (List.take_append_drop 1 (tl z)).symm
theorem joinL_ne {S : List Nat} : ∀ {l : List (List Nat)}, l ≠ [] → (∀ p ∈ l, p ≠ []) → joinL S l ≠ []
  | [], h, _ => absurd rfl h
  | [p], _, h => h p (List.mem_singleton.mpr rfl)
  | p :: q :: r, _, h => by
    intro e
    have e : p ++ (S ++ joinL S (q :: r)) = [] := e
    exact h p List.mem_cons_self (List.append_eq_nil_iff.mp e).1
theorem name_ne {z : Str} (h : nameD (.str z) = true) : tl z ≠ [] := fun e => by
  have q := (name_len h).1
  rw [len_tl, e] at q
  exact absurd q (by decide)
theorem pathT_root {ns : List Str} (h : ∀ z ∈ ns, nameD (.str z) = true) : pathT ns = "/" ↔ ns = [] := by
  constructor
  · intro e
    cases ns with
    | nil => rfl
    | cons z r =>
      have q : tl (pathT (z :: r)) = tl ("/" : Str) := by rw [e]
      rw [tl_pathT, tl_slash] at q
      injection q with _ q
      refine absurd q (joinL_ne (by simp) fun p hp => ?_)
      obtain ⟨y, hy, rfl⟩ := List.mem_map.mp hp
      exact name_ne (h y hy)
  · rintro rfl
    refine ext_tl ?_
    rw [tl_pathT, tl_slash]
    rfl
/-- the path whose text this is, as the program reads it -/
def readP (x : Str) : Option (List Str) := if Txt.startswith x "/" = true then (if x = "/" then some [] else
  if spotD (.tuple ((Txt.split (cutS x (some 1) none) "/").map PyData.str)) = true then some (Txt.split (cutS x (some 1) none) "/") else none) else none
theorem spot_strs (ns : List Str) : spotD (.tuple (ns.map PyData.str)) = (decide (ns.length ≤ 6) && ns.all fun z => nameD (.str z)) := by
  show (decide ((ns.map PyData.str).length ≤ 6) && (ns.map PyData.str).all nameD) = _
  rw [List.length_map, List.all_map]
  rfl
theorem spot_good {ns : List Str} (h : spotD (.tuple (ns.map PyData.str)) = true) : ns.length ≤ 6 ∧ ∀ z ∈ ns, nameD (.str z) = true := by
  rw [spot_strs, Bool.and_eq_true, decide_eq_true_iff, List.all_eq_true] at h
  exact h
theorem spot_mk {ns : List Str} (h1 : ns.length ≤ 6) (h2 : ∀ z ∈ ns, nameD (.str z) = true) : spotD (.tuple (ns.map PyData.str)) = true := by
  rw [spot_strs, Bool.and_eq_true, decide_eq_true_iff, List.all_eq_true]
  exact ⟨h1, h2⟩
/-- a path's text is read back -/
theorem read_back {ns : List Str} (h1 : ns.length ≤ 6) (h2 : ∀ z ∈ ns, nameD (.str z) = true) : readP (pathT ns) = some ns := by
  unfold readP
  rw [if_pos (pathT_starts ns)]
  by_cases e : ns = []
  · rw [if_pos ((pathT_root h2).mpr e), e]
  · rw [if_neg (fun z => e ((pathT_root h2).mp z)), cut_pathT, split_back e h2, if_pos (spot_mk h1 h2)]
theorem read_text {x : Str} {ns : List Str} (h : readP x = some ns) : pathT ns = x ∧ ns.length ≤ 6 ∧ ∀ z ∈ ns, nameD (.str z) = true := by
  unfold readP at h
  split at h
  · rename_i hs
    split at h
    · rename_i e
      cases h
      exact ⟨by rw [e]; exact (pathT_root (by simp)).mpr rfl, Nat.zero_le _, by simp⟩
    · split at h
      · rename_i g
        cases h
        refine ⟨?_, spot_good g⟩
        unfold pathT
        rw [join_eq, StrLaws.join_split]
        exact (starts_mk hs).symm
      · cases h
  · cases h
theorem pathT_inj {ns ms : List Str} (h1 : ns.length ≤ 6) (h2 : ∀ z ∈ ns, nameD (.str z) = true) (g1 : ms.length ≤ 6) (g2 : ∀ z ∈ ms, nameD (.str z) = true) (e : pathT ns = pathT ms) : ns = ms := by
  have q := read_back h1 h2
  rw [e, read_back g1 g2] at q
  exact (Option.some.inj q).symm
/-! ### the law's own reading -/
def okSign (c : Nat) : Bool := decide (c = 47) || nameSign c
def badName (z : Str) : Bool := decide (z = "") || decide (12 < z.length)
def readL (x : Str) : Option (List Str) := if cutS x none (some 1) ≠ "/" then none else if x = "/" then some [] else
  if 6 < (Txt.split (cutS x (some 1) none) "/").length ∨ (Txt.split (cutS x (some 1) none) "/").any badName = true then none else
  if (tl x).all okSign = true then some (Txt.split (cutS x (some 1) none) "/") else none
theorem spl_free1 {s : Nat} : ∀ (l acc : List Nat), s ∉ acc → ∀ p ∈ spl [s] 0 acc l, s ∉ p
  | [], acc, h, p, hp => by
    rw [spl_nil] at hp
    rw [List.mem_singleton.mp hp]
    exact h
  | c :: r, acc, h, p, hp => by
    by_cases e : c = s
    · subst e
      have hit : pre [c] (c :: r) = true := by simp [pre]
      rw [spl_hit hit] at hp
      rcases List.mem_cons.mp hp with q | q
      · rw [q]; exact h
      · exact spl_free1 r [] (fun m => nomatch m) p q
    · rw [spl_miss (pre_of_head [] r e)] at hp
      refine spl_free1 r (acc ++ [c]) (fun m => ?_) p hp
      rcases List.mem_append.mp m with q | q
      · exact h q
      · exact e (List.mem_singleton.mp q).symm
theorem spl_all1 {s : Nat} {q : Nat → Bool} : ∀ (l acc : List Nat), (∀ c ∈ l, c = s ∨ q c = true) → (∀ c ∈ acc, q c = true) → ∀ p ∈ spl [s] 0 acc l, ∀ c ∈ p, q c = true
  | [], acc, _, h, p, hp => by
    rw [spl_nil] at hp
    rw [List.mem_singleton.mp hp]
    exact h
  | c :: r, acc, hl, h, p, hp => by
    have hr : ∀ c ∈ r, c = s ∨ q c = true := fun x hx => hl x (List.mem_cons_of_mem _ hx)
    by_cases e : c = s
    · subst e
      have hit : pre [c] (c :: r) = true := by simp [pre]
      rw [spl_hit hit] at hp
      rcases List.mem_cons.mp hp with w | w
      · rw [w]; exact h
      · exact spl_all1 r [] hr (fun _ m => nomatch m) p w
    · rw [spl_miss (pre_of_head [] r e)] at hp
      refine spl_all1 r (acc ++ [c]) hr (fun x m => ?_) p hp
      rcases List.mem_append.mp m with w | w
      · exact h x w
      · rw [List.mem_singleton.mp w]
        exact (hl c List.mem_cons_self).resolve_left e
theorem joinL_all {q : Nat → Bool} {s : Nat} (hs : q s = true) : ∀ {l : List (List Nat)}, (∀ p ∈ l, ∀ c ∈ p, q c = true) → ∀ c ∈ joinL [s] l, q c = true
  | [], _, c, m => absurd m (by show c ∉ ([] : List Nat); simp)
  | [p], h, c, m => h p (List.mem_singleton.mpr rfl) c m
  | (p :: r :: t), h, c, m => by
    have m : c ∈ p ++ ([s] ++ joinL [s] (r :: t)) := m
    rcases List.mem_append.mp m with w | w
    · exact h p List.mem_cons_self c w
    · rcases List.mem_append.mp w with w | w
      · rw [List.mem_singleton.mp w]; exact hs
      · exact joinL_all hs (fun z hz => h z (List.mem_cons_of_mem _ hz)) c w
theorem bad_name {z : Str} (h : badName z = false) : 1 ≤ z.length ∧ z.length ≤ 12 := by
  unfold badName at h
  rw [Bool.or_eq_false_iff, decide_eq_false_iff_not, decide_eq_false_iff_not] at h
  refine ⟨?_, by omega⟩
  rcases Nat.eq_zero_or_pos z.length with e | e
  · exact absurd (len_nil e) h.1
  · exact e
theorem name_bad {z : Str} (h : nameD (.str z) = true) : badName z = false := by
  have q := name_len h
  unfold badName
  rw [Bool.or_eq_false_iff, decide_eq_false_iff_not, decide_eq_false_iff_not]
  refine ⟨fun e => ?_, by omega⟩
  rw [e] at q
  exact absurd q.1 (by decide +kernel)
theorem split_tl (r : Str) : (Txt.split r "/").map tl = spl [47] 0 [] (tl r) := by
  have e := split_spl r "/" (by rw [tl_slash]; simp) (kind_ok (by decide +kernel))
  rw [tl_slash] at e
  exact e
theorem readL_eq (x : Str) : readL x = readP x := by
  unfold readL readP
  by_cases hs : Txt.startswith x "/" = true
  · rw [if_neg (not_not_intro ((starts_iff x).mp hs)), if_pos hs]
    by_cases hr : x = "/"
    · rw [if_pos hr, if_pos hr]
    · rw [if_neg hr, if_neg hr]
      have hx := starts_mk hs
      revert hx
      generalize cutS x (some 1) none = r
      intro hx
      have st := split_tl r
      by_cases g : spotD (.tuple ((Txt.split r "/").map PyData.str)) = true
      · obtain ⟨g1, g2⟩ := spot_good g
        rw [if_pos g, if_neg, if_pos]
        · rw [List.all_eq_true]
          intro c hc
          rw [hx, tl_append, tl_slash] at hc
          rcases List.mem_append.mp hc with m | m
          · rw [List.mem_singleton.mp m]; rfl
          · have e : tl r = joinL [47] ((Txt.split r "/").map tl) := by
              have q := StrLaws.join_split r "/"
              rw [← tl_slash, ← tl_join, q]
            rw [e] at m
            refine joinL_all (q := okSign) (by rfl) (fun p hp c hc => ?_) c m
            obtain ⟨z, hz, rfl⟩ := List.mem_map.mp hp
            unfold okSign
            rw [List.all_eq_true.mp (name_signs (g2 z hz)) c hc, Bool.or_true]
        · rintro (w | w)
          · omega
          · obtain ⟨z, hz, q⟩ := List.any_eq_true.mp w
            rw [name_bad (g2 z hz)] at q
            cases q
      · rw [if_neg g]
        split
        · rfl
        · rename_i nb
          split
          · rename_i al
            refine absurd (spot_mk (by omega) fun z hz => ?_) g
            have hb : badName z = false := by
              cases q : badName z with
              | false => rfl
              | true => exact absurd (.inr (List.any_eq_true.mpr ⟨z, hz, q⟩)) nb
            obtain ⟨b1, b2⟩ := bad_name hb
            refine name_mk b1 b2 (List.all_eq_true.mpr fun c hc => ?_)
            have mp : tl z ∈ spl [47] 0 [] (tl r) := by rw [← st]; exact List.mem_map.mpr ⟨z, hz, rfl⟩
            refine spl_all1 (q := nameSign) (tl r) [] (fun c hc => ?_) (fun _ m => nomatch m) _ mp c hc
            have q : okSign c = true := List.all_eq_true.mp al c (by rw [hx, tl_append]; exact List.mem_append_right _ hc)
            unfold okSign at q
            rw [Bool.or_eq_true, decide_eq_true_iff] at q
            exact q
          · rfl
  · have e : cutS x none (some 1) ≠ "/" := fun z => hs ((starts_iff x).mpr z)
    rw [if_pos e, if_neg hs]
end MT
/-! signs of a text that are kept; lists unlike the empty one -/
namespace MT
open PySem L2
section
variable {K : PySem.W.Frag} {M : Addr → Prop} {H : Hp}
theorem lc_strK {z : Str} {g : TG} {tt : TT} {te : TE} {vs : List Nat} {σ : L2.St} {H1 : Hp} {D : Addr} {Qd : Hp → Prop} (p : Nat → Bool)
    (hD : H1 D = none) (hlen : z.length ≤ 10000000)
    (hs : ∀ c H, c ∈ z.cps.toList → Same H1 H → ∀ (Ky : VK) (Kn : Hp → Prop), (p c = true → ∀ H', Same H H' → Ky (.str ⟨#[c]⟩) H') → (p c = false → ∀ H', Same H H' → Kn H') → LcStep g tt te vs σ (.str ⟨#[c]⟩) H Ky Kn)
    (hd : ∀ H, Same H1 H → H D = some (.lst ((z.cps.toList.filter p).map fun c => V.str ⟨#[c]⟩)) → Qd H) : LcW (Its z) g tt te vs σ H1 D Qd := by
  have hz : z.length = z.cps.toList.length := by simp [Str.length]
  have hz2 : z.cps.size = z.cps.toList.length := by simp
  have few : ∀ i, ((z.cps.toList.take i).filter p).length ≤ z.cps.toList.length := fun i => Nat.le_trans (List.length_filter_le _ _) (by rw [List.length_take]; exact Nat.min_le_right _ _)
  refine ⟨fun i m H => m = z.cps.toList.length - i ∧ i ≤ z.cps.toList.length ∧ Same H1 H ∧ H D = some (.lst (((z.cps.toList.take i).filter p).map fun c => V.str ⟨#[c]⟩)), ⟨_, by omega, Nat.zero_le _, same_new hD, by rw [upd_same]; rfl⟩, ?_⟩
  rintro i m H ⟨rfl, hi, s, hDa⟩
  by_cases hlt : i < z.cps.toList.length
  · refine .inr ⟨by show i < z.cps.size; omega, fun H' => i + 1 ≤ z.cps.toList.length ∧ Same H1 H' ∧ H' D = some (.lst (((z.cps.toList.take (i + 1)).filter p).map fun c => V.str ⟨#[c]⟩)), fun H' q => ⟨_, by omega, rfl, q⟩, ?_⟩
    rintro v H' ⟨rfl, c, hc, rfl⟩
    have hc2 : z.cps.toList[i]? = some c := by simpa using hc
    have e := take_filter_next (p := p) hc2
    refine hs c _ (List.mem_of_getElem? hc2) s _ _ (fun hp H' s' => ?_) (fun hp H' s' => ?_)
    · refine ⟨_, s' _ _ hDa, ?_, hlt, ?_, ?_⟩
      · have := few i
        rw [sizeLine_eq, List.length_map]
        omega
      · exact same_frm ((frm_same (s.trans s')).updD hD)
      · rw [upd_same, e, if_pos hp, List.map_append]
        rfl
    · refine ⟨hlt, s.trans s', ?_⟩
      rw [e, if_neg (by rw [hp]; exact Bool.false_ne_true), List.append_nil]
      exact s' _ _ hDa
  · have e : i = z.cps.toList.length := by omega
    subst e
    refine .inl ⟨by show z.cps.size ≤ _; omega, hd H s ?_⟩
    rw [hDa, List.take_of_length_le (Nat.le_refl _)]
theorem ne_nil' {p l : Addr} {ys : List V} {ds : List PyData} {Q : VK} {b : Bool} (hp : SqL K H p ys) (hd : DvAll K M H ys ds) (t : ds.all tame = true) (hl : SqL K H l []) (e : (!ds.isEmpty) = b) (q : Q (.bl b) H) : rNeD K (.ref p) (.ref l) H Q :=
  ⟨.list ds, .list [], .lst hp (hd.dpAll t), .lst hl .nil, shaped_list t, shaped_ints [], by subst e; cases ds <;> exact q⟩
theorem tame_strs {ns : List Str} (h : ∀ z ∈ ns, PyData.strOk z = true) : (ns.map PyData.str).all tame = true := by
  rw [List.all_map, List.all_eq_true]
  intro n hn
  show tame (.str n) = true
  simp [tame, PyData.canLay0, PyData.depth, h n hn]
theorem dva_strs : ∀ ns : List Str, DvAll K M H (ns.map V.str) (ns.map PyData.str)
  | [] => .nil
  | z :: ns => .cons (.str z) (dva_strs ns)
theorem dva_signs (l : List Nat) : DvAll K M H (l.map fun c => V.str ⟨#[c]⟩) ((l.map fun c => (⟨#[c]⟩ : Str)).map PyData.str) := by
  have := dva_strs (K := K) (M := M) (H := H) (l.map fun c => (⟨#[c]⟩ : Str))
  rw [List.map_map] at this
  exact this
theorem filter_any {α : Type} (p : α → Bool) (l : List α) : (!(l.filter p).isEmpty) = l.any p := by
  induction l with
  | nil => rfl
  | cons x r ih =>
    rw [List.any_cons, ← ih]
    cases e : p x with
    | true => rw [List.filter_cons_of_pos e]; rfl
    | false => rw [List.filter_cons_of_neg (by rw [e]; exact Bool.false_ne_true)]; rfl
end
end MT
/-! a def that makes lambdas, called while no repr is under way; repr of names -/
namespace MT
open PySem L2
theorem fnG_of {P : Program} {w : World} {K : PySem.W.Frag} {mg : Str → Option Value} {base : Heap} {k : Nat} {f : Addr} {name qual : Str} {params : Arguments} {body : List Stmt} {scope : Scope} {dV kV doc pm cdv ct oc : Value} {an od : Option Addr}
    {osl : Array (Option Value)} {N ps : List Str} {sp : Sp} (lk : K.lookup f = some ⟨oc, od, .func (PySem.W.fnOf name qual params body scope dV kV doc pm an cdv ct), osl⟩) (hcd : PySem.W.codeIn K cdv qual = true) (S : FnScope N ps scope) (len : ∀ vs H Q E, sp vs H Q E → vs.length = ps.length)
    (inner : ∀ (A : Around) (outer : List Env) (s : Shared) (H : Hp) (vs : List V) (Q : VK) (E : XK), (A.deeper (PyProof.Rows.envOfC qual scope s.heap.objs.size f cdv)).guards = some [] → Room k (A.deeper (PyProof.Rows.envOfC qual scope s.heap.objs.size f cdv)) → sp vs H Q E →
      ∃ t, PSs (cxOf CX0 P w K mg base N qual scope f cdv A outer s H E).nox body t ∧ t { nx := fun _ H' => Q .non H', rt := Q } (L2.start N vs) H) :
    FnG P w K mg base CX0 (k + 1) f (PySem.W.fnOf name qual params body scope dV kV doc pm an cdv ct) ps sp :=
  ⟨len, fun A outer s H args us vs Q E hg hr e0 hb r h => LamX.run_ofS lk hcd S hr e0 hb r (len _ _ _ _ h) fun hr' => by
    obtain ⟨t, w1, w2⟩ := inner A outer s H vs Q E hg hr' h
    exact ⟨t, w1.nox, w2⟩⟩
theorem iteD {p A B : Prop} [Decidable p] (h : p) (a : A) : if decide p = true then A else B := by
  rw [if_pos (decide_eq_true h)]
  exact a
theorem weight_strs : ∀ {ns : List Str} {n : Nat}, (∀ z ∈ ns, z.length ≤ n) → PyData.weightAll (ns.map PyData.str) ≤ ns.length * (n + 1)
  | [], _, _ => by simp [PyData.weightAll]
  | z :: r, n, h => by
    have ih := weight_strs (ns := r) (n := n) fun y hy => h y (List.mem_cons_of_mem _ hy)
    have q := h z List.mem_cons_self
    rw [List.map_cons, PyData.weightAll, PyData.weight, List.length_cons, Nat.add_mul]
    have : z.cps.size = z.length := rfl
    omega
theorem leaves_strs : ∀ {ns : List Str}, (∀ z ∈ ns, ∀ c ∈ TL.tl z, c < 1114112) → PyData.leavesShortAll 8 (ns.map PyData.str) = true
  | [], _ => by simp [PyData.leavesShortAll]
  | z :: r, h => by
    have ih := leaves_strs (ns := r) fun y hy => h y (List.mem_cons_of_mem _ hy)
    have q := h z List.mem_cons_self
    rw [List.map_cons, PyData.leavesShortAll, ih, Bool.and_true, PyData.leavesShort, List.all_eq_true]
    exact fun c hc => decide_eq_true (Nat.lt_of_lt_of_le (q c hc) (by decide))
theorem showable_strs : ∀ ns : List Str, PyData.showableAll (ns.map PyData.str) = true
  | [] => by simp [PyData.showableAll]
  | z :: r => by rw [List.map_cons, PyData.showableAll, showable_strs r]; simp [PyData.showable]
theorem name_chars {z : Str} (h : nameD (.str z) = true) : ∀ c ∈ TL.tl z, c < 1114112 := signs_lt (name_signs h)
theorem name_ok {z : Str} (h : nameD (.str z) = true) : PyData.strOk z = true := strOk_of (name_chars h)
theorem dp_strs {K : PySem.W.Frag} {H : Hp} : ∀ ns : List Str, DpAll K H (ns.map V.str) (ns.map PyData.str)
  | [] => .nil
  | z :: ns => .cons (.str z) (dp_strs ns)
/-- a tuple of names can be shown -/
theorem rp_names {K : PySem.W.Frag} {H : Hp} {p : Addr} {ns : List Str} (hp : SqT K H p (ns.map V.str)) (hb : ∀ z ∈ ns, nameD (.str z) = true) (hl : ns.length ≤ 6) :
    Dp K H (.ref p) (.tuple (ns.map PyData.str)) ∧ (PyData.tuple (ns.map PyData.str)).showable = true ∧ (PyData.tuple (ns.map PyData.str)).hasDict = false ∧ (PyData.tuple (ns.map PyData.str)).depth ≤ 64 ∧ (PyData.tuple (ns.map PyData.str)).shown.length ≤ sizeLine := by
  obtain ⟨c1, c2⟩ := tame_seq (tame_strs fun z hz => name_ok (hb z hz))
  refine ⟨.tup hp (dp_strs ns), ?_, PyData.hasDict_of_canLay _ (by simp only [PyData.canLay0, c1]), by simp only [PyData.depth]; omega, PyData.shown_fits (B := 8) (by decide) (by decide) ?_ ?_⟩
  · simp only [PyData.showable]
    exact showable_strs ns
  · rw [PyData.leavesShort]
    exact leaves_strs fun z hz => name_chars (hb z hz)
  · rw [PyData.weight]
    have q := weight_strs (ns := ns) (n := 12) fun z hz => (name_len (hb z hz)).2
    have : ns.length * (12 + 1) ≤ 6 * 13 := Nat.mul_le_mul hl (Nat.le_refl _)
    omega
/-- .. by a text that is not looked into -/
theorem rp_namesA : ∃ S : List Str → Str, ∀ {K : PySem.W.Frag} {H : Hp} {p : Addr} {ns : List Str}, SqT K H p (ns.map V.str) → (∀ z ∈ ns, nameD (.str z) = true) → ns.length ≤ 6 →
    ∃ d : PyData, Dp K H (.ref p) d ∧ d.showable = true ∧ d.hasDict = false ∧ d.depth ≤ 64 ∧ d.shown.length ≤ sizeLine ∧ d.shown = S ns :=
  ⟨fun ns => (PyData.tuple (ns.map PyData.str)).shown, fun hp hb hl => by
    obtain ⟨y1, y2, y3, y4, y5⟩ := rp_names hp hb hl
    exact ⟨_, y1, y2, y3, y4, y5, rfl⟩⟩
/-- a text's repr, by a text that is not looked into -/
theorem rp_textA : ∃ S : Str → Str, ∀ {K : PySem.W.Frag} {H : Hp} {z : Str}, (∀ c ∈ TL.tl z, c < 1114112) → z.length ≤ 100000 →
    ∃ d : PyData, Dp K H (.str z) d ∧ d.showable = true ∧ d.hasDict = false ∧ d.depth ≤ 64 ∧ d.shown.length ≤ sizeLine ∧ d.shown = S z :=
  ⟨fun z => (PyData.str z).shown, fun {K H z} hc hl => by
    refine ⟨.str z, .str z, by simp [PyData.showable], by simp [PyData.hasDict], by simp [PyData.depth], PyData.shown_fits (B := 8) (by decide) (by decide) ?_ ?_, rfl⟩
    · rw [PyData.leavesShort, List.all_eq_true]
      exact fun c h => decide_eq_true (Nat.lt_of_lt_of_le (hc c h) (by decide))
    · rw [PyData.weight]
      have : z.cps.size = z.length := rfl
      omega⟩
end MT
/-! {tuple: value} -/
namespace MT
open PySem L2
section
variable {X : Cx} {pos : Pos}
theorem one_pair {K : Type} [DecidableEq K] (k : K) (a : Addr) (v : Value) : storedAllH ([] : List (K × Addr × Value)) [(k, a, v)] = [(k, a, v)] := rfl
/-- {k: v}, k a tuple of numbers and texts -/
theorem pe_disp1T {k v : Expr} {tk tv : TE} (hu : X.A.units + 1 < cLine) (hk : PE X k tk) (hv : PE X v tv) : PE X (.Dict [some k] [v] pos) (fun σ H Q => ∀ p H0, New H H0 p (.dT []) → tk σ H0 fun x H1 => tv σ H1 fun y H2 =>
    H2 p = some (.dT []) ∧ ∃ (ks : List Key) (b : Addr), x = .ref b ∧ H2 b = some (.tup (ks.map kV)) ∧ ∀ H3, (∀ c, c ≠ p → H3 c = H2 c) → H3 p = some (.dT [(ks, y)]) → Q (.ref p) H3) := by
  refine ⟨fun pins s σ H Q I told => ?_⟩
  obtain ⟨d, ed⟩ : ∃ d, d = s.heap.objs.size := ⟨_, rfl⟩
  have hn : H s.heap.objs.size = none := I.hok.fresh (Nat.le_refl _)
  have I1 := I.laid (a := s.heap.objs.size) (o := .dT []) (h' := s.heap.push { cls := .type "dict", data := .dict #[] }) (t' := s.toks) (fun _ _ q => Heap.get?_push_of_some _ q) (Nat.le_refl _) (dt_empty s.heap I.big)
  have run := (pps_cons (PE.cl hk) (PE.cl hv) (pps_nil (pos := pos))).run pins _ σ _ (fun ps H2 => ∃ x y, ps = [(x, y)] ∧ H2 s.heap.objs.size = some (.dT []) ∧ ∃ (ks : List Key) (b : Addr), x = .ref b ∧ H2 b = some (.tup (ks.map kV)) ∧ ∀ H3, (∀ c, c ≠ s.heap.objs.size → H3 c = H2 c) → H3 s.heap.objs.size = some (.dT [(ks, y)]) → Q (.ref s.heap.objs.size) H3) I1
    ⟨_, fun x H1 q1 => ⟨_, fun y H2 q2 => ⟨x, y, rfl, q2⟩, q1⟩, told _ _ (New.mk' hn)⟩
  have shape := zip_pairTrees [some k] [v] X.env pos rfl rfl
  rw [arm_eval_Dict, shape, dictDisplay_pairs (pairTrees [some k] [v] X.env pos) (by intro e; have := congrArg List.length e; rw [pairTrees_length _ _ _ _ rfl rfl] at this; cases this) (by rw [pairTrees_length _ _ _ _ rfl rfl]; show 1 < 17; decide)]
  refine wpAny_bind (wpAny_standAt (wpAny_bind (wpAny_subDictH (knd := tupleKind (mixKind X.prog X.w)) (Q := fun d s' => wpAny (model X.prog X.w) X.A (pure (Value.ref d)) (EP X pins σ Q) X.xe s') (by show X.A.units < cLine; omega) (by rw [pairTrees_length _ _ _ _ rfl rfl]; show 1 ≤ 15; decide)
    (wpAny_mono run (fun ws s2 got => ?_) fun _ _ e => e))))
  obtain ⟨ps, H2, I2, rel, x, y, rfl, e, ks, b, rfl, hb, q⟩ := got
  cases rel with
  | @cons _ w _ ws r t =>
    cases t
    obtain ⟨w1, w2⟩ := w
    obtain ⟨r1, r2⟩ := r
    cases (show w1 = Value.ref b from r1)
    obtain ⟨z, sm, xs, kt, dd⟩ := dt_of I2.hok e
    cases kt
    refine ⟨[(ks, b, w2)], ⟨rfl, rfl, key_of I2.hok hb, True.intro⟩, dd, fun h' tk dd' hs => wpAny_pure ?_⟩
    rw [one_pair] at dd'
    have nb : b ≠ s.heap.objs.size := fun z => by rw [z, e] at hb; cases hb
    obtain ⟨o, es, ep, w3, w4, w5, w6, _, w7⟩ := dd'
    refine ⟨.ref s.heap.objs.size, upd H2 s.heap.objs.size (.dT [(ks, y)]), d_write I2 (by rw [e]; exact True.intro) hs ⟨o, w3⟩ ⟨by rw [sizeLine_eq]; show 1 ≤ _; decide, sm, [(ks, b, w2)], .cons ⟨rfl, by rw [upd_ne nb]; exact hb, r2⟩ .nil, o, es, ep, w3, w4, w5, w6, w7⟩, rfl, q _ (fun c hc => upd_ne hc) upd_same⟩
end
end MT
/-! values of paths, told as data; an item of a list or tuple; tuples made new -/
namespace MT
open PySem L2
theorem ix_sq {X : Cx} : IxR X (fun x y H Q => ∃ a xs i v, x = .ref a ∧ y = .int i ∧ (SqL X.K H a xs ∨ SqT X.K H a xs) ∧ atI xs i = some v ∧ Q v H) := by
  intro va sc pins s σ H x y v u Q I rx ry h e
  obtain ⟨a, xs, i, w, ex, ey, sq, at_, q⟩ := h
  rcases sq with sq | sq
  · exact ix_list va sc pins s σ H x y v u Q I rx ry ⟨a, xs, i, w, ex, ey, sq, at_, q⟩ e
  · exact ix_tup va sc pins s σ H x y v u Q I rx ry ⟨a, xs, i, w, ex, ey, sq, at_, q⟩ e
/-- a tuple's slice: it, or a new one -/
theorem sl_tupN {X : Cx} : SlR X (fun x lo hi H Q => ∃ a xs, x = .ref a ∧ SqT X.K H a xs ∧ (cutV xs lo hi = xs → Q (.ref a) H) ∧ ∀ p H2, New H H2 p (.tup (cutV xs lo hi)) → Q (.ref p) H2) := by
  intro pins s σ H x v vl vu lo hi sl Q I rx hs pl pu h
  obtain ⟨a, xs, ex, hx, q1, q2⟩ := h
  refine sl_tupA pins s σ H x v vl vu lo hi sl Q I rx hs pl pu ⟨a, xs, ex, hx, fun w => q1 ?_, fun _ p hp => q2 p _ (New.mk' hp)⟩
  unfold cutV
  rw [w.1, w.2, List.drop_zero, Nat.sub_zero, List.take_length]
theorem op_catAN {X : Cx} : OpR X (binaryOp .Add) (fun x y H Q => ∃ a b xs ys, x = .ref a ∧ y = .ref b ∧ SqT X.K H a xs ∧ SqT X.K H b ys ∧ xs.length + ys.length ≤ sizeLine ∧ (xs = [] → Q (.ref b) H) ∧ (xs ≠ [] → ys = [] → Q (.ref a) H) ∧ ∀ p H2, New H H2 p (.tup (xs ++ ys)) → Q (.ref p) H2) := by
  intro pins s σ H x y v u Q I rx ry h
  obtain ⟨a, b, xs, ys, ex, ey, ha, hb, hz, q1, q2, q3⟩ := h
  exact op_catA pins s σ H x y v u Q I rx ry ⟨a, b, xs, ys, ex, ey, ha, hb, hz, q1, q2, fun _ _ p hp => q3 p _ (New.mk' hp)⟩
/-! ### texts and values -/
def textSign (c : Nat) : Bool := decide (32 ≤ c) && decide (c ≤ 126) && !decide (c = 37)
def textSigns : Str := " !\"#$&'()*+,-./0123456789:;<=>?@ABCDEFGHIJKLMNOPQRSTUVWXYZ[\\]^_`abcdefghijklmnopqrstuvwxyz{|}~"
theorem text_in (c : Nat) : decide (c ∈ textSigns.cps.toList) = textSign c := by
  by_cases h : c < 127
  · have key : ∀ c < 127, decide (c ∈ textSigns.cps.toList) = textSign c := by decide +kernel
    exact key c h
  · have all : textSigns.cps.toList.all (fun c => decide (c < 127)) = true := by decide +kernel
    have no : ¬ c ∈ textSigns.cps.toList := fun m => h (of_decide_eq_true (List.all_eq_true.mp all c m))
    have e2 : textSign c = false := by
      unfold textSign
      rw [decide_eq_false (show ¬ c ≤ 126 by omega), Bool.and_false, Bool.false_and]
    rw [decide_eq_false no, e2]
def textD : PyData → Bool
  | .str x => decide (x.length ≤ 60) && (TL.tl x).all textSign
  | _ => false
def valueL : List PyData → Bool
  | [.str x] => decide (x = "none") || decide (x = "folder")
  | [.str x, e] => decide (x = "file") && textD e
  | _ => false
def valueD (d : PyData) : Bool := match seqD d with
  | some ds => valueL ds
  | none => false
theorem value_none {d : PyData} (h : seqD d = none) : valueD d = false := by unfold valueD; rw [h]
theorem value_some {d : PyData} {ds : List PyData} (h : seqD d = some ds) : valueD d = valueL ds := by unfold valueD; rw [h]
theorem valueL_len {ds : List PyData} (h : ¬ (1 ≤ ds.length ∧ ds.length ≤ 2)) : valueL ds = false := by
  match ds, h with
  | [], _ => rfl
  | [x], h => exact absurd ⟨by simp, by simp⟩ h
  | [x, y], h => exact absurd ⟨by simp, by simp⟩ h
  | x :: y :: z :: r, _ => cases x <;> rfl
theorem valueL_head {d : PyData} {r : List PyData} (h : isStrD d = false) : valueL (d :: r) = false := by
  cases d with
  | str x => cases h
  | _ => rfl
def pathD (d : PyData) : Bool := spotD d && match seqD d with
  | some ds => decide (0 < ds.length)
  | none => false
theorem path_some {d : PyData} {ds : List PyData} (h : seqD d = some ds) : pathD d = (spotD d && decide (0 < ds.length)) := by unfold pathD; rw [h]
/-- what a value is, told by its texts -/
def okV (vs : List Str) : Prop := vs = [("none" : Str)] ∨ vs = [("folder" : Str)] ∨ ∃ t : Str, vs = [("file" : Str), t] ∧ textD (.str t) = true
theorem value_of {d : PyData} (h : valueD d = true) : ∃ vs : List Str, seqD d = some (vs.map PyData.str) ∧ okV vs := by
  cases e : seqD d with
  | none => rw [value_none e] at h; cases h
  | some ds =>
    rw [value_some e] at h
    match ds, h with
    | [.str x], h =>
      have h : (decide (x = "none") || decide (x = "folder")) = true := h
      rw [Bool.or_eq_true, decide_eq_true_iff, decide_eq_true_iff] at h
      rcases h with rfl | rfl
      · exact ⟨[("none" : Str)], rfl, .inl rfl⟩
      · exact ⟨[("folder" : Str)], rfl, .inr (.inl rfl)⟩
    | [.str x, d], h =>
      have h : (decide (x = "file") && textD d) = true := h
      rw [Bool.and_eq_true, decide_eq_true_iff] at h
      obtain ⟨rfl, h2⟩ := h
      cases d with
      | str t => exact ⟨[("file" : Str), t], rfl, .inr (.inr ⟨t, rfl, h2⟩)⟩
      | _ => cases h2
theorem text_len {t : Str} (h : textD (.str t) = true) : t.length ≤ 60 ∧ ∀ c ∈ TL.tl t, c < 127 := by
  have h : (decide (t.length ≤ 60) && (TL.tl t).all textSign) = true := h
  rw [Bool.and_eq_true, decide_eq_true_iff, List.all_eq_true] at h
  refine ⟨h.1, fun c hc => ?_⟩
  have q := h.2 c hc
  unfold textSign at q
  simp only [Bool.and_eq_true, decide_eq_true_eq] at q
  omega
theorem okV_ok {vs : List Str} (h : okV vs) : ∀ z ∈ vs, PyData.strOk z = true ∧ z.length ≤ 60 := by
  rcases h with rfl | rfl | ⟨t, rfl, ht⟩
  · intro z hz; rw [List.mem_singleton.mp hz]; exact ⟨by decide +kernel, by decide +kernel⟩
  · intro z hz; rw [List.mem_singleton.mp hz]; exact ⟨by decide +kernel, by decide +kernel⟩
  · intro z hz
    rcases List.mem_cons.mp hz with e | e
    · rw [e]; exact ⟨by decide +kernel, by decide +kernel⟩
    · rw [List.mem_singleton.mp e]
      exact ⟨strOk_of fun c hc => Nat.lt_trans ((text_len ht).2 c hc) (by decide), (text_len ht).1⟩
end MT
/-! questions told over data: no heap in them -/
namespace MT
open PySem L2
theorem Fx.mono {M N : Addr → Prop} {H H' : Hp} (a : Fx M H H') (h : ∀ c, M c → N c) : Fx N H H' := fun c o n e t => a c o (fun m => n (h c m)) e t
/-- a list that stands outside M, or in no heap at all -/
def LsW (M : Addr → Prop) (H : Hp) (p : Addr) (xs : List V) : Prop := ¬ M p ∧ H p = some (.lst xs)
/-- what a module may hold -/
def CoT (xs : List V) : Prop := xs = [] ∨ xs = [.str "none"] ∨ xs = [.str "folder"]
def TpW (K : PySem.W.Frag) (M : Addr → Prop) (H : Hp) (p : Addr) (xs : List V) : Prop := (¬ M p ∧ H p = some (.tup xs)) ∨ (CoT xs ∧ ∀ G, SqT K G p xs)
theorem LsW.at {K : PySem.W.Frag} {M : Addr → Prop} {H : Hp} {p : Addr} {xs : List V} (h : LsW M H p xs) : SqL K H p xs := SqL.of h.2
theorem TpW.at {K : PySem.W.Frag} {M : Addr → Prop} {H : Hp} {p : Addr} {xs : List V} (h : TpW K M H p xs) : SqT K H p xs := h.elim (fun q => SqT.of q.2) (fun q => q.2 H)
theorem LsW.frm {M : Addr → Prop} {H H' : Hp} {p : Addr} {xs : List V} (h : LsW M H p xs) (F : Fx M H H') : LsW M H' p xs := ⟨h.1, F _ _ h.1 h.2 fun _ z => by cases z⟩
theorem TpW.frm {K : PySem.W.Frag} {M : Addr → Prop} {H H' : Hp} {p : Addr} {xs : List V} (h : TpW K M H p xs) (F : Fx M H H') : TpW K M H' p xs := h.imp (fun q => ⟨q.1, F _ _ q.1 q.2 fun _ z => by cases z⟩) id
theorem LsW.more {M N : Addr → Prop} {H : Hp} {p : Addr} {xs : List V} (h : LsW M H p xs) (i : ∀ c o, N c → H c = some o → M c) : LsW N H p xs := ⟨fun m => h.1 (i _ _ m h.2), h.2⟩
theorem TpW.more {K : PySem.W.Frag} {M N : Addr → Prop} {H : Hp} {p : Addr} {xs : List V} (h : TpW K M H p xs) (i : ∀ c o, N c → H c = some o → M c) : TpW K N H p xs := h.imp (fun q => ⟨fun m => q.1 (i _ _ m q.2), q.2⟩) id
/-- a dict's parts: none, truths, integers, texts -/
def AtW : V → PyData → Prop
  | .non, .none => True
  | .bl b, .bool c => b = c
  | .int i, .int j => i = j
  | .str x, .str y => x = y
  | _, _ => False
def KyW : Key → PyData → Prop
  | .inl i, .int j => i = j
  | .inr x, .str y => x = y
  | _, _ => False
def CtW : List (Key × V) → List (PyData × PyData) → Prop
  | [], [] => True
  | (k, v) :: r, (d, e) :: s => KyW k d ∧ AtW v e ∧ CtW r s
  | _, _ => False
/-- a dict of which nothing is told -/
def dimD : PyData := .dict [(.list [], .none)]
/-- a dict's key that is a tuple -/
def KtW : List Key → PyData → Prop
  | ks, .tuple ds => KtL ks ds
  | _, _ => False
where KtL : List Key → List PyData → Prop
  | [], [] => True
  | k :: ks, d :: ds => KyW k d ∧ KtL ks ds
  | _, _ => False
/-- an own class whose instances stand as data -/
structure OCls (K : PySem.W.Frag) (C : Addr) : Prop where
  cls : Cls K C
  cc : PySem.W.findIn K (.ref C) "__class__" = some (some (.builtin "object.__class__"))
  gt : PySem.W.specialIn K (.builtin "object.__class__") "__get__" = some (some (.builtin "getset_descriptor.__get__"))
  tk : PySem.W.takesIn K (.builtin "object.__class__") = some true
  ob : PySem.W.mroIn K C (.type "object") = some true
  no : ∀ T ∈ ["int", "bool", "str", "list", "tuple"], PySem.W.kitOne K (.ref C) (.type T) = some false
/-- an instance of the class at C -/
def objD (C : Addr) (ks : List (PyData × PyData)) : PyData := .dict ((.list [.int (C : Nat)], .none) :: ks)
/-- an error's class whose instances stand as data -/
structure ECls (K : PySem.W.Frag) (C : Addr) : Prop where
  ex : ExcC K C
  xf : XfC K C
  no : ∀ T ∈ ["int", "bool", "str", "list", "tuple"], PySem.W.kitOne K (.ref C) (.type T) = some false
/-- an error of the class at C -/
def excD (C : Addr) (ks : List (PyData × PyData)) : PyData := .dict ((.list [.int (C : Nat), .none], .none) :: ks)
/-- what isinstance asks: errors that are kept too -/
inductive TyY (K : PySem.W.Frag) (H : Hp) : V → Value → Prop
  | x {v : V} {t : Value} : TyX K H v t → TyY K H v t
  | e {a D : Addr} {d : Option Addr} : H a = some (keptO a (.ref D) d) → (∀ dd, d = some dd → ∃ fs, H dd = some (.xd fs)) → ExcC K D → TyY K H (.ref a) (.ref D)
theorem kept_ne {a C : Addr} {d : Option Addr} : ∀ ps, keptO a (.ref C) d ≠ HO.tbl ps := fun ps z => by
  have z' : HO.ext _ = HO.tbl ps := z
  cases z'
section
variable {X : Cx} {pins : List (Addr × Obj)} {sl : L2.St} {H : Hp} {st : Shared}
theorem kitY_of {x : V} {u t : Value} (I : Inv X pins sl H st) (rx : RelV x u) (ty : TyY X.K H x t) : ∃ P : Heap → Prop, PySem.W.KitX X.K u t P ∧ P st.heap ∧ u ≠ .builtin "__main__.__loader__#opaque" := by
  cases ty with
  | x h => exact kit_of I rx h
  | @e a D d k hd C =>
    cases (show u = Value.ref a from rx)
    cases d with
    | some dd =>
      obtain ⟨fs, h⟩ := hd dd rfl
      obtain ⟨P, Z, p⟩ := kept_kit I k C h
      exact ⟨P, Z, p, fun z => nomatch z⟩
    | none =>
      obtain ⟨o, vs, ga, z, f⟩ := keptO_at I.hok k
      have J : PySem.W.InstAt st.heap a o D none := ⟨ga, z.1, by unfold PySem.W.notCls; rw [f] <;> rfl, by rw [z.2]; trivial⟩
      refine ⟨_, PySem.W.kitx_exc ?_ C.hg C.hk C.hs C.ha C.hn C.ht C.hm, J, fun z => nomatch z⟩
      obtain ⟨cd, w, _⟩ := PySem.W.any_some C.hd
      rw [w]
      rfl
end
/-- isinstance(x, c), one class -/
def rIsiY (K : PySem.W.Frag) : List V → Hp → VK → Prop := fun xs H Q => ∃ (x c : V) (t u : Value) (b : Bool), xs = [x, c] ∧ ClsV c u ∧ TyY K H x t ∧ PySem.W.kitOne K t u = some b ∧ Q (.bl b) H
/-- isinstance(x, (c1, c2, ..)) -/
def rIsiTY (K : PySem.W.Frag) : List V → Hp → VK → Prop := fun xs H Q => ∃ (x : V) (tp : Addr) (cs : List V) (t : Value) (us : List Value) (b : Bool), xs = [x, .ref tp] ∧ H tp = some (.tup cs) ∧ Paired ClsV cs us ∧ TyY K H x t ∧ PySem.W.kitAny K t us = some b ∧ Q (.bl b) H
section
variable {X : Cx}
theorem call_isiY : CallR X (.builtin "isinstance") (rIsiY X.K) := by
  intro pins s σ H xs us Q I r h
  obtain ⟨x, c, t, u, b, rfl, k, ty, e, q⟩ := h
  obtain ⟨u1, u2, rfl, r1, r2⟩ := Vals.two r
  have e2 := k.eq r2
  subst e2
  obtain ⟨P, Z, p, hx⟩ := kitY_of I r1 ty
  exact PySem.W.kia_one Z I.kIn p e hx fun tk => ⟨.bl b, H, I.tok tk, rfl, q⟩
theorem call_isiTY : CallR X (.builtin "isinstance") (rIsiTY X.K) := by
  intro pins s σ H xs us Q I r h
  obtain ⟨x, tp, cs, t, ws, b, rfl, hT, k, ty, e, q⟩ := h
  obtain ⟨u1, u2, rfl, r1, r2⟩ := Vals.two r
  cases (show u2 = Value.ref tp from r2)
  obtain ⟨P, Z, p, hx⟩ := kitY_of I r1 ty
  obtain ⟨_, its, rv, o, h1, h2, n, h3⟩ := (show ObjOk X.prog X.w H s.heap tp (.tup cs) from I.hok tp _ hT)
  have e3 := ClsV.all k rv
  subst e3
  obtain ⟨oc, od, dt, sl⟩ := o
  simp only at h2 h3
  subst h2 h3
  exact PySem.W.kia_tup Z I.kIn p h1 e hx fun tk => ⟨.bl b, H, I.tok tk, rfl, q⟩
end
mutual
/-- the value v is the data d -/
inductive Dw (K : PySem.W.Frag) (M : Addr → Prop) (H : Hp) : V → PyData → Prop
  | non : Dw K M H .non .none
  | bl (b : Bool) : Dw K M H (.bl b) (.bool b)
  | int (i : Int) : Dw K M H (.int i) (.int i)
  | str (x : Str) : Dw K M H (.str x) (.str x)
  | lst {p : Addr} {xs : List V} {ds : List PyData} : LsW M H p xs → DwAll K M H xs ds → Dw K M H (.ref p) (.list ds)
  | tup {p : Addr} {xs : List V} {ds : List PyData} : TpW K M H p xs → DwAll K M H xs ds → Dw K M H (.ref p) (.tuple ds)
  | dct {p : Addr} {kvs : List (Key × V)} {ks : List (PyData × PyData)} : ¬ M p → H p = some (.dK kvs) → CtW kvs ks → Dw K M H (.ref p) (.dict ks)
  | dkT {p : Addr} {kvs : List (Key × V)} : ¬ M p → H p = some (.dK kvs) → Dw K M H (.ref p) (.dict [(.list [], .none)])
  | dcT {p : Addr} {kvs : List (List Key × V)} : ¬ M p → H p = some (.dT kvs) → Dw K M H (.ref p) (.dict [(.list [], .none)])
  | dk {p : Addr} {kvs : List (Key × V)} {ks : List (PyData × PyData)} : ¬ M p → H p = some (.dK kvs) → DwKs K M H kvs ks → Dw K M H (.ref p) (.dict ks)
  | dt {p : Addr} {kvs : List (List Key × V)} {ks : List (PyData × PyData)} : ¬ M p → H p = some (.dT kvs) → DwKt K M H kvs ks → Dw K M H (.ref p) (.dict ks)
  | exn {p C dd : Addr} {fv : List (Str × V)} {ks : List (PyData × PyData)} : ¬ M p → H p = some (keptO p (.ref C) (some dd)) → ¬ M dd → H dd = some (.xd fv) → ECls K C → DwFs K M H fv ks → Dw K M H (.ref p) (.dict ((.list [.int (C : Nat), .none], .none) :: ks))
  | exn0 {p C : Addr} : ¬ M p → H p = some (keptO p (.ref C) none) → ECls K C → Dw K M H (.ref p) (.dict [(.list [.int (C : Nat), .none], .none)])
  | obj {p C dx : Addr} {fv : List (Str × V)} {ks : List (PyData × PyData)} : ¬ M p → H p = some (.ins C dx fv) → OCls K C → DwFs K M H fv ks → Dw K M H (.ref p) (.dict ((.list [.int (C : Nat)], .none) :: ks))
inductive DwAll (K : PySem.W.Frag) (M : Addr → Prop) (H : Hp) : List V → List PyData → Prop
  | nil : DwAll K M H [] []
  | cons {v : V} {vs : List V} {d : PyData} {ds : List PyData} : Dw K M H v d → DwAll K M H vs ds → DwAll K M H (v :: vs) (d :: ds)
inductive DwKs (K : PySem.W.Frag) (M : Addr → Prop) (H : Hp) : List (Key × V) → List (PyData × PyData) → Prop
  | nil : DwKs K M H [] []
  | cons {k : Key} {v : V} {r : List (Key × V)} {d e : PyData} {s : List (PyData × PyData)} : KyW k d → Dw K M H v e → DwKs K M H r s → DwKs K M H ((k, v) :: r) ((d, e) :: s)
inductive DwKt (K : PySem.W.Frag) (M : Addr → Prop) (H : Hp) : List (List Key × V) → List (PyData × PyData) → Prop
  | nil : DwKt K M H [] []
  | cons {k : List Key} {v : V} {r : List (List Key × V)} {d e : PyData} {s : List (PyData × PyData)} : KtW k d → Dw K M H v e → DwKt K M H r s → DwKt K M H ((k, v) :: r) ((d, e) :: s)
inductive DwFs (K : PySem.W.Frag) (M : Addr → Prop) (H : Hp) : List (Str × V) → List (PyData × PyData) → Prop
  | nil : DwFs K M H [] []
  | cons {k : Str} {v : V} {r : List (Str × V)} {e : PyData} {s : List (PyData × PyData)} : Dw K M H v e → DwFs K M H r s → DwFs K M H ((k, v) :: r) ((.str k, e) :: s)
end
section
variable {K : PySem.W.Frag} {M N : Addr → Prop} {H H' : Hp}
/-- what stands in the one heap stands in the other -/
structure Bth (K : PySem.W.Frag) (M N : Addr → Prop) (H H' : Hp) : Prop where
  l : ∀ {p xs}, LsW M H p xs → LsW N H' p xs
  t : ∀ {p xs}, TpW K M H p xs → TpW K N H' p xs
  o : ∀ {p : Addr} {u : HO}, ¬ M p → H p = some u → (∀ ps, u ≠ .tbl ps) → ¬ N p ∧ H' p = some u
mutual
theorem Dw.bthR (B : Bth K M N H H') : ∀ (d : PyData) (v : V), Dw K M H v d → Dw K N H' v d
  | .none, _, h => by cases h; exact .non
  | .bool b, _, h => by cases h; exact .bl b
  | .int i, _, h => by cases h; exact .int i
  | .str x, _, h => by cases h; exact .str x
  | .list ds, _, h => by
    cases h with
    | lst n a => exact .lst (B.l n) (DwAll.bthR B ds _ a)
  | .tuple ds, _, h => by
    cases h with
    | tup n a => exact .tup (B.t n) (DwAll.bthR B ds _ a)
  | .dict ks, _, h => by
    cases h with
    | dct n s c => exact .dct (B.o n s fun _ z => by cases z).1 (B.o n s fun _ z => by cases z).2 c
    | dkT n s => exact .dkT (B.o n s fun _ z => by cases z).1 (B.o n s fun _ z => by cases z).2
    | dcT n s => exact .dcT (B.o n s fun _ z => by cases z).1 (B.o n s fun _ z => by cases z).2
    | dk n s a => exact .dk (B.o n s fun _ z => by cases z).1 (B.o n s fun _ z => by cases z).2 (DwKs.bthR B ks _ a)
    | dt n s a => exact .dt (B.o n s fun _ z => by cases z).1 (B.o n s fun _ z => by cases z).2 (DwKt.bthR B ks _ a)
    | @exn _ _ _ _ ks n s n2 s2 c a => exact .exn (B.o n s kept_ne).1 (B.o n s kept_ne).2 (B.o n2 s2 fun _ z => by cases z).1 (B.o n2 s2 fun _ z => by cases z).2 c (DwFs.bthR B ks _ a)
    | exn0 n s c => exact .exn0 (B.o n s kept_ne).1 (B.o n s kept_ne).2 c
    | @obj _ _ _ _ ks n s c a => exact .obj (B.o n s fun _ z => by cases z).1 (B.o n s fun _ z => by cases z).2 c (DwFs.bthR B ks _ a)
theorem DwAll.bthR (B : Bth K M N H H') : ∀ (ds : List PyData) (vs : List V), DwAll K M H vs ds → DwAll K N H' vs ds
  | [], _, h => by cases h; exact .nil
  | d :: ds, _, h => by
    cases h with
    | cons a b => exact .cons (Dw.bthR B d _ a) (DwAll.bthR B ds _ b)
theorem DwKs.bthR (B : Bth K M N H H') : ∀ (ds : List (PyData × PyData)) (vs : List (Key × V)), DwKs K M H vs ds → DwKs K N H' vs ds
  | [], _, h => by cases h; exact .nil
  | (_, e) :: ds, _, h => by
    cases h with
    | cons k a b => exact .cons k (Dw.bthR B e _ a) (DwKs.bthR B ds _ b)
theorem DwKt.bthR (B : Bth K M N H H') : ∀ (ds : List (PyData × PyData)) (vs : List (List Key × V)), DwKt K M H vs ds → DwKt K N H' vs ds
  | [], _, h => by cases h; exact .nil
  | (_, e) :: ds, _, h => by
    cases h with
    | cons k a b => exact .cons k (Dw.bthR B e _ a) (DwKt.bthR B ds _ b)
theorem DwFs.bthR (B : Bth K M N H H') : ∀ (ds : List (PyData × PyData)) (vs : List (Str × V)), DwFs K M H vs ds → DwFs K N H' vs ds
  | [], _, h => by cases h; exact .nil
  | (_, e) :: ds, _, h => by
    cases h with
    | cons a b => exact .cons (Dw.bthR B e _ a) (DwFs.bthR B ds _ b)
end
theorem Bth.frm (F : Fx M H H') : Bth K M M H H' := ⟨fun h => h.frm F, fun h => h.frm F, fun n e t => ⟨n, F _ _ n e t⟩⟩
theorem Bth.more (i : ∀ c o, N c → H c = some o → M c) : Bth K M N H H := ⟨fun h => h.more i, fun h => h.more i, fun n e _ => ⟨fun m => n (i _ _ m e), e⟩⟩
theorem Dw.frm {v : V} {d : PyData} (h : Dw K M H v d) (F : Fx M H H') : Dw K M H' v d := Dw.bthR (Bth.frm F) d v h
theorem DwAll.frm {vs : List V} {ds : List PyData} (h : DwAll K M H vs ds) (F : Fx M H H') : DwAll K M H' vs ds := DwAll.bthR (Bth.frm F) ds vs h
theorem Dw.same {v : V} {d : PyData} (h : Dw K M H v d) (F : Same H H') : Dw K M H' v d := h.frm (fx_same F)
theorem DwAll.same {vs : List V} {ds : List PyData} (h : DwAll K M H vs ds) (F : Same H H') : DwAll K M H' vs ds := h.frm (fx_same F)
theorem Dw.more {v : V} {d : PyData} (h : Dw K M H v d) (i : ∀ c o, N c → H c = some o → M c) : Dw K N H v d := Dw.bthR (Bth.more i) d v h
theorem DwAll.more {vs : List V} {ds : List PyData} (h : DwAll K M H vs ds) (i : ∀ c o, N c → H c = some o → M c) : DwAll K N H vs ds := DwAll.bthR (Bth.more i) ds vs h
mutual
theorem Dw.dpR : ∀ (d : PyData) (v : V), Dw K M H v d → d.canLay0 = true → Dp K H v d
  | .none, _, h, _ => by cases h; exact .non
  | .bool b, _, h, _ => by cases h; exact .bl b
  | .int i, _, h, _ => by cases h; exact .int i
  | .str x, _, h, _ => by cases h; exact .str x
  | .list ds, _, h, c => by
    cases h with
    | lst n a => exact .lst n.at (DwAll.dpR ds _ a (by simpa [PyData.canLay0] using c))
  | .tuple ds, _, h, c => by
    cases h with
    | tup n a => exact .tup n.at (DwAll.dpR ds _ a (by simpa [PyData.canLay0] using c))
  | .dict _, _, h, c => by simp [PyData.canLay0] at c
theorem DwAll.dpR : ∀ (ds : List PyData) (vs : List V), DwAll K M H vs ds → PyData.canLayAll0 ds = true → DpAll K H vs ds
  | [], _, h, _ => by cases h; exact .nil
  | d :: ds, _, h, c => by
    have c' : d.canLay0 = true ∧ PyData.canLayAll0 ds = true := by simpa [PyData.canLayAll0] using c
    cases h with
    | cons a b => exact .cons (Dw.dpR d _ a c'.1) (DwAll.dpR ds _ b c'.2)
end
theorem Dw.dp {v : V} {d : PyData} (h : Dw K M H v d) (c : d.canLay0 = true) : Dp K H v d := Dw.dpR d v h c
/-- what isinstance asks -/
theorem Dw.isi {v : V} {d : PyData} {T : String} {p : PyData → Bool} (w : Dw K M H v d) (hT : T ∈ ["int", "bool", "str", "list", "tuple"]) (hp : ∀ d : PyData, PySem.W.kitOne K (.type (tyName d)) (.type T) = some (p d)) (hd : ∀ ks, p (.dict ks) = false) :
    ∃ t, TyY K H v t ∧ PySem.W.kitOne K t (.type T) = some (p d) := by
  cases w with
  | non => exact ⟨_, .x <| .base .non, hp .none⟩
  | bl b => exact ⟨_, .x <| .base (.bl b), hp (.bool b)⟩
  | int i => exact ⟨_, .x <| .base (.int i), hp (.int i)⟩
  | str x => exact ⟨_, .x <| .base (.str x), hp (.str x)⟩
  | lst s _ => exact ⟨_, .x <| tyx_lst s.at, hp (.list _)⟩
  | tup s _ => exact ⟨_, .x <| tyx_tup s.at, hp (.tuple _)⟩
  | dct _ s _ => exact ⟨_, .x <| .base (.dK s), hp (.dict _)⟩
  | dkT _ s => exact ⟨_, .x <| .base (.dK s), hp (.dict _)⟩
  | dcT _ s => exact ⟨_, .x <| .base (.dT s), hp (.dict _)⟩
  | dk _ s _ => exact ⟨_, .x <| .base (.dK s), hp (.dict _)⟩
  | dt _ s _ => exact ⟨_, .x <| .base (.dT s), hp (.dict _)⟩
  | obj _ s c _ => exact ⟨_, .x <| .base (.ins s c.cls c.cc c.gt c.tk c.ob), by rw [hd]; exact c.no T hT⟩
  | exn _ s _ s2 c _ => exact ⟨_, .e s (fun dd e => by cases e; exact ⟨_, s2⟩) c.ex, by rw [hd]; exact c.no T hT⟩
  | exn0 _ s c => exact ⟨_, .e s (fun dd e => by cases e) c.ex, by rw [hd]; exact c.no T hT⟩
theorem Dw.isSeq {v : V} {d : PyData} (w : Dw K M H v d) : ∃ t, TyY K H v t ∧ PySem.W.kitAny K t [.type "list", .type "tuple"] = some (seqD d).isSome := by
  have k := kit_seq (K := K) d
  cases w with
  | non => exact ⟨_, .x <| .base .non, k⟩
  | bl b => exact ⟨_, .x <| .base (.bl b), k⟩
  | int i => exact ⟨_, .x <| .base (.int i), k⟩
  | str x => exact ⟨_, .x <| .base (.str x), k⟩
  | lst s _ => exact ⟨_, .x <| tyx_lst s.at, k⟩
  | tup s _ => exact ⟨_, .x <| tyx_tup s.at, k⟩
  | dct _ s _ => exact ⟨_, .x <| .base (.dK s), k⟩
  | dkT _ s => exact ⟨_, .x <| .base (.dK s), k⟩
  | dcT _ s => exact ⟨_, .x <| .base (.dT s), k⟩
  | dk _ s _ => exact ⟨_, .x <| .base (.dK s), k⟩
  | dt _ s _ => exact ⟨_, .x <| .base (.dT s), k⟩
  | obj _ s c _ => exact ⟨_, .x <| .base (.ins s c.cls c.cc c.gt c.tk c.ob), kitAny_cons (c.no "list" (by simp)) (fun q => kitAny_cons (c.no "tuple" (by simp)) (fun q2 => kitAny_nil) (fun q2 => absurd q2 (by simp))) (fun q => absurd q (by simp))⟩
  | exn _ s _ s2 c _ => exact ⟨_, .e s (fun dd e => by cases e; exact ⟨_, s2⟩) c.ex, kitAny_cons (c.no "list" (by simp)) (fun q => kitAny_cons (c.no "tuple" (by simp)) (fun q2 => kitAny_nil) (fun q2 => absurd q2 (by simp))) (fun q => absurd q (by simp))⟩
  | exn0 _ s c => exact ⟨_, .e s (fun dd e => by cases e) c.ex, kitAny_cons (c.no "list" (by simp)) (fun q => kitAny_cons (c.no "tuple" (by simp)) (fun q2 => kitAny_nil) (fun q2 => absurd q2 (by simp))) (fun q => absurd q (by simp))⟩
theorem DwAll.length : ∀ {vs : List V} {ds : List PyData}, DwAll K M H vs ds → vs.length = ds.length
  | _, _, .nil => rfl
  | _, _, .cons _ t => congrArg Nat.succ (DwAll.length t)
theorem DwAll.get {vs : List V} {ds : List PyData} {i : Nat} {x : V} (h : DwAll K M H vs ds) (e : vs[i]? = some x) : ∃ d, ds[i]? = some d ∧ Dw K M H x d := by
  induction i generalizing vs ds with
  | zero => cases h with
    | nil => cases e
    | cons r _ => cases e; exact ⟨_, rfl, r⟩
  | succ i ih => cases h with
    | nil => cases e
    | cons _ t => exact ih t e
theorem DwAll.getD {vs : List V} {ds : List PyData} {i : Nat} {d : PyData} (h : DwAll K M H vs ds) (e : ds[i]? = some d) : ∃ x, vs[i]? = some x ∧ Dw K M H x d := by
  induction i generalizing vs ds with
  | zero => cases h with
    | nil => cases e
    | cons r _ => cases e; exact ⟨_, rfl, r⟩
  | succ i ih => cases h with
    | nil => cases e
    | cons _ t => exact ih t e
theorem DwAll.mem {vs : List V} {ds : List PyData} {x : V} (h : DwAll K M H vs ds) (m : x ∈ vs) : ∃ d, d ∈ ds ∧ Dw K M H x d := by
  obtain ⟨i, hi⟩ := List.mem_iff_getElem?.mp m
  obtain ⟨d, e, r⟩ := h.get hi
  exact ⟨d, List.mem_of_getElem? e, r⟩
theorem DwAll.append : ∀ {vs us : List V} {ds es : List PyData}, DwAll K M H vs ds → DwAll K M H us es → DwAll K M H (vs ++ us) (ds ++ es)
  | _, _, _, _, .nil, s => s
  | _, _, _, _, .cons r t, s => .cons r (DwAll.append t s)
theorem DwAll.drop : ∀ {vs : List V} {ds : List PyData} (n : Nat), DwAll K M H vs ds → DwAll K M H (vs.drop n) (ds.drop n)
  | _, _, 0, h => h
  | _, _, _ + 1, .nil => .nil
  | _, _, n + 1, .cons _ t => DwAll.drop n t
theorem DwAll.take : ∀ {vs : List V} {ds : List PyData} (n : Nat), DwAll K M H vs ds → DwAll K M H (vs.take n) (ds.take n)
  | _, _, 0, _ => .nil
  | _, _, _ + 1, .nil => .nil
  | _, _, n + 1, .cons r t => .cons r (DwAll.take n t)
theorem Dw.seq {v : V} {d : PyData} {ds : List PyData} (h : Dw K M H v d) (e : seqD d = some ds) : ∃ p xs, v = .ref p ∧ (SqL K H p xs ∨ SqT K H p xs) ∧ (LsW M H p xs ∨ TpW K M H p xs) ∧ DwAll K M H xs ds := by
  cases h with
  | lst n a => cases e; exact ⟨_, _, rfl, .inl n.at, .inl n, a⟩
  | tup n a => cases e; exact ⟨_, _, rfl, .inr n.at, .inr n, a⟩
  | _ => cases e
end
/-! ### fields, names -/
abbrev TSet := List (Addr × Str)
/-- a list or a dict under way -/
def PlainO : HO → Prop
  | .lst _ => True
  | .dK _ => True
  | .dT _ => True
  | .ins _ _ _ => True
  | _ => False
def noV : Nat → V := fun _ => .non
/-- where data stand, what else may change and how; n counts; at a, if so told, stands what draws -/
structure Fld where
  M : Addr → Prop
  G : Nat → Hp → Prop
  Rel : Hp → Hp → Prop
  a : Option Addr
  ts : Option TSet
  trans : ∀ {H H1 H2}, Rel H H1 → Rel H1 H2 → Rel H H2
  of : ∀ {H H'}, Same H H' → Rel H H'
  frm : ∀ {H H'}, Rel H H' → Fx M H H'
  same : ∀ {n H H'}, G n H → Same H H' → G n H'
  al : ∀ {n H c}, G n H → M c → ∃ o, H c = some o ∧ ∀ ps, o ≠ HO.tbl ps
  updR : ∀ {H1 H D o}, Rel H1 H → H1 D = none → Rel H1 (upd H D o)
  updG : ∀ {m n H1 H D o}, G m H1 → H1 D = none → G n H → (∀ u, H D = some u → PlainO u) → G n (upd H D o)
  dr : ∀ x, a = some x → M x ∧ ∃ b cs, (∀ n H, G n H → Sx x b cs n H) ∧ ∀ n n' H H', G n H → Frm (· = x) H H' → Sx x b cs n' H' → G n' H' ∧ Rel H H'
  ov : Nat → V
  born : ∀ {n H0 H D}, Rel H0 H → G n H → H D = none → ∀ H' o, Rel H0 H' → Rel H0 (upd H' D o)
  lm : ∀ TS, ts = some TS → (∀ n H, G n H → LamX.Tabs TS H) ∧ ∀ n H H', G n H → LamX.ExtN H H' → LamX.Tabs TS H' → G n H' ∧ Rel H H'
theorem Fld.refl (W : Fld) {H : Hp} : W.Rel H H := W.of (Same.refl H)
theorem Fld.new (W : Fld) {n : Nat} {H H' : Hp} {p : Addr} {o : HO} (g : W.G n H) (h : New H H' p o) : ¬ W.M p := fun m => by
  obtain ⟨u, e, _⟩ := W.al g m
  rw [h.2.2] at e
  cases e
def Al (M : Addr → Prop) (H : Hp) : Prop := ∀ c, M c → ∃ o, H c = some o ∧ ∀ ps, o ≠ HO.tbl ps
theorem Al.same {M : Addr → Prop} {H H' : Hp} (a : Al M H) (s : Same H H') : Al M H' := fun c m => (a c m).imp fun o h => ⟨s _ _ h.1, h.2⟩
theorem Al.upd {M : Addr → Prop} {H1 H : Hp} {D : Addr} {o : HO} (a : Al M H1) (h : H1 D = none) (g : Al M H) : Al M (upd H D o) := fun c m => by
  obtain ⟨o, e, t⟩ := g c m
  obtain ⟨o1, e1, _⟩ := a c m
  exact ⟨o, by rw [upd_ne (ne_of_none e1 h)]; exact e, t⟩
theorem Al.frm {M : Addr → Prop} {x : Addr} {H H' : Hp} (a : Al M H) (F : Frm (· = x) H H') (h : ∃ o, H' x = some o ∧ ∀ ps, o ≠ HO.tbl ps) : Al M H' := fun c m => by
  by_cases e : c = x
  · rw [e]; exact h
  · obtain ⟨o, q, t⟩ := a c m
    exact ⟨o, F _ _ e q, t⟩
theorem same_upd {H1 H : Hp} {D : Addr} {o : HO} (s : Same H1 H) (h : H1 D = none) : Same H1 (upd H D o) := fun c u e => by
  rw [upd_ne (ne_of_none e h)]
  exact s _ _ e
theorem Sx.atl {a b : Addr} {cs : List Int} {n : Nat} {H : Hp} (S : Sx a b cs n H) : ∃ o, H a = some o ∧ ∀ ps, o ≠ HO.tbl ps := by
  obtain ⟨t, r, S, _⟩ := S
  exact ⟨_, S.ha, fun _ z => by cases z⟩
theorem Al.ext {M : Addr → Prop} {H H' : Hp} (a : Al M H) (x : LamX.ExtN H H') : Al M H' := fun c m => (a c m).imp fun o h => ⟨x c o h.1 h.2, h.2⟩
/-- nothing changes -/
def pureF (M : Addr → Prop) : Fld where
  M := M
  G := fun _ H => Al M H
  Rel := Same
  a := none
  ts := none
  ov := noV
  born := fun s g e H' o s' => same_upd s' (by
    rename_i H0 H D
    cases q : H0 D with
    | none => rfl
    | some u => rw [s _ _ q] at e; cases e)
  lm := fun x e => by cases e
  trans := Same.trans
  of := id
  frm := fx_same
  same := Al.same
  al := fun a m => a _ m
  updR := same_upd
  updG := fun g h q _ => Al.upd g h q
  dr := fun x e => by cases e
/-- what draws stands at a -/
def drawF (M : Addr → Prop) (a b : Addr) (cs : List Int) (hM : M a) : Fld where
  M := M
  G := fun n H => Sx a b cs n H ∧ Al M H
  Rel := Frm (· = a)
  a := some a
  ts := none
  ov := noV
  born := fun F g e H' o F' => Frm.updD F' (by
    rename_i H0 H D
    cases q : H0 D with
    | none => rfl
    | some u =>
      obtain ⟨z, hz, _⟩ := g.1.atl
      rw [F _ _ (fun c => by rw [c, hz] at e; cases e) q] at e; cases e)
  lm := fun x e => by cases e
  trans := Frm.trans
  of := frm_same
  frm := fun F => fx_frm (F.mono fun c e => e ▸ hM)
  same := fun g s => ⟨g.1.same s, g.2.same s⟩
  al := fun g m => g.2 _ m
  updR := Frm.updD
  updG := fun g h q _ => ⟨Sx.updD g.1 h q.1, g.2.upd h q.2⟩
  dr := fun x e => by
    cases e
    exact ⟨hM, b, cs, fun n H g => g.1, fun n n' H H' g F S => ⟨⟨S, g.2.frm F S.atl⟩, F⟩⟩
/-- beside it a list at D under way -/
def Fld.plus (W : Fld) (D : Addr) (o : HO) (hO : ∀ ps, o ≠ .tbl ps) (hD : ¬ W.M D) : Fld where
  M := fun c => W.M c ∨ c = D
  G := fun n H => W.G n H ∧ H D = some o
  Rel := W.Rel
  a := W.a
  ts := W.ts
  ov := W.ov
  born := fun r g e => W.born r g.1 e
  lm := fun TS e => by
    obtain ⟨h1, h2⟩ := W.lm TS e
    refine ⟨fun n H g => h1 n H g.1, fun n H H' g x t => ?_⟩
    have q := h2 n H H' g.1 x t
    exact ⟨⟨q.1, x _ _ g.2 hO⟩, q.2⟩
  trans := W.trans
  of := W.of
  frm := fun F => (W.frm F).mono fun c e => .inl e
  same := fun g s => ⟨W.same g.1 s, s _ _ g.2⟩
  al := fun g m => m.elim (fun m => W.al g.1 m) fun e => e ▸ ⟨_, g.2, hO⟩
  updR := W.updR
  updG := fun g h q hp => ⟨W.updG g.1 h q.1 hp, by rw [upd_ne (ne_of_none g.2 h)]; exact q.2⟩
  dr := fun x e => by
    obtain ⟨m, b, cs, h1, h2⟩ := W.dr x e
    refine ⟨.inl m, b, cs, fun n H g => h1 n H g.1, fun n n' H H' g F S => ?_⟩
    have q := h2 n n' H H' g.1 F S
    exact ⟨⟨q.1, F _ _ (fun z => hD (z ▸ m)) g.2⟩, q.2⟩
/-- what a name holds -/
inductive DS where
  | d (x : PyData) | v (x : V) | dr | no | ow (k : Nat) | fz
/-- a list of which nothing more is told: what the law got -/
def FzL (K : PySem.W.Frag) (M : Addr → Prop) (H : Hp) (v : V) : Prop := ∃ p xs, v = .ref p ∧ ((¬ M p ∧ Rd H p (.lst xs)) ∨ ∀ G, SqL K G p xs)
theorem FzL.frm {K : PySem.W.Frag} {M : Addr → Prop} {H H' : Hp} {v : V} (h : FzL K M H v) (F : Fx M H H') : FzL K M H' v := by
  obtain ⟨p, xs, e, h⟩ := h
  exact ⟨p, xs, e, h.imp (fun ⟨n, q⟩ => ⟨n, q.imp (fun q => F _ _ n q fun _ z => by cases z) fun ⟨u, q⟩ => ⟨u, F _ _ n q fun _ z => by cases z⟩⟩) id⟩
theorem FzL.bth {K : PySem.W.Frag} {M N : Addr → Prop} {H H' : Hp} {v : V} (h : FzL K M H v) (B : Bth K M N H H') : FzL K N H' v := by
  obtain ⟨p, xs, e, h⟩ := h
  exact ⟨p, xs, e, h.imp (fun ⟨n, q⟩ => q.elim (fun q => ⟨(B.o n q fun _ z => by cases z).1, .inl (B.o n q fun _ z => by cases z).2⟩) fun ⟨u, q⟩ => ⟨(B.o n q fun _ z => by cases z).1, .inr ⟨u, (B.o n q fun _ z => by cases z).2⟩⟩) id⟩
theorem FzL.at {K : PySem.W.Frag} {M : Addr → Prop} {H : Hp} {v : V} (h : FzL K M H v) : ∃ p xs, v = .ref p ∧ SqL K H p xs := by
  obtain ⟨p, xs, e, h⟩ := h
  exact ⟨p, xs, e, h.elim (fun q => .inl q.2) fun q => q H⟩
structure EnvD (K : PySem.W.Frag) (o : Option TSet) (M : Addr → Prop) (a : Option Addr × Option TSet × (Nat → V)) (ρ : List DS) (σ : L2.St) (H : Hp) : Prop where
  len : ρ.length = σ.length
  dat : ∀ (i : Nat) x, ρ[i]? = some (DS.d x) → ∃ v, σ[i]? = some (some v) ∧ Dw K M H v x
  val : ∀ (i : Nat) x, ρ[i]? = some (DS.v x) → σ[i]? = some (some x)
  drw : ∀ (i : Nat), ρ[i]? = some DS.dr → ∃ x, a.1 = some x ∧ σ[i]? = some (some (.ref x))
  own : ∀ (i : Nat) k, ρ[i]? = some (DS.ow k) → σ[i]? = some (some (a.2.2 k))
  tse : a.2.1 = o
  fzl : ∀ (i : Nat), ρ[i]? = some DS.fz → ∃ v, σ[i]? = some (some v) ∧ FzL K M H v
section
variable {K : PySem.W.Frag} {M N : Addr → Prop} {H H' : Hp} {ρ : List DS} {σ : L2.St} {a : Option Addr × Option TSet × (Nat → V)} {o : Option TSet}
theorem EnvD.frm (E : EnvD K o M a ρ σ H) (F : Fx M H H') : EnvD K o M a ρ σ H' := ⟨E.len, fun i x e => (E.dat i x e).imp fun v h => ⟨h.1, h.2.frm F⟩, E.val, E.drw, E.own, E.tse, fun i e => (E.fzl i e).imp fun v h => ⟨h.1, h.2.frm F⟩⟩
theorem EnvD.more (E : EnvD K o M a ρ σ H) (i : ∀ c o, N c → H c = some o → M c) : EnvD K o N a ρ σ H := ⟨E.len, fun j x e => (E.dat j x e).imp fun v h => ⟨h.1, h.2.more i⟩, E.val, E.drw, E.own, E.tse, fun j e => (E.fzl j e).imp fun v h => ⟨h.1, h.2.bth (Bth.more i)⟩⟩
theorem EnvD.nil (e : a.2.1 = o) : EnvD K o M a [] [] H := ⟨rfl, fun i x e => by simp at e, fun i x e => by simp at e, fun i e => by simp at e, fun i k e => by simp at e, e, fun i e => by simp at e⟩
/-- what a name may hold -/
def Hold (K : PySem.W.Frag) (M : Addr → Prop) (a : Option Addr × Option TSet × (Nat → V)) (H : Hp) : DS → Option V → Prop
  | .d x, u => ∃ v, u = some v ∧ Dw K M H v x
  | .v x, u => u = some x
  | .dr, u => ∃ x, a.1 = some x ∧ u = some (.ref x)
  | .no, _ => True
  | .ow k, u => u = some (a.2.2 k)
  | .fz, u => ∃ v, u = some v ∧ FzL K M H v
theorem EnvD.cons {s : DS} {u : Option V} (h : Hold K M a H s u) (E : EnvD K o M a ρ σ H) : EnvD K o M a (s :: ρ) (u :: σ) H := by
  refine ⟨congrArg Nat.succ E.len, fun i y e => ?_, fun i y e => ?_, fun i e => ?_, fun i k e => ?_, E.tse, fun i e => ?_⟩ <;> cases i with
  | zero =>
    cases e
    first | (obtain ⟨v, q, w⟩ := h; exact ⟨v, congrArg some q, w⟩) | exact congrArg some h | (obtain ⟨v, q, w⟩ := h; exact ⟨v, q, congrArg some w⟩)
  | succ i => first | exact E.dat i y e | exact E.val i y e | exact E.drw i e | exact E.own i k e | exact E.fzl i e
theorem EnvD.put {s : DS} {u : Option V} (E : EnvD K o M a ρ σ H) (j : Nat) (h : Hold K M a H s u) : EnvD K o M a (ρ.set j s) (σ.set j u) H := by
  have main : ∀ (i : Nat) t, (ρ.set j s)[i]? = some t → (j = i ∧ t = s ∧ i < σ.length) ∨ (j ≠ i ∧ ρ[i]? = some t) := fun i t e => by
    by_cases c : j = i
    · subst c
      have l := (List.getElem?_eq_some_iff.mp e).1
      rw [List.length_set] at l
      rw [List.getElem?_set_self l] at e
      cases e
      exact .inl ⟨rfl, rfl, by rw [← E.len]; exact l⟩
    · rw [List.getElem?_set_ne c] at e
      exact .inr ⟨c, e⟩
  refine ⟨by rw [List.length_set, List.length_set, E.len], fun i y e => ?_, fun i y e => ?_, fun i e => ?_, fun i k e => ?_, E.tse, fun i e => ?_⟩ <;> rcases main i _ e with ⟨rfl, rfl, l⟩ | ⟨c, e⟩
  · obtain ⟨v, rfl, w⟩ := h
    exact ⟨v, List.getElem?_set_self l, w⟩
  · rw [List.getElem?_set_ne c]; exact E.dat i y e
  · cases (show u = some y from h)
    exact List.getElem?_set_self l
  · rw [List.getElem?_set_ne c]; exact E.val i y e
  · obtain ⟨v, q, rfl⟩ := h
    exact ⟨v, q, List.getElem?_set_self l⟩
  · rw [List.getElem?_set_ne c]; exact E.drw i e
  · cases (show u = some (a.2.2 k) from h)
    exact List.getElem?_set_self l
  · rw [List.getElem?_set_ne c]; exact E.own i k e
  · obtain ⟨v, q, w⟩ := h
    exact ⟨v, by rw [List.getElem?_set_self l, q], w⟩
  · rw [List.getElem?_set_ne c]; exact E.fzl i e
theorem EnvD.set {v : V} {x : PyData} (E : EnvD K o M a ρ σ H) (j : Nat) (h : Dw K M H v x) : EnvD K o M a (ρ.set j (.d x)) (σ.set j (some v)) H := E.put j ⟨v, rfl, h⟩
theorem EnvD.setn {u : Option V} (E : EnvD K o M a ρ σ H) (j : Nat) : EnvD K o M a (ρ.set j .no) (σ.set j u) H := E.put j True.intro
end
end MT
set_option maxHeartbeats 1000000
/-! expressions, tests, statements over data -/
namespace MT
open PySem L2
abbrev QD := PyData → Nat → Prop
abbrev TD := List DS → Nat → QD → Prop
abbrev TDB := List DS → Nat → (Bool → Nat → Prop) → Prop
abbrev TDA := List DS → Nat → (List PyData → Nat → Prop) → Prop
abbrev TDS := List DS → Nat → (List DS → Nat → Prop) → QD → Prop
section
variable (K : PySem.W.Frag) (o : Option TSet)
def tD (t : TD) : TE := fun σ H Q => ∃ (W : Fld) (ρ : List DS) (n : Nat) (R : QD), EnvD K o W.M (W.a, W.ts, W.ov) ρ σ H ∧ W.G n H ∧ t ρ n R ∧ ∀ d n', R d n' → ∀ v H', W.Rel H H' → W.G n' H' → Dw K W.M H' v d → Q v H'
def tDB (t : TDB) : TT := fun σ H Q => ∃ (W : Fld) (ρ : List DS) (n : Nat) (R : Bool → Nat → Prop), EnvD K o W.M (W.a, W.ts, W.ov) ρ σ H ∧ W.G n H ∧ t ρ n R ∧ ∀ b n', R b n' → ∀ H', W.Rel H H' → W.G n' H' → Q b H'
def tDA (t : TDA) : TA := fun σ H Q => ∃ (W : Fld) (ρ : List DS) (n : Nat) (R : List PyData → Nat → Prop), EnvD K o W.M (W.a, W.ts, W.ov) ρ σ H ∧ W.G n H ∧ t ρ n R ∧ ∀ ds n', R ds n' → ∀ vs H', W.Rel H H' → W.G n' H' → DwAll K W.M H' vs ds → Q vs H'
def tDs (t : TDS) : TS := fun D σ H => ∃ (W : Fld) (ρ : List DS) (n : Nat) (Rn : List DS → Nat → Prop) (Rr : QD), EnvD K o W.M (W.a, W.ts, W.ov) ρ σ H ∧ W.G n H ∧ t ρ n Rn Rr ∧
  (∀ ρ' n', Rn ρ' n' → ∀ σ' H', W.Rel H H' → W.G n' H' → EnvD K o W.M (W.a, W.ts, W.ov) ρ' σ' H' → D.nx σ' H') ∧ (∀ d n', Rr d n' → ∀ v H', W.Rel H H' → W.G n' H' → Dw K W.M H' v d → D.rt v H')
end
section
variable {X : Cx} {e : Expr} {es : List Expr} {pos : Pos}
theorem PA.imp {t t' : TA} (h : PA X es t) (i : ∀ σ H Q, t' σ H Q → t σ H Q) : PA X es t' := ⟨fun pos pins s σ H Q I q => h.run pos pins s σ H Q I (i σ H Q q)⟩
theorem PT.imp {t t' : TT} (h : PT X e t) (i : ∀ σ H Q, t' σ H Q → t σ H Q) : PT X e t' := ⟨fun pins s σ H Q I q => h.run pins s σ H Q I (i σ H Q q)⟩
theorem PW.imp {t t' : TT} (h : PW X e t) (i : ∀ σ H Q, t' σ H Q → t σ H Q) : PW X e t' := ⟨fun wh pins s σ H Q I q => h.run wh pins s σ H Q I (i σ H Q q)⟩
theorem PS.imp {st : Stmt} {t t' : TS} (h : PS X st t) (i : ∀ D σ H, t' D σ H → t D σ H) : PS X st t' := ⟨fun pins s σ H D I q => h.run pins s σ H D I (i D σ H q)⟩
theorem PSs.imp {st : List Stmt} {t t' : TS} (h : PSs X st t) (i : ∀ D σ H, t' D σ H → t D σ H) : PSs X st t' := ⟨fun pins s σ H D I q => h.run pins s σ H D I (i D σ H q)⟩
/-! ### names, constants, displays -/
def qVar (i : Nat) : TD := fun ρ n R => ∃ d, ρ[i]? = some (DS.d d) ∧ R d n
def qC (d : PyData) : TD := fun _ n R => R d n
theorem de_var {i : Nat} (h : PE X e (tVar i)) : PE X e (tD X.K o (qVar i)) := PE.imp h fun σ H Q ⟨W, ρ, n, R, E, g, ⟨d, hd, r⟩, k⟩ => by
  obtain ⟨v, hv, w⟩ := E.dat i d hd
  exact ⟨v, hv, k d n r v H W.refl g w⟩
theorem de_int {i : Int} (h : PE X e (tC (.int i))) : PE X e (tD X.K o (qC (.int i))) := PE.imp h fun σ H Q ⟨W, ρ, n, R, E, g, r, k⟩ => k _ n r _ H W.refl g (.int i)
theorem de_str {z : Str} (h : PE X e (tC (.str z))) : PE X e (tD X.K o (qC (.str z))) := PE.imp h fun σ H Q ⟨W, ρ, n, R, E, g, r, k⟩ => k _ n r _ H W.refl g (.str z)
theorem de_bl {b : Bool} (h : PE X e (tC (.bl b))) : PE X e (tD X.K o (qC (.bool b))) := PE.imp h fun σ H Q ⟨W, ρ, n, R, E, g, r, k⟩ => k _ n r _ H W.refl g (.bl b)
theorem de_non (h : PE X e (tC .non)) : PE X e (tD X.K o (qC .none)) := PE.imp h fun σ H Q ⟨W, ρ, n, R, E, g, r, k⟩ => k _ n r _ H W.refl g .non
/-- a tuple of the module -/
theorem de_glob {a : Addr} {xs : List V} {ds : List PyData} (hc : CoT xs) (ht : ∀ H, SqT X.K H a xs) (hd : ∀ M H, DwAll X.K M H xs ds) (h : PE X e (tC (.ref a))) : PE X e (tD X.K o (qC (.tuple ds))) := PE.imp h fun σ H Q ⟨W, ρ, n, R, E, g, r, k⟩ => k _ n r _ H W.refl g (.tup (.inr ⟨hc, ht⟩) (hd _ _))
def qNil : TDA := fun _ n R => R [] n
def qCons (t : TD) (u : TDA) : TDA := fun ρ n R => t ρ n fun d n1 => u ρ n1 fun ds n2 => R (d :: ds) n2
theorem da_nil (h : PA X es tNil) : PA X es (tDA X.K o qNil) := PA.imp h fun σ H Q ⟨W, ρ, n, R, E, g, r, k⟩ => k _ n r _ H W.refl g .nil
theorem da_cons {t : TD} {u : TDA} (h : PA X es (tCons (tD X.K o t) (tDA X.K o u))) : PA X es (tDA X.K o (qCons t u)) := PA.imp h fun σ H Q ⟨W, ρ, n, R, E, g, r, k⟩ =>
  ⟨W, ρ, n, _, E, g, r, fun d n1 r1 v H1 F1 g1 w1 => ⟨W, ρ, n1, _, E.frm (W.frm F1), g1, r1, fun ds n2 r2 vs H2 F2 g2 w2 => k _ n2 r2 _ H2 (W.trans F1 F2) g2 (.cons (w1.frm (W.frm F2)) w2)⟩⟩
def qTup (u : TDA) : TD := fun ρ n R => u ρ n fun ds n' => ds.length ≤ 10000000 ∧ R (.tuple ds) n'
def qLst (u : TDA) : TD := fun ρ n R => u ρ n fun ds n' => ds.length ≤ 10000000 ∧ R (.list ds) n'
theorem small_line {k : Nat} (h : k ≤ 10000000) : k ≤ sizeLine := by rw [sizeLine_eq]; omega
theorem de_tup {u : TDA} (h : PE X e (tTupN (tDA X.K o u))) : PE X e (tD X.K o (qTup u)) := PE.imp h fun σ H Q ⟨W, ρ, n, R, E, g, r, k⟩ =>
  ⟨W, ρ, n, _, E, g, r, fun ds n1 r1 vs H1 F1 g1 w1 => ⟨by rw [w1.length]; exact small_line r1.1, fun p H2 n2 => k _ n1 r1.2 _ H2 (W.trans F1 (W.of n2.1)) (W.same g1 n2.1) (.tup (.inl ⟨W.new g1 n2, n2.2.1⟩) (w1.same n2.1))⟩⟩
theorem de_lst {u : TDA} (h : PE X e (tLstN (tDA X.K o u))) : PE X e (tD X.K o (qLst u)) := PE.imp h fun σ H Q ⟨W, ρ, n, R, E, g, r, k⟩ =>
  ⟨W, ρ, n, _, E, g, r, fun ds n1 r1 vs H1 F1 g1 w1 => ⟨by rw [w1.length]; exact small_line r1.1, fun p H2 n2 => k _ n1 r1.2 _ H2 (W.trans F1 (W.of n2.1)) (W.same g1 n2.1) (.lst ⟨W.new g1 n2, n2.2.1⟩ (w1.same n2.1))⟩⟩
/-! ### two sides -/
def FitR (K : PySem.W.Frag) (r : R2) (f : PyData → PyData → (PyData → Prop) → Prop) : Prop := ∀ (dx dy : PyData) (R : PyData → Prop) (M : Addr → Prop) (H : Hp) (x y : V) (Q : VK), Al M H → Dw K M H x dx → Dw K M H y dy → f dx dy R →
  (∀ d, R d → ∀ v H', Same H H' → Dw K M H' v d → Q v H') → r x y H Q
def qOp (f : PyData → PyData → (PyData → Prop) → Prop) (ta tb : TD) : TD := fun ρ n R => ta ρ n fun dx n1 => tb ρ n1 fun dy n2 => f dx dy fun d => R d n2
theorem op_over {K : PySem.W.Frag} {r : R2} {f} {ta tb : TD} (hf : FitR K r f) {σ : L2.St} {H : Hp} {Q : VK} : tD K o (qOp f ta tb) σ H Q → tOp r (tD K o ta) (tD K o tb) σ H Q := fun ⟨W, ρ, n, R, E, g, t, k⟩ =>
  ⟨W, ρ, n, _, E, g, t, fun dx n1 t1 x H1 F1 g1 v1 => ⟨W, ρ, n1, _, E.frm (W.frm F1), g1, t1, fun dy n2 t2 y H2 F2 g2 v2 =>
    hf dx dy _ W.M H2 x y Q (fun c m => W.al g2 m) (v1.frm (W.frm F2)) v2 t2 fun d r v H' s w => k d n2 r v H' (W.trans (W.trans F1 F2) (W.of s)) (W.same g2 s) w⟩⟩
theorem de_op {r : R2} {f} {ta tb : TD} (hf : FitR X.K r f) (h : PE X e (tOp r (tD X.K o ta) (tD X.K o tb))) : PE X e (tD X.K o (qOp f ta tb)) := PE.imp h fun _ _ _ => op_over hf
def qB (t : TD) : TDB := fun ρ n R => t ρ n fun d n' => ∃ b, d = .bool b ∧ R b n'
theorem b_over {K : PySem.W.Frag} {t : TD} {σ : L2.St} {H : Hp} {Q : Bool → Hp → Prop} : tDB K o (qB t) σ H Q → tD K o t σ H fun x H1 => ∃ c, x = .bl c ∧ Q c H1 := fun ⟨W, ρ, n, R, E, g, t, k⟩ =>
  ⟨W, ρ, n, _, E, g, t, fun d n1 ⟨b, e, r⟩ v H1 F1 g1 w1 => by subst e; cases w1; exact ⟨b, rfl, k b n1 r H1 F1 g1⟩⟩
theorem dt_val {t : TD} (h : PT X e (tB (tD X.K o t))) : PT X e (tDB X.K o (qB t)) := PT.imp h fun _ _ _ => b_over
theorem dt_cmp {r : R2} {f} {ta tb : TD} (hf : FitR X.K r f) (h : PT X e (tTest (tOp r (tD X.K o ta) (tD X.K o tb)))) : PT X e (tDB X.K o (qB (qOp f ta tb))) := PT.imp h fun _ _ _ q => op_over hf (b_over q)
def qAnd (t u : TDB) : TDB := fun ρ n R => t ρ n fun b n1 => if b = true then u ρ n1 R else R false n1
def qOr (t u : TDB) : TDB := fun ρ n R => t ρ n fun b n1 => if b = true then R true n1 else u ρ n1 R
def qNot (t : TDB) : TDB := fun ρ n R => t ρ n fun b n1 => R (!b) n1
theorem and_over {K : PySem.W.Frag} {t u : TDB} {σ : L2.St} {H : Hp} {Q : Bool → Hp → Prop} : tDB K o (qAnd t u) σ H Q → tAnd (tDB K o t) (tDB K o u) σ H Q := fun ⟨W, ρ, n, R, E, g, t, k⟩ =>
  ⟨W, ρ, n, _, E, g, t, fun b n1 r1 H1 F1 g1 => by
    cases b with
    | true => exact ⟨W, ρ, n1, R, E.frm (W.frm F1), g1, r1, fun b n2 r2 H2 F2 g2 => k b n2 r2 H2 (W.trans F1 F2) g2⟩
    | false => exact k false n1 r1 H1 F1 g1⟩
theorem or_over {K : PySem.W.Frag} {t u : TDB} {σ : L2.St} {H : Hp} {Q : Bool → Hp → Prop} : tDB K o (qOr t u) σ H Q → tOr (tDB K o t) (tDB K o u) σ H Q := fun ⟨W, ρ, n, R, E, g, t, k⟩ =>
  ⟨W, ρ, n, _, E, g, t, fun b n1 r1 H1 F1 g1 => by
    cases b with
    | true => exact k true n1 r1 H1 F1 g1
    | false => exact ⟨W, ρ, n1, R, E.frm (W.frm F1), g1, r1, fun b n2 r2 H2 F2 g2 => k b n2 r2 H2 (W.trans F1 F2) g2⟩⟩
theorem dw_and {t u : TDB} (h : PW X e (tAnd (tDB X.K o t) (tDB X.K o u))) : PW X e (tDB X.K o (qAnd t u)) := PW.imp h fun _ _ _ => and_over
theorem dw_or {t u : TDB} (h : PW X e (tOr (tDB X.K o t) (tDB X.K o u))) : PW X e (tDB X.K o (qOr t u)) := PW.imp h fun _ _ _ => or_over
theorem dt_not {t : TDB} (h : PT X e (tNot (tDB X.K o t))) : PT X e (tDB X.K o (qNot t)) := PT.imp h fun σ H Q ⟨W, ρ, n, R, E, g, t, k⟩ => ⟨W, ρ, n, _, E, g, t, fun b n1 r H1 F1 g1 => k _ n1 r H1 F1 g1⟩
/-! as values -/
def qAndV (t u : TD) : TD := fun ρ n R => t ρ n fun d n1 => ∃ b, d = .bool b ∧ if b = true then u ρ n1 R else R (.bool false) n1
def qOrV (t u : TD) : TD := fun ρ n R => t ρ n fun d n1 => ∃ b, d = .bool b ∧ if b = true then R (.bool true) n1 else u ρ n1 R
def qNotV (t : TD) : TD := fun ρ n R => t ρ n fun d n1 => ∃ b, d = .bool b ∧ R (.bool (!b)) n1
theorem de_and {t u : TD} (h : PE X e (tAndV (tD X.K o t) (tD X.K o u))) : PE X e (tD X.K o (qAndV t u)) := PE.imp h fun σ H Q ⟨W, ρ, n, R, E, g, t, k⟩ =>
  ⟨W, ρ, n, _, E, g, t, fun d n1 ⟨b, e, r1⟩ v H1 F1 g1 w1 => by
    subst e
    cases w1
    refine ⟨b, rfl, ?_⟩
    cases b with
    | true => exact ⟨W, ρ, n1, R, E.frm (W.frm F1), g1, r1, fun b n2 r2 v H2 F2 g2 w2 => k b n2 r2 v H2 (W.trans F1 F2) g2 w2⟩
    | false => exact k _ n1 r1 _ H1 F1 g1 (.bl false)⟩
theorem de_or {t u : TD} (h : PE X e (tOrV (tD X.K o t) (tD X.K o u))) : PE X e (tD X.K o (qOrV t u)) := PE.imp h fun σ H Q ⟨W, ρ, n, R, E, g, t, k⟩ =>
  ⟨W, ρ, n, _, E, g, t, fun d n1 ⟨b, e, r1⟩ v H1 F1 g1 w1 => by
    subst e
    cases w1
    refine ⟨b, rfl, ?_⟩
    cases b with
    | false => exact ⟨W, ρ, n1, R, E.frm (W.frm F1), g1, r1, fun b n2 r2 v H2 F2 g2 w2 => k b n2 r2 v H2 (W.trans F1 F2) g2 w2⟩
    | true => exact k _ n1 r1 _ H1 F1 g1 (.bl true)⟩
theorem de_not {t : TD} (h : PE X e (tNotV (tD X.K o t))) : PE X e (tD X.K o (qNotV t)) := PE.imp h fun σ H Q ⟨W, ρ, n, R, E, g, t, k⟩ =>
  ⟨W, ρ, n, _, E, g, t, fun d n1 ⟨b, e, r1⟩ v H1 F1 g1 w1 => by subst e; cases w1; exact ⟨b, rfl, k _ n1 r1 _ H1 F1 g1 (.bl _)⟩⟩
def qIf (c : TDB) (t u : TD) : TD := fun ρ n R => c ρ n fun b n1 => if b = true then t ρ n1 R else u ρ n1 R
theorem de_if {c : TDB} {t u : TD} (h : PE X e (tIf (tDB X.K o c) (tD X.K o t) (tD X.K o u))) : PE X e (tD X.K o (qIf c t u)) := PE.imp h fun σ H Q ⟨W, ρ, n, R, E, g, t, k⟩ =>
  ⟨W, ρ, n, _, E, g, t, fun b n1 r1 H1 F1 g1 => by
    cases b with
    | true => exact ⟨W, ρ, n1, R, E.frm (W.frm F1), g1, r1, fun b n2 r2 v H2 F2 g2 w2 => k b n2 r2 v H2 (W.trans F1 F2) g2 w2⟩
    | false => exact ⟨W, ρ, n1, R, E.frm (W.frm F1), g1, r1, fun b n2 r2 v H2 F2 g2 w2 => k b n2 r2 v H2 (W.trans F1 F2) g2 w2⟩⟩
/-- a <= b <= c -/
def qChain (f f' : PyData → PyData → (PyData → Prop) → Prop) (ta tb tc : TD) : TD := fun ρ n R => ta ρ n fun dx n1 => tb ρ n1 fun dy n2 => f dx dy fun d => ∃ b, d = .bool b ∧ if b = true then tc ρ n2 fun dz n3 => f' dy dz fun d' => R d' n3 else R (.bool false) n2
theorem chain_over {K : PySem.W.Frag} {r r' : R2} {f f'} {ta tb tc : TD} (hf : FitR K r f) (hf' : FitR K r' f') {σ : L2.St} {H : Hp} {Q : VK} : tD K o (qChain f f' ta tb tc) σ H Q → tChain r r' (tD K o ta) (tD K o tb) (tD K o tc) σ H Q := fun ⟨W, ρ, n, R, E, g, t, k⟩ =>
  ⟨W, ρ, n, _, E, g, t, fun dx n1 t1 x H1 F1 g1 v1 => ⟨W, ρ, n1, _, E.frm (W.frm F1), g1, t1, fun dy n2 t2 y H2 F2 g2 v2 =>
    hf dx dy _ W.M H2 x y _ (fun c m => W.al g2 m) (v1.frm (W.frm F2)) v2 t2 fun d ⟨b, e, r⟩ v H' s w => by
      subst e
      cases w
      refine ⟨b, rfl, ?_⟩
      have F3 := W.trans (W.trans F1 F2) (W.of s)
      have g3 := W.same g2 s
      cases b with
      | false => exact k _ n2 r _ H' F3 g3 (.bl false)
      | true =>
        exact ⟨W, ρ, n2, _, E.frm (W.frm F3), g3, r, fun dz n4 t4 z H4 F4 g4 v4 => hf' dy dz _ W.M H4 y z Q (fun c m => W.al g4 m) ((v2.same s).frm (W.frm F4)) v4 t4 fun d r v H' s w => k d n4 r v H' (W.trans (W.trans F3 F4) (W.of s)) (W.same g4 s) w⟩⟩⟩
theorem de_chain {r r' : R2} {f f'} {ta tb tc : TD} (hf : FitR X.K r f) (hf' : FitR X.K r' f') (h : PE X e (tChain r r' (tD X.K o ta) (tD X.K o tb) (tD X.K o tc))) : PE X e (tD X.K o (qChain f f' ta tb tc)) := PE.imp h fun _ _ _ => chain_over hf hf'
theorem dt_chain {r r' : R2} {f f'} {ta tb tc : TD} (hf : FitR X.K r f) (hf' : FitR X.K r' f') (h : PT X e (tTest (tChain r r' (tD X.K o ta) (tD X.K o tb) (tD X.K o tc)))) : PT X e (tDB X.K o (qB (qChain f f' ta tb tc))) := PT.imp h fun _ _ _ q => chain_over hf hf' (b_over q)
/-! ### calls of what is built in -/
def FitC (K : PySem.W.Frag) (r : List V → Hp → VK → Prop) (f : List PyData → (PyData → Prop) → Prop) : Prop := ∀ (ds : List PyData) (R : PyData → Prop) (M : Addr → Prop) (H : Hp) (vs : List V) (Q : VK), Al M H → DwAll K M H vs ds → f ds R →
  (∀ d, R d → ∀ v H', Same H H' → Dw K M H' v d → Q v H') → r vs H Q
def qCB (f : List PyData → (PyData → Prop) → Prop) (u : TDA) : TD := fun ρ n R => u ρ n fun ds n1 => f ds fun d => R d n1
theorem de_cb {r : List V → Hp → VK → Prop} {f} {u : TDA} (hf : FitC X.K r f) (h : PE X e (tCB r (tDA X.K o u))) : PE X e (tD X.K o (qCB f u)) := PE.imp h fun σ H Q ⟨W, ρ, n, R, E, g, t, k⟩ =>
  ⟨W, ρ, n, _, E, g, t, fun ds n1 t1 vs H1 F1 g1 v1 => hf ds _ W.M H1 vs Q (fun c m => W.al g1 m) v1 t1 fun d r v H' s w => k d n1 r v H' (W.trans F1 (W.of s)) (W.same g1 s) w⟩
/-! ### slices -/
def FitS (K : PySem.W.Frag) (r : V → Option Int → Option Int → Hp → VK → Prop) (f : PyData → Option Int → Option Int → (PyData → Prop) → Prop) : Prop := ∀ (d : PyData) (lo hi : Option Int) (R : PyData → Prop) (M : Addr → Prop) (H : Hp) (x : V) (Q : VK), Al M H → Dw K M H x d → f d lo hi R →
  (∀ d, R d → ∀ v H', Same H H' → Dw K M H' v d → Q v H') → r x lo hi H Q
abbrev TDO := List DS → Nat → (Option Int → Nat → Prop) → Prop
def tDO (K : PySem.W.Frag) (o : Option TSet) (t : TDO) : TO := fun σ H Q => ∃ (W : Fld) (ρ : List DS) (n : Nat) (R : Option Int → Nat → Prop), EnvD K o W.M (W.a, W.ts, W.ov) ρ σ H ∧ W.G n H ∧ t ρ n R ∧ ∀ o n', R o n' → ∀ H', W.Rel H H' → W.G n' H' → Q o H'
theorem PO.imp {o : Option Expr} {t t' : TO} (h : PO X o t) (i : ∀ σ H Q, t' σ H Q → t σ H Q) : PO X o t' := ⟨fun pins s σ H Q I q => h.run pins s σ H Q I (i σ H Q q)⟩
def qNoO : TDO := fun _ n R => R none n
def qO (t : TD) : TDO := fun ρ n R => t ρ n fun d n' => ∃ i, d = .int i ∧ R (some i) n'
theorem do_none {oe : Option Expr} (h : PO X oe tNoPart) : PO X oe (tDO X.K o qNoO) := PO.imp h fun σ H Q ⟨W, ρ, n, R, E, g, r, k⟩ => k _ n r H W.refl g
theorem do_some {oe : Option Expr} {t : TD} (h : PO X oe (tPart (tD X.K o t))) : PO X oe (tDO X.K o (qO t)) := PO.imp h fun σ H Q ⟨W, ρ, n, R, E, g, r, k⟩ =>
  ⟨W, ρ, n, _, E, g, r, fun d n1 ⟨i, e, r1⟩ v H1 F1 g1 w => by subst e; cases w; exact ⟨i, rfl, k _ n1 r1 H1 F1 g1⟩⟩
def qSl (f : PyData → Option Int → Option Int → (PyData → Prop) → Prop) (t : TD) (l h : TDO) : TD := fun ρ n R => t ρ n fun d n1 => l ρ n1 fun lo n2 => h ρ n2 fun hi n3 => f d lo hi fun y => R y n3
theorem de_sl {r : V → Option Int → Option Int → Hp → VK → Prop} {f} {t : TD} {tl th : TDO} (hf : FitS X.K r f) (h : PE X e (tSl r (tD X.K o t) (tDO X.K o tl) (tDO X.K o th))) : PE X e (tD X.K o (qSl f t tl th)) := PE.imp h fun σ H Q ⟨W, ρ, n, R, E, g, t, k⟩ =>
  ⟨W, ρ, n, _, E, g, t, fun d n1 r1 v H1 F1 g1 w1 => ⟨W, ρ, n1, _, E.frm (W.frm F1), g1, r1, fun lo n2 r2 H2 F2 g2 => ⟨W, ρ, n2, _, E.frm (W.frm (W.trans F1 F2)), g2, r2, fun hi n3 r3 H3 F3 g3 =>
    hf d lo hi _ W.M H3 v Q (fun c m => W.al g3 m) (w1.frm (W.frm (W.trans F2 F3))) r3 fun y r v H' s w => k y n3 r v H' (W.trans (W.trans F1 (W.trans F2 F3)) (W.of s)) (W.same g3 s) w⟩⟩⟩
/-! ### statements -/
def qSet (i : Nat) (t : TD) : TDS := fun ρ n Rn _ => t ρ n fun d n' => Rn (ρ.set i (DS.d d)) n'
theorem ds_set {st : Stmt} {i : Nat} {t : TD} (h : PS X st (tAsg (tD X.K o t) (gName i))) : PS X st (tDs X.K o (qSet i t)) := PS.imp h fun D σ H ⟨W, ρ, n, Rn, Rr, E, g, t, k1, k2⟩ =>
  ⟨W, ρ, n, _, E, g, t, fun d n1 r v H1 F1 g1 w => k1 _ n1 r _ H1 F1 g1 ((E.frm (W.frm F1)).set i w)⟩
def qRet (t : TD) : TDS := fun ρ n _ Rr => t ρ n Rr
theorem ds_ret {st : Stmt} {t : TD} (h : PS X st (tRet (tD X.K o t))) : PS X st (tDs X.K o (qRet t)) := PS.imp h fun D σ H ⟨W, ρ, n, Rn, Rr, E, g, t, k1, k2⟩ => ⟨W, ρ, n, _, E, g, t, k2⟩
def qIfS (c : TDB) (t u : TDS) : TDS := fun ρ n Rn Rr => c ρ n fun b n1 => if b = true then t ρ n1 Rn Rr else u ρ n1 Rn Rr
theorem ds_if {st : Stmt} {c : TDB} {t u : TDS} (h : PS X st (tIfS (tDB X.K o c) (tDs X.K o t) (tDs X.K o u))) : PS X st (tDs X.K o (qIfS c t u)) := PS.imp h fun D σ H ⟨W, ρ, n, Rn, Rr, E, g, t, k1, k2⟩ =>
  ⟨W, ρ, n, _, E, g, t, fun b n1 r1 H1 F1 g1 => by
    cases b with
    | true => exact ⟨W, ρ, n1, Rn, Rr, E.frm (W.frm F1), g1, r1, fun ρ' n' r σ' H' F g E => k1 ρ' n' r σ' H' (W.trans F1 F) g E, fun d n' r v H' F g w => k2 d n' r v H' (W.trans F1 F) g w⟩
    | false => exact ⟨W, ρ, n1, Rn, Rr, E.frm (W.frm F1), g1, r1, fun ρ' n' r σ' H' F g E => k1 ρ' n' r σ' H' (W.trans F1 F) g E, fun d n' r v H' F g w => k2 d n' r v H' (W.trans F1 F) g w⟩⟩
def qSeq (t u : TDS) : TDS := fun ρ n Rn Rr => t ρ n (fun ρ1 n1 => u ρ1 n1 Rn Rr) Rr
theorem dss_cons {st : List Stmt} {t u : TDS} (h : PSs X st (tSeq (tDs X.K o t) (tDs X.K o u))) : PSs X st (tDs X.K o (qSeq t u)) := PSs.imp h fun D σ H ⟨W, ρ, n, Rn, Rr, E, g, t, k1, k2⟩ =>
  ⟨W, ρ, n, _, Rr, E, g, t, fun ρ1 n1 r1 σ1 H1 F1 g1 E1 => ⟨W, ρ1, n1, Rn, Rr, E1, g1, r1, fun ρ' n' r σ' H' F g E => k1 ρ' n' r σ' H' (W.trans F1 F) g E, fun d n' r v H' F g w => k2 d n' r v H' (W.trans F1 F) g w⟩, k2⟩
def qNilS : TDS := fun ρ n Rn _ => Rn ρ n
end
end MT
set_option maxHeartbeats 1000000
/-! one rule for each sign, whatever data stand beside it -/
namespace MT
open PySem L2
theorem OpR.or {X : Cx} {f : Value → Value → Sem Value} {r r' : R2} (h : OpR X f r) (h' : OpR X f r') : OpR X f (fun x y H Q => r x y H Q ∨ r' x y H Q) := by
  intro pins s σ H x y v u Q I rx ry q
  rcases q with q | q
  · exact h pins s σ H x y v u Q I rx ry q
  · exact h' pins s σ H x y v u Q I rx ry q
/-! ### + -/
def rAddU (K : PySem.W.Frag) : R2 := fun x y H Q => rI0 (fun i j => .int (i + j)) x y H Q ∨ (∃ i j, x = .str i ∧ y = .str j ∧ i.length + j.length ≤ sizeLine ∧ Q (.str (i ++ j)) H) ∨ (∃ l b xs zs, x = .ref l ∧ y = .ref b ∧ H l = some (.lst xs) ∧ H b = some (.lst zs) ∧ xs.length + zs.length ≤ sizeLine ∧ ∀ p H2, New H H2 p (.lst (xs ++ zs)) → Q (.ref p) H2) ∨
  ∃ a b xs ys, x = .ref a ∧ y = .ref b ∧ SqT K H a xs ∧ SqT K H b ys ∧ xs.length + ys.length ≤ sizeLine ∧ (xs = [] → Q (.ref b) H) ∧ (xs ≠ [] → ys = [] → Q (.ref a) H) ∧ ∀ p H2, New H H2 p (.tup (xs ++ ys)) → Q (.ref p) H2
theorem op_addU {X : Cx} : OpR X (binaryOp .Add) (rAddU X.K) := OpR.or op_add (OpR.or op_add_str (OpR.or op_catN op_catAN))
def fAdd : PyData → PyData → (PyData → Prop) → Prop
  | .int i, .int j, R => R (.int (i + j))
  | .str a, .str b, R => a.length + b.length ≤ 10000000 ∧ R (.str (a ++ b))
  | .list a, .list b, R => a.length + b.length ≤ 10000000 ∧ R (.list (a ++ b))
  | .tuple a, .tuple b, R => a.length + b.length ≤ 10000000 ∧ R (.tuple (a ++ b))
  | _, _, _ => False
section
variable {K : PySem.W.Frag}
theorem new_away {M : Addr → Prop} {H H' : Hp} {p : Addr} {o : HO} (a : Al M H) (h : New H H' p o) : ¬ M p := fun m => by
  obtain ⟨u, e, _⟩ := a _ m
  rw [h.2.2] at e
  cases e
theorem fit_add : FitR K (rAddU K) fAdd := by
  intro dx dy R M H x y Q al wx wy f k
  cases wx with
  | int i =>
    cases wy with
    | int j => exact .inl ⟨i, j, rfl, rfl, k _ f _ _ (Same.refl _) (.int _)⟩
    | _ => exact f.elim
  | str a =>
    cases wy with
    | str b => exact .inr (.inl ⟨a, b, rfl, rfl, small_line f.1, k _ f.2 _ _ (Same.refl _) (.str _)⟩)
    | _ => exact f.elim
  | lst s a =>
    cases wy with
    | lst s2 a2 => exact .inr (.inr (.inl ⟨_, _, _, _, rfl, rfl, s.2, s2.2, by rw [a.length, a2.length]; exact small_line f.1, fun p H2 n2 => k _ f.2 _ _ n2.1 (.lst ⟨new_away al n2, n2.2.1⟩ ((a.append a2).same n2.1))⟩))
    | _ => exact f.elim
  | tup s a =>
    cases wy with
    | tup s2 a2 =>
      refine .inr (.inr (.inr ⟨_, _, _, _, rfl, rfl, s.at, s2.at, by rw [a.length, a2.length]; exact small_line f.1, fun e => ?_, fun _ e => ?_, fun p H2 n2 => k _ f.2 _ _ n2.1 (.tup (.inl ⟨new_away al n2, n2.2.1⟩) ((a.append a2).same n2.1))⟩))
      · subst e
        cases a
        exact k _ f.2 _ _ (Same.refl _) (.tup s2 a2)
      · subst e
        cases a2
        have q := f.2
        rw [List.append_nil] at q
        exact k _ q _ _ (Same.refl _) (.tup s a)
    | _ => exact f.elim
  | _ => exact f.elim
/-! ### - -/
def fSub : PyData → PyData → (PyData → Prop) → Prop
  | .int i, .int j, R => R (.int (i - j))
  | _, _, _ => False
theorem fit_sub : FitR K (rI0 (fun i j => .int (i - j))) fSub := by
  intro dx dy R M H x y Q al wx wy f k
  cases wx with
  | int i =>
    cases wy with
    | int j => exact ⟨i, j, rfl, rfl, k _ f _ _ (Same.refl _) (.int _)⟩
    | _ => exact f.elim
  | _ => exact f.elim
end
/-! ### * -/
def rMulU (K : PySem.W.Frag) : R2 := fun x y H Q => (∃ i j, x = .int i ∧ y = .int j ∧ CMul i j ∧ Q (.int (i * j)) H) ∨ (∃ (z : Str) (n : Int), x = .str z ∧ y = .int n ∧ 2 ≤ n ∧ n ≤ 1000 ∧ 1 ≤ z.length ∧ z.length ≤ 1000 ∧ (repStr z n).length ≤ sizeLine ∧ Q (.str (repStr z n)) H) ∨
  (∃ l k xs, x = .ref l ∧ y = .int k ∧ H l = some (.lst xs) ∧ -(2 ^ 63) ≤ k ∧ k < 2 ^ 63 ∧ xs.length * k.toNat ≤ sizeLine ∧ ∀ p H2, New H H2 p (.lst (List.replicate k.toNat xs).flatten) → Q (.ref p) H2) ∨
  ∃ l k xs, x = .ref l ∧ y = .int k ∧ SqT K H l xs ∧ xs ≠ [] ∧ 2 ≤ k ∧ k ≤ 1000 ∧ xs.length ≤ 1000 ∧ ∀ p H2, New H H2 p (.tup (List.replicate k.toNat xs).flatten) → Q (.ref p) H2
theorem op_mulU {X : Cx} : OpR X (binaryOp .Mult) (rMulU X.K) := OpR.or op_mul (OpR.or op_repS (OpR.or op_repN op_repTN))
def fMul : PyData → PyData → (PyData → Prop) → Prop
  | .int i, .int j, R => CMul i j ∧ R (.int (i * j))
  | .str z, .int n, R => (2 ≤ n ∧ n ≤ 1000 ∧ 1 ≤ z.length ∧ z.length ≤ 1000 ∧ (repStr z n).length ≤ sizeLine) ∧ R (.str (repStr z n))
  | .list a, .int n, R => (-(2 ^ 63) ≤ n ∧ n < 2 ^ 63 ∧ a.length * n.toNat ≤ 10000000) ∧ R (.list (List.replicate n.toNat a).flatten)
  | .tuple a, .int n, R => (a ≠ [] ∧ 2 ≤ n ∧ n ≤ 1000 ∧ a.length ≤ 1000) ∧ R (.tuple (List.replicate n.toNat a).flatten)
  | _, _, _ => False
section
variable {K : PySem.W.Frag}
theorem DwAll.rep {M : Addr → Prop} {H : Hp} {vs : List V} {ds : List PyData} (h : DwAll K M H vs ds) : ∀ n : Nat, DwAll K M H (List.replicate n vs).flatten (List.replicate n ds).flatten
  | 0 => .nil
  | n + 1 => by
    rw [List.replicate_succ, List.replicate_succ, List.flatten_cons, List.flatten_cons]
    exact h.append (DwAll.rep h n)
theorem fit_mul : FitR K (rMulU K) fMul := by
  intro dx dy R M H x y Q al wx wy f k
  cases wx with
  | int i =>
    cases wy with
    | int j => exact .inl ⟨i, j, rfl, rfl, f.1, k _ f.2 _ _ (Same.refl _) (.int _)⟩
    | _ => exact f.elim
  | str a =>
    cases wy with
    | int j =>
      obtain ⟨⟨h1, h2, h3, h4, h5⟩, r⟩ := f
      exact .inr (.inl ⟨a, j, rfl, rfl, h1, h2, h3, h4, h5, k _ r _ _ (Same.refl _) (.str _)⟩)
    | _ => exact f.elim
  | lst s a =>
    cases wy with
    | int j =>
      obtain ⟨⟨h1, h2, h3⟩, r⟩ := f
      exact .inr (.inr (.inl ⟨_, _, _, rfl, rfl, s.2, h1, h2, by rw [a.length]; exact small_line h3, fun p H2 n2 => k _ r _ _ n2.1 (.lst ⟨new_away al n2, n2.2.1⟩ ((a.rep _).same n2.1))⟩))
    | _ => exact f.elim
  | tup s a =>
    cases wy with
    | int j =>
      obtain ⟨⟨h0, h1, h2, h3⟩, r⟩ := f
      exact .inr (.inr (.inr ⟨_, _, _, rfl, rfl, s.at, fun e => h0 (by subst e; cases a; rfl), h1, h2, by rw [a.length]; exact h3, fun p H2 n2 => k _ r _ _ n2.1 (.tup (.inl ⟨new_away al n2, n2.2.1⟩) ((a.rep _).same n2.1))⟩))
    | _ => exact f.elim
  | _ => exact f.elim
/-! ### == != -/
def fEq (d e : PyData) (R : PyData → Prop) : Prop := tame d = true ∧ tame e = true ∧ R (.bool (PyData.eqv d e))
def fNe (d e : PyData) (R : PyData → Prop) : Prop := tame d = true ∧ tame e = true ∧ R (.bool (!PyData.eqv d e))
theorem tame_shaped {d : PyData} (h : tame d = true) : SeqAt.shaped d = true ∧ d.canLay0 = true := by
  unfold tame at h
  rw [Bool.and_eq_true] at h
  refine ⟨?_, h.1⟩
  unfold SeqAt.shaped
  rw [h.1, Bool.true_and]
  exact decide_eq_true (Nat.le_trans (of_decide_eq_true h.2) (by decide))
theorem fit_eq : FitR K (rEqD K) fEq := fun dx dy R M H x y Q al wx wy f k =>
  ⟨dx, dy, wx.dp (tame_shaped f.1).2, wy.dp (tame_shaped f.2.1).2, (tame_shaped f.1).1, (tame_shaped f.2.1).1, k _ f.2.2 _ _ (Same.refl _) (.bl _)⟩
theorem fit_ne : FitR K (rNeD K) fNe := fun dx dy R M H x y Q al wx wy f k =>
  ⟨dx, dy, wx.dp (tame_shaped f.1).2, wy.dp (tame_shaped f.2.1).2, (tame_shaped f.1).1, (tame_shaped f.2.1).1, k _ f.2.2 _ _ (Same.refl _) (.bl _)⟩
end
/-! ### < <= > >= -/
def rOrd (g : Int → Int → Bool) (h : Str → Str → Bool) : R2 := fun x y H Q => rI0 (fun i j => .bl (g i j)) x y H Q ∨ ∃ i j, x = .str i ∧ y = .str j ∧ Q (.bl (h i j)) H
def fOrd (g : Int → Int → Bool) (h : Str → Str → Bool) : PyData → PyData → (PyData → Prop) → Prop
  | .int i, .int j, R => R (.bool (g i j))
  | .str i, .str j, R => R (.bool (h i j))
  | _, _, _ => False
def ltS (a b : Str) : Bool := decide (a.cps.toList < b.cps.toList)
theorem op_ltU {X : Cx} : OpR X (compareOp .Lt) (rOrd (fun i j => decide (i < j)) ltS) := OpR.or op_lt op_lt_str
theorem op_leU {X : Cx} : OpR X (compareOp .LtE) (rOrd (fun i j => decide (i ≤ j)) (fun a b => !ltS b a)) := OpR.or op_le op_le_str
theorem op_gtU {X : Cx} : OpR X (compareOp .Gt) (rOrd (fun i j => decide (j < i)) (fun a b => ltS b a)) := OpR.or op_gt op_gt_str
theorem op_geU {X : Cx} : OpR X (compareOp .GtE) (rOrd (fun i j => decide (j ≤ i)) (fun a b => !ltS a b)) := OpR.or op_ge op_ge_str
theorem fit_ord {K : PySem.W.Frag} {g : Int → Int → Bool} {h : Str → Str → Bool} : FitR K (rOrd g h) (fOrd g h) := by
  intro dx dy R M H x y Q al wx wy f k
  cases wx with
  | int i =>
    cases wy with
    | int j => exact .inl ⟨i, j, rfl, rfl, k _ f _ _ (Same.refl _) (.bl _)⟩
    | _ => exact f.elim
  | str i =>
    cases wy with
    | str j => exact .inr ⟨i, j, rfl, rfl, k _ f _ _ (Same.refl _) (.bl _)⟩
    | _ => exact f.elim
  | _ => exact f.elim
/-! ### is -/
def isNone : PyData → Bool
  | .none => true
  | _ => false
def rIsU : R2 := fun x y H Q => (y = .non ∧ Q (.bl (decide (x = .non))) H) ∨ ∃ a b : Bool, x = .bl a ∧ y = .bl b ∧ Q (.bl (decide (a = b))) H
def rNotU : R2 := fun x y H Q => (y = .non ∧ Q (.bl (!decide (x = .non))) H) ∨ ∃ a b : Bool, x = .bl a ∧ y = .bl b ∧ Q (.bl (!decide (a = b))) H
theorem op_isU {X : Cx} : OpR X (compareOp .Is) rIsU := OpR.or op_isN op_isBl
theorem op_notU {X : Cx} : OpR X (compareOp .IsNot) rNotU := OpR.or op_notN op_notBl
def fIs (d e : PyData) (R : PyData → Prop) : Prop := match e with
  | .none => R (.bool (isNone d))
  | .bool b => ∃ a, d = .bool a ∧ R (.bool (decide (a = b)))
  | _ => False
def fNot (d e : PyData) (R : PyData → Prop) : Prop := match e with
  | .none => R (.bool (!isNone d))
  | .bool b => ∃ a, d = .bool a ∧ R (.bool (!decide (a = b)))
  | _ => False
theorem isNone_eq {K : PySem.W.Frag} {M : Addr → Prop} {H : Hp} {v : V} {d : PyData} (w : Dw K M H v d) : decide (v = .non) = isNone d := by
  cases w <;> rfl
theorem fit_is {K : PySem.W.Frag} : FitR K rIsU fIs := by
  intro dx dy R M H x y Q al wx wy f k
  cases wy with
  | non => exact .inl ⟨rfl, by rw [isNone_eq wx]; exact k _ f _ _ (Same.refl _) (.bl _)⟩
  | bl b =>
    obtain ⟨a, rfl, r⟩ := f
    cases wx
    exact .inr ⟨a, b, rfl, rfl, k _ r _ _ (Same.refl _) (.bl _)⟩
  | _ => exact f.elim
theorem fit_not {K : PySem.W.Frag} : FitR K rNotU fNot := by
  intro dx dy R M H x y Q al wx wy f k
  cases wy with
  | non => exact .inl ⟨rfl, by rw [isNone_eq wx]; exact k _ f _ _ (Same.refl _) (.bl _)⟩
  | bl b =>
    obtain ⟨a, rfl, r⟩ := f
    cases wx
    exact .inr ⟨a, b, rfl, rfl, k _ r _ _ (Same.refl _) (.bl _)⟩
  | _ => exact f.elim
/-! ### in -/
def flatD : PyData → Bool
  | .none => true
  | .bool _ => true
  | .int _ => true
  | .str _ => true
  | _ => false
def eqF : PyData → PyData → Bool
  | .none, .none => true
  | .bool a, .bool b => a == b
  | .bool a, .int b => (if a then 1 else 0) == b
  | .int a, .bool b => a == (if b then 1 else 0)
  | .int a, .int b => a == b
  | .str a, .str b => a == b
  | _, _ => false
def inF (x : PyData) (ds : List PyData) : Bool := ds.any fun y => eqF y x
section
variable {K : PySem.W.Frag} {M : Addr → Prop} {H : Hp}
theorem flat_eq {v : V} {d : PyData} (w : Dw K M H v d) : flatV v = flatD d := by
  cases w <;> rfl
theorem flats_eq : ∀ {vs : List V} {ds : List PyData}, DwAll K M H vs ds → vs.all flatV = ds.all flatD
  | _, _, .nil => rfl
  | _, _, .cons a b => by rw [List.all_cons, List.all_cons, flat_eq a, flats_eq b]
theorem eqV_eqF {v u : V} {d e : PyData} (w : Dw K M H v d) (w2 : Dw K M H u e) (h : flatD d = true) (h2 : flatD e = true) : eqV v u = eqF d e := by
  cases w <;> first | (cases h; done) | (cases w2 <;> first | (cases h2; done) | rfl)
theorem in_eq {v : V} {d : PyData} (w : Dw K M H v d) (h : flatD d = true) : ∀ {vs : List V} {ds : List PyData}, DwAll K M H vs ds → ds.all flatD = true → inV v vs = inF d ds
  | _, _, .nil, _ => rfl
  | _, _, .cons a b, hh => by
    rw [List.all_cons, Bool.and_eq_true] at hh
    have ih := in_eq w h b hh.2
    unfold inV inF at ih ⊢
    rw [List.any_cons, List.any_cons, ih, eqV_eqF a w hh.1 h]
def rInU (K : PySem.W.Frag) (neg : Bool) : R2 := fun x y H Q => rIn K neg x y H Q ∨ ∃ (c : Nat) (z : Str), x = .str ⟨#[c]⟩ ∧ y = .str z ∧ Q (.bl (if neg then !decide (c ∈ z.cps.toList) else decide (c ∈ z.cps.toList))) H
end
theorem op_inU {X : Cx} : OpR X (compareOp .In) (rInU X.K false) := OpR.or op_in_seq op_in_sign
def fIn (neg : Bool) : PyData → PyData → (PyData → Prop) → Prop
  | d, .list ds, R => flatD d = true ∧ ds.all flatD = true ∧ R (.bool (if neg then !inF d ds else inF d ds))
  | d, .tuple ds, R => flatD d = true ∧ ds.all flatD = true ∧ R (.bool (if neg then !inF d ds else inF d ds))
  | .str x, .str z, R => ∃ c : Nat, x = ⟨#[c]⟩ ∧ R (.bool (if neg then !decide (c ∈ z.cps.toList) else decide (c ∈ z.cps.toList)))
  | _, _, _ => False
theorem fit_in {K : PySem.W.Frag} {neg : Bool} : FitR K (rInU K neg) (fIn neg) := by
  intro dx dy R M H x y Q al wx wy f k
  have seq : ∀ {p : Addr} {xs : List V} {ds : List PyData}, (SqL K H p xs ∨ SqT K H p xs) → DwAll K M H xs ds → (flatD dx = true ∧ ds.all flatD = true ∧ R (.bool (if neg then !inF dx ds else inF dx ds))) → rIn K neg x (.ref p) H Q := fun {p xs ds} s a f =>
    ⟨p, xs, rfl, s, (flat_eq wx).trans f.1, (flats_eq a).trans f.2.1, by rw [in_eq wx f.1 a f.2.1]; exact k _ f.2.2 _ _ (Same.refl _) (.bl _)⟩
  cases wy with
  | lst s a => cases wx <;> exact .inl (seq (.inl s.at) a f)
  | tup s a => cases wx <;> exact .inl (seq (.inr s.at) a f)
  | str z =>
    cases wx with
    | str x =>
      obtain ⟨c, rfl, r⟩ := f
      exact .inr ⟨c, z, rfl, rfl, k _ r _ _ (Same.refl _) (.bl _)⟩
    | _ => exact f.elim
  | _ => cases wx <;> exact f.elim
end MT
set_option maxHeartbeats 1000000
/-! items, slices, what is built in; walks; calls -/
namespace MT
open PySem L2
/-- x in l, whatever stands there -/
def rInV (K : PySem.W.Frag) (neg : Bool) : R2 := fun x y H Q => (∃ d e ds, Dp K H x d ∧ Dp K H y e ∧ (e = .list ds ∨ e = .tuple ds) ∧ SeqAt.shaped d = true ∧ PyData.canLayAll0 ds = true ∧ Q (.bl (if neg then !ds.any fun z => PyData.eqv z d else ds.any fun z => PyData.eqv z d)) H) ∨
  ∃ (c : Nat) (z : Str), x = .str ⟨#[c]⟩ ∧ y = .str z ∧ Q (.bl (if neg then !decide (c ∈ z.cps.toList) else decide (c ∈ z.cps.toList))) H
theorem op_inV {X : Cx} (hu : X.A.units + 65 < cLine) : OpR X (compareOp .In) (rInV X.K false) := OpR.or (by
  intro pins s σ H x y v u Q I rx ry h
  obtain ⟨d, e, ds, hd, he, hs, sd, se, q⟩ := h
  obtain ⟨as, r1⟩ := Dp.reads I d x v hd rx
  obtain ⟨bs, r2⟩ := Dp.reads I e y u he ry
  rcases hs with rfl | rfl
  · exact SeqAt.in_list_reads r2 r1 se (SeqAt.canLay_of_shaped sd) (PyProof.Rows.room_in_shaped sd hu) ⟨.bl _, H, I, rfl, q⟩
  · exact SeqAt.in_tuple_reads r2 r1 se (SeqAt.canLay_of_shaped sd) (PyProof.Rows.room_in_shaped sd hu) ⟨.bl _, H, I, rfl, q⟩) op_in_sign
theorem op_notInV {X : Cx} (hu : X.A.units + 65 < cLine) : OpR X (compareOp .NotIn) (rInV X.K true) := OpR.or (by
  intro pins s σ H x y v u Q I rx ry h
  obtain ⟨d, e, ds, hd, he, hs, sd, se, q⟩ := h
  obtain ⟨as, r1⟩ := Dp.reads I d x v hd rx
  obtain ⟨bs, r2⟩ := Dp.reads I e y u he ry
  rcases hs with rfl | rfl
  · exact SeqAt.notIn_list_reads r2 r1 se (SeqAt.canLay_of_shaped sd) (PyProof.Rows.room_in_shaped sd hu) ⟨.bl _, H, I, rfl, q⟩
  · exact SeqAt.notIn_tuple_reads r2 r1 se (SeqAt.canLay_of_shaped sd) (PyProof.Rows.room_in_shaped sd hu) ⟨.bl _, H, I, rfl, q⟩) op_notIn_sign
def inD (x : PyData) (ds : List PyData) : Bool := ds.any fun z => PyData.eqv z x
def fInV (neg : Bool) : PyData → PyData → (PyData → Prop) → Prop
  | d, .list ds, R => tame d = true ∧ ds.all tame = true ∧ R (.bool (if neg then !inD d ds else inD d ds))
  | d, .tuple ds, R => tame d = true ∧ ds.all tame = true ∧ R (.bool (if neg then !inD d ds else inD d ds))
  | .str x, .str z, R => ∃ c : Nat, x = ⟨#[c]⟩ ∧ R (.bool (if neg then !decide (c ∈ z.cps.toList) else decide (c ∈ z.cps.toList)))
  | _, _, _ => False
theorem fit_inV {K : PySem.W.Frag} {neg : Bool} : FitR K (rInV K neg) (fInV neg) := by
  intro dx dy R M H x y Q al wx wy f k
  have seq : ∀ {e : PyData} {ds : List PyData}, Dw K M H y e → (e = .list ds ∨ e = .tuple ds) → (tame dx = true ∧ ds.all tame = true ∧ R (.bool (if neg then !inD dx ds else inD dx ds))) → rInV K neg x y H Q := fun {e ds} w he f =>
    .inl ⟨dx, e, ds, wx.dp (tame_shaped f.1).2, w.dp (by rcases he with rfl | rfl <;> simpa [PyData.canLay0] using (tame_seq f.2.1).1), he, (tame_shaped f.1).1, (tame_seq f.2.1).1, k _ f.2.2 _ _ (Same.refl _) (.bl _)⟩
  cases wy with
  | lst s a => cases wx <;> exact seq (.lst s a) (.inl rfl) f
  | tup s a => cases wx <;> exact seq (.tup s a) (.inr rfl) f
  | str z =>
    cases wx with
    | str x =>
      obtain ⟨c, rfl, r⟩ := f
      exact .inr ⟨c, z, rfl, rfl, k _ r _ _ (Same.refl _) (.bl _)⟩
    | _ => exact f.elim
  | _ => cases wx <;> exact f.elim
/-! ### items -/
def rIxU (K : PySem.W.Frag) : R2 := fun x y H Q => (∃ a xs i v, x = .ref a ∧ y = .int i ∧ (SqL K H a xs ∨ SqT K H a xs) ∧ atI xs i = some v ∧ Q v H) ∨ rIxS x y H Q
theorem ix_U {X : Cx} : IxR X (rIxU X.K) := ix_or ix_sq ix_str
def fIx (d e : PyData) (R : PyData → Prop) : Prop := ∃ i, e = .int i ∧ match d with
  | .list ds => ∃ x, atI ds i = some x ∧ R x
  | .tuple ds => ∃ x, atI ds i = some x ∧ R x
  | .str z => z.length ≤ 10000000 ∧ ∃ c, atI z.cps.toList i = some c ∧ R (.str ⟨#[c]⟩)
  | _ => False
section
variable {K : PySem.W.Frag} {M : Addr → Prop} {H : Hp}
theorem at_of {vs : List V} {ds : List PyData} {i : Int} {x : PyData} (a : DwAll K M H vs ds) (h : atI ds i = some x) : ∃ v, atI vs i = some v ∧ Dw K M H v x := by
  unfold atI at h ⊢
  rw [← a.length] at h
  cases e : ixN vs.length i with
  | none => rw [e] at h; cases h
  | some j =>
    rw [e] at h
    exact a.getD h
end
theorem fit_ix {K : PySem.W.Frag} : FitR K (rIxU K) fIx := by
  intro dx dy R M H x y Q al wx wy f k
  obtain ⟨i, rfl, f⟩ := f
  cases wy
  cases wx with
  | lst s a =>
    obtain ⟨z, e, r⟩ := f
    obtain ⟨v, e2, w⟩ := at_of a e
    exact .inl ⟨_, _, _, _, rfl, rfl, .inl s.at, e2, k _ r _ _ (Same.refl _) w⟩
  | tup s a =>
    obtain ⟨z, e, r⟩ := f
    obtain ⟨v, e2, w⟩ := at_of a e
    exact .inl ⟨_, _, _, _, rfl, rfl, .inr s.at, e2, k _ r _ _ (Same.refl _) w⟩
  | str z =>
    obtain ⟨h, c, e, r⟩ := f
    exact .inr ⟨z, i, c, rfl, rfl, small_line h, e, k _ r _ _ (Same.refl _) (.str _)⟩
  | _ => exact f.elim
theorem de_ix {X : Cx} {e : Expr} {ta tb : TD} (h : PE X e (tOp (rIxU X.K) (tD X.K o ta) (tD X.K o tb))) : PE X e (tD X.K o (qOp fIx ta tb)) := de_op fit_ix h
/-! ### slices -/
def cutD (xs : List PyData) (lo hi : Option Int) : List PyData := (xs.drop (HT.sIx xs.length 0 lo)).take (HT.sIx xs.length xs.length hi - HT.sIx xs.length 0 lo)
def rSlU (K : PySem.W.Frag) : V → Option Int → Option Int → Hp → VK → Prop := fun x lo hi H Q => (∃ a xs, x = .ref a ∧ SqL K H a xs ∧ ∀ p H2, New H H2 p (.lst (cutV xs lo hi)) → Q (.ref p) H2) ∨
  ((∃ a xs, x = .ref a ∧ SqT K H a xs ∧ (cutV xs lo hi = xs → Q (.ref a) H) ∧ ∀ p H2, New H H2 p (.tup (cutV xs lo hi)) → Q (.ref p) H2) ∨ rSlS x lo hi H Q)
theorem sl_U {X : Cx} : SlR X (rSlU X.K) := SlR.or sl_listN (SlR.or sl_tupN sl_str)
def fSl (d : PyData) (lo hi : Option Int) (R : PyData → Prop) : Prop := match d with
  | .list ds => R (.list (cutD ds lo hi))
  | .tuple ds => R (.tuple (cutD ds lo hi))
  | .str z => z.length ≤ 10000000 ∧ R (.str (cutS z lo hi))
  | _ => False
theorem cut_of {K : PySem.W.Frag} {M : Addr → Prop} {H : Hp} {vs : List V} {ds : List PyData} (lo hi : Option Int) (a : DwAll K M H vs ds) : DwAll K M H (cutV vs lo hi) (cutD ds lo hi) := by
  unfold cutV cutD
  rw [a.length]
  exact (a.drop _).take _
theorem DwAll.same_len {K : PySem.W.Frag} {M : Addr → Prop} {H : Hp} : ∀ {vs : List V} {ds es : List PyData}, DwAll K M H vs ds → DwAll K M H vs es → True := fun _ _ => trivial
theorem fit_sl {K : PySem.W.Frag} : FitS K (rSlU K) fSl := by
  intro d lo hi R M H x Q al wx f k
  cases wx with
  | lst s a => exact .inl ⟨_, _, rfl, s.at, fun p H2 n2 => k _ f _ _ n2.1 (.lst ⟨new_away al n2, n2.2.1⟩ ((cut_of lo hi a).same n2.1))⟩
  | tup s a =>
    refine .inr (.inl ⟨_, _, rfl, s.at, fun e => k _ f _ _ (Same.refl _) (.tup s ?_), fun p H2 n2 => k _ f _ _ n2.1 (.tup (.inl ⟨new_away al n2, n2.2.1⟩) ((cut_of lo hi a).same n2.1))⟩)
    have c := cut_of lo hi a
    rw [e] at c
    exact c
  | str z => exact .inr (.inr ⟨z, rfl, small_line f.1, k _ f.2 _ _ (Same.refl _) (.str _)⟩)
  | _ => exact f.elim
/-! ### len, list, tuple, int, abs, max, min, ord, all, any -/
section
variable {K : PySem.W.Frag}
def rLenU (K : PySem.W.Frag) : List V → Hp → VK → Prop := fun xs H Q => (∃ p ys, xs = [.ref p] ∧ (SqL K H p ys ∨ SqT K H p ys) ∧ Q (.int ys.length) H) ∨ ∃ z, xs = [.str z] ∧ z.length ≤ sizeLine ∧ Q (.int z.length) H
theorem call_lenU {X : Cx} : CallR X (.builtin "len") (rLenU X.K) := call_or call_len_seq call_len_str
def fLen (ds : List PyData) (R : PyData → Prop) : Prop := match ds with
  | [.list xs] => R (.int xs.length)
  | [.tuple xs] => R (.int xs.length)
  | [.str z] => z.length ≤ 10000000 ∧ R (.int z.length)
  | _ => False
theorem fit_len : FitC K (rLenU K) fLen := by
  intro ds R M H vs Q al w f k
  cases w with
  | nil => exact f.elim
  | cons a r =>
    cases r with
    | cons b c => cases a <;> exact f.elim
    | nil =>
      cases a with
      | lst s a => exact .inl ⟨_, _, rfl, .inl s.at, by rw [a.length]; exact k _ f _ _ (Same.refl _) (.int _)⟩
      | tup s a => exact .inl ⟨_, _, rfl, .inr s.at, by rw [a.length]; exact k _ f _ _ (Same.refl _) (.int _)⟩
      | str z => exact .inr ⟨_, rfl, small_line f.1, k _ f.2 _ _ (Same.refl _) (.int _)⟩
      | _ => exact f.elim
def fList (ds : List PyData) (R : PyData → Prop) : Prop := match ds with
  | [.list xs] => R (.list xs)
  | [.tuple xs] => R (.list xs)
  | _ => False
theorem fit_list : FitC K (fun xs H Q => ∃ p ys, xs = [.ref p] ∧ (SqL K H p ys ∨ SqT K H p ys) ∧ ∀ l H2, New H H2 l (.lst ys) → Q (.ref l) H2) fList := by
  intro ds R M H vs Q al w f k
  cases w with
  | nil => exact f.elim
  | cons a r =>
    cases r with
    | cons b c => cases a <;> exact f.elim
    | nil =>
      cases a with
      | lst s a => exact ⟨_, _, rfl, .inl s.at, fun p H2 n2 => k _ f _ _ n2.1 (.lst ⟨new_away al n2, n2.2.1⟩ (a.same n2.1))⟩
      | tup s a => exact ⟨_, _, rfl, .inr s.at, fun p H2 n2 => k _ f _ _ n2.1 (.lst ⟨new_away al n2, n2.2.1⟩ (a.same n2.1))⟩
      | _ => exact f.elim
def fTuple (ds : List PyData) (R : PyData → Prop) : Prop := match ds with
  | [.list xs] => R (.tuple xs)
  | [.tuple xs] => R (.tuple xs)
  | _ => False
theorem fit_tuple : FitC K (fun xs H Q => ∃ p ys, xs = [.ref p] ∧ ((SqL K H p ys ∧ ∀ l H2, New H H2 l (.tup ys) → Q (.ref l) H2) ∨ (SqT K H p ys ∧ Q (.ref p) H))) fTuple := by
  intro ds R M H vs Q al w f k
  cases w with
  | nil => exact f.elim
  | cons a r =>
    cases r with
    | cons b c => cases a <;> exact f.elim
    | nil =>
      cases a with
      | lst s a => exact ⟨_, _, rfl, .inl ⟨s.at, fun p H2 n2 => k _ f _ _ n2.1 (.tup (.inl ⟨new_away al n2, n2.2.1⟩) (a.same n2.1))⟩⟩
      | tup s a => exact ⟨_, _, rfl, .inr ⟨s.at, k _ f _ _ (Same.refl _) (.tup s a)⟩⟩
      | _ => exact f.elim
def fInt (ds : List PyData) (R : PyData → Prop) : Prop := match ds with
  | [.int i] => R (.int i)
  | [.bool b] => R (.int (if b then 1 else 0))
  | _ => False
theorem fit_int : FitC K (fun xs H Q => (∃ i, xs = [.int i] ∧ Q (.int i) H) ∨ ∃ k, xs = [.bl k] ∧ Q (.int (if k then 1 else 0)) H) fInt := by
  intro ds R M H vs Q al w f k
  cases w with
  | nil => exact f.elim
  | cons a r =>
    cases r with
    | cons b c => cases a <;> exact f.elim
    | nil =>
      cases a with
      | int i => exact .inl ⟨i, rfl, k _ f _ _ (Same.refl _) (.int _)⟩
      | bl b => exact .inr ⟨b, rfl, k _ f _ _ (Same.refl _) (.int _)⟩
      | _ => exact f.elim
def fI1 (g : Int → Int) (ds : List PyData) (R : PyData → Prop) : Prop := match ds with
  | [.int i] => R (.int (g i))
  | _ => False
theorem fit_abs : FitC K (fun xs H Q => ∃ i, xs = [.int i] ∧ Q (.int (if i < 0 then -i else i)) H) (fI1 fun i => if i < 0 then -i else i) := by
  intro ds R M H vs Q al w f k
  cases w with
  | nil => exact f.elim
  | cons a r =>
    cases r with
    | cons b c => cases a <;> exact f.elim
    | nil =>
      cases a with
      | int i => exact ⟨i, rfl, k _ f _ _ (Same.refl _) (.int _)⟩
      | _ => exact f.elim
def fI2 (g : Int → Int → Int) (ds : List PyData) (R : PyData → Prop) : Prop := match ds with
  | [.int i, .int j] => R (.int (g i j))
  | _ => False
theorem fit_max2 : FitC K (fun xs H Q => ∃ i j, xs = [.int i, .int j] ∧ Q (.int (if j > i then j else i)) H) (fI2 fun i j => if j > i then j else i) := by
  intro ds R M H vs Q al w f k
  cases w with
  | nil => exact f.elim
  | cons a r =>
    cases r with
    | nil => cases a <;> exact f.elim
    | cons b c =>
      cases c with
      | cons d e => cases a <;> first | exact f.elim | (cases b <;> exact f.elim)
      | nil =>
        cases a with
        | int i =>
          cases b with
          | int j => exact ⟨i, j, rfl, k _ f _ _ (Same.refl _) (.int _)⟩
          | _ => exact f.elim
        | _ => exact f.elim
theorem fit_min2 : FitC K (fun xs H Q => ∃ i j, xs = [.int i, .int j] ∧ Q (.int (if j < i then j else i)) H) (fI2 fun i j => if j < i then j else i) := by
  intro ds R M H vs Q al w f k
  cases w with
  | nil => exact f.elim
  | cons a r =>
    cases r with
    | nil => cases a <;> exact f.elim
    | cons b c =>
      cases c with
      | cons d e => cases a <;> first | exact f.elim | (cases b <;> exact f.elim)
      | nil =>
        cases a with
        | int i =>
          cases b with
          | int j => exact ⟨i, j, rfl, k _ f _ _ (Same.refl _) (.int _)⟩
          | _ => exact f.elim
        | _ => exact f.elim
def fOrdS (ds : List PyData) (R : PyData → Prop) : Prop := match ds with
  | [.str z] => z.length = 1 ∧ R (.int (z.cps.getD 0 0 : Nat))
  | _ => False
theorem fit_ord1 : FitC K (fun xs H Q => ∃ x, xs = [.str x] ∧ x.length = 1 ∧ Q (.int (x.cps.getD 0 0 : Nat)) H) fOrdS := by
  intro ds R M H vs Q al w f k
  cases w with
  | nil => exact f.elim
  | cons a r =>
    cases r with
    | cons b c => cases a <;> exact f.elim
    | nil =>
      cases a with
      | str z => exact ⟨z, rfl, f.1, k _ f.2 _ _ (Same.refl _) (.int _)⟩
      | _ => exact f.elim
def fAll (ds : List PyData) (R : PyData → Prop) : Prop := ∃ bs : List Bool, ds = [.list (bs.map PyData.bool)] ∧ R (.bool (bs.all id))
def fAny (ds : List PyData) (R : PyData → Prop) : Prop := ∃ bs : List Bool, ds = [.list (bs.map PyData.bool)] ∧ R (.bool (bs.any id))
theorem bools_of {M : Addr → Prop} {H : Hp} : ∀ {vs : List V} {bs : List Bool}, DwAll K M H vs (bs.map PyData.bool) → vs = bs.map V.bl
  | _, [], h => by cases h; rfl
  | _, b :: bs, h => by
    cases h with
    | cons a r => cases a; rw [bools_of r]; rfl
theorem fit_all : FitC K (rAll K) fAll := by
  intro ds R M H vs Q al w f k
  obtain ⟨bs, rfl, r⟩ := f
  match w with
  | .cons (.lst s a) .nil =>
    cases bools_of a
    exact ⟨_, bs, rfl, s.at, k _ r _ _ (Same.refl _) (.bl _)⟩
theorem fit_any : FitC K (rAny K) fAny := by
  intro ds R M H vs Q al w f k
  obtain ⟨bs, rfl, r⟩ := f
  match w with
  | .cons (.lst s a) .nil =>
    cases bools_of a
    exact ⟨_, bs, rfl, s.at, k _ r _ _ (Same.refl _) (.bl _)⟩
end
/-! ### isinstance -/
def qIs (p : PyData → Bool) (t : TD) : TD := fun ρ n R => t ρ n fun d n1 => R (.bool (p d)) n1
section
variable {X : Cx} {e : Expr}
theorem de_isi {T : String} {p : PyData → Bool} {t : TD} (hT : T ∈ ["int", "bool", "str", "list", "tuple"]) (hp : ∀ d : PyData, PySem.W.kitOne X.K (.type (tyName d)) (.type T) = some (p d)) (hd : ∀ ks, p (.dict ks) = false) (h : PE X e (tCB (rIsiY X.K) (tCons (tD X.K o t) (tCons (tC (.ty T)) tNil)))) : PE X e (tD X.K o (qIs p t)) := PE.imp h fun σ H Q ⟨W, ρ, n, R, E, g, t, k⟩ =>
  ⟨W, ρ, n, _, E, g, t, fun d n1 r v H1 F1 g1 w => by
    obtain ⟨ty, h1, h2⟩ := w.isi hT hp hd
    exact ⟨v, .ty T, ty, _, p d, rfl, .ty _, h1, h2, k _ n1 r _ H1 F1 g1 (.bl _)⟩⟩
theorem de_isi_str {t : TD} (h : PE X e (tCB (rIsiY X.K) (tCons (tD X.K o t) (tCons (tC (.ty "str")) tNil)))) : PE X e (tD X.K o (qIs isStrD t)) := de_isi (by simp) (fun d => kit_str d) (fun _ => rfl) h
theorem de_isi_int {t : TD} (h : PE X e (tCB (rIsiY X.K) (tCons (tD X.K o t) (tCons (tC (.ty "int")) tNil)))) : PE X e (tD X.K o (qIs (fun d => isIntD d || isBoolD d) t)) := de_isi (by simp) (fun d => kit_int d) (fun _ => rfl) h
theorem de_isi_bool {t : TD} (h : PE X e (tCB (rIsiY X.K) (tCons (tD X.K o t) (tCons (tC (.ty "bool")) tNil)))) : PE X e (tD X.K o (qIs isBoolD t)) := de_isi (by simp) (fun d => kit_bool d) (fun _ => rfl) h
theorem de_isi_seq {t : TD} (h : PE X e (tCB (rIsiTY X.K) (tCons (tD X.K o t) (tCons (tTupN (tCons (tC (.ty "list")) (tCons (tC (.ty "tuple")) tNil))) tNil)))) : PE X e (tD X.K o (qIs (fun d => (seqD d).isSome) t)) := PE.imp h fun σ H Q ⟨W, ρ, n, R, E, g, t, k⟩ =>
  ⟨W, ρ, n, _, E, g, t, fun d n1 r v H1 F1 g1 w => ⟨small_line (by decide), fun p H2 n2 => by
    obtain ⟨ty, h1, h2⟩ := (w.same n2.1).isSeq
    exact ⟨v, p, _, ty, _, _, rfl, n2.2.1, .cons (.ty _) (.cons (.ty _) .nil), h1, h2, k _ n1 r _ H2 (W.trans F1 (W.of n2.1)) (W.same g1 n2.1) (.bl _)⟩⟩⟩
end
end MT
set_option maxHeartbeats 1000000
/-! walks over data: loops, comprehensions -/
namespace MT
open PySem L2
def Wlk (J : It) (P : Hp → Prop) (vs : List V) : Prop := ∀ i H, P H → (i < vs.length → J.go i H) ∧ (vs.length ≤ i → J.stop i H) ∧ ∀ v H', J.yld i H v H' → H' = H ∧ (i < vs.length → vs[i]? = some v)
section
variable {K : PySem.W.Frag}
theorem wlk_list {a : Addr} {xs : List V} : Wlk (Itl K a) (fun H => SqL K H a xs) xs := fun i H s =>
  ⟨fun h => ⟨xs, xs[i], s, List.getElem?_eq_getElem h⟩, fun h => ⟨xs, s, h⟩, fun v H' y => ⟨y.1, fun _ => y.2 xs s⟩⟩
theorem wlk_tup {a : Addr} {xs : List V} : Wlk (Itt K a) (fun H => SqT K H a xs) xs := fun i H s =>
  ⟨fun h => ⟨xs, xs[i], s, List.getElem?_eq_getElem h⟩, fun h => ⟨xs, s, h⟩, fun v H' y => ⟨y.1, fun _ => y.2 xs s⟩⟩
theorem wlk_str {z : Str} : Wlk (Its z) (fun _ => True) (z.cps.toList.map fun c => V.str ⟨#[c]⟩) := fun i H _ => by
  have l : (z.cps.toList.map fun c => V.str ⟨#[c]⟩).length = z.cps.size := by rw [List.length_map, Array.length_toList]
  refine ⟨fun h => (by show i < z.cps.size; omega), fun h => (by show z.cps.size ≤ i; omega), fun v H' y => ?_⟩
  obtain ⟨rfl, c, hc, rfl⟩ := y
  refine ⟨rfl, fun _ => ?_⟩
  rw [List.getElem?_map, Array.getElem?_toList, hc]
  rfl
theorem wlk_rng {lo : Int} {n : Nat} : Wlk (Itr lo n) (fun _ => True) ((List.range n).map fun i => V.int (lo + (i : Nat))) := fun i H _ => by
  have l : ((List.range n).map fun i => V.int (lo + (i : Nat))).length = n := by rw [List.length_map, List.length_range]
  refine ⟨fun h => (by show i < n; omega), fun h => (by show n ≤ i; omega), fun v H' y => ?_⟩
  obtain ⟨rfl, rfl⟩ := y
  refine ⟨rfl, fun h => ?_⟩
  rw [List.getElem?_map, List.getElem?_range (by omega)]
  rfl
end
/-! ### where items come from -/
abbrev TDI := List DS → Nat → (List PyData → Nat → Prop) → Prop
def tDI (K : PySem.W.Frag) (o : Option TSet) (t : TDI) : TI := fun σ H R => ∃ (W : Fld) (ρ : List DS) (n : Nat) (Q : List PyData → Nat → Prop), EnvD K o W.M (W.a, W.ts, W.ov) ρ σ H ∧ W.G n H ∧ t ρ n Q ∧ ∀ ds n', Q ds n' → ∀ J H', W.Rel H H' → W.G n' H' →
  (∃ P vs, Wlk J P vs ∧ DwAll K W.M H' vs ds ∧ ∀ H'', Fx W.M H' H'' → P H'') → R J H'
theorem PI.imp {X : Cx} {tg e : Expr} {t t' : TI} (h : PI X tg e t) (i : ∀ σ H R, t' σ H R → t σ H R) : PI X tg e t' := ⟨fun pins s σ H R I q => h.run pins s σ H R I (i σ H R q)⟩
/-- a list, a tuple or a text -/
def iU (K : PySem.W.Frag) (tl : TE) : TI := fun σ H R => tl σ H fun x H1 => (∃ a xs, x = .ref a ∧ SqL K H1 a xs ∧ R (Itl K a) H1) ∨ (∃ a xs, x = .ref a ∧ SqT K H1 a xs ∧ R (Itt K a) H1) ∨ ∃ z, x = .str z ∧ R (Its z) H1
theorem pi_U {X : Cx} {tg l : Expr} {tl : TE} (hl : PE X l tl) : PI X tg l (iU X.K tl) := by
  refine ⟨fun pns st sl Hs R I0 told => thn (hl.run pns st sl Hs _ I0 told) fun got st1 ⟨y, Ht, J, ry, q⟩ => ?_⟩
  rcases q with ⟨a, xs, ey, isL, go⟩ | ⟨a, xs, ey, isT, go⟩ | ⟨x, ex, q⟩
  · subst ey
    cases ry
    have free : ∀ b ∈ [st1.heap.objs.size], FpOk X pns Ht b := fun b hb => by
      rw [List.mem_singleton] at hb
      rw [hb]
      exact J.fpOk (Nat.le_refl _) (J.hok.fresh (Nat.le_refl _))
    obtain ⟨items, _, plain, _⟩ := J.list isL
    exact wpAny_pyIter_list plain.isList ⟨_, [st1.heap.objs.size], _, _, Ht, rfl, J.kept (t' := st1.toks) (fun _ _ e => Heap.get?_push_of_some _ e), turn_list a _, ⟨_, Heap.get?_push_size _ rfl, rfl, rfl⟩, free, go⟩
  · subst ey
    cases ry
    have free : ∀ b ∈ [st1.heap.objs.size], FpOk X pns Ht b := fun b hb => by
      rw [List.mem_singleton] at hb
      rw [hb]
      exact J.fpOk (Nat.le_refl _) (J.hok.fresh (Nat.le_refl _))
    obtain ⟨items, _, plain, _⟩ := J.tuple isT
    exact wpAny_pyIter_tuple (show st1.heap.IsTuple a items.toArray from plain) ⟨_, [st1.heap.objs.size], _, _, Ht, rfl, J.kept (t' := st1.toks) (fun _ _ e => Heap.get?_push_of_some _ e), turn_tuple a _, ⟨_, Heap.get?_push_size _ rfl, rfl, rfl⟩, free, go⟩
  · subst ex
    obtain ⟨t, rfl⟩ := ry
    cases ha : x.cps.all (· < 128)
    · exact wpAny_pyIter_wide ha (pi_one (tk := st1.toks) J _ (turn_str _ x t "str_iterator" (.inr rfl)) ⟨_, Heap.get?_push_size _ rfl, rfl, rfl⟩ q)
    · exact wpAny_pyIter_ascii ha (pi_one (tk := st1.toks) J _ (turn_str _ x t "str_ascii_iterator" (.inl rfl)) ⟨_, Heap.get?_push_size _ rfl, rfl, rfl⟩ q)
def signsD (z : Str) : List PyData := z.cps.toList.map fun c => PyData.str ⟨#[c]⟩
def itemsD : PyData → Option (List PyData)
  | .list ds => some ds
  | .tuple ds => some ds
  | .str z => some (signsD z)
  | _ => none
theorem dw_signs {K : PySem.W.Frag} {M : Addr → Prop} {H : Hp} : ∀ l : List Nat, DwAll K M H (l.map fun c => V.str ⟨#[c]⟩) (l.map fun c => PyData.str ⟨#[c]⟩)
  | [] => .nil
  | c :: l => .cons (.str _) (dw_signs l)
def qItU (t : TD) : TDI := fun ρ n Q => t ρ n fun d n' => ∃ ds, itemsD d = some ds ∧ Q ds n'
theorem di_U {X : Cx} {tg e : Expr} {t : TD} (h : PI X tg e (iU X.K (tD X.K o t))) : PI X tg e (tDI X.K o (qItU t)) := PI.imp h fun σ H R ⟨W, ρ, n, Q, E, g, t, k⟩ =>
  ⟨W, ρ, n, _, E, g, t, fun d n1 ⟨ds, e, r⟩ v H1 F1 g1 w => by
    cases w with
    | lst s a =>
      cases e
      exact .inl ⟨_, _, rfl, s.at, k _ n1 r _ H1 F1 g1 ⟨_, _, wlk_list, a, fun H2 F2 => (s.frm F2).at⟩⟩
    | tup s a =>
      cases e
      exact .inr (.inl ⟨_, _, rfl, s.at, k _ n1 r _ H1 F1 g1 ⟨_, _, wlk_tup, a, fun H2 F2 => (s.frm F2).at⟩⟩)
    | str z =>
      cases e
      exact .inr (.inr ⟨z, rfl, k _ n1 r _ H1 F1 g1 ⟨_, _, wlk_str, dw_signs _, fun _ _ => trivial⟩⟩)
    | _ => cases e⟩
/-- range -/
def qIt1 (u : TDA) : TDI := fun ρ n Q => u ρ n fun ds n' => ∃ j : Int, ds = [.int j] ∧ -(2 ^ 62) ≤ j ∧ j < 2 ^ 62 ∧ Q ((List.range j.toNat).map fun i => PyData.int (0 + (i : Nat))) n'
def qIt2 (u : TDA) : TDI := fun ρ n Q => u ρ n fun ds n' => ∃ i j : Int, ds = [.int i, .int j] ∧ (-(2 ^ 62) ≤ i ∧ i < 2 ^ 62 ∧ -(2 ^ 62) ≤ j ∧ j < 2 ^ 62) ∧ Q ((List.range (j - i).toNat).map fun k => PyData.int (i + (k : Nat))) n'
theorem dw_ints {K : PySem.W.Frag} {M : Addr → Prop} {H : Hp} (f : Nat → Int) : ∀ l : List Nat, DwAll K M H (l.map fun i => V.int (f i)) (l.map fun i => PyData.int (f i))
  | [] => .nil
  | c :: l => .cons (.int _) (dw_ints f l)
theorem di_1 {X : Cx} {tg e : Expr} {u : TDA} (h : PI X tg e (iRng1 (tDA X.K o u))) : PI X tg e (tDI X.K o (qIt1 u)) := PI.imp h fun σ H R ⟨W, ρ, n, Q, E, g, t, k⟩ =>
  ⟨W, ρ, n, _, E, g, t, fun ds n1 ⟨j, e, h1, h2, r⟩ vs H1 F1 g1 w => by
    subst e
    cases w with
    | cons a b =>
      cases a
      cases b
      exact ⟨j, rfl, h1, h2, k _ n1 r _ H1 F1 g1 ⟨_, _, wlk_rng, dw_ints (fun i => 0 + (i : Nat)) _, fun _ _ => trivial⟩⟩⟩
theorem di_2 {X : Cx} {tg e : Expr} {u : TDA} (h : PI X tg e (iRng2 (tDA X.K o u))) : PI X tg e (tDI X.K o (qIt2 u)) := PI.imp h fun σ H R ⟨W, ρ, n, Q, E, g, t, k⟩ =>
  ⟨W, ρ, n, _, E, g, t, fun ds n1 ⟨i, j, e, h1, r⟩ vs H1 F1 g1 w => by
    subst e
    cases w with
    | cons a b =>
      cases a
      cases b with
      | cons c d =>
        cases c
        cases d
        exact ⟨i, j, rfl, h1, k _ n1 r _ H1 F1 g1 ⟨_, _, wlk_rng, dw_ints (fun k => i + (k : Nat)) _, fun _ _ => trivial⟩⟩⟩
/-! ### targets -/
def GFit (K : PySem.W.Frag) (vs : List Nat) (g : TG) (f : PyData → List DS → (List DS → Prop) → Prop) : Prop := ∀ (o : Option TSet) (M : Addr → Prop) (a : Option Addr × Option TSet × (Nat → V)) (H : Hp) (v : V) (d : PyData) (ρ : List DS) (σ : L2.St) (R : List DS → Prop) (Q : L2.St → Hp → Prop),
  Dw K M H v d → EnvD K o M a ρ σ H → f d ρ R → (∀ ρ', R ρ' → ∀ σ', EnvD K o M a ρ' σ' H → wipe σ' vs = wipe σ vs → Q σ' H) → g v σ H Q
def fName (i : Nat) (d : PyData) (ρ : List DS) (R : List DS → Prop) : Prop := R (ρ.set i (DS.d d))
theorem fit_name {K : PySem.W.Frag} {i : Nat} : GFit K [i] (gName i) (fName i) := fun o M a H v d ρ σ R Q w E f k => k _ f _ (E.set i w) (by
  unfold wipe wipe
  rw [List.set_set])
def fPair (i j : Nat) (d : PyData) (ρ : List DS) (R : List DS → Prop) : Prop := ∃ x y, seqD d = some [x, y] ∧ R ((ρ.set i (DS.d x)).set j (DS.d y))
def wipeD (ρ : List DS) : List Nat → List DS
  | [] => ρ
  | v :: vs => (wipeD ρ vs).set v .no
theorem wipe_at (σ : L2.St) : ∀ (vs : List Nat) (j : Nat), j ∈ vs → (L2.wipe σ vs).set j none = L2.wipe σ vs
  | v :: vs, j, h => by
    show ((L2.wipe σ vs).set v none).set j none = (L2.wipe σ vs).set v none
    by_cases e : j = v
    · rw [e, List.set_set]
    · rw [List.set_comm _ _ (fun z => e z.symm), wipe_at σ vs j ((List.mem_cons.mp h).resolve_left e)]
theorem wipe_fix (τ : L2.St) : ∀ vs : List Nat, (∀ j ∈ vs, τ.set j none = τ) → L2.wipe τ vs = τ
  | [], _ => rfl
  | v :: vs, h => by
    show (L2.wipe τ vs).set v none = τ
    rw [wipe_fix τ vs fun j hj => h j (List.mem_cons_of_mem _ hj)]
    exact h v List.mem_cons_self
theorem wipe_wipe (σ : L2.St) (vs : List Nat) : L2.wipe (L2.wipe σ vs) vs = L2.wipe σ vs := wipe_fix _ vs fun j hj => wipe_at σ vs j hj
theorem EnvD.wipe {K : PySem.W.Frag} {o : Option TSet} {M : Addr → Prop} {a : Option Addr × Option TSet × (Nat → V)} {ρ : List DS} {σ : L2.St} {H : Hp} (E : EnvD K o M a ρ σ H) : ∀ vs, EnvD K o M a (wipeD ρ vs) (L2.wipe σ vs) H
  | [] => E
  | v :: vs => (E.wipe vs).setn v
/-! ### for -/
def qFor (f : PyData → List DS → (List DS → Prop) → Prop) (src : TDI) (tb : TDS) : TDS := fun ρ n Rn Rr => src ρ n fun ds n1 => ∃ I : Nat → List DS → Nat → Prop, I 0 ρ n1 ∧
  (∀ i x ρ' m, ds[i]? = some x → I i ρ' m → f x ρ' fun ρ2 => tb ρ2 m (fun ρ'' m' => I (i + 1) ρ'' m') Rr) ∧ ∀ ρ' m, I ds.length ρ' m → Rn ρ' m
theorem ds_for {X : Cx} {st : Stmt} {vs0 : List Nat} {g : TG} {f} {src : TDI} {tb : TDS} (hf : GFit X.K vs0 g f) (h : PS X st (tFor (tDI X.K o src) g (tDs X.K o tb))) : PS X st (tDs X.K o (qFor f src tb)) := PS.imp h fun D σ H ⟨W, ρ, n, Rn, Rr, E, gg, t, k1, k2⟩ =>
  ⟨W, ρ, n, _, E, gg, t, fun ds n1 ⟨I, h0, hs, hd⟩ J H1 F1 g1 ⟨P, vs, wk, da, hP⟩ => by
    have ln := da.length
    refine ⟨fun i m σ' H' => m = ds.length - i ∧ i ≤ ds.length ∧ ∃ ρ' c, I i ρ' c ∧ EnvD X.K o W.M (W.a, W.ts, W.ov) ρ' σ' H' ∧ W.G c H' ∧ W.Rel H1 H', ⟨_, rfl, Nat.zero_le _, ρ, n1, h0, E.frm (W.frm F1), g1, W.refl⟩, ?_⟩
    rintro i m σ' H' ⟨rfl, hi, ρ', c, inv, E', g', F'⟩
    have w := wk i H' (hP _ (W.frm F'))
    by_cases hlt : i < ds.length
    · refine .inr ⟨w.1 (by omega), fun σ2 H2 => i + 1 ≤ ds.length ∧ ∃ ρ' c, I (i + 1) ρ' c ∧ EnvD X.K o W.M (W.a, W.ts, W.ov) ρ' σ2 H2 ∧ W.G c H2 ∧ W.Rel H1 H2, fun σ2 H2 q => ⟨_, by omega, rfl, q⟩, fun x H2 y => ?_⟩
      obtain ⟨e2, y2⟩ := w.2.2 x H2 y
      subst e2
      obtain ⟨d, hd1, hd2⟩ := da.get (y2 (by omega))
      refine hf o W.M (W.a, W.ts, W.ov) _ x d ρ' σ' _ _ (hd2.frm (W.frm F')) E' (hs i d ρ' c hd1 inv) fun ρ2 r2 σ2 E2 _ => ?_
      exact ⟨W, ρ2, c, _, Rr, E2, g', r2, fun ρ3 m3 r3 σ3 H3 F3 g3 E3 => ⟨hlt, ρ3, m3, r3, E3, g3, W.trans F' F3⟩, fun d3 m3 r3 v3 H3 F3 g3 w3 => k2 d3 m3 r3 v3 H3 (W.trans F1 (W.trans F' F3)) g3 w3⟩
    · have e : i = ds.length := by omega
      subst e
      exact .inl ⟨w.2.1 (by omega), k1 ρ' c (hd ρ' c inv) σ' H' (W.trans F1 F') g' E'⟩⟩
/-- a = .. with more names -/
def qAsg (f : PyData → List DS → (List DS → Prop) → Prop) (t : TD) : TDS := fun ρ n Rn _ => t ρ n fun d n' => f d ρ fun ρ' => Rn ρ' n'
theorem ds_asg {X : Cx} {st : Stmt} {vs0 : List Nat} {g : TG} {f} {t : TD} (hf : GFit X.K vs0 g f) (h : PS X st (tAsg (tD X.K o t) g)) : PS X st (tDs X.K o (qAsg f t)) := PS.imp h fun D σ H ⟨W, ρ, n, Rn, Rr, E, gg, t, k1, k2⟩ =>
  ⟨W, ρ, n, _, E, gg, t, fun d n1 r v H1 F1 g1 w => hf o W.M (W.a, W.ts, W.ov) H1 v d ρ σ _ _ w (E.frm (W.frm F1)) r fun ρ' r' σ' E' _ => k1 ρ' n1 r' σ' H1 F1 g1 E'⟩
/-! ### [.. for ..] -/
def qLc (vs : List Nat) (f : PyData → List DS → (List DS → Prop) → Prop) (src : TDI) (tt : TDB) (te : TD) : TD := fun ρ n R => src ρ n fun ds n1 => ds.length ≤ 10000000 ∧ ∃ A : Nat → List PyData → Nat → Prop, A 0 [] n1 ∧
  (∀ i x acc m, ds[i]? = some x → A i acc m → f x (wipeD ρ vs) fun ρ' => tt ρ' m fun b m' => if b = true then te ρ' m' fun y m'' => A (i + 1) (acc ++ [y]) m'' else A (i + 1) acc m') ∧
  ∀ acc m, A ds.length acc m → acc.length ≤ ds.length → R (.list acc) m
theorem lc_over {K : PySem.W.Frag} {vs0 : List Nat} {g : TG} {f} {src : TDI} {tt : TDB} {te : TD} (hf : GFit K vs0 g f) {σ : L2.St} {H : Hp} {Q : VK} : tD K o (qLc vs0 f src tt te) σ H Q → tLc (tDI K o src) g (tDB K o tt) (tD K o te) vs0 σ H Q := fun ⟨W, ρ, n, R, E, gg, t, k⟩ =>
  ⟨W, ρ, n, _, E, gg, t, fun ds n1 ⟨hlen, A, h0, hs, hd⟩ J H1 F1 g1 ⟨P, vs, wk, da, hP⟩ D hD => by
    have ln := da.length
    have nD : ¬ W.M D := fun m => by
      obtain ⟨ob, q, _⟩ := W.al g1 m
      rw [hD] at q
      cases q
    have EM : EnvD K o (fun c => W.M c ∨ c = D) (W.a, W.ts, W.ov) ρ σ H1 := (E.frm (W.frm F1)).more fun c o m q => m.elim id fun e => by rw [e, hD] at q; cases q
    have DM : DwAll K (fun c => W.M c ∨ c = D) H1 vs ds := da.more fun c o m q => m.elim id fun e => by rw [e, hD] at q; cases q
    refine ⟨fun i m H' => m = ds.length - i ∧ i ≤ ds.length ∧ ∃ acc av c, A i acc c ∧ H' D = some (.lst av) ∧ DwAll K (fun c => W.M c ∨ c = D) H' av acc ∧ av.length ≤ i ∧ W.G c H' ∧ W.Rel H1 H',
      ⟨_, rfl, Nat.zero_le _, [], [], n1, h0, upd_same, .nil, Nat.le_refl _, W.updG g1 hD g1 (fun u e => by rw [hD] at e; cases e), W.updR W.refl hD⟩, ?_⟩
    rintro i m H' ⟨rfl, hi, acc, av, c, inv, hDa, hav, hal, g', F'⟩
    have w := wk i H' (hP _ (W.frm F'))
    have FM : Fx (fun c => W.M c ∨ c = D) H1 H' := (W.frm F').mono fun c e => .inl e
    by_cases hlt : i < ds.length
    · refine .inr ⟨w.1 (by omega), fun H2 => i + 1 ≤ ds.length ∧ ∃ acc av c, A (i + 1) acc c ∧ H2 D = some (.lst av) ∧ DwAll K (fun c => W.M c ∨ c = D) H2 av acc ∧ av.length ≤ i + 1 ∧ W.G c H2 ∧ W.Rel H1 H2, fun H2 q => ⟨_, by omega, rfl, q⟩, fun x H2 y => ?_⟩
      obtain ⟨e2, y2⟩ := w.2.2 x H2 y
      subst e2
      obtain ⟨d, hd1, hd2⟩ := DM.get (y2 (by omega))
      refine hf o _ (W.a, W.ts, W.ov) _ x d (wipeD ρ vs0) (wipe σ vs0) _ _ (hd2.frm FM) ((EM.frm FM).wipe vs0) (hs i d acc c hd1 inv) fun ρ2 r2 σ2 E2 ew => ⟨by rw [ew]; exact wipe_wipe σ vs0, ?_⟩
      refine ⟨W.plus D (.lst av) (fun _ z => by cases z) nD, ρ2, c, _, E2, ⟨g', hDa⟩, r2, fun b m3 r3 H3 F3 g3 => ?_⟩
      cases b with
      | false => exact ⟨hlt, acc, av, m3, r3, g3.2, hav.frm ((W.plus D (.lst av) (fun _ z => by cases z) nD).frm F3), Nat.le_succ_of_le hal, g3.1, W.trans F' F3⟩
      | true =>
        refine ⟨W.plus D (.lst av) (fun _ z => by cases z) nD, ρ2, m3, _, E2.frm ((W.plus D (.lst av) (fun _ z => by cases z) nD).frm F3), g3, r3, fun y m4 r4 v4 H4 F4 g4 w4 => ⟨av, g4.2, by rw [sizeLine_eq]; omega, hlt, acc ++ [y], av ++ [v4], m4, r4, upd_same, ?_, by rw [List.length_append]; exact Nat.succ_le_succ hal, W.updG g1 hD g4.1 (fun u e => by rw [g4.2] at e; cases e; trivial), W.updR (W.trans F' (W.trans F3 F4)) hD⟩⟩
        have h4 := hav.frm ((W.plus D (.lst av) (fun _ z => by cases z) nD).frm (W.trans F3 F4))
        exact (h4.append (.cons w4 .nil)).frm (fx_frm (Frm.mono (frm_upd (a := D)) fun c e => .inr e))
    · have e : i = ds.length := by omega
      subst e
      have hl := hav.length
      exact .inl ⟨w.2.1 (by omega), k _ c (hd acc c inv (by omega)) _ H' (W.trans F1 F') g' (.lst ⟨nD, hDa⟩ (hav.more fun c o m _ => .inl m))⟩⟩
theorem de_lc {X : Cx} {e : Expr} {vs0 : List Nat} {g : TG} {f} {src : TDI} {tt : TDB} {te : TD} (hf : GFit X.K vs0 g f) (h : PE X e (tLc (tDI X.K o src) g (tDB X.K o tt) (tD X.K o te) vs0)) : PE X e (tD X.K o (qLc vs0 f src tt te)) := PE.imp h fun _ _ _ => lc_over hf
end MT
set_option maxHeartbeats 1000000
/-! calls over data; texts -/
namespace MT
open PySem L2
abbrev FD := List PyData → (PyData → Prop) → Prop
/-- a def that changes nothing -/
def spPure (K : PySem.W.Frag) (P : FD) : Sp := fun vs H Q _ => ∃ (M : Addr → Prop) (ds : List PyData) (R : PyData → Prop), Al M H ∧ DwAll K M H vs ds ∧ P ds R ∧ ∀ d, R d → ∀ v H', Same H H' → Dw K M H' v d → Q v H'
/-- .. that may raise -/
def spX (K : PySem.W.Frag) (P : List PyData → (PyData → Prop) → (Addr → List (Str × V) → Prop) → Prop) : Sp := fun vs H Q E => ∃ (M : Addr → Prop) (ds : List PyData) (R : PyData → Prop) (Rx : Addr → List (Str × V) → Prop), Al M H ∧ DwAll K M H vs ds ∧ P ds R Rx ∧ (∀ d, R d → ∀ v H', Same H H' → Dw K M H' v d → Q v H') ∧
  ∀ C fs, Rx C fs → ∀ a H', New H H' a (.xd fs) → E (.ref C) (some a) H'
/-- a def that draws with its first, at most c times -/
def spDr (K : PySem.W.Frag) (c : Nat) (P : FD) : Sp := fun vs H Q _ => ∃ (M : Addr → Prop) (a b : Addr) (cs : List Int) (n : Nat) (us : List V) (ds : List PyData) (R : PyData → Prop), vs = .ref a :: us ∧ M a ∧ Al M H ∧ Sx a b cs n H ∧ n + c ≤ 1000000 ∧ DwAll K M H us ds ∧ P ds R ∧
  ∀ d, R d → ∀ v H', Frm (· = a) H H' → Sx a b cs (n + c) H' → Dw K M H' v d → Q v H'
section
variable {X : Cx} {e : Expr} {E : XK}
theorem de_call {P : FD} {u : TDA} (h : PE X e (tCall (spPure X.K P) [] E (tDA X.K o u))) : PE X e (tD X.K o (qCB P u)) := PE.imp h fun σ H Q ⟨W, ρ, n, R, E, g, t, k⟩ =>
  ⟨W, ρ, n, _, E, g, t, fun ds n1 t1 vs H1 F1 g1 w => ⟨W.M, ds, _, fun c m => W.al g1 m, by rw [List.append_nil]; exact w, t1, fun d r v H' s w' => k d n1 r v H' (W.trans F1 (W.of s)) (W.same g1 s) w'⟩⟩
theorem de_callX {P} {u : TDA} (h : PE X e (tCall (spX X.K P) [] E (tDA X.K o u))) : PE X e (tD X.K o (qCB (fun ds R => P ds R fun _ _ => False) u)) := PE.imp h fun σ H Q ⟨W, ρ, n, R, E, g, t, k⟩ =>
  ⟨W, ρ, n, _, E, g, t, fun ds n1 t1 vs H1 F1 g1 w => ⟨W.M, ds, _, _, fun c m => W.al g1 m, by rw [List.append_nil]; exact w, t1, fun d r v H' s w' => k d n1 r v H' (W.trans F1 (W.of s)) (W.same g1 s) w', fun _ _ z => z.elim⟩⟩
theorem PK.imp {kws : List Keyword} {t t' : TA} (h : PK X kws t) (i : ∀ σ H Q, t' σ H Q → t σ H Q) : PK X kws t' := ⟨fun pos pins s σ H Q I q => h.run pos pins s σ H Q I (i σ H Q q)⟩
theorem nil_over {K : PySem.W.Frag} {σ : L2.St} {H : Hp} {Q : List V → Hp → Prop} : tDA K o qNil σ H Q → tNil σ H Q := fun ⟨W, ρ, n, R, E, g, r, k⟩ => k _ n r _ H W.refl g .nil
theorem cons_over {K : PySem.W.Frag} {t : TD} {u : TDA} {σ : L2.St} {H : Hp} {Q : List V → Hp → Prop} : tDA K o (qCons t u) σ H Q → tCons (tD K o t) (tDA K o u) σ H Q := fun ⟨W, ρ, n, R, E, g, r, k⟩ =>
  ⟨W, ρ, n, _, E, g, r, fun d n1 r1 v H1 F1 g1 w1 => ⟨W, ρ, n1, _, E.frm (W.frm F1), g1, r1, fun ds n2 r2 vs H2 F2 g2 w2 => k _ n2 r2 _ H2 (W.trans F1 F2) g2 (.cons (w1.frm (W.frm F2)) w2)⟩⟩
theorem dk_nil {kws : List Keyword} (h : PK X kws tNil) : PK X kws (tDA X.K o qNil) := PK.imp h fun _ _ _ => nil_over
theorem dk_cons {kws : List Keyword} {t : TD} {u : TDA} (h : PK X kws (tCons (tD X.K o t) (tDA X.K o u))) : PK X kws (tDA X.K o (qCons t u)) := PK.imp h fun _ _ _ => cons_over
/-- by names -/
def qKw (n m : Nat) (g : List PyData → List PyData → List PyData) (P : FD) (ta tk : TDA) : TD := fun ρ c R => ta ρ c fun ds c1 => tk ρ c1 fun es c2 => ds.length = n ∧ es.length = m ∧ P (g ds es) fun d => R d c2
theorem de_callN {n m : Nat} {gV : List V → List V → List V} {gD : List PyData → List PyData → List PyData} {P : FD} {ta tk : TDA}
    (hg : ∀ {M : Addr → Prop} {H : Hp} {vs zs : List V} {ds es : List PyData}, DwAll X.K M H vs ds → DwAll X.K M H zs es → DwAll X.K M H (gV vs zs) (gD ds es))
    (h : PE X e (L2.tCallN n m (spPure X.K P) gV E (tDA X.K o ta) (tDA X.K o tk))) : PE X e (tD X.K o (qKw n m gD P ta tk)) := PE.imp h fun σ H Q ⟨W, ρ, c, R, E, g, t, k⟩ =>
  ⟨W, ρ, c, _, E, g, t, fun ds c1 t1 vs H1 F1 g1 w => ⟨W, ρ, c1, _, E.frm (W.frm F1), g1, t1, fun es c2 ⟨l1, l2, t2⟩ zs H2 F2 g2 w2 => ⟨w.length.trans l1, w2.length.trans l2, W.M, _, _, fun c m => W.al g2 m, hg (w.frm (W.frm F2)) w2, t2, fun d r v H' s w' => k d c2 r v H' (W.trans F1 (W.trans F2 (W.of s))) (W.same g2 s) w'⟩⟩⟩
theorem de_callN0 {m : Nat} {gV : List V → List V → List V} {gD : List PyData → List PyData → List PyData} {P : FD} {tk : TDA}
    (hg : ∀ {M : Addr → Prop} {H : Hp} {vs zs : List V} {ds es : List PyData}, DwAll X.K M H vs ds → DwAll X.K M H zs es → DwAll X.K M H (gV vs zs) (gD ds es))
    (h : PE X e (L2.tCallN 0 m (spPure X.K P) gV E tNil (tDA X.K o tk))) : PE X e (tD X.K o (qKw 0 m gD P qNil tk)) := de_callN (ta := qNil) hg (PE.imp h fun σ H Q q => nil_over q)
theorem de_callNX {n m : Nat} {gV : List V → List V → List V} {gD : List PyData → List PyData → List PyData} {P} {ta tk : TDA}
    (hg : ∀ {M : Addr → Prop} {H : Hp} {vs zs : List V} {ds es : List PyData}, DwAll X.K M H vs ds → DwAll X.K M H zs es → DwAll X.K M H (gV vs zs) (gD ds es))
    (h : PE X e (L2.tCallN n m (spX X.K P) gV E (tDA X.K o ta) (tDA X.K o tk))) : PE X e (tD X.K o (qKw n m gD (fun ds R => P ds R fun _ _ => False) ta tk)) := PE.imp h fun σ H Q ⟨W, ρ, c, R, E, g, t, k⟩ =>
  ⟨W, ρ, c, _, E, g, t, fun ds c1 t1 vs H1 F1 g1 w => ⟨W, ρ, c1, _, E.frm (W.frm F1), g1, t1, fun es c2 ⟨l1, l2, t2⟩ zs H2 F2 g2 w2 => ⟨w.length.trans l1, w2.length.trans l2, W.M, _, _, _, fun c m => W.al g2 m, hg (w.frm (W.frm F2)) w2, t2, fun d r v H' s w' => k d c2 r v H' (W.trans F1 (W.trans F2 (W.of s))) (W.same g2 s) w', fun _ _ z => z.elim⟩⟩⟩
theorem de_callNX0 {m : Nat} {gV : List V → List V → List V} {gD : List PyData → List PyData → List PyData} {P} {tk : TDA}
    (hg : ∀ {M : Addr → Prop} {H : Hp} {vs zs : List V} {ds es : List PyData}, DwAll X.K M H vs ds → DwAll X.K M H zs es → DwAll X.K M H (gV vs zs) (gD ds es))
    (h : PE X e (L2.tCallN 0 m (spX X.K P) gV E tNil (tDA X.K o tk))) : PE X e (tD X.K o (qKw 0 m gD (fun ds R => P ds R fun _ _ => False) qNil tk)) := de_callNX (ta := qNil) hg (PE.imp h fun σ H Q q => nil_over q)
/-- what draws -/
def qDr (c : Nat) (i : Nat) (P : FD) (u : TDA) : TD := fun ρ n R => ρ[i]? = some DS.dr ∧ u ρ n fun ds n1 => n1 + c ≤ 1000000 ∧ P ds fun d => R d (n1 + c)
theorem de_draw {c i : Nat} {P : FD} {u : TDA} (h : PE X e (tCall (spDr X.K c P) [] E (tCons (tVar i) (tDA X.K o u)))) : PE X e (tD X.K o (qDr c i P u)) := PE.imp h fun σ H Q ⟨W, ρ, n, R, E, g, ⟨hi, t⟩, k⟩ => by
  obtain ⟨a, ea, hσ⟩ := E.drw i hi
  obtain ⟨m, b, cs, h1, h2⟩ := W.dr a ea
  exact ⟨_, hσ, W, ρ, n, _, E, g, t, fun ds n1 ⟨l, t1⟩ vs H1 F1 g1 w => ⟨W.M, a, b, cs, n1, vs, ds, _, by rw [List.append_nil], m, fun c m => W.al g1 m, h1 _ _ g1, l, w, t1, fun d r v H' F' S' w' => by
    have q := h2 _ _ _ _ g1 F' S'
    exact k d _ r v H' (W.trans F1 q.2) q.1 w'⟩⟩
/-! ### texts -/
def qM1 (f : PyData → PyData → (PyData → Prop) → Prop) (t u : TD) : TD := fun ρ n R => t ρ n fun d n1 => isStrD d = true ∧ u ρ n1 fun y n2 => f d y fun z => R z n2
def FitM (K : PySem.W.Frag) (r : V → List V → Hp → VK → Prop) (f : PyData → PyData → (PyData → Prop) → Prop) : Prop := ∀ (dx dy : PyData) (R : PyData → Prop) (M : Addr → Prop) (H : Hp) (x y : V) (Q : VK), Al M H → Dw K M H x dx → Dw K M H y dy → f dx dy R →
  (∀ d, R d → ∀ v H', Same H H' → Dw K M H' v d → Q v H') → r x [y] H Q
theorem de_m1 {r : V → List V → Hp → VK → Prop} {f} {t u : TD} (hf : FitM X.K r f) (h : PE X e (tM1 r (tD X.K o t) (tD X.K o u))) : PE X e (tD X.K o (qM1 f t u)) := PE.imp h fun σ H Q ⟨W, ρ, n, R, E, g, t, k⟩ =>
  ⟨W, ρ, n, _, E, g, t, fun d n1 ⟨e, r1⟩ v H1 F1 g1 w => ⟨(by cases w <;> first | exact ⟨_, rfl⟩ | cases e), W, ρ, n1, _, E.frm (W.frm F1), g1, r1, fun y n2 r2 v2 H2 F2 g2 w2 =>
    hf d y _ W.M H2 v v2 Q (fun c m => W.al g2 m) (w.frm (W.frm F2)) w2 r2 fun d r v H' s w => k d n2 r v H' (W.trans (W.trans F1 F2) (W.of s)) (W.same g2 s) w⟩⟩
/-- a text's texts joined -/
def fJoin (d e : PyData) (R : PyData → Prop) : Prop := ∃ (a : Str) (ys : List Str), d = .str a ∧ (e = .list (ys.map PyData.str) ∨ e = .tuple (ys.map PyData.str)) ∧ (ys.map (·.length)).sum + ys.length * a.length ≤ 16777216 ∧ R (.str (Txt.join a ys))
theorem strs_dw {K : PySem.W.Frag} {M : Addr → Prop} {H : Hp} : ∀ {vs : List V} {ys : List Str}, DwAll K M H vs (ys.map PyData.str) → vs = ys.map V.str
  | _, [], h => by cases h; rfl
  | _, y :: ys, h => by
    cases h with
    | cons a r => cases a; rw [strs_dw r]; rfl
theorem dw_strs {K : PySem.W.Frag} {M : Addr → Prop} {H : Hp} : ∀ ys : List Str, DwAll K M H (ys.map V.str) (ys.map PyData.str)
  | [] => .nil
  | y :: ys => .cons (.str y) (dw_strs ys)
theorem fit_join {K : PySem.W.Frag} : FitM K (fun x xs H Q => ∃ a p, ∃ ys : List Str, x = .str a ∧ xs = [.ref p] ∧ (SqL K H p (ys.map V.str) ∨ SqT K H p (ys.map V.str)) ∧
      (ys.map (·.length)).sum + ys.length * a.length ≤ 16777216 ∧ Q (.str (Txt.join a ys)) H) fJoin := by
  intro dx dy R M H x y Q al wx wy f k
  obtain ⟨a, ys, rfl, h, l, r⟩ := f
  cases wx
  rcases h with rfl | rfl
  · cases wy with
    | lst s w => cases strs_dw w; exact ⟨a, _, ys, rfl, rfl, .inl s.at, l, k _ r _ _ (Same.refl _) (.str _)⟩
  · cases wy with
    | tup s w => cases strs_dw w; exact ⟨a, _, ys, rfl, rfl, .inr s.at, l, k _ r _ _ (Same.refl _) (.str _)⟩
def fSplit (d e : PyData) (R : PyData → Prop) : Prop := ∃ a b : Str, d = .str a ∧ e = .str b ∧ (b.length == 0) = false ∧ a.length + 2 ≤ 10000000 ∧ R (.list ((Txt.split a b).map PyData.str))
theorem fit_split {K : PySem.W.Frag} : FitM K (fun x xs H Q => ∃ a b, x = .str a ∧ xs = [.str b] ∧ (b.length == 0) = false ∧ a.length + 2 ≤ sizeLine ∧ rNewStrs (Txt.split a b) H Q) fSplit := by
  intro dx dy R M H x y Q al wx wy f k
  obtain ⟨a, b, rfl, rfl, h1, h2, r⟩ := f
  cases wx
  cases wy
  refine ⟨a, b, rfl, rfl, h1, small_line h2, fun p hp => k _ r _ _ (same_new hp) (.lst ⟨fun m => ?_, upd_same⟩ (dw_strs _))⟩
  obtain ⟨ob, e, _⟩ := al _ m
  rw [hp] at e
  cases e
def fStarts (d e : PyData) (R : PyData → Prop) : Prop := ∃ a b : Str, d = .str a ∧ e = .str b ∧ R (.bool (Txt.startswith a b))
theorem fit_starts {K : PySem.W.Frag} : FitM K (fun x xs H Q => ∃ a b, x = .str a ∧ xs = [.str b] ∧ Q (.bl (Txt.startswith a b)) H) fStarts := by
  intro dx dy R M H x y Q al wx wy f k
  obtain ⟨a, b, rfl, rfl, r⟩ := f
  cases wx
  cases wy
  exact ⟨a, b, rfl, rfl, k _ r _ _ (Same.refl _) (.bl _)⟩
/-! ### repr -/
def okRepr (d : PyData) : Prop := d.canLay0 = true ∧ d.showable = true ∧ d.hasDict = false ∧ d.depth ≤ 64 ∧ d.shown.length ≤ sizeLine
def fRepr (ds : List PyData) (R : PyData → Prop) : Prop := ∃ d, ds = [d] ∧ okRepr d ∧ R (.str d.shown)
theorem fit_repr {K : PySem.W.Frag} : FitC K (fun xs H Q => ∃ v d, xs = [v] ∧ Dp K H v d ∧ d.showable = true ∧ d.hasDict = false ∧ d.depth ≤ 64 ∧ d.shown.length ≤ sizeLine ∧ Q (.str d.shown) H) fRepr := by
  intro ds R M H vs Q al w f k
  obtain ⟨d, rfl, ⟨c, h1, h2, h3, h4⟩, r⟩ := f
  cases w with
  | cons a b =>
    cases b
    exact ⟨_, d, rfl, a.dp c, h1, h2, h3, h4, k _ r _ _ (Same.refl _) (.str _)⟩
end
end MT
set_option maxHeartbeats 1000000
/-! more of the same; a def's whole body over data -/
namespace MT
open PySem L2
section
variable {X : Cx} {e : Expr}
def qNeg (t : TD) : TD := fun ρ n R => t ρ n fun d n1 => ∃ i, d = .int i ∧ R (.int (-i)) n1
theorem de_neg {t : TD} (h : PE X e (tUn (rU fun i => .int (-i)) (tD X.K o t))) : PE X e (tD X.K o (qNeg t)) := PE.imp h fun σ H Q ⟨W, ρ, n, R, E, g, t, k⟩ =>
  ⟨W, ρ, n, _, E, g, t, fun d n1 ⟨i, ed, r⟩ v H1 F1 g1 w => by subst ed; cases w; exact ⟨i, rfl, k _ n1 r _ H1 F1 g1 (.int _)⟩⟩
/-- {} -/
theorem de_d0 (h : PE X e tDNewK) : PE X e (tD X.K o (qC (.dict []))) := PE.imp h fun σ H Q ⟨W, ρ, n, R, E, g, r, k⟩ => fun p hp =>
  k _ n r _ _ (W.of (same_new hp)) (W.same g (same_new hp)) (.dct (W.new g (New.mk' (o := .dK []) hp)) upd_same trivial)
def atomD : PyData → Bool
  | .none => true
  | .bool _ => true
  | .int _ => true
  | .str _ => true
  | _ => false
def dkD (d e : PyData) : PyData := if atomD e = true then .dict [(d, e)] else .dict [(.list [], .none)]
theorem dk_dw {K : PySem.W.Frag} {M N : Addr → Prop} {H H' : Hp} {p : Addr} {z : Str} {v : V} {e : PyData} (n : ¬ M p) (h : H p = some (.dK [(.inr z, v)])) (w : Dw K N H' v e) : Dw K M H (.ref p) (dkD (.str z) e) := by
  cases w with
  | non => exact .dct n h ⟨rfl, trivial, trivial⟩
  | bl b => exact .dct n h ⟨rfl, rfl, trivial⟩
  | int b => exact .dct n h ⟨rfl, rfl, trivial⟩
  | str b => exact .dct n h ⟨rfl, rfl, trivial⟩
  | lst _ _ => exact .dkT n h
  | tup _ _ => exact .dkT n h
  | dct _ _ _ => exact .dkT n h
  | dkT _ _ => exact .dkT n h
  | dcT _ _ => exact .dkT n h
  | dk _ _ _ => exact .dkT n h
  | dt _ _ _ => exact .dkT n h
  | obj _ _ _ _ => exact .dkT n h
  | exn _ _ _ _ _ _ => exact .dkT n h
  | exn0 _ _ _ => exact .dkT n h
/-- {text: ..} -/
def qDk (t u : TD) : TD := fun ρ n R => t ρ n fun d n1 => (∃ z, d = .str z) ∧ u ρ n1 fun e n2 => R (dkD d e) n2
theorem de_dk {t u : TD} (h : PE X e (fun σ H Q => ∀ p H0, New H H0 p (.dK []) → tD X.K o t σ H0 fun x H1 => tD X.K o u σ H1 fun y H2 =>
    H2 p = some (.dK []) ∧ ∃ key : Key, x = kV key ∧ ∀ H3, (∀ c, c ≠ p → H3 c = H2 c) → H3 p = some (.dK [(key, y)]) → Q (.ref p) H3)) : PE X e (tD X.K o (qDk t u)) := PE.imp h fun σ H Q ⟨W, ρ, n, R, E, g, t, k⟩ => fun p H0 n0 => by
  have nM := W.new g n0
  have g0 := W.same g n0.1
  have E0 : EnvD X.K o (fun c => W.M c ∨ c = p) (W.a, W.ts, W.ov) ρ σ H0 := ((E.more (N := fun c => W.M c ∨ c = p) fun c o m q => m.elim id fun e => by rw [e, n0.2.2] at q; cases q).frm (fx_same n0.1))
  refine ⟨W.plus p (.dK []) (fun _ z => by cases z) nM, ρ, n, _, E0, ⟨g0, n0.2.1⟩, t, fun d n1 ⟨⟨z, ez⟩, u1⟩ v H1 F1 g1 w1 => ⟨W.plus p (.dK []) (fun _ z => by cases z) nM, ρ, n1, _, E0.frm ((W.plus p (.dK []) (fun _ z => by cases z) nM).frm F1), g1, u1, fun y n2 r v2 H2 F2 g2 w2 => ⟨g2.2, .inr z, ?_, fun H3 hc h3 => ?_⟩⟩⟩
  · subst ez
    cases w1
    rfl
  · have e3 : H3 = upd H2 p (.dK [(.inr z, v2)]) := by
      funext c
      by_cases ec : c = p
      · rw [ec, h3, upd_same]
      · rw [hc c ec, upd_ne ec]
    subst e3
    exact k _ n2 r _ _ (W.updR (W.trans (W.of n0.1) (W.trans F1 F2)) n0.2.2) (W.updG g n0.2.2 g2.1 (fun u e => by rw [g2.2] at e; cases e; trivial)) (by rw [ez]; exact dk_dw nM upd_same w2)
/-- {path: ..} -/
def qDt (t u : TD) : TD := fun ρ n R => t ρ n fun d n1 => (∃ ns : List Str, d = .tuple (ns.map PyData.str) ∧ ns ≠ [] ∧ ns ≠ [("none" : Str)] ∧ ns ≠ [("folder" : Str)]) ∧ u ρ n1 fun _ n2 => R (.dict [(.list [], .none)]) n2
theorem str_map_inj : ∀ {ns ms : List Str}, ns.map V.str = ms.map V.str → ns = ms
  | [], [], _ => rfl
  | [], _ :: _, h => by cases h
  | _ :: _, [], h => by cases h
  | n :: r, m :: t, h => by
    rw [List.map_cons, List.map_cons] at h
    injection h with h1 h2
    injection h1 with h1
    rw [h1, str_map_inj h2]
theorem kV_strs (ns : List Str) : (ns.map fun z => (.inr z : Key)).map kV = ns.map V.str := by
  rw [List.map_map]
  rfl
theorem de_dt {t u : TD} (h : PE X e (fun σ H Q => ∀ p H0, New H H0 p (.dT []) → tD X.K o t σ H0 fun x H1 => tD X.K o u σ H1 fun y H2 =>
    H2 p = some (.dT []) ∧ ∃ (ks : List Key) (b : Addr), x = .ref b ∧ H2 b = some (.tup (ks.map kV)) ∧ ∀ H3, (∀ c, c ≠ p → H3 c = H2 c) → H3 p = some (.dT [(ks, y)]) → Q (.ref p) H3)) : PE X e (tD X.K o (qDt t u)) := PE.imp h fun σ H Q ⟨W, ρ, n, R, E, g, t, k⟩ => fun p H0 n0 => by
  have nM := W.new g n0
  have g0 := W.same g n0.1
  have E0 : EnvD X.K o (fun c => W.M c ∨ c = p) (W.a, W.ts, W.ov) ρ σ H0 := ((E.more (N := fun c => W.M c ∨ c = p) fun c o m q => m.elim id fun e => by rw [e, n0.2.2] at q; cases q).frm (fx_same n0.1))
  refine ⟨W.plus p (.dT []) (fun _ z => by cases z) nM, ρ, n, _, E0, ⟨g0, n0.2.1⟩, t, fun d n1 ⟨⟨ns, ez, e1, e2, e3⟩, u1⟩ v H1 F1 g1 w1 => ⟨W.plus p (.dT []) (fun _ z => by cases z) nM, ρ, n1, _, E0.frm ((W.plus p (.dT []) (fun _ z => by cases z) nM).frm F1), g1, u1, fun y n2 r v2 H2 F2 g2 w2 => ?_⟩⟩
  subst ez
  have w3 := w1.frm ((W.plus p (.dT []) (fun _ z => by cases z) nM).frm F2)
  cases w3 with
  | tup s a =>
    cases strs_dw a
    rcases s with ⟨_, s⟩ | ⟨c, _⟩
    · refine ⟨g2.2, ns.map fun z => (.inr z : Key), _, rfl, by rw [kV_strs]; exact s, fun H3 hc h3 => ?_⟩
      have e3 : H3 = upd H2 p (.dT [(ns.map fun z => (.inr z : Key), v2)]) := by
        funext c
        by_cases ec : c = p
        · rw [ec, h3, upd_same]
        · rw [hc c ec, upd_ne ec]
      subst e3
      exact k _ n2 r _ _ (W.updR (W.trans (W.of n0.1) (W.trans F1 F2)) n0.2.2) (W.updG g n0.2.2 g2.1 (fun u e => by rw [g2.2] at e; cases e; trivial)) (.dcT nM upd_same)
    · rcases c with c | c | c
      · exact absurd (List.map_eq_nil_iff.mp c) e1
      · exact absurd (str_map_inj (ms := [("none" : Str)]) c) e2
      · exact absurd (str_map_inj (ms := [("folder" : Str)]) c) e3
end
theorem room65 {k : Nat} {A : Around} (r : Room k A) : A.units + 65 < cLine := by have := r.un; omega
theorem room1 {k : Nat} {A : Around} (r : Room k A) : A.units + 1 < cLine := by have := r.un; omega
/-! ### tests of a comprehension -/
section
variable {X : Cx} {cs : List Expr}
theorem PTs.imp {t t' : TT} (h : PTs X cs t) (i : ∀ σ H Q, t' σ H Q → t σ H Q) : PTs X cs t' := ⟨fun pins s σ H Q I q => h.run pins s σ H Q I (i σ H Q q)⟩
def qYes : TDB := fun _ n R => R true n
theorem dts_nil (h : PTs X cs tYes) : PTs X cs (tDB X.K o qYes) := PTs.imp h fun σ H Q ⟨W, ρ, n, R, E, g, r, k⟩ => k _ n r H W.refl g
end
/-! ### stores -/
section
variable {X : Cx} {st : Stmt} {ss : List Stmt}
theorem ds_setLc {i : Nat} {vs0 : List Nat} {g : TG} {f} {src : TDI} {tt : TDB} {te : TD} (hf : GFit X.K vs0 g f) (h : PS X st (tAsg (tLc (tDI X.K o src) g (tDB X.K o tt) (tD X.K o te) vs0) (gName i))) : PS X st (tDs X.K o (qSet i (qLc vs0 f src tt te))) := ds_set (PS.imp h fun D σ H q => lc_over hf q)
def qPar (i j : Nat) (u : TDA) : TDS := fun ρ n Rn _ => u ρ n fun ds n1 => ∃ x y, ds = [x, y] ∧ Rn ((ρ.set i (DS.d x)).set j (DS.d y)) n1
theorem ds_par {i j : Nat} {u : TDA} (h : PS X st (tPar i j (tDA X.K o u))) : PS X st (tDs X.K o (qPar i j u)) := PS.imp h fun D σ H ⟨W, ρ, n, Rn, Rr, E, g, t, k1, k2⟩ =>
  ⟨W, ρ, n, _, E, g, t, fun ds n1 ⟨x, y, e, r⟩ vs H1 F1 g1 w => by
    subst e
    cases w with
    | cons a b =>
      cases b with
      | cons c d =>
        cases d
        exact ⟨_, _, rfl, k1 _ n1 r _ H1 F1 g1 (((E.frm (W.frm F1)).set i a).set j c)⟩⟩
theorem dss_nil (h : PSs X ss tNext) : PSs X ss (tDs X.K o qNilS) := PSs.imp h fun D σ H ⟨W, ρ, n, Rn, Rr, E, g, t, k1, k2⟩ => k1 ρ n t σ H W.refl g E
theorem ds_pass (h : PS X st tNext) : PS X st (tDs X.K o qNilS) := PS.imp h fun D σ H ⟨W, ρ, n, Rn, Rr, E, g, t, k1, k2⟩ => k1 ρ n t σ H W.refl g E
theorem wipe_get (σ : L2.St) : ∀ (vs : List Nat) (k : Nat), (L2.wipe σ vs)[k]? = if k ∈ vs ∧ k < σ.length then some none else σ[k]?
  | [], k => by simp [L2.wipe]
  | v :: vs, k => by
    show ((L2.wipe σ vs).set v none)[k]? = _
    have ih := wipe_get σ vs k
    have l := wipe_length σ vs
    by_cases e : v = k
    · subst e
      by_cases h : v < σ.length
      · rw [List.getElem?_set_self (by rw [l]; exact h), if_pos ⟨List.mem_cons_self, h⟩]
      · rw [if_neg (fun q => h q.2), List.getElem?_eq_none (by rw [List.length_set, l]; omega), List.getElem?_eq_none (by omega)]
    · rw [List.getElem?_set_ne e, ih]
      have : (k ∈ v :: vs) ↔ k ∈ vs := ⟨fun q => (List.mem_cons.mp q).resolve_left fun z => e z.symm, fun q => List.mem_cons_of_mem _ q⟩
      simp only [this]
theorem wipe_set {σ : L2.St} {x : Nat} {u : Option V} {vs : List Nat} (h : x ∈ vs) : L2.wipe (σ.set x u) vs = L2.wipe σ vs := List.ext_getElem? fun k => by
  rw [wipe_get, wipe_get, List.length_set]
  by_cases e : x = k
  · subst e
    by_cases l : x < σ.length
    · rw [if_pos ⟨h, l⟩, if_pos ⟨h, l⟩]
    · rw [if_neg (fun q => l q.2), if_neg (fun q => l q.2), List.getElem?_eq_none (by rw [List.length_set]; omega), List.getElem?_eq_none (by omega)]
  · rw [List.getElem?_set_ne e]
theorem fit_pair {K : PySem.W.Frag} {i j : Nat} : GFit K [i, j] (gTup K 2 (gCons (gName i) (gCons (gName j) gNil))) (fun d ρ R => ∃ x y, d = .tuple [x, y] ∧ R ((ρ.set i (DS.d x)).set j (DS.d y))) := fun o M a H v d ρ σ R Q w E ⟨x, y, e, r⟩ k => by
  subst e
  cases w with
  | tup s w =>
    cases w with
    | cons wa wb =>
      cases wb with
      | cons wc wd =>
        cases wd
        exact ⟨_, _, rfl, s.at, rfl, _, _, rfl, _, _, rfl, rfl, k _ r _ ((E.set i wa).set j wc) (by rw [wipe_set (by simp), wipe_set (by simp)])⟩
end
theorem fit_pp {K : PySem.W.Frag} {i j k l : Nat} : GFit K [i, j, k, l] (gTup K 2 (gCons (gTup K 2 (gCons (gName i) (gCons (gName j) gNil))) (gCons (gTup K 2 (gCons (gName k) (gCons (gName l) gNil))) gNil)))
    (fun d ρ R => ∃ x y z w, d = .tuple [.tuple [x, y], .tuple [z, w]] ∧ R ((((ρ.set i (DS.d x)).set j (DS.d y)).set k (DS.d z)).set l (DS.d w))) := fun o M a H v d ρ σ R Q w E ⟨x, y, z, u, e, r⟩ k' => by
  subst e
  cases w with
  | tup s w =>
    cases w with
    | cons wa wb =>
      cases wb with
      | cons wc wd =>
        cases wd
        cases wa with
        | tup s1 w1 =>
          cases wc with
          | tup s2 w2 =>
            cases w1 with
            | cons a1 b1 =>
              cases b1 with
              | cons c1 d1 =>
                cases d1
                cases w2 with
                | cons a2 b2 =>
                  cases b2 with
                  | cons c2 d2 =>
                    cases d2
                    exact ⟨_, _, rfl, s.at, rfl, _, _, rfl, ⟨_, _, rfl, s1.at, rfl, _, _, rfl, _, _, rfl, rfl, ⟨_, _, rfl, ⟨_, _, rfl, s2.at, rfl, _, _, rfl, _, _, rfl, rfl, ⟨rfl, k' _ r _ ((((E.set i a1).set j c1).set k a2).set l c2) (by rw [wipe_set (by simp), wipe_set (by simp), wipe_set (by simp), wipe_set (by simp)])⟩⟩⟩⟩⟩
/-- a comprehension in which nothing is drawn -/
theorem lc_pure {vs : List Nat} {f : PyData → List DS → (List DS → Prop) → Prop} {tt : TDB} {te : TD} {ρ : List DS} {n : Nat} {R : List PyData → Nat → Prop} {ds : List PyData} (p : PyData → Bool) (g : PyData → PyData) (hl : ds.length ≤ 10000000)
    (hs : ∀ x ∈ ds, ∀ (Ky : QD) (Kn : Nat → Prop), (p x = true → Ky (g x) n) → (p x = false → Kn n) → f x (wipeD ρ vs) fun ρ' => tt ρ' n fun b m' => if b = true then te ρ' m' Ky else Kn m') (r : R ((ds.filter p).map g) n) :
    ds.length ≤ 10000000 ∧ ∃ A : Nat → List PyData → Nat → Prop, A 0 [] n ∧ (∀ i x acc m, ds[i]? = some x → A i acc m → f x (wipeD ρ vs) fun ρ' => tt ρ' m fun b m' => if b = true then te ρ' m' fun y m'' => A (i + 1) (acc ++ [y]) m'' else A (i + 1) acc m') ∧
      ∀ acc m, A ds.length acc m → acc.length ≤ ds.length → R acc m := by
  refine ⟨hl, fun i acc m => m = n ∧ acc = ((ds.take i).filter p).map g, ⟨rfl, rfl⟩, ?_, ?_⟩
  · rintro i x acc m hx ⟨rfl, rfl⟩
    refine hs x (List.mem_of_getElem? hx) _ _ (fun hp => ⟨rfl, ?_⟩) (fun hp => ⟨rfl, ?_⟩)
    · rw [take_filter_next hx, if_pos hp, List.map_append]
      rfl
    · rw [take_filter_next hx, if_neg (by rw [hp]; exact Bool.false_ne_true), List.append_nil]
  · rintro acc m ⟨rfl, rfl⟩ _
    rw [List.take_of_length_le (Nat.le_refl _)]
    exact r
theorem lc_map {vs : List Nat} {f : PyData → List DS → (List DS → Prop) → Prop} {te : TD} {ρ : List DS} {n : Nat} {R : List PyData → Nat → Prop} {ds : List PyData} (g : PyData → PyData) (hl : ds.length ≤ 10000000)
    (hs : ∀ x ∈ ds, ∀ Ky : QD, Ky (g x) n → f x (wipeD ρ vs) fun ρ' => te ρ' n Ky) (r : R (ds.map g) n) :
    ds.length ≤ 10000000 ∧ ∃ A : Nat → List PyData → Nat → Prop, A 0 [] n ∧ (∀ i x acc m, ds[i]? = some x → A i acc m → f x (wipeD ρ vs) fun ρ' => qYes ρ' m fun b m' => if b = true then te ρ' m' fun y m'' => A (i + 1) (acc ++ [y]) m'' else A (i + 1) acc m') ∧
      ∀ acc m, A ds.length acc m → acc.length ≤ ds.length → R acc m := by
  refine ⟨hl, fun i acc m => m = n ∧ acc = (ds.take i).map g, ⟨rfl, rfl⟩, ?_, ?_⟩
  · rintro i x acc m hx ⟨rfl, rfl⟩
    have q := hs x (List.mem_of_getElem? hx) (fun y m'' => m'' = m ∧ (ds.take i).map g ++ [y] = (ds.take (i + 1)).map g) ⟨rfl, by rw [take_next hx, List.map_append]; rfl⟩
    simp only [qYes, if_true]
    exact q
  · rintro acc m ⟨rfl, rfl⟩ _
    rw [List.take_of_length_le (Nat.le_refl _)]
    exact r
/-! ### whole bodies -/
def Fn0 (f : PyData) : FD := fun ds R => ds = [] ∧ R f
def Fn1 (p : PyData → Prop) (f : PyData → PyData) : FD := fun ds R => ∃ d, ds = [d] ∧ p d ∧ R (f d)
def Fn2 (p : PyData → PyData → Prop) (f : PyData → PyData → PyData) : FD := fun ds R => ∃ d e, ds = [d, e] ∧ p d e ∧ R (f d e)
def Fn3 (p : PyData → PyData → PyData → Prop) (f : PyData → PyData → PyData → PyData) : FD := fun ds R => ∃ d e c, ds = [d, e, c] ∧ p d e c ∧ R (f d e c)
def Dr0 (post : PyData → Prop) : FD := fun ds R => ds = [] ∧ ∀ y, post y → R y
def Dr1 (p : PyData → Prop) (post : PyData → PyData → Prop) : FD := fun ds R => ∃ d, ds = [d] ∧ p d ∧ ∀ y, post d y → R y
def Dr2 (p : PyData → PyData → Prop) (post : PyData → PyData → PyData → Prop) : FD := fun ds R => ∃ d e, ds = [d, e] ∧ p d e ∧ ∀ y, post d e y → R y
section
variable {K : PySem.W.Frag} {t : TDS} {N : List Str} {vs : List V} {H : Hp} {Q : VK} {E : XK} {m c : Nat}
theorem no_env {M : Addr → Prop} {o : Option TSet} {a : Option Addr} : ∀ m, EnvD K o M (a, o, noV) (List.replicate m DS.no) (List.replicate m (none : Option V)) H
  | 0 => .nil rfl
  | m + 1 => .cons (s := .no) trivial (no_env m)
theorem end_pure {M : Addr → Prop} {R : PyData → Prop} {σ : L2.St} {ρ : List DS} (al : Al M H) (k : ∀ d, R d → ∀ v H', Same H H' → Dw K M H' v d → Q v H') (e : EnvD K none M (none, none, noV) ρ σ H) (q : t ρ 0 (fun _ _ => False) (fun y _ => R y)) :
    tDs K none t { nx := fun _ H' => Q .non H', rt := Q } σ H := ⟨pureF M, ρ, 0, _, _, e, al, q, fun _ _ z => z.elim, fun d n r v H' s _ w => k d r v H' s w⟩
theorem pure0 {f : PyData} (h : spPure K (Fn0 f) vs H Q E) (hs : start N [] = List.replicate m none) (q : t (List.replicate m DS.no) 0 (fun _ _ => False) (fun y _ => y = f)) : tDs K none t { nx := fun _ H' => Q .non H', rt := Q } (start N vs) H := by
  obtain ⟨M, ds, R, al, w, ⟨rfl, r⟩, k⟩ := h
  cases w
  exact end_pure (R := (· = f)) al (fun d e => k d (e ▸ r)) (hs ▸ no_env m) q
theorem pure1 {p : PyData → Prop} {f : PyData → PyData} (h : spPure K (Fn1 p f) vs H Q E) (hs : ∀ v, start N [v] = some v :: List.replicate m none) (q : ∀ d, p d → t (.d d :: List.replicate m DS.no) 0 (fun _ _ => False) (fun y _ => y = f d)) : tDs K none t { nx := fun _ H' => Q .non H', rt := Q } (start N vs) H := by
  obtain ⟨M, ds, R, al, w, ⟨d, rfl, hp, r⟩, k⟩ := h
  cases w with
  | cons a b =>
    cases b
    exact end_pure (R := (· = f d)) al (fun y e => k y (e ▸ r)) (hs _ ▸ .cons (s := .d d) ⟨_, rfl, a⟩ (no_env m)) (q d hp)
theorem pure2 {p : PyData → PyData → Prop} {f : PyData → PyData → PyData} (h : spPure K (Fn2 p f) vs H Q E) (hs : ∀ v u, start N [v, u] = some v :: some u :: List.replicate m none) (q : ∀ d e, p d e → t (.d d :: .d e :: List.replicate m DS.no) 0 (fun _ _ => False) (fun y _ => y = f d e)) : tDs K none t { nx := fun _ H' => Q .non H', rt := Q } (start N vs) H := by
  obtain ⟨M, ds, R, al, w, ⟨d, e, rfl, hp, r⟩, k⟩ := h
  cases w with
  | cons a b =>
    cases b with
    | cons a2 b2 =>
      cases b2
      exact end_pure (R := (· = f d e)) al (fun y e => k y (e ▸ r)) (hs _ _ ▸ .cons (s := .d d) ⟨_, rfl, a⟩ (.cons (s := .d e) ⟨_, rfl, a2⟩ (no_env m))) (q d e hp)
theorem pure3 {p : PyData → PyData → PyData → Prop} {f : PyData → PyData → PyData → PyData} (h : spPure K (Fn3 p f) vs H Q E) (hs : ∀ v u w, start N [v, u, w] = some v :: some u :: some w :: List.replicate m none) (q : ∀ d e c, p d e c → t (.d d :: .d e :: .d c :: List.replicate m DS.no) 0 (fun _ _ => False) (fun y _ => y = f d e c)) : tDs K none t { nx := fun _ H' => Q .non H', rt := Q } (start N vs) H := by
  obtain ⟨M, ds, R, al, w, ⟨d, e, c, rfl, hp, r⟩, k⟩ := h
  cases w with
  | cons a b =>
    cases b with
    | cons a2 b2 =>
      cases b2 with
      | cons a3 b3 =>
        cases b3
        exact end_pure (R := (· = f d e c)) al (fun y e => k y (e ▸ r)) (hs _ _ _ ▸ .cons (s := .d d) ⟨_, rfl, a⟩ (.cons (s := .d e) ⟨_, rfl, a2⟩ (.cons (s := .d c) ⟨_, rfl, a3⟩ (no_env m)))) (q d e c hp)
theorem len0 {f : PyData} (h : spPure K (Fn0 f) vs H Q E) : vs.length = 0 := by
  obtain ⟨M, ds, R, al, w, ⟨rfl, _⟩, k⟩ := h
  exact w.length
theorem len1 {p : PyData → Prop} {f : PyData → PyData} (h : spPure K (Fn1 p f) vs H Q E) : vs.length = 1 := by
  obtain ⟨M, ds, R, al, w, ⟨d, rfl, _⟩, k⟩ := h
  exact w.length
theorem len2 {p : PyData → PyData → Prop} {f : PyData → PyData → PyData} (h : spPure K (Fn2 p f) vs H Q E) : vs.length = 2 := by
  obtain ⟨M, ds, R, al, w, ⟨d, e, rfl, _⟩, k⟩ := h
  exact w.length
theorem len3 {p : PyData → PyData → PyData → Prop} {f : PyData → PyData → PyData → PyData} (h : spPure K (Fn3 p f) vs H Q E) : vs.length = 3 := by
  obtain ⟨M, ds, R, al, w, ⟨d, e, c, rfl, _⟩, k⟩ := h
  exact w.length
theorem end_draw {M : Addr → Prop} {a b : Addr} {cs : List Int} {n : Nat} {R : PyData → Prop} {σ : L2.St} {ρ : List DS} (hM : M a) (al : Al M H) (S : Sx a b cs n H) (k : ∀ d, R d → ∀ v H', Frm (· = a) H H' → Sx a b cs (n + c) H' → Dw K M H' v d → Q v H')
    (e : EnvD K none M (some a, none, noV) ρ σ H) (q : t ρ n (fun _ _ => False) (fun y m => m ≤ n + c ∧ R y)) : tDs K none t { nx := fun _ H' => Q .non H', rt := Q } σ H :=
  ⟨drawF M a b cs hM, ρ, n, _, _, e, ⟨S, al⟩, q, fun _ _ z => z.elim, fun d n r v H' s g w => k d r.2 v H' s (g.1.le r.1) w⟩
theorem draw0 {post : PyData → Prop} (h : spDr K c (Dr0 post) vs H Q E) (hs : ∀ v, start N [v] = some v :: List.replicate m none) (q : ∀ n, n + c ≤ 1000000 → t (.dr :: List.replicate m DS.no) n (fun _ _ => False) (fun y m => m ≤ n + c ∧ post y)) : tDs K none t { nx := fun _ H' => Q .non H', rt := Q } (start N vs) H := by
  obtain ⟨M, a, b, cs, n, us, ds, R, rfl, hM, al, S, hn, w, ⟨rfl, r⟩, k⟩ := h
  cases w
  exact end_draw (c := c) (R := post) hM al S (fun y e => k y (r y e)) (hs _ ▸ .cons (s := .dr) ⟨_, rfl, rfl⟩ (no_env m)) (q n hn)
theorem draw1 {p : PyData → Prop} {post : PyData → PyData → Prop} (h : spDr K c (Dr1 p post) vs H Q E) (hs : ∀ v u, start N [v, u] = some v :: some u :: List.replicate m none) (q : ∀ n d, n + c ≤ 1000000 → p d → t (.dr :: .d d :: List.replicate m DS.no) n (fun _ _ => False) (fun y m => m ≤ n + c ∧ post d y)) : tDs K none t { nx := fun _ H' => Q .non H', rt := Q } (start N vs) H := by
  obtain ⟨M, a, b, cs, n, us, ds, R, rfl, hM, al, S, hn, w, ⟨d, rfl, hp, r⟩, k⟩ := h
  cases w with
  | cons wa wb =>
    cases wb
    exact end_draw (c := c) (R := post d) hM al S (fun y e => k y (r y e)) (hs _ _ ▸ .cons (s := .dr) ⟨_, rfl, rfl⟩ (.cons (s := .d d) ⟨_, rfl, wa⟩ (no_env m))) (q n d hn hp)
theorem draw2 {p : PyData → PyData → Prop} {post : PyData → PyData → PyData → Prop} (h : spDr K c (Dr2 p post) vs H Q E) (hs : ∀ v u w, start N [v, u, w] = some v :: some u :: some w :: List.replicate m none) (q : ∀ n d e, n + c ≤ 1000000 → p d e → t (.dr :: .d d :: .d e :: List.replicate m DS.no) n (fun _ _ => False) (fun y m => m ≤ n + c ∧ post d e y)) : tDs K none t { nx := fun _ H' => Q .non H', rt := Q } (start N vs) H := by
  obtain ⟨M, a, b, cs, n, us, ds, R, rfl, hM, al, S, hn, w, ⟨d, e, rfl, hp, r⟩, k⟩ := h
  cases w with
  | cons wa wb =>
    cases wb with
    | cons wc wd =>
      cases wd
      exact end_draw (c := c) (R := post d e) hM al S (fun y e => k y (r y e)) (hs _ _ _ ▸ .cons (s := .dr) ⟨_, rfl, rfl⟩ (.cons (s := .d d) ⟨_, rfl, wa⟩ (.cons (s := .d e) ⟨_, rfl, wc⟩ (no_env m)))) (q n d e hn hp)
theorem dlen0 {post : PyData → Prop} (h : spDr K c (Dr0 post) vs H Q E) : vs.length = 1 := by
  obtain ⟨M, a, b, cs, n, us, ds, R, rfl, hM, al, S, hn, w, ⟨rfl, r⟩, k⟩ := h
  exact congrArg Nat.succ w.length
theorem dlen1 {p : PyData → Prop} {post : PyData → PyData → Prop} (h : spDr K c (Dr1 p post) vs H Q E) : vs.length = 2 := by
  obtain ⟨M, a, b, cs, n, us, ds, R, rfl, hM, al, S, hn, w, ⟨d, rfl, hp, r⟩, k⟩ := h
  exact congrArg Nat.succ w.length
theorem dlen2 {p : PyData → PyData → Prop} {post : PyData → PyData → PyData → Prop} (h : spDr K c (Dr2 p post) vs H Q E) : vs.length = 3 := by
  obtain ⟨M, a, b, cs, n, us, ds, R, rfl, hM, al, S, hn, w, ⟨d, e, rfl, hp, r⟩, k⟩ := h
  exact congrArg Nat.succ w.length
theorem env_of {M : Addr → Prop} {o : Option TSet} {a : Option Addr} : ∀ {vs : List V} {ds : List PyData} (m : Nat), DwAll K M H vs ds → EnvD K o M (a, o, noV) (ds.map DS.d ++ List.replicate m DS.no) (vs.map some ++ List.replicate m none) H
  | _, _, m, .nil => no_env m
  | _, _, m, .cons w r => .cons (s := .d _) ⟨_, rfl, w⟩ (env_of m r)
theorem pureG {P : FD} (h : spPure K P vs H Q E) (q : ∀ ds R, P ds R → t (ds.map DS.d ++ List.replicate (N.length - ds.length) DS.no) 0 (fun _ _ => False) (fun y _ => R y)) : tDs K none t { nx := fun _ H' => Q .non H', rt := Q } (start N vs) H := by
  obtain ⟨M, ds, R, al, w, p, k⟩ := h
  have e := env_of (o := none) (a := none) (N.length - ds.length) w
  refine end_pure al k ?_ (q ds R p)
  unfold L2.start
  rw [w.length]
  exact e
theorem lenG {P : FD} {n : Nat} (h : spPure K P vs H Q E) (l : ∀ ds R, P ds R → ds.length = n) : vs.length = n := by
  obtain ⟨M, ds, R, al, w, p, k⟩ := h
  exact w.length.trans (l ds R p)
theorem drawG {P : FD} (h : spDr K c P vs H Q E) (q : ∀ n ds R, n + c ≤ 1000000 → P ds R → t (DS.dr :: (ds.map DS.d ++ List.replicate (N.length - (ds.length + 1)) DS.no)) n (fun _ _ => False) (fun y m => m ≤ n + c ∧ R y)) : tDs K none t { nx := fun _ H' => Q .non H', rt := Q } (start N vs) H := by
  obtain ⟨M, a, b, cs, n, us, ds, R, rfl, hM, al, S, hn, w, p, k⟩ := h
  have e := env_of (o := none) (a := some a) (N.length - (ds.length + 1)) w
  refine end_draw (c := c) (R := R) hM al S k ?_ (q n ds R hn p)
  unfold L2.start
  rw [List.length_cons, w.length, List.map_cons, List.cons_append]
  exact .cons (s := .dr) ⟨_, rfl, rfl⟩ e
theorem dlenG {P : FD} {n : Nat} (h : spDr K c P vs H Q E) (l : ∀ ds R, P ds R → ds.length + 1 = n) : vs.length = n := by
  obtain ⟨M, a, b, cs, n', us, ds, R, rfl, hM, al, S, hn, w, p, k⟩ := h
  exact (congrArg Nat.succ w.length).trans (l ds R p)
/-- the drawer of the laws -/
theorem sp_draw (h : spDr K 1 (Dr1 (fun d => ∃ m : Int, d = .int m ∧ 0 < m ∧ m < 2 ^ 62) fun d y => ∃ m i : Int, d = .int m ∧ y = .int i ∧ 0 ≤ i ∧ i < m) vs H Q E) : spDraw vs H Q E := by
  obtain ⟨M, a, b, cs, n, us, ds, R, rfl, hM, al, S, hn, w, ⟨d, rfl, ⟨m, rfl, h1, h2⟩, r⟩, k⟩ := h
  cases w with
  | cons wa wb =>
    cases wa
    cases wb
    exact ⟨a, b, cs, n, m, rfl, S, by omega, h1, h2, fun H' d F S' l u => k _ (r _ ⟨m, d, rfl, rfl, l, u⟩) _ H' F S' (.int d)⟩
end
end MT
set_option maxHeartbeats 1000000
/-! a call whose error is met where it stands -/
namespace MT
open PySem L2
section
variable {X : Cx} {k : Nat} {f : Addr} {fd : FuncData} {ps : List Str} {sp : Sp} {dvs : List V} {ds : List Value} {x : Str} {p pos : Pos} {e : Expr} {es : List Expr} {t : TA} {W : WX}
theorem pe_callW (tk : Takes X W) (F : FnOk X.prog X.w X.K X.mg X.base (L2.CX X.prog X.w) k f fd ps sp) (hr : Room k X.A) (hg : Gl X x) (hm : X.mg x = some (.ref f)) (hk : PySem.W.keepIn X.K (.ref f) = true) (hb : Binds X.K fd ps ds) (hd : Vals dvs ds)
    (ha : PA X (e :: es) t) (hdb : (x == ("__debug__" : Str)) = false := by decide) (he : starEach (e :: es) X.env = (false, eval e X.env) :: starEach es X.env := by rfl) (hpl : (backTo pos (starEach es X.env)).any (·.1) = false := by rfl) :
    PE X (.Call (.Name x p) (e :: es) [] pos) (fun σ H Q => ∃ E : XK, (∀ cls d H', E cls d H' → W cls d σ H') ∧ t σ H fun vs H1 => sp (vs ++ dvs) H1 Q E) := by
  refine ⟨fun pins s σ H Q I h => ?_⟩
  obtain ⟨E, hW, h⟩ := h
  refine wpAny_Call_Name_kw (ld_glob I hg hm ?_ hdb)
  refine PySem.W.callWith_K (h₀ := X.base) I.ok.mod.kin hk (thn (ha.run pos pins s σ H _ I h) fun us s1 ⟨vs, H1, I1, r, q⟩ => ⟨I1.kIn, ?_⟩) he hpl
  have r2 : Vals (vs ++ dvs) (us ++ ds) := r.append hd
  have hl : (us ++ ds).length = ps.length := by rw [← r2.length]; exact F.len _ _ _ _ q
  refine wpAny_call (codeAny_mono (F.run X.A X.stack s1 H1 ⟨us, []⟩ (us ++ ds) (vs ++ dvs) Q E hr I1.env0 (hb s1 us I1.kIn hl) r2 q) fun r s' hq => ?_)
  cases r with
  | error e => exact tk e s' (XE.of_call I1 (fun cls d H' w => hW cls d H' w) hq)
  | ok fl =>
    cases fl with
    | ret u => exact I1.after hq
    | next => exact False.elim hq
    | brk => exact False.elim hq
    | cont => exact False.elim hq
end
end MT
set_option maxHeartbeats 1000000
/-! lambdas, errors, over data -/
namespace MT
open PySem L2
open LamX (Tabs ExtN)
/-- an error's fields -/
def FvW (K : PySem.W.Frag) (M : Addr → Prop) (H : Hp) (fv : List (Str × V)) (fs : List (Str × PyData)) : Prop := fv.map (·.1) = fs.map (·.1) ∧ DwAll K M H (fv.map (·.2)) (fs.map (·.2))
theorem FvW.one {K : PySem.W.Frag} {M : Addr → Prop} {H : Hp} {fv : List (Str × V)} {f : Str} {d : PyData} (h : FvW K M H fv [(f, d)]) : ∃ v, fv = [(f, v)] ∧ Dw K M H v d := by
  obtain ⟨h1, h2⟩ := h
  match fv, h1, h2 with
  | [(g, v)], h1, h2 =>
    cases h2 with
    | cons a b =>
      have e : [g] = [f] := h1
      injection e with e
      subst e
      exact ⟨v, rfl, a⟩
theorem FvW.two {K : PySem.W.Frag} {M : Addr → Prop} {H : Hp} {fv : List (Str × V)} {f g : Str} {d e : PyData} (h : FvW K M H fv [(f, d), (g, e)]) : ∃ v u, fv = [(f, v), (g, u)] ∧ Dw K M H v d ∧ Dw K M H u e := by
  obtain ⟨h1, h2⟩ := h
  match fv, h1, h2 with
  | [(f', v), (g', u)], h1, h2 =>
    cases h2 with
    | cons a b =>
      cases b with
      | cons a2 b2 =>
        have e : [f', g'] = [f, g] := h1
        injection e with e1 e2
        injection e2 with e2
        subst e1 e2
        exact ⟨v, u, rfl, a, a2⟩
abbrev FE := List PyData → (PyData → Prop) → (Addr → List (Str × PyData) → Prop) → Prop
/-- a def that may raise -/
def spE (K : PySem.W.Frag) (P : FE) : Sp := fun vs H Q E => ∃ (M : Addr → Prop) (ds : List PyData) (R : PyData → Prop) (Rx : Addr → List (Str × PyData) → Prop), Al M H ∧ DwAll K M H vs ds ∧ P ds R Rx ∧ (∀ d, R d → ∀ v H', Same H H' → Dw K M H' v d → Q v H') ∧
  ∀ C fs, Rx C fs → ∀ a H' fv, Same H H' → H a = none → H' a = some (.xd fv) → FvW K M H' fv fs → E (.ref C) (some a) H'
section
variable {X : Cx} {e : Expr} {E : XK} {o : Option TSet}
theorem de_callE {P : FE} {u : TDA} (h : PE X e (tCall (spE X.K P) [] E (tDA X.K o u))) : PE X e (tD X.K o (qCB (fun ds R => P ds R fun _ _ => False) u)) := PE.imp h fun σ H Q ⟨W, ρ, n, R, E, g, t, k⟩ =>
  ⟨W, ρ, n, _, E, g, t, fun ds n1 t1 vs H1 F1 g1 w => ⟨W.M, ds, _, _, fun c m => W.al g1 m, by rw [List.append_nil]; exact w, t1, fun d r v H' s w' => k d n1 r v H' (W.trans F1 (W.of s)) (W.same g1 s) w', fun _ _ z => z.elim⟩⟩
theorem de_callNE {n m : Nat} {gV : List V → List V → List V} {gD : List PyData → List PyData → List PyData} {P : FE} {ta tk : TDA}
    (hg : ∀ {M : Addr → Prop} {H : Hp} {vs zs : List V} {ds es : List PyData}, DwAll X.K M H vs ds → DwAll X.K M H zs es → DwAll X.K M H (gV vs zs) (gD ds es))
    (h : PE X e (L2.tCallN n m (spE X.K P) gV E (tDA X.K o ta) (tDA X.K o tk))) : PE X e (tD X.K o (qKw n m gD (fun ds R => P ds R fun _ _ => False) ta tk)) := PE.imp h fun σ H Q ⟨W, ρ, c, R, E, g, t, k⟩ =>
  ⟨W, ρ, c, _, E, g, t, fun ds c1 t1 vs H1 F1 g1 w => ⟨W, ρ, c1, _, E.frm (W.frm F1), g1, t1, fun es c2 ⟨l1, l2, t2⟩ zs H2 F2 g2 w2 => ⟨w.length.trans l1, w2.length.trans l2, W.M, _, _, _, fun c m => W.al g2 m, hg (w.frm (W.frm F2)) w2, t2, fun d r v H' s w' => k d c2 r v H' (W.trans F1 (W.trans F2 (W.of s))) (W.same g2 s) w', fun _ _ z => z.elim⟩⟩⟩
theorem de_callNE0 {m : Nat} {gV : List V → List V → List V} {gD : List PyData → List PyData → List PyData} {P : FE} {tk : TDA}
    (hg : ∀ {M : Addr → Prop} {H : Hp} {vs zs : List V} {ds es : List PyData}, DwAll X.K M H vs ds → DwAll X.K M H zs es → DwAll X.K M H (gV vs zs) (gD ds es))
    (h : PE X e (L2.tCallN 0 m (spE X.K P) gV E tNil (tDA X.K o tk))) : PE X e (tD X.K o (qKw 0 m gD (fun ds R => P ds R fun _ _ => False) qNil tk)) := de_callNE (ta := qNil) hg (PE.imp h fun σ H Q q => nil_over q)
end
/-! ### a def that makes lambdas -/
theorem tabs_upd {TS : List (Addr × Str)} {H1 H : Hp} {D : Addr} {o : HO} (t1 : Tabs TS H1) (h : H1 D = none) (t : Tabs TS H) (hp : ∀ u, H D = some u → PlainO u) : Tabs TS (upd H D o) := fun p hq => by
  obtain ⟨ps, h1, h2, h3⟩ := t p hq
  obtain ⟨ps1, g1, _⟩ := t1 p hq
  refine ⟨ps, by rw [upd_ne (ne_of_none g1 h)]; exact h1, h2, fun pos cv hc => ?_⟩
  obtain ⟨c, e1, e2⟩ := h3 pos cv hc
  refine ⟨c, e1, ?_⟩
  rw [upd_ne (fun z => by rw [z] at e2; exact hp _ e2)]
  exact e2
def spL (K : PySem.W.Frag) (TS : TSet) (P : FD) : Sp := fun vs H Q _ => ∃ (M : Addr → Prop) (ds : List PyData) (R : PyData → Prop), Al M H ∧ Tabs TS H ∧ DwAll K M H vs ds ∧ P ds R ∧ ∀ d, R d → ∀ v H', ExtN H H' → Tabs TS H' → Dw K M H' v d → Q v H'
section
variable {X : Cx} {e : Expr} {E : XK} {TS : TSet}
theorem de_callL {P : FD} {u : TDA} (h : PE X e (tCall (spL X.K TS P) [] E (tDA X.K (some TS) u))) : PE X e (tD X.K (some TS) (qCB P u)) := PE.imp h fun σ H Q ⟨W, ρ, n, R, E, g, t, k⟩ => by
  obtain ⟨l1, l2⟩ := W.lm TS E.tse
  exact ⟨W, ρ, n, _, E, g, t, fun ds n1 t1 vs H1 F1 g1 w => ⟨W.M, ds, _, fun c m => W.al g1 m, l1 _ _ g1, by rw [List.append_nil]; exact w, t1, fun d r v H' x t' w' => by
    have q := l2 _ _ _ g1 x t'
    exact k d n1 r v H' (W.trans F1 q.2) q.1 w'⟩⟩
def undr : DS → DS
  | .dr => .no
  | .ow _ => .no
  | s => s
theorem EnvD.undr {K : PySem.W.Frag} {o : Option TSet} {M : Addr → Prop} {a : Option Addr × Option TSet × (Nat → V)} {ρ : List DS} {σ : L2.St} {H : Hp} (E : EnvD K o M a ρ σ H) : EnvD K none M (none, none, noV) (ρ.map undr) σ H := by
  have main : ∀ (i : Nat) s, (ρ.map MT.undr)[i]? = some s → ∃ t, ρ[i]? = some t ∧ MT.undr t = s := fun i s e => by
    rw [List.getElem?_map] at e
    cases q : ρ[i]? with
    | none => rw [q] at e; cases e
    | some t => rw [q] at e; exact ⟨t, rfl, Option.some.inj e⟩
  refine ⟨by rw [List.length_map]; exact E.len, fun i x e => ?_, fun i x e => ?_, fun i e => ?_, fun i k e => ?_, rfl, fun i e => ?_⟩ <;> obtain ⟨t, h1, h2⟩ := main i _ e
  · cases t <;> cases h2; exact E.dat i _ h1
  · cases t <;> cases h2; exact E.val i _ h1
  · cases t <;> cases h2
  · cases t <;> cases h2
  · cases t <;> cases h2; exact E.fzl i h1
/-- what a def makes of asking what it is handed -/
def TTd (K : PySem.W.Frag) (hx : Addr → List (Str × PyData) → PyData → Prop) (hr : PyData → PyData) : (XK → Hp → VK → Prop) → Hp → VK → Prop := fun tl H Q => ∃ (M : Addr → Prop) (R : PyData → Prop), Al M H ∧
  tl (fun cls dd H' => ∃ C fs fv z a, cls = .ref C ∧ dd = some a ∧ Same H H' ∧ H' a = some (.xd fv) ∧ FvW K M H' fv fs ∧ hx C fs z ∧ R z) H (fun v H' => Same H H' ∧ ∃ d, Dw K M H' v d ∧ R (hr d)) ∧
  ∀ z, R z → ∀ v H', Same H H' → Dw K M H' v z → Q v H'
def qHeard (hx : Addr → List (Str × PyData) → PyData → Prop) (hr : PyData → PyData) (P : FE) (u : TDA) : TD := fun ρ n R => u (ρ.map undr) n fun ds _ => P ds (fun d => R (hr d) n) fun C fs => ∃ z, hx C fs z ∧ R z n
theorem de_heard {hx : Addr → List (Str × PyData) → PyData → Prop} {hr : PyData → PyData} {P : FE} {u : TDA} (h : PE X e (LamX.tLam TS (TTd X.K hx hr) (fun E => tCall (spE X.K P) [] E (tDA X.K none u)))) : PE X e (tD X.K (some TS) (qHeard hx hr P u)) := PE.imp h fun σ H Q ⟨W, ρ, n, R, E, g, t, k⟩ => by
  obtain ⟨l1, l2⟩ := W.lm TS E.tse
  refine ⟨l1 _ _ g, fun H1 x1 t1 => ?_⟩
  have q := l2 _ _ _ g x1 t1
  refine ⟨W.M, fun z => R z n, fun c m => W.al q.1 m, ?_, fun z r v H' s w => k z n r v H' (W.trans q.2 (W.of s)) (W.same q.1 s) w⟩
  have E1 := (E.frm (W.frm q.2)).undr
  have al1 : Al W.M H1 := fun c m => W.al q.1 m
  refine ⟨pureF W.M, _, n, _, E1, al1, t, fun ds n1 t1 vs H2 F2 g2 w => ⟨W.M, ds, _, _, g2, by rw [List.append_nil]; exact w, t1, fun d r v H' s w' => ⟨F2.trans s, d, w', r⟩, ?_⟩⟩
  rintro C fs ⟨z, hz, r⟩ a H' fv s na ha hw
  exact ⟨C, fs, fv, z, a, rfl, rfl, F2.trans s, ha, hw, hz, r⟩
end
def lamF (M : Addr → Prop) (TS : TSet) : Fld where
  M := M
  G := fun _ H => Al M H ∧ Tabs TS H
  Rel := ExtN
  a := none
  ts := some TS
  ov := noV
  born := fun x g e H' u x' b w q n => by
    rename_i H0 H D
    rw [upd_ne (fun z => by rw [z] at q; rw [x _ _ q n] at e; cases e)]
    exact x' b w q n
  trans := ExtN.trans
  of := fun s => ExtN.of s
  frm := fx_ext
  same := fun g s => ⟨g.1.same s, g.2.ext fun b o e => s _ _ e⟩
  al := fun g m => g.1 _ m
  updR := fun x h b u e n => by rw [upd_ne (ne_of_none e h)]; exact x b u e n
  updG := fun g h q hp => ⟨g.1.upd h q.1, tabs_upd g.2 h q.2 hp⟩
  dr := fun x e => by cases e
  lm := fun T e => by
    cases e
    exact ⟨fun n H g => g.2, fun n H H' g x t => ⟨⟨g.1.ext x, t⟩, x⟩⟩
def lawF (a b : Addr) (cs : List Int) (TS : TSet) : Fld where
  M := (· = a)
  G := fun n H => Sx a b cs n H ∧ Tabs TS H
  Rel := Fx (· = a)
  a := some a
  ts := some TS
  ov := noV
  born := fun x g e H' u x' b w n q z => by
    rename_i H0 H D
    rw [upd_ne (fun c => by rw [c] at q n; rw [x _ _ n q z] at e; cases e)]
    exact x' b w n q z
  trans := Fx.trans
  of := fx_same
  frm := id
  same := fun g s => ⟨g.1.same s, g.2.ext fun b o e => s _ _ e⟩
  al := fun g m => by
    cases m
    exact g.1.atl
  updR := fun x h b u n e t => by rw [upd_ne (ne_of_none e h)]; exact x b u n e t
  updG := fun g h q hp => ⟨Sx.updD g.1 h q.1, tabs_upd g.2 h q.2 hp⟩
  dr := fun x e => by
    cases e
    exact ⟨rfl, b, cs, fun n H g => g.1, fun n n' H H' g F S => ⟨⟨S, tabs_draw g.2 F g.1⟩, fx_frm F⟩⟩
  lm := fun T e => by
    cases e
    exact ⟨fun n H g => g.2, fun n H H' g x t => ⟨⟨g.1.ext x, t⟩, fx_ext x⟩⟩
section
variable {K : PySem.W.Frag} {t : TDS} {N : List Str} {vs : List V} {H : Hp} {Q : VK} {E : XK} {TS : TSet}
theorem lamG {P : FD} (h : spL K TS P vs H Q E) (q : ∀ ds R, P ds R → t (ds.map DS.d ++ List.replicate (N.length - ds.length) DS.no) 0 (fun _ _ => False) (fun y _ => R y)) : tDs K (some TS) t { nx := fun _ H' => Q .non H', rt := Q } (start N vs) H := by
  obtain ⟨M, ds, R, al, tb, w, p, k⟩ := h
  have e := env_of (o := some TS) (a := none) (N.length - ds.length) w
  refine ⟨lamF M TS, _, 0, _, _, ?_, ⟨al, tb⟩, q ds R p, fun _ _ z => z.elim, fun d n r v H' x g w => k d r v H' x g.2 w⟩
  unfold L2.start
  rw [w.length]
  exact e
theorem llenG {P : FD} {n : Nat} (h : spL K TS P vs H Q E) (l : ∀ ds R, P ds R → ds.length = n) : vs.length = n := by
  obtain ⟨M, ds, R, al, tb, w, p, k⟩ := h
  exact w.length.trans (l ds R p)
theorem law_lam {a0 p b : Addr} {cs : List Int} {H1 : Hp} {m : Nat} (S1 : Sx p b cs 0 H1) (tb : Tabs TS H1) (k : ∀ H', Q (.bl true) H') (q : t (.no :: .dr :: List.replicate m DS.no) 0 (fun _ _ => False) (fun y _ => y = .bool true)) :
    tDs K (some TS) t { nx := fun _ H' => Q .non H', rt := Q } (some (.ref a0) :: some (.ref p) :: List.replicate m none) H1 :=
  ⟨lawF p b cs TS, _, 0, _, _, .cons (s := .no) trivial (.cons (s := .dr) ⟨p, rfl, rfl⟩ (no_env (o := some TS) m)), ⟨S1, tb⟩, q, fun _ _ z => z.elim, fun d n e v H' _ _ w => by subst e; cases w; exact k H'⟩
/-- .. its script kept -/
theorem law_lamZ {a0 p b : Addr} {cs : List Int} {H H1 : Hp} {xs : List V} {m : Nat} (S1 : Sx p b cs 0 H1) (tb : Tabs TS H1) (hS : SqL K H a0 xs) (hp : H p = none) (s1 : Same H H1) (k : ∀ H', Q (.bl true) H') (q : t (.fz :: .dr :: List.replicate m DS.no) 0 (fun _ _ => False) (fun y _ => y = .bool true)) :
    tDs K (some TS) t { nx := fun _ H' => Q .non H', rt := Q } (some (.ref a0) :: some (.ref p) :: List.replicate m none) H1 := by
  have z : FzL K (lawF p b cs TS).M H1 (.ref a0) := by
    have ne : H a0 ≠ none → a0 ≠ p := fun n e => n (e ▸ hp)
    rcases hS with (h | ⟨u, h⟩) | ⟨o, its, n, h⟩
    · exact ⟨a0, xs, rfl, .inl ⟨ne (by rw [h]; simp), .inl (s1 _ _ h)⟩⟩
    · exact ⟨a0, xs, rfl, .inl ⟨ne (by rw [h]; simp), .inr ⟨u, s1 _ _ h⟩⟩⟩
    · exact ⟨a0, xs, rfl, .inr fun G => .inr ⟨o, its, n, h⟩⟩
  exact ⟨lawF p b cs TS, _, 0, _, _, .cons (s := .fz) ⟨_, rfl, z⟩ (.cons (s := .dr) ⟨p, rfl, rfl⟩ (no_env (o := some TS) m)), ⟨S1, tb⟩, q, fun _ _ z => z.elim, fun d n e v H' _ _ w => by subst e; cases w; exact k H'⟩
end
/-! ### raising -/
abbrev TDX := List DS → (List DS → Prop) → (PyData → Prop) → (Addr → List (Str × PyData) → Prop) → Prop
def tDx (K : PySem.W.Frag) (E : XK) (t : TDX) : TS := fun D σ H => ∃ (M : Addr → Prop) (ρ : List DS) (Rn : List DS → Prop) (Rr : PyData → Prop) (Rx : Addr → List (Str × PyData) → Prop), EnvD K none M (none, none, noV) ρ σ H ∧ Al M H ∧ t ρ Rn Rr Rx ∧
  (∀ ρ', Rn ρ' → ∀ σ' H', Same H H' → EnvD K none M (none, none, noV) ρ' σ' H' → D.nx σ' H') ∧ (∀ d, Rr d → ∀ v H', Same H H' → Dw K M H' v d → D.rt v H') ∧
  ∀ C fs, Rx C fs → ∀ a H' fv, Same H H' → H a = none → H' a = some (.xd fv) → FvW K M H' fv fs → E (.ref C) (some a) H'
section
variable {X : Cx} {st : Stmt} {ss : List Stmt} {E : XK}
def qxOf (t : TDS) : TDX := fun ρ Rn Rr _ => t ρ 0 (fun ρ' _ => Rn ρ') (fun d _ => Rr d)
theorem dx_over {K : PySem.W.Frag} {t : TDS} {D : Ends} {σ : L2.St} {H : Hp} : tDx K E (qxOf t) D σ H → tDs K none t D σ H := fun ⟨M, ρ, Rn, Rr, Rx, e, al, q, k1, k2, k3⟩ =>
  ⟨pureF M, ρ, 0, _, _, e, al, q, fun ρ' n r σ' H' s g e' => k1 ρ' r σ' H' s e', fun d n r v H' s g w => k2 d r v H' s w⟩
theorem dx_of {t : TDS} (h : PS X st (tDs X.K none t)) : PS X st (tDx X.K E (qxOf t)) := PS.imp h fun _ _ _ => dx_over
theorem dxs_of {t : TDS} (h : PSs X ss (tDs X.K none t)) : PSs X ss (tDx X.K E (qxOf t)) := PSs.imp h fun _ _ _ => dx_over
def qxIf (c : TDB) (t u : TDX) : TDX := fun ρ Rn Rr Rx => c ρ 0 fun b _ => if b = true then t ρ Rn Rr Rx else u ρ Rn Rr Rx
theorem dx_if {c : TDB} {t u : TDX} (h : PS X st (tIfS (tDB X.K none c) (tDx X.K E t) (tDx X.K E u))) : PS X st (tDx X.K E (qxIf c t u)) := PS.imp h fun D σ H ⟨M, ρ, Rn, Rr, Rx, e, al, q, k1, k2, k3⟩ =>
  ⟨pureF M, ρ, 0, _, e, al, q, fun b n r H1 s g => by
    have k3' : ∀ C fs, Rx C fs → ∀ a H' fv, Same H1 H' → H1 a = none → H' a = some (.xd fv) → FvW X.K M H' fv fs → E (.ref C) (some a) H' := fun C fs r a H' fv s' na ha hw => k3 C fs r a H' fv (Same.trans s s') (Same.free s na) ha hw
    cases b with
    | true => exact ⟨M, ρ, Rn, Rr, Rx, e.frm (fx_same s), g, r, fun ρ' r σ' H' s' e' => k1 ρ' r σ' H' (Same.trans s s') e', fun d r v H' s' w => k2 d r v H' (Same.trans s s') w, k3'⟩
    | false => exact ⟨M, ρ, Rn, Rr, Rx, e.frm (fx_same s), g, r, fun ρ' r σ' H' s' e' => k1 ρ' r σ' H' (Same.trans s s') e', fun d r v H' s' w => k2 d r v H' (Same.trans s s') w, k3'⟩⟩
def qxSeq (t u : TDX) : TDX := fun ρ Rn Rr Rx => t ρ (fun ρ1 => u ρ1 Rn Rr Rx) Rr Rx
theorem dxs_cons {t u : TDX} (h : PSs X ss (tSeq (tDx X.K E t) (tDx X.K E u))) : PSs X ss (tDx X.K E (qxSeq t u)) := PSs.imp h fun D σ H ⟨M, ρ, Rn, Rr, Rx, e, al, q, k1, k2, k3⟩ =>
  ⟨M, ρ, _, Rr, Rx, e, al, q, fun ρ1 r1 σ1 H1 s e1 => ⟨M, ρ1, Rn, Rr, Rx, e1, al.same s, r1, fun ρ' r σ' H' s' e' => k1 ρ' r σ' H' (Same.trans s s') e', fun d r v H' s' w => k2 d r v H' (Same.trans s s') w, fun C fs r a H' fv s' na ha hw => k3 C fs r a H' fv (Same.trans s s') (Same.free s na) ha hw⟩, k2, k3⟩
def qxRaise (C : Addr) (f : Str) (u : TDA) : TDX := fun ρ _ _ Rx => u ρ 0 fun ds _ => ∃ x, ds = [x] ∧ Rx C [(f, x)]
theorem dx_raise {C : Addr} {f : Str} {u : TDA} (h : PS X st (fun _ σ H => tMkE C f (tDA X.K none u) σ H fun cls d H' => E cls d H')) : PS X st (tDx X.K E (qxRaise C f u)) := PS.imp h fun D σ H ⟨M, ρ, Rn, Rr, Rx, e, al, q, k1, k2, k3⟩ =>
  ⟨pureF M, ρ, 0, _, e, al, q, fun ds n ⟨x, ed, r⟩ vs H1 s g w => by
    subst ed
    cases w with
    | cons a b =>
      cases b
      exact ⟨_, rfl, fun d H2 n2 => k3 C _ r d H2 _ (Same.trans s n2.1) (Same.free s n2.2.2) n2.2.1 ⟨rfl, .cons (a.same n2.1) .nil⟩⟩⟩
def qxRaise2 (C : Addr) (f g : Str) (u : TDA) : TDX := fun ρ _ _ Rx => u ρ 0 fun ds _ => ∃ x y, ds = [x, y] ∧ Rx C [(g, y), (f, x)]
theorem dx_raise2 {C : Addr} {f g : Str} {u : TDA} (h : PS X st (fun _ σ H => tMkE2 C f g (tDA X.K none u) σ H fun cls d H' => E cls d H')) : PS X st (tDx X.K E (qxRaise2 C f g u)) := PS.imp h fun D σ H ⟨M, ρ, Rn, Rr, Rx, e, al, q, k1, k2, k3⟩ =>
  ⟨pureF M, ρ, 0, _, e, al, q, fun ds n ⟨x, y, ed, r⟩ vs H1 s g w => by
    subst ed
    cases w with
    | cons a b =>
      cases b with
      | cons a2 b2 =>
        cases b2
        exact ⟨_, _, rfl, fun d H2 n2 => k3 C _ r d H2 _ (Same.trans s n2.1) (Same.free s n2.2.2) n2.2.1 ⟨rfl, .cons (a2.same n2.1) (.cons (a.same n2.1) .nil)⟩⟩⟩
end
section
variable {K : PySem.W.Frag} {N : List Str} {vs : List V} {H : Hp} {Q : VK} {E : XK}
theorem exG {t : TDX} {P : FE} (h : spE K P vs H Q E) (q : ∀ ds R Rx, P ds R Rx → t (ds.map DS.d ++ List.replicate (N.length - ds.length) DS.no) (fun _ => False) R Rx) : tDx K E t { nx := fun _ H' => Q .non H', rt := Q } (start N vs) H := by
  obtain ⟨M, ds, R, Rx, al, w, p, k, kx⟩ := h
  have e := env_of (o := none) (a := none) (N.length - ds.length) w
  refine ⟨M, _, _, R, Rx, ?_, al, q ds R Rx p, fun _ z => z.elim, k, kx⟩
  unfold L2.start
  rw [w.length]
  exact e
theorem xlenG {P : FE} {n : Nat} (h : spE K P vs H Q E) (l : ∀ ds R Rx, P ds R Rx → ds.length = n) : vs.length = n := by
  obtain ⟨M, ds, R, Rx, al, w, p, k, kx⟩ := h
  exact w.length.trans (l ds R Rx p)
end
end MT
set_option maxHeartbeats 1000000
/-! repr of data in which dicts stand -/
namespace MT
open PySem L2
mutual
def toldD : PyData → Bool
  | .list ds => toldAll ds
  | .tuple ds => toldAll ds
  | .dict ks => toldKv ks
  | _ => true
def toldAll : List PyData → Bool
  | [] => true
  | d :: ds => toldD d && toldAll ds
def toldKv : List (PyData × PyData) → Bool
  | [] => true
  | (.list _, _) :: _ => false
  | (.tuple _, _) :: _ => false
  | (_, e) :: r => toldD e && toldKv r
end
theorem ct_ks {K : PySem.W.Frag} {M : Addr → Prop} {H : Hp} : ∀ {kvs : List (Key × V)} {ks : List (PyData × PyData)}, CtW kvs ks → DwKs K M H kvs ks
  | [], [], _ => .nil
  | [], _ :: _, h => False.elim h
  | _ :: _, [], h => False.elim h
  | (k, v) :: r, (d, e) :: s, h => by
    obtain ⟨h1, h2, h3⟩ := (show KyW k d ∧ AtW v e ∧ CtW r s from h)
    refine .cons h1 ?_ (ct_ks h3)
    cases v <;> cases e <;> first | exact False.elim h2 | exact .non | (have h2 : _ = _ := h2; subst h2; constructor)
theorem kv_all {κ : Type} : ∀ {kvs : List (κ × V)} {vs : List (κ × Value)}, KV kvs vs → kvs.length = vs.length
  | _, _, .nil => rfl
  | _, _, .cons _ r => congrArg Nat.succ (kv_all r)
theorem at_reads {h : Heap} {v : V} {u : Value} {d : PyData} (a : AtW v d) (r : RelV v u) : Reads h u d [] := by
  cases v <;> cases d <;> first | exact False.elim a | skip
  · cases r; exact .none
  · cases r
    have a : _ = _ := a
    subst a
    exact .bool _
  · obtain ⟨t, rfl⟩ := r
    have a : _ = _ := a
    subst a
    exact .int _ _
  · obtain ⟨t, rfl⟩ := r
    have a : _ = _ := a
    subst a
    exact .str _ _
theorem ky_reads {h : Heap} {k : Key} {u : Value} {d : PyData} (a : KyW k d) (r : keyIs k u = true) : Reads h u d [] := by
  rcases keyIs_shape r with ⟨i, t, rfl, rfl⟩ | ⟨x, t, rfl, rfl⟩
  · cases d <;> first | exact False.elim a | skip
    have a : _ = _ := a
    subst a
    exact .int _ _
  · cases d <;> first | exact False.elim a | skip
    have a : _ = _ := a
    subst a
    exact .str _ _
theorem at_nodict {v : V} {d : PyData} (a : AtW v d) : d.hasDict = false := by
  cases v <;> cases d <;> first | exact False.elim a | simp [PyData.hasDict]
theorem ky_nodict {k : Key} {d : PyData} (a : KyW k d) : d.hasDict = false := by
  cases k <;> cases d <;> first | exact False.elim a | simp [PyData.hasDict]
section
variable {X : Cx} {pins : List (Addr × Obj)} {σ : L2.St} {H : Hp} {s : Shared} {M : Addr → Prop}
theorem dim_not {ds : List (PyData × PyData)} (h : toldKv ds = true) : ds ≠ [(.list [], .none)] := fun e => by
  rw [e] at h
  cases h
theorem kt_not {k : List Key} {d e : PyData} {r : List (PyData × PyData)} (c : KtW k d) : ¬ toldKv ((d, e) :: r) = true := fun h => by
  cases d <;> first | exact False.elim c | simp [toldKv] at h
theorem ky_told {k : Key} {d e : PyData} {r : List (PyData × PyData)} (c : KyW k d) (h : toldKv ((d, e) :: r) = true) : toldD e = true ∧ toldKv r = true := by
  cases k <;> cases d <;> first | exact False.elim c | simpa [toldKv] using h
theorem rk_atom {u : Value} {d : PyData} {as : List Addr} (r : Reads s.heap u d as) (sh : d.showable = true) (nd : d.hasDict = false) (hz : d.shown.length ≤ sizeLine) : ∃ as bs, Reads s.heap u d as ∧ ReadAtMost s.heap d.depth bs ∧ ReprK X.prog X.w bs s.heap d.depth u d.shown := by
  obtain ⟨bs, h1, h2⟩ := ReprK.of_reads (prog := X.prog) (w := X.w) r sh (fun z => by rw [nd] at z; cases z) hz
  exact ⟨_, bs, r, h1, h2⟩
mutual
theorem Dw.rk (I : Inv X pins σ H s) : ∀ (d : PyData) (v : V) (u : Value), Dw X.K M H v d → RelV v u → toldD d = true → d.showable = true → d.shown.length ≤ sizeLine → ∃ as bs, Reads s.heap u d as ∧ ReadAtMost s.heap d.depth bs ∧ ReprK X.prog X.w bs s.heap d.depth u d.shown
  | .none, _, _, h, r, _, sh, hz => by
    cases h
    cases r
    exact rk_atom .none sh (by simp only [PyData.hasDict]) hz
  | .bool b, _, _, h, r, _, sh, hz => by
    cases h
    cases r
    exact rk_atom (.bool b) sh (by simp only [PyData.hasDict]) hz
  | .int i, _, _, h, r, _, sh, hz => by
    cases h
    obtain ⟨t, rfl⟩ := r
    exact rk_atom (.int i t) sh (by simp only [PyData.hasDict]) hz
  | .str x, _, _, h, r, _, sh, hz => by
    cases h
    obtain ⟨t, rfl⟩ := r
    exact rk_atom (.str x t) sh (by simp only [PyData.hasDict]) hz
  | .list ds, _, _, h, r, td, sh, hz => by
    cases h with
    | lst n a =>
      cases r
      obtain ⟨its, rv, ⟨o, m, ho, hc, _, hd⟩, _⟩ := I.list n.at
      have hz' : (listText (PyData.shownAll ds)).length ≤ sizeLine := by simpa only [PyData.shown] using hz
      obtain ⟨as, bs, rr, hb, hk⟩ := DwAll.rk I ds _ its a rv (by simpa [toldD] using td) (by simpa [PyData.showable] using sh) (fun t ht => Nat.le_trans (listText_mem_le ht) hz')
      have r := Reads.list ho hc hd rr
      have hna := not_mem_of_deeper r (by simp only [PyData.depth]; omega) hb
      refine ⟨_, _, r, ReadAtMost.cons r (by simp only [PyData.depth]; omega) hb, ?_⟩
      simp only [PyData.depth, PyData.shown]
      cases its with
      | nil =>
        cases rr
        simp only [PyData.shownAll, listText_nil]
        exact ReprK.listEmpty ho hc hd
      | cons x l => exact ReprK.list ho hc hd hna (by simpa using hk.length_eq) (fun i y e => hk.item i y (by simpa using e))
  | .tuple ds, _, _, h, r, td, sh, hz => by
    cases h with
    | tup n a =>
      cases r
      obtain ⟨its, rv, ⟨o, ho, hc, m, hd⟩, _⟩ := I.tuple n.at
      have hz' : (tupleText (PyData.shownAll ds)).length ≤ sizeLine := by simpa only [PyData.shown] using hz
      obtain ⟨as, bs, rr, hb, hk⟩ := DwAll.rk I ds _ its a rv (by simpa [toldD] using td) (by simpa [PyData.showable] using sh) (fun t ht => Nat.le_trans (tupleText_mem_le ht) hz')
      have r := Reads.tuple ho hc hd rr
      have hna := not_mem_of_deeper r (by simp only [PyData.depth]; omega) hb
      refine ⟨_, _, r, ReadAtMost.cons r (by simp only [PyData.depth]; omega) hb, ?_⟩
      simp only [PyData.depth, PyData.shown]
      exact ReprK.tuple ho hc hd hna hk
  | .dict ks, _, _, h, r, td, sh, hz => by
    have td : toldKv ks = true := by simpa [toldD] using td
    have main : ∀ {p : Addr} {kvs : List (Key × V)}, H p = some (.dK kvs) → DwKs X.K M H kvs ks → ∃ as bs, Reads s.heap (.ref p) (.dict ks) as ∧ ReadAtMost s.heap (PyData.dict ks).depth bs ∧ ReprK X.prog X.w bs s.heap (PyData.dict ks).depth (.ref p) (PyData.dict ks).shown := fun {p kvs} e c => by
      obtain ⟨_, low, vs, kv, dd⟩ := dk_of I.hok e
      obtain ⟨es, ep, ⟨o, ho, hc, hd⟩, le, hi⟩ := dd.raw
      have hz' : (dictText (PyData.shownKv ks)).length ≤ sizeLine := by simpa only [PyData.shown] using hz
      obtain ⟨a1, a2, bs, q1, q2, hb, k1, k2⟩ := DwKs.rk I ks kvs vs es.toList c kv (by rw [Array.length_toList]; exact le) (fun i e k v a b => by
        rw [Array.getElem?_toList] at a
        obtain ⟨hi2, he⟩ := Array.getElem?_eq_some_iff.mp a
        have := hi i hi2 k v b
        rw [he] at this
        exact this) td (by simpa [PyData.showable] using sh) (fun t ht => Nat.le_trans (dictText_mem_le ht) hz')
      have r := Reads.dict ho hc.1 hd q1 q2
      have hna := not_mem_of_deeper r (by simp only [PyData.depth]; omega) hb
      refine ⟨_, _, r, ReadAtMost.cons r (by simp only [PyData.depth]; omega) hb, ?_⟩
      simp only [PyData.depth, PyData.shown]
      refine ReprK.dict ho hc.1 hd low hna ?_
      rw [PyData.shownKv_eq]
      exact ReprEntriesK.of_two es.toList _ _ k1 k2
    cases h with
    | dct n e c => cases r; exact main e (ct_ks c)
    | dkT n e => exact absurd rfl (dim_not td)
    | dcT n e => exact absurd rfl (dim_not td)
    | dk n e c => cases r; exact main e c
    | dt n e c =>
      cases c with
      | nil =>
        cases r
        obtain ⟨_, low, xs, kt, o, es, ep, ho, hc, hd, le, _⟩ := dt_of I.hok e
        cases kt
        have le : es.toList = [] := le
        have r := Reads.dict ho hc.1 hd (kvs := []) (as := []) (bs := []) (by rw [le]; exact .nil) (by rw [le]; exact .nil)
        have hna := not_mem_of_deeper (bs := []) (n := 0) r (by simp only [PyData.depth]; omega) (fun _ h => nomatch h)
        refine ⟨_, _, r, ReadAtMost.cons (bs := []) (n := 0) r (Nat.zero_le _) (fun _ h => nomatch h), ?_⟩
        simp only [PyData.depth, PyData.shown]
        exact ReprK.dict ho hc.1 hd low hna (by rw [le]; simp only [PyData.shownKv]; exact .nil)
      | cons k v _ =>
        rename_i kk vv rr dd ee ss
        exact absurd td (kt_not k)
    | obj n e c f => simp [toldKv] at td
    | exn n e n2 e2 c f => simp [toldKv] at td
    | exn0 n e c => simp [toldKv] at td
theorem DwAll.rk (I : Inv X pins σ H s) : ∀ (ds : List PyData) (vs : List V) (us : List Value), DwAll X.K M H vs ds → Vals vs us → toldAll ds = true → PyData.showableAll ds = true → (∀ t ∈ PyData.shownAll ds, t.length ≤ sizeLine) →
    ∃ as bs, ReadsAll s.heap us ds as ∧ ReadAtMost s.heap (PyData.depthAll ds) bs ∧ ReprAllK X.prog X.w bs s.heap (PyData.depthAll ds) us (PyData.shownAll ds)
  | [], _, _, h, r, _, _, _ => by
    cases h
    cases r
    exact ⟨_, [], .nil, (fun _ h => nomatch h), by simp only [PyData.shownAll]; exact .nil⟩
  | d :: ds, _, _, h, r, td, sh, hz => by
    have td : toldD d = true ∧ toldAll ds = true := by simpa [toldAll] using td
    have sh : d.showable = true ∧ PyData.showableAll ds = true := by simpa [PyData.showableAll] using sh
    cases h with
    | cons h1 h2 =>
      cases r with
      | cons r1 r2 =>
        obtain ⟨as, b1, q1, hb1, k1⟩ := Dw.rk I d _ _ h1 r1 td.1 sh.1 (hz _ (by simp only [PyData.shownAll]; exact List.mem_cons_self))
        obtain ⟨cs, b2, q2, hb2, k2⟩ := DwAll.rk I ds _ _ h2 r2 td.2 sh.2 (fun t ht => hz t (by simp only [PyData.shownAll]; exact List.mem_cons_of_mem _ ht))
        refine ⟨_, b1 ++ b2, .cons q1 q2, ?_, ?_⟩
        · simp only [PyData.depthAll]
          exact (hb1.mono (Nat.le_max_left _ _)).append (hb2.mono (Nat.le_max_right _ _))
        · simp only [PyData.depthAll, PyData.shownAll]
          exact .cons ((k1.more fun b hb => List.mem_append_left _ hb).level_le (Nat.le_max_left _ _)) (k2.more_le (fun b hb => List.mem_append_right _ hb) (Nat.le_max_right _ _))
theorem DwKs.rk (I : Inv X pins σ H s) : ∀ (ks : List (PyData × PyData)) (kvs : List (Key × V)) (vs : List (Key × Value)) (es : List DictEntry), DwKs X.K M H kvs ks → KV kvs vs → es.length = vs.length →
    (∀ (i : Nat) e k v, es[i]? = some e → vs[i]? = some (k, v) → keyIs k e.key = true ∧ e.val = v) → toldKv ks = true → PyData.showableKv ks = true → (∀ t ∈ PyData.shownKv ks, t.length ≤ sizeLine) →
    ∃ a1 a2 bs, ReadsAll s.heap (es.map (·.key)) (ks.map (·.1)) a1 ∧ ReadsAll s.heap (es.map (·.val)) (ks.map (·.2)) a2 ∧ ReadAtMost s.heap (PyData.depthKv ks) bs ∧ ReprAllK X.prog X.w bs s.heap (PyData.depthKv ks) (es.map (·.key)) (PyData.shownAll (ks.map (·.1))) ∧ ReprAllK X.prog X.w bs s.heap (PyData.depthKv ks) (es.map (·.val)) (PyData.shownAll (ks.map (·.2)))
  | [], _, _, es, h, r, l, _, _, _, _ => by
    cases h
    cases r
    cases es with
    | nil => exact ⟨_, _, [], .nil, .nil, (fun _ h => nomatch h), by simp only [List.map_nil, PyData.shownAll]; exact .nil, by simp only [List.map_nil, PyData.shownAll]; exact .nil⟩
    | cons _ _ => cases l
  | (d1, d2) :: ks, _, _, es, h, r, l, f, td, sh, hz => by
    have sh : (d1.showable = true ∧ d2.showable = true) ∧ PyData.showableKv ks = true := by simpa [PyData.showableKv] using sh
    cases h with
    | cons c1 h1 h2 =>
      cases r with
      | @cons _ kv _ _ hk r2 =>
        cases es with
        | nil => cases l
        | cons e es =>
          obtain ⟨k2, u⟩ := kv
          obtain ⟨f1, f2⟩ := f 0 e k2 u rfl rfl
          obtain ⟨e1, e2⟩ := hk
          have e1 : _ = k2 := e1
          subst e1
          have tn : toldD d2 = true ∧ toldKv ks = true := by
            exact ky_told c1 td
          have l1 : d1.shown.length ≤ sizeLine := by
            obtain ⟨p, hp, hl⟩ := PyData.shownKv_key_le ((d1, d2) :: ks) d1.shown (by simp only [List.map_cons, PyData.shownAll]; exact List.mem_cons_self)
            exact Nat.le_trans hl (hz p hp)
          have l2 : d2.shown.length ≤ sizeLine := by
            obtain ⟨p, hp, hl⟩ := PyData.shownKv_val_le ((d1, d2) :: ks) d2.shown (by simp only [List.map_cons, PyData.shownAll]; exact List.mem_cons_self)
            exact Nat.le_trans hl (hz p hp)
          obtain ⟨a0, b0, q0, hb0, k0⟩ := rk_atom (X := X) (s := s) (ky_reads c1 f1) sh.1.1 (ky_nodict c1) l1
          obtain ⟨a1, b1, q1, hb1, k1⟩ := Dw.rk I d2 _ e.val h1 (by rw [f2]; exact e2) tn.1 sh.1.2 l2
          obtain ⟨a2, a3, b2, q2, q3, hb2, k3, k4⟩ := DwKs.rk I ks _ _ es h2 r2 (Nat.succ.inj l) (fun i e k v a b => f (i + 1) e k v a b) tn.2 sh.2 (fun t ht => hz t (by simp only [PyData.shownKv]; exact List.mem_cons_of_mem _ ht))
          refine ⟨_, _, b0 ++ (b1 ++ b2), .cons q0 q2, .cons q1 q3, ?_, ?_, ?_⟩
          · simp only [PyData.depthKv]
            exact (hb0.mono (by omega)).append ((hb1.mono (by omega)).append (hb2.mono (by omega)))
          · simp only [PyData.depthKv, List.map_cons, PyData.shownAll]
            exact .cons ((k0.more fun b hb => List.mem_append_left _ hb).level_le (by omega)) (k3.more_le (fun b hb => List.mem_append_right _ (List.mem_append_right _ hb)) (by omega))
          · simp only [PyData.depthKv, List.map_cons, PyData.shownAll]
            exact .cons ((k1.more fun b hb => List.mem_append_right _ (List.mem_append_left _ hb)).level_le (by omega)) (k4.more_le (fun b hb => List.mem_append_right _ (List.mem_append_right _ hb)) (by omega))
end
theorem dict_dk (I : Inv X pins σ H s) {p : Addr} {kvs : List (Key × V)} {ks : List (PyData × PyData)} (e : H p = some (.dK kvs)) (c : DwKs X.K M H kvs ks) (td : toldKv ks = true) (sh : PyData.showableKv ks = true) (hz : (dictText (PyData.shownKv ks)).length ≤ sizeLine) :
    ∃ o es n as bs, s.heap.get? p = some o ∧ o.cls = .type "dict" ∧ o.data = .dict es n ∧ (p == sysModules) = false ∧ Reads s.heap (.ref p) (.dict ks) as ∧ ReadAtMost s.heap (PyData.depthKv ks) bs ∧ ReprEntriesK X.prog X.w bs s.heap (PyData.depthKv ks) es.toList (PyData.shownKv ks) := by
  obtain ⟨_, low, vs, kv, dd⟩ := dk_of I.hok e
  obtain ⟨es, ep, ⟨o, ho, hc, hd⟩, le, hi⟩ := dd.raw
  obtain ⟨a1, a2, bs, q1, q2, hb, k1, k2⟩ := DwKs.rk I ks kvs vs es.toList c kv (by rw [Array.length_toList]; exact le) (fun i e k v a b => by
    rw [Array.getElem?_toList] at a
    obtain ⟨hi2, he⟩ := Array.getElem?_eq_some_iff.mp a
    have := hi i hi2 k v b
    rw [he] at this
    exact this) td sh (fun t ht => Nat.le_trans (dictText_mem_le ht) hz)
  refine ⟨o, es, ep, _, bs, ho, hc.1, hd, low, Reads.dict ho hc.1 hd q1 q2, hb, ?_⟩
  rw [PyData.shownKv_eq]
  exact ReprEntriesK.of_two es.toList _ _ k1 k2
theorem dict_dt (I : Inv X pins σ H s) {p : Addr} {kvs : List (List Key × V)} {ks : List (PyData × PyData)} (e : H p = some (.dT kvs)) (c : DwKt X.K M H kvs ks) (td : toldKv ks = true) :
    ∃ o es n as bs, s.heap.get? p = some o ∧ o.cls = .type "dict" ∧ o.data = .dict es n ∧ (p == sysModules) = false ∧ Reads s.heap (.ref p) (.dict ks) as ∧ ReadAtMost s.heap (PyData.depthKv ks) bs ∧ ReprEntriesK X.prog X.w bs s.heap (PyData.depthKv ks) es.toList (PyData.shownKv ks) := by
  cases c with
  | nil =>
    obtain ⟨_, low, xs, kt, o, es, ep, ho, hc, hd, le, _⟩ := dt_of I.hok e
    cases kt
    have le : es.toList = [] := le
    refine ⟨o, es, ep, _, [], ho, hc.1, hd, low, Reads.dict ho hc.1 hd (kvs := []) (by rw [le]; exact .nil) (by rw [le]; exact .nil), (fun _ h => nomatch h), by rw [le]; simp only [PyData.shownKv]; exact .nil⟩
  | cons k v _ =>
    rename_i kk vv rr dd ee ss
    exact absurd td (kt_not k)
end
/-- what repr takes -/
def okRepW (d : PyData) : Prop := toldD d = true ∧ d.showable = true ∧ d.depth ≤ 64 ∧ d.shown.length ≤ sizeLine
section
variable {X : Cx} {k : Nat}
theorem call_reprW (hq : X.A.guards = some []) (hr : Room k X.A) : CallR X (.builtin "repr") (fun xs H Q => ∃ M v d, xs = [v] ∧ Dw X.K M H v d ∧ okRepW d ∧ Q (.str d.shown) H) := by
  intro pns st sl Hs xs us Q I0 r h
  obtain ⟨M, v, d, rfl, hd, ⟨td, sh, dp, sz⟩, q⟩ := h
  obtain ⟨u, rfl, rv⟩ := Vals.one r
  have hu := hr.un
  have fin : ∀ (h' : Heap) (tk : Nat), (∀ b o, st.heap.get? b = some o → h'.get? b = some o) → Inv X pns sl Hs { st with heap := h', toks := tk } := fun h' tk kp => I0.kept kp
  have last : ∀ (z : Str), z = d.shown → ∀ h' u tk, (∀ b o, st.heap.get? b = some o → h'.get? b = some o) → ∃ x t, Value.str z u = .str x t ∧ EP X pns sl Q (.str z u) { st with heap := h', toks := tk } := fun z e h' u tk kp => ⟨_, _, rfl, .str z, Hs, fin h' tk kp, ⟨_, rfl⟩, by rw [e]; exact q⟩
  have mainD : ∀ {p : Addr} {ks : List (PyData × PyData)}, (∃ o es n as bs, st.heap.get? p = some o ∧ o.cls = .type "dict" ∧ o.data = .dict es n ∧ (p == sysModules) = false ∧ Reads st.heap (.ref p) (.dict ks) as ∧ ReadAtMost st.heap (PyData.depthKv ks) bs ∧ ReprEntriesK X.prog X.w bs st.heap (PyData.depthKv ks) es.toList (PyData.shownKv ks)) →
      (PyData.dict ks).depth ≤ 64 → (PyData.dict ks).shown.length ≤ sizeLine → (∀ (z : Str), z = (PyData.dict ks).shown → ∀ h' u tk, (∀ b o, st.heap.get? b = some o → h'.get? b = some o) → ∃ x t, Value.str z u = .str x t ∧ EP X pns sl Q (.str z u) { st with heap := h', toks := tk }) →
      wpAny (model X.prog X.w) X.A (call (.builtin "repr") [.ref p]) (EP X pns sl Q) X.xe st := fun {p ks} ⟨o, es, m, as, bs, ho, hc, hd, low, r, hb, hE⟩ dp sz last => by
    have hz' : (dictText (PyData.shownKv ks)).length ≤ sizeLine := by simpa only [PyData.shown] using sz
    have hna := not_mem_of_deeper r (by simp only [PyData.depth]; omega) hb
    have dp : PyData.depthKv ks + 1 ≤ 64 := by simpa only [PyData.depth] using dp
    refine call_repr_slot (by omega) ⟨o, ho, hc⟩ F.slot_dict_repr ?_
    exact call_dict_reprK ho hc hd low hna hE hq (fun b _ => Clear.nil b) (by show X.A.units + 1 + (PyData.depthKv ks + 1) < cLine; omega) (fun _ _ e => e) (last _ (by simp only [PyData.shown])) hz'
  cases hd with
  | non => cases rv; exact PySem.P.repr_of_none ⟨.str _, _, I0.tok _, ⟨_, rfl⟩, q⟩
  | bl b => cases rv; exact PySem.P.repr_of_bool ⟨.str _, _, I0.tok _, ⟨_, rfl⟩, q⟩
  | int i => obtain ⟨t, rfl⟩ := rv; exact PySem.P.repr_of_int (by simpa [PyData.showable] using sh) ⟨.str _, _, I0.tok _, ⟨_, rfl⟩, q⟩
  | str z => obtain ⟨t, rfl⟩ := rv; exact PySem.P.repr_of_str ⟨.str _, _, I0.tok _, ⟨_, rfl⟩, q⟩ sz
  | lst n a =>
    cases rv
    rename_i ds
    obtain ⟨its, rv, ⟨o, m, ho, hc, _, hd⟩, _⟩ := I0.list n.at
    have hz' : (listText (PyData.shownAll ds)).length ≤ sizeLine := by simpa only [PyData.shown] using sz
    obtain ⟨as, bs, rr, hb, hk⟩ := DwAll.rk I0 ds _ its a rv (by simpa [toldD] using td) (by simpa [PyData.showable] using sh) (fun t ht => Nat.le_trans (listText_mem_le ht) hz')
    have r := Reads.list ho hc hd rr
    have hna := not_mem_of_deeper r (by simp only [PyData.depth]; omega) hb
    have dp : PyData.depthAll ds + 1 ≤ 64 := by simpa only [PyData.depth] using dp
    refine call_repr_slot (by omega) ⟨o, ho, hc⟩ F.slot_list_repr.toG ?_
    cases its with
    | nil =>
      cases rr
      exact call_list_repr_empty ⟨o, ho, hc⟩ ho hd (last _ (by simp only [PyData.shown, PyData.shownAll, listText_nil]) st.heap _ _ fun _ _ e => e)
    | cons x l =>
      exact call_list_reprK ho hc hd hna (by simpa using hk.length_eq) (fun i y e => hk.item i y (by simpa using e)) hq (fun b _ => Clear.nil b) (by show X.A.units + 1 + (PyData.depthAll ds + 1) < cLine; omega) (fun _ _ e => e) (last _ (by simp only [PyData.shown])) hz'
  | tup n a =>
    cases rv
    rename_i ds
    obtain ⟨its, rv, ⟨o, ho, hc, m, hd⟩, _⟩ := I0.tuple n.at
    have hz' : (tupleText (PyData.shownAll ds)).length ≤ sizeLine := by simpa only [PyData.shown] using sz
    obtain ⟨as, bs, rr, hb, hk⟩ := DwAll.rk I0 ds _ its a rv (by simpa [toldD] using td) (by simpa [PyData.showable] using sh) (fun t ht => Nat.le_trans (tupleText_mem_le ht) hz')
    have r := Reads.tuple ho hc hd rr
    have hna := not_mem_of_deeper r (by simp only [PyData.depth]; omega) hb
    have dp : PyData.depthAll ds + 1 ≤ 64 := by simpa only [PyData.depth] using dp
    refine call_repr_slot (by omega) ⟨o, ho, hc⟩ F.slot_tuple_repr ?_
    exact call_tuple_reprK ho hc hd hna hk hq (fun b _ => Clear.nil b) (by show X.A.units + 1 + (PyData.depthAll ds + 1) < cLine; omega) (fun _ _ e => e) (last _ (by simp only [PyData.shown])) hz'
  | dct n e c =>
    cases rv
    exact mainD (dict_dk (M := M) I0 e (ct_ks c) (by simpa [toldD] using td) (by simpa [PyData.showable] using sh) (by simpa only [PyData.shown] using sz)) dp sz last
  | dk n e c =>
    cases rv
    exact mainD (dict_dk (M := M) I0 e c (by simpa [toldD] using td) (by simpa [PyData.showable] using sh) (by simpa only [PyData.shown] using sz)) dp sz last
  | dt n e c =>
    cases rv
    exact mainD (dict_dt I0 e c (by simpa [toldD] using td)) dp sz last
  | obj n e c f => simp [toldD, toldKv] at td
  | exn n e n2 e2 c f => simp [toldD, toldKv] at td
  | exn0 n e c => simp [toldD, toldKv] at td
  | dkT n e => exact absurd rfl (dim_not (by simpa [toldD] using td))
  | dcT n e => exact absurd rfl (dim_not (by simpa [toldD] using td))
end
def fRepW (ds : List PyData) (R : PyData → Prop) : Prop := ∃ d, ds = [d] ∧ okRepW d ∧ R (.str d.shown)
theorem fit_reprW {K : PySem.W.Frag} : FitC K (fun xs H Q => ∃ M v d, xs = [v] ∧ Dw K M H v d ∧ okRepW d ∧ Q (.str d.shown) H) fRepW := by
  intro ds R M H vs Q al w f k
  obtain ⟨d, rfl, ok, r⟩ := f
  cases w with
  | cons a b =>
    cases b
    exact ⟨M, _, d, rfl, a, ok, k _ r _ _ (Same.refl _) (.str _)⟩
end MT
set_option maxHeartbeats 1000000
/-! == [] of lists of anything; a list that is set and appended to at once -/
namespace MT
open PySem L2
def rEqL (K : PySem.W.Frag) : R2 := fun x y H Q => ∃ a xs b, x = .ref a ∧ y = .ref b ∧ SqL K H a xs ∧ SqL K H b [] ∧ Q (.bl xs.isEmpty) H
theorem op_eqL {X : Cx} (hu : X.A.units < cLine) : OpR X (compareOp .Eq) (rEqL X.K) := by
  intro pins s σ H x y v u Q I rx ry h
  obtain ⟨a, xs, b, rfl, rfl, ha, hb, q⟩ := h
  cases rx
  cases ry
  obtain ⟨its, rv, p1, _⟩ := I.list ha
  obtain ⟨its2, rv2, p2, _⟩ := I.list hb
  cases rv2
  cases rv with
  | nil => exact SeqAt.RcAt.lists (e := fun _ => true) p1.isList p2.isList rfl hu (fun j h1 _ => by simp at h1) _ _ _ _ ⟨.bl _, H, I, rfl, q⟩
  | cons r1 r2 => exact SeqAt.RcAt.lists_lengths p1.isList p2.isList (by simp) hu _ _ _ _ ⟨.bl _, H, I, rfl, q⟩
/-- a list against [] -/
def fEqL (d e : PyData) (R : PyData → Prop) : Prop := ∃ ds, d = .list ds ∧ e = .list [] ∧ R (.bool ds.isEmpty)
theorem fit_eqL {K : PySem.W.Frag} : FitR K (rEqL K) fEqL := by
  intro dx dy R M H x y Q al wx wy f k
  obtain ⟨ds, rfl, rfl, r⟩ := f
  cases wx with
  | lst n a =>
    cases wy with
    | lst n2 a2 =>
      cases a2
      refine ⟨_, _, _, rfl, rfl, n.at, n2.at, ?_⟩
      have e : ∀ {xs : List V} {ds : List PyData}, DwAll K M H xs ds → xs.isEmpty = ds.isEmpty := fun h => by cases h <;> rfl
      rw [e a]
      exact k _ r _ _ (Same.refl _) (.bl _)
/-- texts -/
def fEqS (d e : PyData) (R : PyData → Prop) : Prop := ∃ a b : Str, d = .str a ∧ e = .str b ∧ R (.bool (decide (a = b)))
def fNeS (d e : PyData) (R : PyData → Prop) : Prop := ∃ a b : Str, d = .str a ∧ e = .str b ∧ R (.bool (!decide (a = b)))
theorem str_dec (a b : Str) : decide (V.str a = V.str b) = decide (a = b) := decide_eq_decide.mpr ⟨fun h => V.str.inj h, fun h => by rw [h]⟩
theorem fit_eqS {K : PySem.W.Frag} : FitR K rEq fEqS := by
  intro dx dy R M H x y Q al wx wy f k
  obtain ⟨a, b, rfl, rfl, r⟩ := f
  cases wx
  cases wy
  refine ⟨rfl, ?_⟩
  rw [str_dec]
  exact k _ r _ _ (Same.refl _) (.bl _)
theorem fit_neS {K : PySem.W.Frag} : FitR K rNe fNeS := by
  intro dx dy R M H x y Q al wx wy f k
  obtain ⟨a, b, rfl, rfl, r⟩ := f
  cases wx
  cases wy
  refine ⟨rfl, ?_⟩
  rw [str_dec]
  exact k _ r _ _ (Same.refl _) (.bl _)
/-! ### x = [e]; x.append(u) -/
section
variable {X : Cx} {st st2 : Stmt} {ss : List Stmt}
def qSetApp (i : Nat) (t u : TD) (k : TDS) : TDS := fun ρ n Rn Rr => i < ρ.length ∧ t ρ n fun d n1 => u (ρ.set i .no) n1 fun e n2 => k (ρ.set i (.d (.list [d, e]))) n2 Rn Rr
theorem dss_setapp {o : Option TSet} {i : Nat} {t u : TD} {k : TDS}
    (h : PSs X ss (tSeq (tAsg (tLstN (tCons (tD X.K o t) tNil)) (gName i)) (tSeq (tDrop (tBM X.K "list" rAppend (tVar i) (tCons (tD X.K o u) tNil))) (tDs X.K o k)))) :
    PSs X ss (tDs X.K o (qSetApp i t u k)) := PSs.imp h fun D σ H ⟨W, ρ, n, Rn, Rr, E, g, ⟨hi, t⟩, k1, k2⟩ => by
  refine ⟨W, ρ, n, _, E, g, t, fun d n1 r x H1 F1 g1 w => ⟨by rw [sizeLine_eq]; simp, fun p H1' np => ?_⟩⟩
  have nM := W.new g1 np
  have gp := W.same g1 np.1
  have E1 := E.frm (W.frm F1)
  have E2 : EnvD X.K o (fun c => W.M c ∨ c = p) (W.a, W.ts, W.ov) (ρ.set i .no) (σ.set i (some (.ref p))) H1' :=
    ((E1.more (N := fun c => W.M c ∨ c = p) fun c o m q => m.elim id fun e => by rw [e, np.2.2] at q; cases q).frm (fx_same np.1)).setn i
  have w1 : Dw X.K (fun c => W.M c ∨ c = p) H1' x d := (w.more (N := fun c => W.M c ∨ c = p) fun c o m q => m.elim id fun e => by rw [e, np.2.2] at q; cases q).same np.1
  have li : i < σ.length := by
    rw [← E.len]
    exact hi
  refine ⟨.ref p, List.getElem?_set_self li, .inl ⟨rfl, [x], SqL.of np.2.1⟩, ?_⟩
  refine ⟨W.plus p (.lst [x]) (fun _ z => by cases z) nM, ρ.set i .no, n1, _, E2, ⟨gp, np.2.1⟩, r, fun e n2 r2 y H2 F2 g2 w2 => ⟨p, [x], y, rfl, rfl, g2.2, by rw [sizeLine_eq]; simp, ?_⟩⟩
  have w3 := w1.frm ((W.plus p (.lst [x]) (fun _ z => by cases z) nM).frm F2)
  have R2 : W.Rel H (upd H2 p (.lst [x, y])) := W.trans F1 (W.updR (W.trans (W.of np.1) F2) np.2.2)
  have g3 : W.G n2 (upd H2 p (.lst [x, y])) := W.updG g1 np.2.2 g2.1 (fun u e => by rw [g2.2] at e; cases e; trivial)
  have up : Fx (fun c => W.M c ∨ c = p) H2 (upd H2 p (.lst [x, y])) := fx_frm (Frm.mono (frm_upd (a := p)) fun c e => .inr e)
  have dl : Dw X.K W.M (upd H2 p (.lst [x, y])) (.ref p) (.list [d, e]) := .lst ⟨nM, upd_same⟩ (.cons ((w3.frm up).more fun c o m _ => .inl m) (.cons ((w2.frm up).more fun c o m _ => .inl m) .nil))
  exact ⟨W, _, n2, Rn, Rr, (E.frm (W.frm R2)).set i dl, g3, r2, fun ρ' n' rr σ' H' F' g' e' => k1 ρ' n' rr σ' H' (W.trans R2 F') g' e', fun d' n' rr v H' F' g' w' => k2 d' n' rr v H' (W.trans R2 F') g' w'⟩
end
end MT
set_option maxHeartbeats 1000000
/-! enumerate over a tuple; over data -/
namespace MT
open PySem L2
section
variable {prog : Program} {w : World} {A : Around} {E : Value → Shared → Prop} {s : Shared}
theorem tup_next {it t : Addr} {i : Nat} {items : Array Value} {x : Value} {Q : Value → Shared → Prop} (hit : s.heap.IsTupleIter it t i) (ht : s.heap.IsTuple t items) (hx : items[i]? = some x)
    (hQ : ∀ h', h'.IsTupleIter it t (i + 1) → Heap.SameBut it s.heap h' → Q x { s with heap := h' }) : wpAny (model prog w) A (Builtin.SmallTypes.nextOf (.ref it)) Q E s := by
  obtain ⟨o, ho, hc, hd⟩ := id hit
  obtain ⟨u, hu, _, m, hm⟩ := ht
  unfold Builtin.SmallTypes.nextOf
  refine wpAny_bind (wpAny_callSpecial?_slot (name := Str.ofString "__next__") hit.typeIs F.slot_tuple_iterator_next (wpAny_call_entry F.slot_tuple_iterator_next hit.typeIs F.entry_tuple_iterator_next ?_ (F.args_tuple_iterator_next_1 _)))
  refine (show wpAny _ _ (field (.ref it) 0 >>= _) _ _ s from wpAny_bind (wpAny_field ho hd (x := .ref t) rfl ?_))
  refine (show wpAny _ _ (if (Value.ref t == Value.none) = true then _ else _) _ _ s from ?_)
  rw [if_neg (show ¬ ((Value.ref t == Value.none) = true) from Bool.false_ne_true)]
  refine (show wpAny _ _ (field (.ref it) 1 >>= _) _ _ s from wpAny_bind (wpAny_field ho hd (x := .int i 0) rfl ?_))
  refine (show wpAny _ _ (seqItems? (.ref t) >>= _) _ _ s from wpAny_bind (wpAny_seqItems hu hm ?_))
  simp only [Int.toNat_natCast, hx]
  refine wpAny_bind (wpAny_setField ho hd (by simp) (wpAny_pure ⟨x, rfl, wpAny_pure (hQ _ ?_ (Heap.SameBut.update ..))⟩))
  exact ⟨_, Heap.get?_update_self _ ho (Obj.isFreed_of_fields (Obj.data_mapFields hd _)), (Obj.cls_mapFields ..).trans hc, by rw [Obj.data_mapFields hd]; simp [rawInt]⟩
theorem tup_end {it t : Addr} {i : Nat} {items : Array Value} {Q : Value → Shared → Prop} (hh : A.handled = none) (hit : s.heap.IsTupleIter it t i) (ht : s.heap.IsTuple t items) (hx : items[i]? = none)
    (hE : ∀ h' e, Heap.ExtBut it s.heap h' → (∃ o, h'.get? e = some o ∧ o.cls = .type "StopIteration") → E (.ref e) { s with heap := h' }) : wpAny (model prog w) A (Builtin.SmallTypes.nextOf (.ref it)) Q E s := by
  obtain ⟨o, ho, hc, hd⟩ := id hit
  obtain ⟨u, hu, _, m, hm⟩ := ht
  unfold Builtin.SmallTypes.nextOf
  refine wpAny_bind (wpAny_callSpecial?_slot (name := Str.ofString "__next__") hit.typeIs F.slot_tuple_iterator_next (wpAny_call_entry F.slot_tuple_iterator_next hit.typeIs F.entry_tuple_iterator_next ?_ (F.args_tuple_iterator_next_1 _)))
  refine (show wpAny _ _ (field (.ref it) 0 >>= _) _ _ s from wpAny_bind (wpAny_field ho hd (x := .ref t) rfl ?_))
  refine (show wpAny _ _ (if (Value.ref t == Value.none) = true then _ else _) _ _ s from ?_)
  rw [if_neg (show ¬ ((Value.ref t == Value.none) = true) from Bool.false_ne_true)]
  refine (show wpAny _ _ (field (.ref it) 1 >>= _) _ _ s from wpAny_bind (wpAny_field ho hd (x := .int i 0) rfl ?_))
  refine (show wpAny _ _ (seqItems? (.ref t) >>= _) _ _ s from wpAny_bind (wpAny_seqItems hu hm ?_))
  simp only [Int.toNat_natCast, hx]
  refine wpAny_bind (wpAny_rule (wpAny_bind (wpAny_setField ho hd (by simp) ?_)))
  refine (show wpAny _ _ (newExc (.type "StopIteration") [] >>= _) _ _ _ from wpAny_bind ?_)
  simp only [newExc, newTuple]
  refine wpAny_bind (wpAny_newObj_type ?_ (by size_fits))
  refine wpAny_bind (m := firstArgMember _ _) (wpAny_of_eq (a := Value.none) (by first | rfl | (simp only [firstArgMember]; rfl)) ?_)
  refine wpAny_newObj_type ?_ (by size_fits)
  simp only [raiseNew]
  refine wpAny_bind (wpAny_handled ?_)
  first | rw [show A.in1.handled = none from hh] | rw [hh]
  refine wpAny_bind (wpAny_pure (wpAny_throw ?_))
  exact hE _ _ (((Heap.SameBut.update ..).extBut.push _).push _) ⟨_, Heap.get?_push_size _ rfl, rfl⟩
theorem draws_tup (hh : A.handled = none) (it l : Addr) (hne : l ≠ it) (items : Array Value) : Draws prog w A it [it, l] items.size (fun i v => items[i]? = some v) (fun i h => h.IsTupleIter it l i ∧ h.IsTuple l items) where
  live := fun _ _ st => let ⟨o, ho, _⟩ := st.1; ⟨o, ho⟩
  frame := fun _ _ _ st hk => by
    obtain ⟨⟨o, ho, r⟩, ⟨u, hu, q⟩⟩ := st
    exact ⟨⟨o, hk it (by simp) o ho, r⟩, ⟨u, hk l (by simp) u hu, q⟩⟩
  item := fun i s Q E hi st hQ => tup_next st.1 st.2 (x := items[i]) (by simp [hi]) fun h' hit' hs' => hQ _ h' s.toks (by simp [hi]) ⟨hit', st.2.extBut hs'.extBut hne⟩ hs'
  done := fun s Q E st hE => tup_end hh st.1 st.2 (by simp) hE
theorem new_enum (l : Addr) (items : Array Value) (n : Nat) (dct : Option Addr) (sl : Array (Option Value)) :
    Meets (Builtin.«enumerate.__new__» ⟨[.type "enumerate", .ref l], []⟩) (fun _ R s => s.heap.get? l = some { cls := .type "tuple", dict := dct, data := .seq items n, slots := sl } ∧
      R (.ok (.ret (.ref (s.heap.push { cls := .type "tuple_iterator", data := .fields #[.ref l, .int 0 0] }).objs.size)))
        { s with heap := (s.heap.push { cls := .type "tuple_iterator", data := .fields #[.ref l, .int 0 0] }).push { cls := .type "enumerate", data := .fields #[.none, .bool false, .ref s.heap.objs.size, rawInt 0, .none, .none] } }) :=
  .of_wp fun prog w A R s h => by
    obtain ⟨hp, g, d, tk, os⟩ := s
    obtain ⟨hl, h⟩ := h
    have hsub := sub_enumerate
    have hL : Heap.IsTuple (Shared.heap ⟨hp, g, d, tk, os⟩) l items := ⟨_, hl, rfl, n, rfl⟩
    wp_walk using wpAny_loadPart' hl
    refine wpAny_stack_any fun st => wpAny_pure ?_
    split
    · rename_i c _ _ _ _ _
      cases (c == Value.type "enumerate")
      · wp_walk using wpAny_loadPart' hl, wpAny_pyIter_tuple hL
        exact ⟨_, rfl, h⟩
      · wp_walk using wpAny_loadPart' hl, wpAny_pyIter_tuple hL
        exact ⟨_, rfl, h⟩
    · wp_walk using wpAny_loadPart' hl, wpAny_pyIter_tuple hL
      exact ⟨_, rfl, h⟩
theorem call_enum_tup {l : Addr} {items : Array Value} {Q : Value → Shared → Prop} (hL : s.heap.IsTuple l items)
    (h : ∀ h', IsEnum h' (s.heap.objs.size + 1) s.heap.objs.size 0 .none → h'.IsTupleIter s.heap.objs.size l 0 → (∀ b o, s.heap.get? b = some o → h'.get? b = some o) → Q (.ref (s.heap.objs.size + 1)) { s with heap := h' }) :
    wpAny (model prog w) A (call (.type "enumerate") [.ref l]) Q E s := by
  obtain ⟨⟨c, dct, dt, sl⟩, hl, hc, n, hd⟩ := hL
  replace hc : c = .type "tuple" := hc
  replace hd : dt = .seq items n := hd
  subst hc hd
  refine callType_new F.called_enumerate (by decide) (F.typeCall_enumerate_1 _) (F.newCall_enumerate_1 _) (fun obj => F.args_object_init_2 obj _) F.entry_enumerate_new (new_enum l items n dct sl) ⟨hl, ?_⟩
  have hz : (s.heap.push { cls := .type "tuple_iterator", data := .fields #[.ref l, .int 0 0] }).objs.size = s.heap.objs.size + 1 := Heap.size_push ..
  show _ ∧ _
  rw [hz]
  have he := Heap.get?_push_size (s.heap.push { cls := .type "tuple_iterator", data := .fields #[.ref l, .int 0 0] }) (o := { cls := .type "enumerate", data := .fields #[.none, .bool false, .ref s.heap.objs.size, rawInt 0, .none, .none] }) rfl
  rw [hz] at he
  exact ⟨⟨_, he, rfl⟩, h _ he ⟨_, Heap.get?_push_of_some _ (Heap.get?_push_size _ rfl), rfl, rfl⟩ fun b o x => Heap.get?_push_of_some _ (Heap.get?_push_of_some _ x)⟩
end
/-- a tuple's items, each in a new pair -/
def Itn (K : PySem.W.Frag) (a : Addr) (xs : List V) : It :=
  ⟨fun i H => SqT K H a xs ∧ i < xs.length, fun i H v H' => ∃ T x, v = .ref T ∧ H T = none ∧ H' = upd H T (.tup [.int (i : Nat), x]) ∧ xs[i]? = some x, fun i H => SqT K H a xs ∧ xs.length ≤ i⟩
theorem turn_enumT {P : Program} {w : World} {K : PySem.W.Frag} {elts : List Expr} {kk : Nat} {tpos : Pos} (a e it : Addr) (xs : List V) (hai : a ≠ it) (hae : a ≠ e) :
    Turn P w K (.Tuple elts kk tpos) (Itn K a xs) [e, it] e (fun i h => (∃ old, IsEnum h e it ((i : Nat) : Int) old) ∧ h.IsTupleIter it a i ∧ e ≠ it ∧ i ≤ xs.length) where
  mem := by simp
  obj := fun i h st b hb => by
    obtain ⟨⟨old, he⟩, ⟨o, ho, hc, hd⟩, _⟩ := st
    have e' : b = e ∨ b = it := by simpa using hb
    rcases e' with z | z
    · rw [z]; exact ⟨_, he, fun v q => nomatch q⟩
    · rw [z]; exact ⟨o, ho, fun v q => by rw [hd] at q; cases q⟩
  keep := fun i h h' st k => by
    obtain ⟨⟨old, he⟩, ⟨o, ho, r⟩, hne, hle⟩ := st
    exact ⟨⟨old, k e (by simp) _ he⟩, ⟨o, k it (by simp) o ho, r⟩, hne, hle⟩
  item := by
    intro X hP hw hK hc i pins s σ H E I hf st hg
    subst hP hw hK
    obtain ⟨⟨old, he⟩, hit, hne, hle⟩ := st
    obtain ⟨hq, hx0⟩ := hg
    obtain ⟨x, hx⟩ : ∃ x, xs[i]? = some x := ⟨_, List.getElem?_eq_getElem hx0⟩
    obtain ⟨its, rv, p, hz⟩ := I.tuple hq
    obtain ⟨u, hu, ru⟩ := rv.get hx
    have hel : e < s.heap.objs.size := Heap.lt_size he
    have hil : it < s.heap.objs.size := by obtain ⟨_, q, _⟩ := hit; exact Heap.lt_size q
    have pt : s.heap.IsTuple a its.toArray := p
    have hlt : i < its.toArray.size := by
      rw [List.size_toArray]
      exact (List.getElem?_eq_some_iff.mp hu).1
    refine wpAny_pyNext_enum_itemD (draws_tup (A := X.A.in1) (I.ok.hd hc) it a hai its.toArray) he ⟨hit, pt⟩ hlt hne (by simp [hne, Ne.symm hae]) fun v h' tk hv ho hst hT hsz hk => ?_
    have ev : v = u := by
      have q : some u = some v := by rw [← hv, List.getElem?_toArray]; exact hu.symm
      exact (Option.some.inj q).symm
    subst ev
    refine ⟨_, rfl, wpAny_letOwnedTupleGo_enum (s := { s with heap := h', toks := tk + 1 }) ho fun h'' he' sb => ?_⟩
    have hT2 : h''.get? s.heap.objs.size = some { cls := .type "tuple", data := .seq #[.int i tk, v] } := (sb.2 _ (Nat.ne_of_gt hel)).trans hT
    have new : ObjOk X.prog X.w (upd H s.heap.objs.size (.tup [.int (i : Nat), x])) h'' s.heap.objs.size (.tup [.int (i : Nat), x]) :=
      ⟨by show 2 ≤ sizeLine; decide, [.int i tk, v], .cons ⟨_, rfl⟩ (.cons ru .nil), ⟨_, hT2, rfl, _, rfl⟩⟩
    have I1 : Inv X pins σ (upd H s.heap.objs.size (.tup [.int (i : Nat), x])) { s with heap := h'', toks := tk + 1 } :=
      I.turnedNew (ch := [e, it]) (fun b ob hb q => (sb.2 b (fun z => hb (by simp [z]))).trans (hk b ob (fun z => hb (by simp [z])) (fun z => hb (by simp [z])) q)) hf (Nat.le_refl _) new
    refine ⟨.ref s.heap.objs.size, _, I1, rfl, ⟨_, x, rfl, I.hok.fresh (Nat.le_refl _), rfl, hx⟩, ⟨⟨v, ?_⟩, ?_, hne, hx0⟩, fun b hb => ?_⟩
    · have e1 : ((i + 1 : Nat) : Int) = (i : Int) + 1 := by omega
      rw [e1]; exact he'
    · obtain ⟨⟨o, ho2, r⟩, _⟩ := hst
      exact ⟨o, (sb.2 it (Ne.symm hne)).trans ho2, r⟩
    · have hb' : b < s.heap.objs.size := by
        have e' : b = e ∨ b = it := by simpa using hb
        rcases e' with z | z
        · rw [z]; exact hel
        · rw [z]; exact hil
      rw [upd_ne (Nat.ne_of_lt hb')]
      exact (hf b hb).1
  done := by
    intro X hP hw hK hc i pins s σ H E I hf st hg
    subst hP hw hK
    obtain ⟨⟨old, he⟩, hit, hne, hle⟩ := st
    obtain ⟨hq, hx⟩ := hg
    obtain ⟨its, rv, p, hz⟩ := I.tuple hq
    obtain ⟨f0, f1, f2, f3, f4, f5⟩ := hf it (by simp)
    have hl := rv.length
    have pt : s.heap.IsTuple a its.toArray := p
    have ei : i = its.toArray.size := by
      rw [List.size_toArray]
      omega
    refine wpAny_pyNext_enum_endD (draws_tup (A := X.A.in1) (I.ok.hd hc) it a hai its.toArray) he ⟨by rw [← ei]; exact hit, pt⟩ fun h' eb => ⟨rfl, I.turned (t' := s.toks) (fun b o hb q => eb b o hb q) f0 f1 f3 f4 f5⟩
  self := fun A i s Q E st h => let ⟨⟨_, he⟩, _⟩ := st; wpAny_pyIter_enum he h
/-! ### enumerate of a list or a tuple -/
def iEnumU (K : PySem.W.Frag) (tl : TE) : TI := fun σ H R => tl σ H fun x H1 => (∃ a xs, x = .ref a ∧ SqL K H1 a xs ∧ R (Ite K a) H1) ∨ ∃ a xs, x = .ref a ∧ SqT K H1 a xs ∧ R (Itn K a xs) H1
theorem pi_enumU {X : Cx} {e : Expr} {te : TE} {p pos tpos : Pos} {elts : List Expr} {kk : Nat} (hg : Gl X "enumerate") (hm : X.mg "enumerate" = none) (ha : PA X [e] (tCons te tNil)) (hs : starEach [e] X.env = [(false, eval e X.env)] := by rfl) :
    PI X (.Tuple elts kk tpos) (.Call (.Name "enumerate" p) [e] [] pos) (iEnumU X.K te) := by
  refine ⟨fun pins s σ H R I h => ?_⟩
  have boot : bootBuiltins "enumerate" = some (.type "enumerate") := by decide +kernel
  refine PyProof.Rows.Call_ (ld_blt I hg hm boot (PyProof.Rows.callWith_type1 (thn (ha.run pos pins s σ H (fun vs H1 => match vs with
    | [x] => (∃ a xs, x = .ref a ∧ SqL X.K H1 a xs ∧ R (Ite X.K a) H1) ∨ ∃ a xs, x = .ref a ∧ SqT X.K H1 a xs ∧ R (Itn X.K a xs) H1
    | _ => False) I h) fun us s1 ⟨vs, H1, I1, r1, q1⟩ => ?_) hs rfl))
  obtain ⟨x, rfl⟩ : ∃ x, vs = [x] := by
    match vs, q1 with
    | [x], _ => exact ⟨x, rfl⟩
  have go : ∀ (it : Addr), it = s1.heap.objs.size → ∀ b ∈ [s1.heap.objs.size + 1, it], FpOk X pins H1 b := fun it e b hb => by
    have hle : s1.heap.objs.size ≤ b := by
      have e' : b = s1.heap.objs.size + 1 ∨ b = it := by simpa using hb
      rcases e' with z | z
      · rw [z]; exact Nat.le_add_right _ _
      · rw [z, e]; exact Nat.le_refl _
    exact I1.fpOk hle (I1.hok.fresh hle)
  rcases (show (∃ a xs, x = .ref a ∧ SqL X.K H1 a xs ∧ R (Ite X.K a) H1) ∨ ∃ a xs, x = .ref a ∧ SqT X.K H1 a xs ∧ R (Itn X.K a xs) H1 from q1) with ⟨a, xs, ex, hq, q⟩ | ⟨a, xs, ex, hq, q⟩
  · subst ex
    cases r1 with
    | cons r rr =>
      cases rr
      cases r
      obtain ⟨its, rv, p', hz⟩ := I1.list hq
      refine call_enumerate_list p'.isList fun h' he hit hsz hk => wpAny_pyIter_enum he ?_
      exact ⟨s1.heap.objs.size + 1, [s1.heap.objs.size + 1, s1.heap.objs.size], _, _, H1, rfl, I1.kept (t' := s1.toks) hk, turn_enum a (s1.heap.objs.size + 1) s1.heap.objs.size, ⟨⟨.none, he⟩, hit, Nat.succ_ne_self _⟩, go _ rfl, q⟩
  · subst ex
    cases r1 with
    | cons r rr =>
      cases rr
      cases r
      obtain ⟨its, rv, p', hz⟩ := I1.tuple hq
      have pt : s1.heap.IsTuple a its.toArray := p'
      have la : a < s1.heap.objs.size := by
        obtain ⟨o, ho, _⟩ := pt
        exact Heap.lt_size ho
      refine call_enum_tup pt fun h' he hit hk => wpAny_pyIter_enum he ?_
      exact ⟨s1.heap.objs.size + 1, [s1.heap.objs.size + 1, s1.heap.objs.size], _, _, H1, rfl, I1.kept (t' := s1.toks) hk, turn_enumT a (s1.heap.objs.size + 1) s1.heap.objs.size xs (Nat.ne_of_lt la) (Nat.ne_of_lt (Nat.lt_succ_of_lt la)), ⟨⟨.none, he⟩, hit, Nat.succ_ne_self _, Nat.zero_le _⟩, go _ rfl, q⟩
/-! ### a comprehension over it -/
def WlkE (J : It) (P : Hp → Prop) (vs : List V) : Prop := ∀ i H, P H → (i < vs.length → J.go i H) ∧ (vs.length ≤ i → J.stop i H) ∧ ∀ v H', J.yld i H v H' → ∃ T x, v = .ref T ∧ H T = none ∧ H' = upd H T (.tup [.int (i : Nat), x]) ∧ (i < vs.length → vs[i]? = some x)
theorem wlkE_list {K : PySem.W.Frag} {a : Addr} {xs : List V} : WlkE (Ite K a) (fun H => SqL K H a xs) xs := fun i H s =>
  ⟨fun h => ⟨xs, xs[i], s, List.getElem?_eq_getElem h⟩, fun h => ⟨xs, s, h⟩, fun v H' ⟨T, x, e1, e2, e3, e4⟩ => ⟨T, x, e1, e2, e3, fun _ => e4 xs s⟩⟩
theorem wlkE_tup {K : PySem.W.Frag} {a : Addr} {xs : List V} : WlkE (Itn K a xs) (fun H => SqT K H a xs) xs := fun i H s =>
  ⟨fun h => ⟨s, h⟩, fun h => ⟨s, h⟩, fun v H' ⟨T, x, e1, e2, e3, e4⟩ => ⟨T, x, e1, e2, e3, fun _ => e4⟩⟩
def qLcE (vs : List Nat) (f : PyData → List DS → (List DS → Prop) → Prop) (t : TD) (tt : TDB) (te : TD) : TD := fun ρ n R => t ρ n fun d n1 => ∃ ds, seqD d = some ds ∧ ds.length ≤ 10000000 ∧ ∃ A : Nat → List PyData → Nat → Prop, A 0 [] n1 ∧
  (∀ i x acc m, ds[i]? = some x → A i acc m → f (.tuple [.int (i : Nat), x]) (wipeD ρ vs) fun ρ' => tt ρ' m fun b m' => if b = true then te ρ' m' fun y m'' => A (i + 1) (acc ++ [y]) m'' else A (i + 1) acc m') ∧
  ∀ acc m, A ds.length acc m → acc.length ≤ ds.length → R (.list acc) m
section
variable {o : Option TSet}
theorem lcE_core {K : PySem.W.Frag} {vs0 : List Nat} {g : TG} {f} {tt : TDB} {te : TD} (hf : GFit K vs0 g f) {σ : L2.St} {H1 : Hp} {Q : VK} {W : Fld} {ρ : List DS} {n1 : Nat} {R : QD} {ds : List PyData} {J : It} {P : Hp → Prop} {vs : List V}
    (E : EnvD K o W.M (W.a, W.ts, W.ov) ρ σ H1) (g1 : W.G n1 H1) (hlen : ds.length ≤ 10000000) {A : Nat → List PyData → Nat → Prop} (h0 : A 0 [] n1)
    (hs : ∀ i x acc m, ds[i]? = some x → A i acc m → f (.tuple [.int (i : Nat), x]) (wipeD ρ vs0) fun ρ' => tt ρ' m fun b m' => if b = true then te ρ' m' fun y m'' => A (i + 1) (acc ++ [y]) m'' else A (i + 1) acc m')
    (hd : ∀ acc m, A ds.length acc m → acc.length ≤ ds.length → R (.list acc) m) (k : ∀ d n', R d n' → ∀ v H', W.Rel H1 H' → W.G n' H' → Dw K W.M H' v d → Q v H')
    (wk : WlkE J P vs) (da : DwAll K W.M H1 vs ds) (hP : ∀ H'', Fx W.M H1 H'' → P H'') (D : Addr) (hD : H1 D = none) :
    ∃ Wn : Nat → Nat → Hp → Prop, (∃ m, Wn 0 m (upd H1 D (.lst []))) ∧ ∀ i m H, Wn i m H →
      (J.stop i H ∧ Q (.ref D) H) ∨ (J.go i H ∧ ∃ Nx : Hp → Prop, (∀ H', Nx H' → ∃ m', m' < m ∧ Wn (i + 1) m' H') ∧ ∀ x H', J.yld i H x H' → g x (wipe σ vs0) H' fun σ2 H2 => wipe σ2 vs0 = wipe σ vs0 ∧ (tDB K o tt) σ2 H2 fun b H3 =>
        if b = true then (tD K o te) σ2 H3 fun y H4 => ∃ acc, H4 D = some (.lst acc) ∧ acc.length < sizeLine ∧ Nx (upd H4 D (.lst (acc ++ [y]))) else Nx H3) := by
  have ln := da.length
  have nD : ¬ W.M D := fun m => by
    obtain ⟨ob, q, _⟩ := W.al g1 m
    rw [hD] at q
    cases q
  have EM : EnvD K o (fun c => W.M c ∨ c = D) (W.a, W.ts, W.ov) ρ σ H1 := E.more fun c o m q => m.elim id fun e => by rw [e, hD] at q; cases q
  have DM : DwAll K (fun c => W.M c ∨ c = D) H1 vs ds := da.more fun c o m q => m.elim id fun e => by rw [e, hD] at q; cases q
  refine ⟨fun i m H' => m = ds.length - i ∧ i ≤ ds.length ∧ ∃ acc av c, A i acc c ∧ H' D = some (.lst av) ∧ DwAll K (fun c => W.M c ∨ c = D) H' av acc ∧ av.length ≤ i ∧ W.G c H' ∧ W.Rel H1 H',
    ⟨_, rfl, Nat.zero_le _, [], [], n1, h0, upd_same, .nil, Nat.le_refl _, W.updG g1 hD g1 (fun u e => by rw [hD] at e; cases e), W.updR W.refl hD⟩, ?_⟩
  rintro i m H' ⟨rfl, hi, acc, av, c, inv, hDa, hav, hal, g', F'⟩
  have w := wk i H' (hP _ (W.frm F'))
  have FM : Fx (fun c => W.M c ∨ c = D) H1 H' := (W.frm F').mono fun c e => .inl e
  by_cases hlt : i < ds.length
  · refine .inr ⟨w.1 (by omega), fun H2 => i + 1 ≤ ds.length ∧ ∃ acc av c, A (i + 1) acc c ∧ H2 D = some (.lst av) ∧ DwAll K (fun c => W.M c ∨ c = D) H2 av acc ∧ av.length ≤ i + 1 ∧ W.G c H2 ∧ W.Rel H1 H2, fun H2 q => ⟨_, by omega, rfl, q⟩, fun x H2 y => ?_⟩
    obtain ⟨T, xv, rfl, hT, rfl, y2⟩ := w.2.2 x H2 y
    obtain ⟨d, hd1, hd2⟩ := DM.get (y2 (by omega))
    have nT := New.mk' (o := .tup [.int (i : Nat), xv]) hT
    have sT := nT.1
    have neT : D ≠ T := fun e => by
      rw [← e, hDa] at hT
      cases hT
    have nMT : ¬ (W.M T ∨ T = D) := fun m => m.elim (fun m => by
      obtain ⟨ob, q, _⟩ := W.al g' m
      rw [hT] at q
      cases q) fun e => neT e.symm
    have F2 : W.Rel H1 (upd H' T (.tup [.int (i : Nat), xv])) := W.trans F' (W.of sT)
    have g2' := W.same g' sT
    have hDa2 := sT _ _ hDa
    have hav2 := hav.same sT
    have FM2 : Fx (fun c => W.M c ∨ c = D) H1 (upd H' T (.tup [.int (i : Nat), xv])) := (W.frm F2).mono fun c e => .inl e
    have dT : Dw K (fun c => W.M c ∨ c = D) (upd H' T (.tup [.int (i : Nat), xv])) (.ref T) (.tuple [.int (i : Nat), d]) := .tup (.inl ⟨nMT, upd_same⟩) (.cons (.int _) (.cons (hd2.frm FM2) .nil))
    revert F2 g2' hDa2 hav2 FM2 dT
    generalize upd H' T (.tup [.int (i : Nat), xv]) = G2
    intro F2 g2' hDa2 hav2 FM2 dT
    refine hf o _ (W.a, W.ts, W.ov) _ _ _ (wipeD ρ vs0) (wipe σ vs0) _ _ dT ((EM.frm FM2).wipe vs0) (hs i d acc c hd1 inv) fun ρ2 r2 σ2 E2 ew => ⟨by rw [ew]; exact wipe_wipe σ vs0, ?_⟩
    refine ⟨W.plus D (.lst av) (fun _ z => by cases z) nD, ρ2, c, _, E2, ⟨g2', hDa2⟩, r2, fun b m3 r3 H3 F3 g3 => ?_⟩
    cases b with
    | false => exact ⟨hlt, acc, av, m3, r3, g3.2, hav2.frm ((W.plus D (.lst av) (fun _ z => by cases z) nD).frm F3), Nat.le_succ_of_le hal, g3.1, W.trans F2 F3⟩
    | true =>
      refine ⟨W.plus D (.lst av) (fun _ z => by cases z) nD, ρ2, m3, _, E2.frm ((W.plus D (.lst av) (fun _ z => by cases z) nD).frm F3), g3, r3, fun y m4 r4 v4 H4 F4 g4 w4 => ⟨av, g4.2, by rw [sizeLine_eq]; omega, hlt, acc ++ [y], av ++ [v4], m4, r4, upd_same, ?_, by rw [List.length_append]; exact Nat.succ_le_succ hal, W.updG g1 hD g4.1 (fun u e => by rw [g4.2] at e; cases e; trivial), W.updR (W.trans F2 (W.trans F3 F4)) hD⟩⟩
      have h4 := hav2.frm ((W.plus D (.lst av) (fun _ z => by cases z) nD).frm (W.trans F3 F4))
      exact (h4.append (.cons w4 .nil)).frm (fx_frm (Frm.mono (frm_upd (a := D)) fun c e => .inr e))
  · have e : i = ds.length := by omega
    subst e
    refine .inl ⟨w.2.1 (by omega), k _ c (hd acc c inv (by rw [← hav.length]; exact hal)) _ _ F' g' (.lst ⟨nD, hDa⟩ (hav.more fun c o m _ => .inl m))⟩
theorem de_lcE {X : Cx} {e : Expr} {vs0 : List Nat} {g : TG} {f} {t : TD} {tt : TDB} {te : TD} (hf : GFit X.K vs0 g f) (h : PE X e (tLc (iEnumU X.K (tD X.K o t)) g (tDB X.K o tt) (tD X.K o te) vs0)) : PE X e (tD X.K o (qLcE vs0 f t tt te)) := PE.imp h fun σ H Q ⟨W, ρ, n, R, E, gg, t, k⟩ =>
  ⟨W, ρ, n, _, E, gg, t, fun d n1 ⟨ds, e, hlen, A, h0, hs, hd⟩ v H1 F1 g1 w => by
    have E1 := E.frm (W.frm F1)
    have k1 : ∀ d n', R d n' → ∀ v H', W.Rel H1 H' → W.G n' H' → Dw X.K W.M H' v d → Q v H' := fun d n' r v H' F' g' w' => k d n' r v H' (W.trans F1 F') g' w'
    cases w with
    | lst s a =>
      cases e
      exact .inl ⟨_, _, rfl, s.at, fun D hD => lcE_core hf E1 g1 hlen h0 hs hd k1 wlkE_list a (fun H2 F2 => (s.frm F2).at) D hD⟩
    | tup s a =>
      cases e
      exact .inr ⟨_, _, rfl, s.at, fun D hD => lcE_core hf E1 g1 hlen h0 hs hd k1 wlkE_tup a (fun H2 F2 => (s.frm F2).at) D hD⟩
    | _ => cases e⟩
end
end MT
set_option maxHeartbeats 1000000
/-! partition; more targets; stars; truth -/
namespace MT
open PySem L2 TL StX
theorem cut_at (s : Nat) : ∀ l : List Nat, s ∉ l ∨ ∃ a b, s ∉ a ∧ l = a ++ (s :: b)
  | [] => .inl (fun h => nomatch h)
  | c :: l => by
    by_cases e : c = s
    · subst e
      exact .inr ⟨[], l, (fun h => nomatch h), rfl⟩
    · rcases cut_at s l with h | ⟨a, b, h, rfl⟩
      · exact .inl fun q => (List.mem_cons.mp q).elim (fun z => e z.symm) h
      · exact .inr ⟨c :: a, b, fun q => (List.mem_cons.mp q).elim (fun z => e z.symm) h, rfl⟩
theorem tl_of (l : List Nat) : tl (⟨l.toArray⟩ : Str) = l := rfl
/-- a text cut at the first sign s: partition and split tell the same -/
theorem parts_at {s : Nat} (x y : Str) (hy : tl y = [s]) (hk : y.cps.all (· < 256) = true) :
    (s ∉ tl x ∧ Txt.partition x y = (x, ("" : Str), ("" : Str)) ∧ Txt.split x y = [x]) ∨ ∃ a b : Str, s ∉ tl a ∧ tl x = tl a ++ (s :: tl b) ∧ Txt.partition x y = (a, y, b) ∧ Txt.split x y = a :: Txt.split b y := by
  have yn : tl y ≠ [] := by rw [hy]; simp
  have inj : ∀ {u v : List Str}, u.map tl = v.map tl → u = v := fun {u} => by
    induction u with
    | nil => intro v h; cases v with | nil => rfl | cons _ _ => cases h
    | cons z u ih =>
      intro v h
      cases v with
      | nil => cases h
      | cons w v =>
        rw [List.map_cons, List.map_cons] at h
        injection h with h1 h2
        rw [ext_tl h1, ih h2]
  rcases cut_at s (tl x) with h | ⟨a, b, h, e⟩
  · refine .inl ⟨h, ?_, ?_⟩
    · rw [partition_par x y yn, hy, par_none1 h]
      rfl
    · refine inj ?_
      rw [split_spl x y yn (kind_ok hk), hy, spl_last1 h]
      rfl
  · refine .inr ⟨⟨a.toArray⟩, ⟨b.toArray⟩, h, e, ?_, ?_⟩
    · rw [partition_par x y yn, hy, e, show a ++ (s :: b) = a ++ ([s] ++ b) from rfl, par_part1 h]
      rfl
    · refine inj ?_
      rw [split_spl x y yn (kind_ok hk), hy, e, show a ++ (s :: b) = a ++ ([s] ++ b) from rfl, spl_part1 h, List.map_cons, split_spl _ y yn (kind_ok hk), hy]
      rfl
theorem split_ne (x y : Str) (hy : tl y ≠ []) (hk : y.cps.all (· < 256) = true) : Txt.split x y ≠ [] := fun e => by
  have q := split_spl x y hy (kind_ok hk)
  rw [e] at q
  have key : ∀ (S : List Nat) (k : Nat) (acc l : List Nat), spl S k acc l ≠ [] := by
    intro S k acc l
    induction l generalizing k acc with
    | nil => rw [spl_nil]; simp
    | cons c r ih =>
      cases k with
      | zero =>
        show (if pre S (c :: r) = true then acc :: spl S (S.length - 1) [] r else spl S 0 (acc ++ [c]) r) ≠ []
        split
        · simp
        · exact ih _ _
      | succ k => exact ih _ _
  exact key _ _ _ _ q.symm
theorem joinL_sum {s : Nat} : ∀ l : List (List Nat), l ≠ [] → (l.map List.length).sum + l.length = (joinL [s] l).length + 1
  | [], h => absurd rfl h
  | [p], _ => by simp [joinL]
  | p :: q :: r, _ => by
    have ih := joinL_sum (s := s) (q :: r) (by simp)
    show _ = (p ++ ([s] ++ joinL [s] (q :: r))).length + 1
    rw [List.length_append, List.length_append, List.map_cons, List.sum_cons, List.length_cons, List.length_singleton]
    omega
theorem joinL_mem {S : List Nat} : ∀ {l : List (List Nat)} {p : List Nat}, p ∈ l → ∀ c ∈ p, c ∈ joinL S l
  | [], _, h, _, _ => nomatch h
  | [q], p, h, c, hc => by rw [List.mem_singleton.mp h] at hc; exact hc
  | q :: q2 :: r, p, h, c, hc => by
    show c ∈ q ++ (S ++ joinL S (q2 :: r))
    rcases List.mem_cons.mp h with rfl | h
    · exact List.mem_append_left _ hc
    · exact List.mem_append_right _ (List.mem_append_right _ (joinL_mem h c hc))
theorem split_joinL (x y : Str) : joinL (tl y) ((Txt.split x y).map tl) = tl x := by
  have q := StrLaws.join_split x y
  rw [← tl_join, q]
theorem split_sum {s : Nat} (x y : Str) (hy : tl y = [s]) (hk : y.cps.all (· < 256) = true) : ((Txt.split x y).map (·.length)).sum + (Txt.split x y).length = x.length + 1 := by
  have q := joinL_sum (s := s) ((Txt.split x y).map tl) (by simpa using split_ne x y (by rw [hy]; simp) hk)
  have e := split_joinL x y
  rw [hy] at e
  rw [e, List.length_map, List.map_map, ← len_tl] at q
  rw [← q]
  congr 2
theorem split_mem {x y z : Str} (h : z ∈ Txt.split x y) : ∀ c ∈ tl z, c ∈ tl x := fun c hc => by
  have q := joinL_mem (S := tl y) (List.mem_map.mpr ⟨z, h, rfl⟩) c hc
  rwa [split_joinL] at q
theorem sum_ge {l : List Nat} {n : Nat} (h : n ∈ l) : n ≤ l.sum := by
  induction l with
  | nil => nomatch h
  | cons m l ih =>
    rw [List.sum_cons]
    rcases List.mem_cons.mp h with rfl | h
    · omega
    · have := ih h; omega
theorem split_le1 {s : Nat} {x y z : Str} (hy : tl y = [s]) (hk : y.cps.all (· < 256) = true) (h : z ∈ Txt.split x y) : z.length ≤ x.length := by
  have q := split_sum x y hy hk
  have g : z.length ≤ ((Txt.split x y).map (·.length)).sum := sum_ge (List.mem_map.mpr ⟨z, h, rfl⟩)
  have p : 1 ≤ (Txt.split x y).length := List.length_pos_iff.mpr (split_ne x y (by rw [hy]; simp) hk)
  omega
section
variable {K : PySem.W.Frag}
def fPart (d e : PyData) (R : PyData → Prop) : Prop := ∃ a b : Str, d = .str a ∧ e = .str b ∧ (b.length == 0) = false ∧ a.length ≤ 10000000 ∧ R (.tuple [.str (Txt.partition a b).1, .str (Txt.partition a b).2.1, .str (Txt.partition a b).2.2])
theorem fit_part : FitM K (fun x xs H Q => ∃ a b, x = .str a ∧ xs = [.str b] ∧ (b.length == 0) = false ∧ a.length ≤ sizeLine ∧
      ∀ p, H p = none → Q (.ref p) (upd H p (.tup [.str (Txt.partition a b).1, .str (Txt.partition a b).2.1, .str (Txt.partition a b).2.2]))) fPart := by
  intro dx dy R M H x y Q al wx wy f k
  obtain ⟨a, b, rfl, rfl, h1, h2, r⟩ := f
  cases wx
  cases wy
  refine ⟨a, b, rfl, rfl, h1, small_line h2, fun p hp => k _ r _ _ (same_new hp) (.tup (.inl ⟨fun m => ?_, upd_same⟩) (.cons (.str _) (.cons (.str _) (.cons (.str _) .nil))))⟩
  obtain ⟨ob, e, _⟩ := al _ m
  rw [hp] at e
  cases e
/-! ### targets -/
theorem fit_tri {i j k : Nat} : GFit K [i, j, k] (gTup K 3 (gCons (gName i) (gCons (gName j) (gCons (gName k) gNil)))) (fun d ρ R => ∃ x y z, d = .tuple [x, y, z] ∧ R (((ρ.set i (DS.d x)).set j (DS.d y)).set k (DS.d z))) := fun o M a H v d ρ σ R Q w E ⟨x, y, z, e, r⟩ k' => by
  subst e
  cases w with
  | tup s w =>
    cases w with
    | cons wa wb =>
      cases wb with
      | cons wc wd =>
        cases wd with
        | cons we wf =>
          cases wf
          exact ⟨_, _, rfl, s.at, rfl, _, _, rfl, _, _, rfl, _, _, rfl, rfl, k' _ r _ (((E.set i wa).set j wc).set k we) (by rw [wipe_set (by simp), wipe_set (by simp), wipe_set (by simp)])⟩
end
section
variable {X : Cx} {e : Expr} {o : Option TSet}
/-- a, b, *c = .. -/
def qStar2 (i j k : Nat) (t : TD) : TDS := fun ρ n Rn _ => t ρ n fun d n' => ∃ x y r, seqD d = some (x :: y :: r) ∧ r.length ≤ 16000 ∧ Rn (((ρ.set i (DS.d x)).set j (DS.d y)).set k (DS.d (.list r))) n'
theorem ds_star2 {st : Stmt} {i j k : Nat} {t : TD} (h : PS X st (tAsg (tD X.K o t) (gStar X.K 3 2 (gCons (gName i) (gCons (gName j) (gCons (gName k) gNil)))))) : PS X st (tDs X.K o (qStar2 i j k t)) := PS.imp h fun D σ H ⟨W, ρ, n, Rn, Rr, E, gg, t, k1, k2⟩ =>
  ⟨W, ρ, n, _, E, gg, t, fun d n1 ⟨x, y, r, ed, l, r'⟩ v H1 F1 g1 w => by
    obtain ⟨p, xs, rfl, sq, nl, da⟩ := w.seq ed
    cases da with
    | cons wx da =>
      cases da with
      | cons wy da =>
        have ln := da.length
        have sd : ∀ (y1 y2 : V) (zs : List V), ((y1 :: y2 :: zs).drop 2).take ((y1 :: y2 :: zs).length + 1 - 3) = zs := fun y1 y2 zs => by
          show zs.take _ = zs
          rw [List.length_cons, List.length_cons]
          exact List.take_of_length_le (by omega)
        have se : ∀ (y1 y2 : V) (zs : List V), ((y1 :: y2 :: zs).drop 2).drop ((y1 :: y2 :: zs).length + 1 - 3) = [] := fun y1 y2 zs => by
          show zs.drop _ = []
          rw [List.length_cons, List.length_cons]
          exact List.drop_of_length_le (by omega)
        refine ⟨p, _, rfl, sq, by simp, by simp only [List.length_cons]; omega, fun L H2 nw => ?_⟩
        rw [sd] at nw
        rw [se]
        have s2 := nw.1
        have Ee := (E.frm (W.frm F1)).frm (fx_same (M := W.M) s2)
        have wl : Dw X.K W.M H2 (.ref L) (.list r) := .lst ⟨W.new g1 nw, nw.2.1⟩ (da.same s2)
        exact ⟨_, _, rfl, _, _, rfl, _, _, rfl, rfl, k1 _ n1 r' _ H2 (W.trans F1 (W.of s2)) (W.same g1 s2) (((Ee.set i (wx.same s2)).set j (wy.same s2)).set k wl)⟩⟩
/-- a, b, c = x, y, z -/
def qPar3 (i j l : Nat) (u : TDA) : TDS := fun ρ n Rn _ => u ρ n fun ds n1 => ∃ x y z, ds = [x, y, z] ∧ Rn (((ρ.set i (DS.d x)).set j (DS.d y)).set l (DS.d z)) n1
theorem ds_par3 {st : Stmt} {i j l : Nat} {u : TDA} (h : PS X st (tPar3 i j l (tDA X.K o u))) : PS X st (tDs X.K o (qPar3 i j l u)) := PS.imp h fun D σ H ⟨W, ρ, n, Rn, Rr, E, g, t, k1, k2⟩ =>
  ⟨W, ρ, n, _, E, g, t, fun ds n1 ⟨x, y, z, e, r⟩ vs H1 F1 g1 w => by
    subst e
    cases w with
    | cons a b =>
      cases b with
      | cons c d =>
        cases d with
        | cons a2 b2 =>
          cases b2
          exact ⟨_, _, _, rfl, k1 _ n1 r _ H1 F1 g1 ((((E.frm (W.frm F1)).set i a).set j c).set l a2)⟩⟩
/-- [.., *e, ..] -/
def qStar (t : TD) (u : TDA) : TDA := fun ρ n R => t ρ n fun d n1 => ∃ es, seqD d = some es ∧ u ρ n1 fun ds n2 => R (es ++ ds) n2
theorem da_star {es : List Expr} {t : TD} {u : TDA} (h : PA X es (tStar X.K (tD X.K o t) (tDA X.K o u))) : PA X es (tDA X.K o (qStar t u)) := PA.imp h fun σ H Q ⟨W, ρ, n, R, E, g, r, k⟩ =>
  ⟨W, ρ, n, _, E, g, r, fun d n1 ⟨es, e1, r1⟩ v H1 F1 g1 w1 => by
    obtain ⟨p, xs, rfl, sq, nl, da⟩ := w1.seq e1
    exact ⟨p, xs, rfl, sq.symm, W, ρ, n1, _, E.frm (W.frm F1), g1, r1, fun ds n2 r2 vs H2 F2 g2 w2 => k _ n2 r2 _ H2 (W.trans F1 F2) g2 ((da.frm (W.frm F2)).append w2)⟩⟩
/-- truth -/
def truthD : PyData → Option Bool
  | .none => some false
  | .bool b => some b
  | .int i => some (i != 0)
  | .str z => if z.length ≤ 10000000 then some ((z.length : Int) != 0) else none
  | .list ds => some (!ds.isEmpty)
  | .tuple ds => some (!ds.isEmpty)
  | .dict _ => none
def qTru (t : TD) : TDB := fun ρ n R => t ρ n fun d n' => ∃ b, truthD d = some b ∧ R b n'
theorem dt_truth {t : TD} (h : PT X e (fun σ H Q => tD X.K o t σ H fun x H' => ∃ k, TruV X.K x H' k ∧ Q k H')) : PT X e (tDB X.K o (qTru t)) := PT.imp h fun σ H Q ⟨W, ρ, n, R, E, g, t, k⟩ =>
  ⟨W, ρ, n, _, E, g, t, fun d n1 ⟨b, eb, r⟩ v H1 F1 g1 w => by
    refine ⟨b, ?_, k b n1 r H1 F1 g1⟩
    cases w with
    | non => cases eb; exact rfl
    | bl c => cases eb; exact rfl
    | int i => cases eb; exact rfl
    | str z =>
      have eb : (if z.length ≤ 10000000 then some ((z.length : Int) != 0) else none) = some b := eb
      by_cases h : z.length ≤ 10000000
      · rw [if_pos h] at eb
        cases eb
        exact ⟨small_line h, rfl⟩
      · rw [if_neg h] at eb
        cases eb
    | lst s a =>
      cases eb
      exact .inl ⟨_, s.at, by cases a <;> rfl⟩
    | tup s a =>
      cases eb
      exact .inr (.inl ⟨_, s.at, by cases a <;> rfl⟩)
    | dct _ _ _ => cases eb
    | dkT _ _ => cases eb
    | dcT _ _ => cases eb
    | dk _ _ _ => cases eb
    | dt _ _ _ => cases eb
    | obj _ _ _ _ => cases eb
    | exn _ _ _ _ _ _ => cases eb
    | exn0 _ _ _ => cases eb⟩
def isTupD : PyData → Bool
  | .tuple _ => true | _ => false
def isLstD : PyData → Bool
  | .list _ => true | _ => false
theorem kit_tupD {K : PySem.W.Frag} (d : PyData) : PySem.W.kitOne K (.type (tyName d)) (.type "tuple") = some (isTupD d) := by
  rw [kit_tyN d (by decide)]
  cases d <;> simp [tyName, isTupD, isBoolD]
theorem kit_lstD {K : PySem.W.Frag} (d : PyData) : PySem.W.kitOne K (.type (tyName d)) (.type "list") = some (isLstD d) := by
  rw [kit_tyN d (by decide)]
  cases d <;> simp [tyName, isLstD, isBoolD]
theorem de_isi_tuple {t : TD} (h : PE X e (tCB (rIsiY X.K) (tCons (tD X.K o t) (tCons (tC (.ty "tuple")) tNil)))) : PE X e (tD X.K o (qIs isTupD t)) := de_isi (by simp) (fun d => kit_tupD d) (fun _ => rfl) h
theorem de_isi_list {t : TD} (h : PE X e (tCB (rIsiY X.K) (tCons (tD X.K o t) (tCons (tC (.ty "list")) tNil)))) : PE X e (tD X.K o (qIs isLstD t)) := de_isi (by simp) (fun d => kit_lstD d) (fun _ => rfl) h
end
def rNeL (K : PySem.W.Frag) : R2 := fun x y H Q => ∃ a xs b, x = .ref a ∧ y = .ref b ∧ SqL K H a xs ∧ SqL K H b [] ∧ Q (.bl (!xs.isEmpty)) H
theorem op_neL {X : Cx} (hu : X.A.units < cLine) : OpR X (compareOp .NotEq) (rNeL X.K) := by
  intro pins s σ H x y v u Q I rx ry h
  obtain ⟨a, xs, b, rfl, rfl, ha, hb, q⟩ := h
  cases rx
  cases ry
  obtain ⟨its, rv, p1, _⟩ := I.list ha
  obtain ⟨its2, rv2, p2, _⟩ := I.list hb
  cases rv2
  cases rv with
  | nil => exact SeqAt.RcNeAt.lists (e := fun _ => true) p1.isList p2.isList rfl hu (fun j h1 _ => by simp at h1) _ _ _ _ ⟨.bl _, H, I, rfl, q⟩
  | cons r1 r2 => exact SeqAt.RcNeAt.lists_lengths p1.isList p2.isList (by simp) hu _ _ _ _ ⟨.bl _, H, I, rfl, q⟩
/-- a list against [] -/
def fNeL (d e : PyData) (R : PyData → Prop) : Prop := ∃ ds, d = .list ds ∧ e = .list [] ∧ R (.bool (!ds.isEmpty))
theorem fit_neL {K : PySem.W.Frag} : FitR K (rNeL K) fNeL := by
  intro dx dy R M H x y Q al wx wy f k
  obtain ⟨ds, rfl, rfl, r⟩ := f
  cases wx with
  | lst n a =>
    cases wy with
    | lst n2 a2 =>
      cases a2
      refine ⟨_, _, _, rfl, rfl, n.at, n2.at, ?_⟩
      have e : ∀ {xs : List V} {ds : List PyData}, DwAll K M H xs ds → xs.isEmpty = ds.isEmpty := fun h => by cases h <;> rfl
      rw [e a]
      exact k _ r _ _ (Same.refl _) (.bl _)
/-- what a def makes of asking what it is handed, once more is there -/
def TTs (K : PySem.W.Frag) (hx : Addr → List (Str × PyData) → PyData → Prop) (hr : PyData → PyData) : (XK → Hp → VK → Prop) → Hp → VK → Prop := fun tl H Q => ∃ (M : Addr → Prop) (R : PyData → Prop), Al M H ∧
  (∀ H0, Same H H0 → tl (fun cls dd H' => ∃ C fs fv z a, cls = .ref C ∧ dd = some a ∧ Same H0 H' ∧ H' a = some (.xd fv) ∧ FvW K M H' fv fs ∧ hx C fs z ∧ R z) H0 (fun v H' => Same H0 H' ∧ ∃ d, Dw K M H' v d ∧ R (hr d))) ∧
  ∀ z, R z → ∀ v H', Same H H' → Dw K M H' v z → Q v H'
theorem de_heardS {X : Cx} {e : Expr} {TS : TSet} {hx : Addr → List (Str × PyData) → PyData → Prop} {hr : PyData → PyData} {P : FE} {u : TDA} (h : PE X e (LamX.tLam TS (TTs X.K hx hr) (fun E => tCall (spE X.K P) [] E (tDA X.K none u)))) : PE X e (tD X.K (some TS) (qHeard hx hr P u)) := PE.imp h fun σ H Q ⟨W, ρ, n, R, E, g, t, k⟩ => by
  obtain ⟨l1, l2⟩ := W.lm TS E.tse
  refine ⟨l1 _ _ g, fun H1 x1 t1 => ?_⟩
  have q := l2 _ _ _ g x1 t1
  refine ⟨W.M, fun z => R z n, fun c m => W.al q.1 m, fun H0 s0 => ?_, fun z r v H' s w => k z n r v H' (W.trans q.2 (W.of s)) (W.same q.1 s) w⟩
  have E1 := ((E.frm (W.frm q.2)).undr).frm (fx_same s0)
  have al1 : Al W.M H0 := Al.same (fun c m => W.al q.1 m) s0
  refine ⟨pureF W.M, _, n, _, E1, al1, t, fun ds n1 t1 vs H2 F2 g2 w => ⟨W.M, ds, _, _, g2, by rw [List.append_nil]; exact w, t1, fun d r v H' s w' => ⟨F2.trans s, d, w', r⟩, ?_⟩⟩
  rintro C fs ⟨z, hz, r⟩ a H' fv s na ha hw
  exact ⟨C, fs, fv, z, a, rfl, rfl, F2.trans s, ha, hw, hz, r⟩
end MT
set_option maxHeartbeats 4000000
/-! texts over data that laws share -/
namespace MT
open PySem L2 RZ


theorem lc_boolsM {K : PySem.W.Frag} {M : Addr → Prop} {a : Addr} {xs : List V} {ds : List PyData} {J : It} {g : TG} {te : TE} {vs : List Nat} {σ : L2.St} {H1 : Hp} {D : Addr} {Qd : Hp → Prop} (p : PyData → Bool)
    (hD : H1 D = none) (hJ : SeqIt K a xs H1 J) (hda : DvAll K M H1 xs ds) (hlen : xs.length ≤ 10000000)
    (hs : ∀ x d H, d ∈ ds → Dv K M H x d → Same H1 H → ∀ Ky : VK, (∀ H', Same H H' → Ky (.bl (p d)) H') → g x (wipe σ vs) H fun σ2 H2 => wipe σ2 vs = wipe σ vs ∧ te σ2 H2 Ky)
    (hd : ∀ H, Same H1 H → H D = some (.lst ((ds.map p).map V.bl)) → Qd H) : LcW J g tYes te vs σ H1 D Qd := by
  refine lcg_seq (fun _ => False) (fun _ _ => True) (fun i acc _ => acc = ((ds.take i).map p).map V.bl) hD hJ (fun z => z) hlen (fun _ _ _ _ z => z) (fun _ _ _ _ _ z => z) trivial rfl ?_ ?_
  · intro i x acc H hx F hDa _ hA Ky Kn ky kn
    obtain ⟨d, hd1, hd2⟩ := hda.get hx
    have F2 := same_frm F
    refine hs x d H (List.mem_of_getElem? hd1) (hd2.same F2) F2 _ fun H' F' => ?_
    refine ky _ H' (F.trans (frm_same F')) (F' _ _ hDa) trivial ?_
    rw [hA, take_next hd1, List.map_append, List.map_append]
    rfl
  · intro H acc F hDa _ hA _
    refine hd H (same_frm F) ?_
    rw [hDa, hA, List.take_of_length_le (by rw [hda.length]; exact Nat.le_refl _)]
/-- its texts are not too long -/
def shortD (d : PyData) : Prop := ∀ ds, seqD d = some ds → ∀ x, PyData.str x ∈ ds → x.length ≤ 1000000
def spSpot (K : PySem.W.Frag) : Sp := fun vs H Q _ => ∃ (M : Addr → Prop) (v : V) (d : PyData), vs = [v] ∧ Dv K M H v d ∧ shortD d ∧ ∀ H', Same H H' → Q (.bl (spotD d)) H'
theorem nt_true {b : Bool} (h : (!b) = true) : b = false := by cases b with | true => cases h | false => rfl
theorem nt_false {b : Bool} (h : ¬ (!b) = true) : b = true := by cases b with | true => rfl | false => exact absurd rfl h
theorem bfalse {b : Bool} (h : ¬ b = true) : b = false := by cases b with | true => exact absurd rfl h | false => rfl
theorem spot_none {d : PyData} (h : seqD d = none) : spotD d = false := by unfold spotD; rw [h]
theorem spot_some {d : PyData} {ds : List PyData} (h : seqD d = some ds) : spotD d = (decide (ds.length ≤ 6) && ds.all nameD) := by unfold spotD; rw [h]
theorem names_of : ∀ {ds : List PyData}, ds.all nameD = true → ∃ ns : List Str, ds = ns.map PyData.str ∧ ∀ z ∈ ns, nameD (.str z) = true
  | [], _ => ⟨[], rfl, by simp⟩
  | d :: r, h => by
    rw [List.all_cons, Bool.and_eq_true] at h
    obtain ⟨ns, rfl, q⟩ := names_of h.2
    cases d with
    | str x =>
      refine ⟨x :: ns, rfl, fun z hz => ?_⟩
      rcases List.mem_cons.mp hz with e | e
      · rw [e]; exact h.1
      · exact q z e
    | _ => exact absurd h.1 (by simp [nameD])
theorem spot_of {d : PyData} (h : spotD d = true) : ∃ ns : List Str, seqD d = some (ns.map PyData.str) ∧ ns.length ≤ 6 ∧ ∀ z ∈ ns, nameD (.str z) = true := by
  cases e : seqD d with
  | none => rw [spot_none e] at h; cases h
  | some ds =>
    rw [spot_some e, Bool.and_eq_true, decide_eq_true_iff] at h
    obtain ⟨ns, rfl, q⟩ := names_of h.2
    exact ⟨ns, rfl, by rw [List.length_map] at h; exact h.1, q⟩
theorem strs_of_dv {K : PySem.W.Frag} {M : Addr → Prop} {H : Hp} : ∀ {ns : List Str} {xs : List V}, DvAll K M H xs (ns.map PyData.str) → xs = ns.map V.str
  | [], _, .nil => rfl
  | _ :: _, _, .cons (.str _) r => by rw [strs_of_dv r]; rfl
theorem dv_strs {K : PySem.W.Frag} {M : Addr → Prop} {H : Hp} : ∀ ns : List Str, DvAll K M H (ns.map V.str) (ns.map PyData.str)
  | [] => .nil
  | z :: ns => .cons (.str z) (dv_strs ns)


def spPath (K : PySem.W.Frag) : Sp := fun vs H Q _ => ∃ (M : Addr → Prop) (v : V) (d : PyData), vs = [v] ∧ Dv K M H v d ∧ shortD d ∧ ∀ H', Same H H' → Q (.bl (pathD d)) H'
def spText (K : PySem.W.Frag) : Sp := fun vs H Q _ => ∃ (M : Addr → Prop) (v : V) (d : PyData), vs = [v] ∧ Dv K M H v d ∧ (∀ x, d = .str x → x.length ≤ 1000000) ∧ ∀ H', Same H H' → Q (.bl (textD d)) H'
def spValue_ (K : PySem.W.Frag) : Sp := fun vs H Q _ => ∃ (M : Addr → Prop) (v : V) (d : PyData), vs = [v] ∧ Dv K M H v d ∧ fewD d ∧ shortD d ∧ ∀ H', Same H H' → Q (.bl (valueD d)) H'
theorem len_within {n : Nat} : withinD (.int n) (some 1) (some 2) = (decide (1 ≤ n) && decide (n ≤ 2)) := by
  show (decide ((1 : Int) ≤ n) && decide ((n : Int) ≤ 2)) = _
  rw [Bool.eq_iff_iff]
  simp only [Bool.and_eq_true, decide_eq_true_eq]
  omega
theorem word_in (x : Str) : inV (.str x) [.str "none", .str "folder"] = (decide (x = "none") || decide (x = "folder")) := by
  show ((("none" : Str) == x) || ((("folder" : Str) == x) || false)) = _
  rw [Bool.or_false, Bool.eq_iff_iff]
  simp only [Bool.or_eq_true, beq_iff_eq, decide_eq_true_eq]
  exact ⟨fun h => h.imp Eq.symm Eq.symm, fun h => h.imp Eq.symm Eq.symm⟩
theorem len_test {n : Nat} {m : Int} : decide (V.int (n : Int) = V.int m) = decide ((n : Int) = m) := len_eq
/-! ### fixed -/
def fixedD : PyData → PyData
  | .list xs => .tuple (fixedAll xs)
  | .tuple xs => .tuple (fixedAll xs)
  | d => d
where fixedAll : List PyData → List PyData
  | [] => []
  | x :: xs => fixedD x :: fixedAll xs
theorem fixedAll_map : ∀ xs : List PyData, fixedD.fixedAll xs = xs.map fixedD
  | [] => rfl
  | x :: xs => by rw [fixedD.fixedAll, fixedAll_map xs]; rfl
/-- nested at most so deep, all its lists short, no dict in it -/
def deepD : Nat → PyData → Prop
  | _, .none => True
  | _, .bool _ => True
  | _, .int _ => True
  | _, .str _ => True
  | n + 1, .list ds => ds.length ≤ 10000000 ∧ ∀ d ∈ ds, deepD n d
  | n + 1, .tuple ds => ds.length ≤ 10000000 ∧ ∀ d ∈ ds, deepD n d
  | _, _ => False
def spFixed (K : PySem.W.Frag) : Nat → Sp
  | 0 => fun _ _ _ _ => False
  | n + 1 => fun vs H Q _ => ∃ (M M' : Addr → Prop) (v : V) (d : PyData), vs = [v] ∧ Dv K M H v d ∧ deepD n d ∧ (∀ c, M' c → ∃ o, H c = some o) ∧ ∀ v' H', Same H H' → Dv K M' H' v' (fixedD d) → Q v' H'
theorem fixed_seq {d : PyData} {ds : List PyData} (h : seqD d = some ds) : fixedD d = .tuple (ds.map fixedD) := by
  cases d with
  | list xs => cases h; show PyData.tuple _ = _; rw [fixedAll_map]
  | tuple xs => cases h; show PyData.tuple _ = _; rw [fixedAll_map]
  | _ => cases h
theorem deep_seq {n : Nat} {d : PyData} {ds : List PyData} (h : seqD d = some ds) (p : deepD n d) : ∃ m, n = m + 1 ∧ ds.length ≤ 10000000 ∧ ∀ d ∈ ds, deepD m d := by
  cases d with
  | list xs =>
    cases h
    cases n with
    | zero => exact p.elim
    | succ m => exact ⟨m, rfl, p.1, p.2⟩
  | tuple xs =>
    cases h
    cases n with
    | zero => exact p.elim
    | succ m => exact ⟨m, rfl, p.1, p.2⟩
  | _ => cases h
theorem fixed_atom {n : Nat} {d : PyData} (h : seqD d = none) (p : deepD n d) : fixedD d = d ∧ ∀ {K : PySem.W.Frag} {M M' : Addr → Prop} {H : Hp} {v : V}, Dv K M H v d → Dv K M' H v d := by
  cases d with
  | none => exact ⟨rfl, fun h => by cases h; exact .non⟩
  | bool b => exact ⟨rfl, fun h => by cases h; exact .bl b⟩
  | int i => exact ⟨rfl, fun h => by cases h; exact .int i⟩
  | str x => exact ⟨rfl, fun h => by cases h; exact .str x⟩
  | list ds => cases h
  | tuple ds => cases h
  | dict kvs => cases n <;> exact p.elim

section
variable {K : PySem.W.Frag} {M M' : Addr → Prop} {H : Hp}
mutual
theorem Dv.subR (s : ∀ c, M' c → M c) : ∀ (d : PyData) (v : V), Dv K M H v d → Dv K M' H v d
  | .none, _, h => by cases h; exact .non
  | .bool b, _, h => by cases h; exact .bl b
  | .int i, _, h => by cases h; exact .int i
  | .str x, _, h => by cases h; exact .str x
  | .list ds, _, h => by
    cases h with
    | lst n q a => exact .lst (fun z => n (s _ z)) q (DvAll.subR s ds _ a)
  | .tuple ds, _, h => by
    cases h with
    | tup n q a => exact .tup (fun z => n (s _ z)) q (DvAll.subR s ds _ a)
  | .dict _, _, h => by
    cases h with
    | dct n q => exact .dct (fun z => n (s _ z)) q
    | dcT n q => exact .dcT (fun z => n (s _ z)) q
theorem DvAll.subR (s : ∀ c, M' c → M c) : ∀ (ds : List PyData) (vs : List V), DvAll K M H vs ds → DvAll K M' H vs ds
  | [], _, h => by cases h; exact .nil
  | d :: ds, _, h => by
    cases h with
    | cons a b => exact .cons (Dv.subR s d _ a) (DvAll.subR s ds _ b)
end
theorem dv_sub {d : PyData} {v : V} (h : Dv K M H v d) (s : ∀ c, M' c → M c) : Dv K M' H v d := Dv.subR s d v h
theorem dva_sub {d : List PyData} {v : List V} (h : DvAll K M H v d) (s : ∀ c, M' c → M c) : DvAll K M' H v d := DvAll.subR s d v h
end


theorem ints_eq {K : PySem.W.Frag} {H : Hp} {p l : Addr} {cs : List Int} {Q : VK} (hp : SqL K H p (cs.map V.int)) (hl : SqL K H l []) (q : Q (.bl cs.isEmpty) H) : rEqD K (.ref p) (.ref l) H Q :=
  ⟨.list (cs.map .int), .list [], .lst hp (dp_ints cs), .lst hl .nil, shaped_ints cs, shaped_ints [], by cases cs <;> exact q⟩


theorem pss0 {X : Cx} {ss : List Stmt} {t : TDS} (h : PSs X ss (tDs X.K none t)) : PSs X ss (tDs X.K none t) := h
theorem pss1 {X : Cx} {ss : List Stmt} {t : TDS} {TS : MT.TSet} (h : PSs X ss (tDs X.K (some TS) t)) : PSs X ss (tDs X.K (some TS) t) := h
def okM1 (d : PyData) : Prop := ∃ m : Int, d = .int m ∧ 0 < m ∧ m < 2 ^ 62
def below (d y : PyData) : Prop := ∃ m i : Int, d = .int m ∧ y = .int i ∧ 0 ≤ i ∧ i < m
def okSome (d : PyData) : Prop := ∃ xs, d = .list xs ∧ xs ≠ [] ∧ xs.length < 2 ^ 62
def oneOf (d y : PyData) : Prop := ∃ xs, d = .list xs ∧ y ∈ xs
theorem atI_mem {α : Type} {xs : List α} {i : Int} (h0 : 0 ≤ i) (h1 : i < (xs.length : Int)) : ∃ x, atI xs i = some x ∧ x ∈ xs := by
  obtain ⟨j, rfl⟩ : ∃ j : Nat, i = j := ⟨_, (Int.toNat_of_nonneg h0).symm⟩
  have hj : j < xs.length := by omega
  exact ⟨xs[j], atI_nat (List.getElem?_eq_getElem hj), List.getElem_mem hj⟩

theorem one_b {p : PyData → Bool} {xs : List PyData} {y : PyData} (h : oneOf (.list xs) y) (a : xs.all p = true) : p y = true := by
  obtain ⟨zs, e, m⟩ := h
  cases e
  exact List.all_eq_true.mp a y m
theorem one_p {p : PyData → Prop} {xs : List PyData} {y : PyData} (h : oneOf (.list xs) y) (a : ∀ z ∈ xs, p z) : p y := by
  obtain ⟨zs, e, m⟩ := h
  cases e
  exact a y m
theorem some_ok {xs : List PyData} (h : xs ≠ []) (h2 : xs.length < 2 ^ 62) : okSome (.list xs) := ⟨xs, rfl, h, h2⟩
def intIn (lo hi : Int) : PyData → Bool
  | .int w => decide (lo ≤ w) && decide (w ≤ hi)
  | _ => false
theorem int_in {lo hi : Int} {d : PyData} (h : intIn lo hi d = true) : ∃ w, d = .int w ∧ lo ≤ w ∧ w ≤ hi := by
  cases d with
  | int w =>
    have h : (decide (lo ≤ w) && decide (w ≤ hi)) = true := h
    rw [Bool.and_eq_true] at h
    exact ⟨w, rfl, of_decide_eq_true h.1, of_decide_eq_true h.2⟩
  | _ => cases h
def strIs (p : Str → Bool) : PyData → Bool
  | .str z => p z
  | _ => false
theorem str_is {p : Str → Bool} {d : PyData} (h : strIs p d = true) : ∃ z, d = .str z ∧ p z = true := by
  cases d with
  | str z => exact ⟨z, rfl, h⟩
  | _ => cases h
theorem rng_at {n i : Nat} {x : PyData} {lo : Int} (h : ((List.range n).map fun i => PyData.int (lo + (i : Nat)))[i]? = some x) : i < n ∧ x = .int (lo + (i : Nat)) := by
  have l := (List.getElem?_eq_some_iff.mp h).1
  rw [List.length_map, List.length_range] at l
  rw [List.getElem?_map, List.getElem?_range l] at h
  exact ⟨l, (Option.some.inj h).symm⟩
theorem q_yes {ρ : List DS} {n : Nat} {f g : Nat → Prop} (h : f n) : qYes ρ n (fun b m => if b = true then f m else g m) := by
  show if true = true then f n else g n
  rw [if_pos rfl]
  exact h
theorem rng_len {n : Nat} {lo : Int} : ((List.range n).map fun i => PyData.int (lo + (i : Nat))).length = n := by rw [List.length_map, List.length_range]

theorem tame_s {z : Str} (h : PyData.strOk z = true) : tame (.str z) = true := by simp [tame, PyData.canLay0, PyData.depth, h]
theorem eqv_s (a b : Str) : PyData.eqv (.str a) (.str b) = decide (a = b) := by
  rw [PyData.eqv]
  by_cases e : a = b
  · rw [e]; simp
  · rw [decide_eq_false e]; simpa using e
theorem cutD_to (ds : List PyData) (k : Nat) : cutD ds none (some (k : Int)) = ds.take k := by
  unfold cutD
  rw [HT.sIx_nat, HT.sIx_none, List.drop_zero, Nat.sub_zero]
  by_cases h : k ≤ ds.length
  · rw [Nat.min_eq_left h]
  · rw [Nat.min_eq_right (by omega), List.take_of_length_le (Nat.le_refl _), List.take_of_length_le (by omega)]
theorem cutD_from (ds : List PyData) (k : Nat) : cutD ds (some (k : Int)) none = ds.drop k := by
  unfold cutD
  rw [HT.sIx_nat, HT.sIx_none]
  by_cases h : k ≤ ds.length
  · rw [Nat.min_eq_left h, List.take_of_length_le (by rw [List.length_drop]; omega)]
  · rw [Nat.min_eq_right (by omega), List.drop_of_length_le (Nat.le_refl _), List.drop_of_length_le (by omega), List.take_nil]
theorem cutD_last (ds : List PyData) : cutD ds none (some (-1)) = ds.dropLast := by
  unfold cutD
  rw [HT.sIx_none, List.drop_zero, Nat.sub_zero, List.dropLast_eq_take]
  have e : HT.sIx ds.length ds.length (some (-1)) = ds.length - 1 := by
    show (if (-1 : Int) < 0 then (-1 + (ds.length : Int)).toNat else min (-1 : Int).toNat ds.length) = ds.length - 1
    rw [if_pos (by decide)]
    omega
  rw [e]
theorem at_last {α : Type} {xs : List α} {x : α} (h : xs.getLast? = some x) : atI xs (-1) = some x := by
  unfold atI ixN
  rw [if_neg (by decide)]
  have l : xs ≠ [] := fun e => by rw [e] at h; cases h
  have l2 := List.length_pos_iff.mpr l
  rw [if_pos (by omega)]
  show xs[(-1 + (xs.length : Int)).toNat]? = some x
  rw [List.getLast?_eq_getElem?] at h
  rw [← h]
  congr 1
  omega
theorem at_0 {α : Type} {xs : List α} {x : α} : atI (x :: xs) 0 = some x := atI_nat (j := 0) rfl
theorem at_1 {α : Type} {xs : List α} {x y : α} : atI (y :: x :: xs) 1 = some x := atI_nat (j := 1) rfl

def lenOf : PyData → Option Nat
  | .list ds => some ds.length
  | .tuple ds => some ds.length
  | .str z => if z.length ≤ 10000000 then some z.length else none
  | _ => none
theorem f_len {d : PyData} {k : Nat} {R : PyData → Prop} (hl : lenOf d = some k) (r : R (.int k)) : fLen [d] R := by
  cases d with
  | list ds => cases hl; exact r
  | tuple ds => cases hl; exact r
  | str z =>
    by_cases h : z.length ≤ 10000000
    · rw [lenOf, if_pos h] at hl
      cases hl
      exact ⟨h, r⟩
    · rw [lenOf, if_neg h] at hl
      cases hl
  | _ => cases hl
theorem len_seqD {d : PyData} {ds : List PyData} (h : seqD d = some ds) : lenOf d = some ds.length := by
  cases d <;> cases h <;> rfl
theorem len_str {z : Str} (h : z.length ≤ 10000000) : lenOf (.str z) = some z.length := if_pos h
theorem items_seqD {d : PyData} {ds : List PyData} (h : seqD d = some ds) : itemsD d = some ds := by
  cases d <;> cases h <;> rfl
theorem f_ix {d e x : PyData} {ds : List PyData} {R : PyData → Prop} {i : Int} (h : seqD d = some ds) (he : e = .int i) (a : atI ds i = some x) (r : R x) : fIx d e R := by
  refine ⟨i, he, ?_⟩
  cases d <;> cases h <;> exact ⟨x, a, r⟩
theorem q_len_btw {g g' : Int → Int → Bool} {h h' : Str → Str → Bool} {lo hi : Int} {i n k : Nat} {ρ : List DS} {R : QD} {d : PyData} (hv : ρ[i]? = some (DS.d d)) (hl : lenOf d = some k) (r : R (.bool (g lo k && g' k hi)) n) :
    qChain (fOrd g h) (fOrd g' h') (qC (.int lo)) (qCB fLen (qCons (qVar i) qNil)) (qC (.int hi)) ρ n R := by
  unfold qChain qCB qCons qVar qNil qC
  refine ⟨d, hv, f_len hl ⟨g lo k, rfl, ?_⟩⟩
  cases e : g lo k with
  | true => rw [e] at r; exact r
  | false => rw [e] at r; exact r
theorem q_len_ord {g : Int → Int → Bool} {h : Str → Str → Bool} {hi : Int} {i n k : Nat} {ρ : List DS} {R : QD} {d : PyData} (hv : ρ[i]? = some (DS.d d)) (hl : lenOf d = some k) (r : R (.bool (g k hi)) n) :
    qOp (fOrd g h) (qCB fLen (qCons (qVar i) qNil)) (qC (.int hi)) ρ n R := by
  unfold qOp qCB qCons qVar qNil qC
  exact ⟨d, hv, f_len hl r⟩
theorem q_len_eq {hi : Int} {i n k : Nat} {ρ : List DS} {R : QD} {d : PyData} (hv : ρ[i]? = some (DS.d d)) (hl : lenOf d = some k) (r : R (.bool (decide ((k : Int) = hi))) n) :
    qOp fEq (qCB fLen (qCons (qVar i) qNil)) (qC (.int hi)) ρ n R := by
  unfold qOp qCB qCons qVar qNil qC
  exact ⟨d, hv, f_len hl ⟨rfl, rfl, r⟩⟩
def tm (n : Nat) (e : PyData) : Bool := e.canLay0 && decide (e.depth ≤ n)
theorem tm_tame {n : Nat} {e : PyData} (h : tm n e = true) (l : n ≤ 5) : tame e = true := by
  unfold tm at h
  rw [Bool.and_eq_true, decide_eq_true_iff] at h
  unfold tame
  rw [h.1, decide_eq_true (by omega)]
  rfl
theorem tm_all {n : Nat} : ∀ {ds : List PyData}, (∀ y ∈ ds, tm n y = true) → PyData.canLayAll0 ds = true ∧ PyData.depthAll ds ≤ n
  | [], _ => ⟨by simp [PyData.canLayAll0], by simp [PyData.depthAll]⟩
  | d :: ds, h => by
    obtain ⟨h1, h2⟩ := tm_all fun y hy => h y (List.mem_cons_of_mem _ hy)
    have h0 := h d List.mem_cons_self
    unfold tm at h0
    rw [Bool.and_eq_true, decide_eq_true_iff] at h0
    exact ⟨by simp only [PyData.canLayAll0, h0.1, h1, Bool.and_self], by simp only [PyData.depthAll]; omega⟩
theorem tm_seq {n : Nat} {d : PyData} {ds : List PyData} (e : seqD d = some ds) (h : ∀ y ∈ ds, tm n y = true) : tm (n + 1) d = true := by
  obtain ⟨h1, h2⟩ := tm_all h
  unfold tm
  rw [Bool.and_eq_true, decide_eq_true_iff]
  cases d <;> cases e <;> exact ⟨by simp only [PyData.canLay0, h1], by simp only [PyData.depth]; omega⟩
theorem tm_str {n : Nat} {z : Str} (h : PyData.strOk z = true) : tm n (.str z) = true := by simp [tm, PyData.canLay0, PyData.depth, h]
theorem str_of_tm {n : Nat} {z : Str} (h : tm n (.str z) = true) : PyData.strOk z = true := by
  unfold tm at h
  rw [Bool.and_eq_true] at h
  simpa [PyData.canLay0] using h.1
/-- no item of it is long, none odd -/
def okB2 (d : PyData) : Bool := match seqD d with
  | none => true
  | some es => decide (es.length ≤ 10000000) && es.all fun y => tm 3 y && match y with | .str z => decide (z.length ≤ 1000000) | _ => true
def okB1 (d : PyData) : Bool := match seqD d with
  | none => true
  | some ds => decide (ds.length ≤ 10000000) && ds.all okB2
theorem ok2_of {d : PyData} {es : List PyData} (h : okB2 d = true) (e : seqD d = some es) : es.length ≤ 10000000 ∧ ∀ y ∈ es, tm 3 y = true ∧ ∀ z, y = .str z → z.length ≤ 1000000 := by
  unfold okB2 at h
  rw [e] at h
  have h : (decide (es.length ≤ 10000000) && es.all fun y => tm 3 y && match y with | .str z => decide (z.length ≤ 1000000) | _ => true) = true := h
  rw [Bool.and_eq_true] at h
  refine ⟨of_decide_eq_true h.1, fun y hy => ?_⟩
  have q := List.all_eq_true.mp h.2 y hy
  rw [Bool.and_eq_true] at q
  exact ⟨q.1, fun z ez => by subst ez; exact of_decide_eq_true q.2⟩
theorem ok1_of {d : PyData} {ds : List PyData} (h : okB1 d = true) (e : seqD d = some ds) : ds.length ≤ 10000000 ∧ ∀ x ∈ ds, okB2 x = true := by
  unfold okB1 at h
  rw [e] at h
  have h : (decide (ds.length ≤ 10000000) && ds.all okB2) = true := h
  rw [Bool.and_eq_true] at h
  exact ⟨of_decide_eq_true h.1, List.all_eq_true.mp h.2⟩
theorem signs_ok {z : Str} (h : PyData.strOk z = true) : ∀ c ∈ z.cps.toList, PyData.strOk ⟨#[c]⟩ = true := fun c hc => by
  have q : z.cps.all (· < 0x110000) = true := h
  rw [← Array.all_toList, List.all_eq_true] at q
  show (#[c] : Array Nat).all (· < 0x110000) = true
  simpa using q c hc
theorem sign_memD {z : Str} {x : PyData} (h : x ∈ signsD z) : ∃ c, c ∈ z.cps.toList ∧ x = .str ⟨#[c]⟩ := by
  obtain ⟨c, hc, e⟩ := List.mem_map.mp h
  exact ⟨c, hc, e.symm⟩
theorem signs_len (z : Str) : (signsD z).length = z.length := by
  unfold signsD
  rw [List.length_map, Array.length_toList]
  rfl
/-- a text's signs that p keeps: are there some -/
theorem signs_keep (p : Nat → Bool) (q : PyData → Bool) (hq : ∀ c, q (.str ⟨#[c]⟩) = p c) (z : Str) : ((signsD z).filter q) = ((z.cps.toList.filter p).map fun c => PyData.str ⟨#[c]⟩) := by
  unfold signsD
  rw [List.filter_map]
  congr 1
  exact List.filter_congr fun c _ => hq c
theorem tame_signs {z : Str} (h : PyData.strOk z = true) (p : Nat → Bool) : tame (.list ((z.cps.toList.filter p).map fun c => PyData.str ⟨#[c]⟩)) = true := by
  have a : ∀ y ∈ ((z.cps.toList.filter p).map fun c => (⟨#[c]⟩ : Str)), PyData.strOk y = true := fun y hy => by
    obtain ⟨c, hc, rfl⟩ := List.mem_map.mp hy
    exact signs_ok h c (List.mem_filter.mp hc).1
  have e : ((z.cps.toList.filter p).map fun c => PyData.str ⟨#[c]⟩) = (((z.cps.toList.filter p).map fun c => (⟨#[c]⟩ : Str)).map PyData.str) := by
    rw [List.map_map]
    rfl
  rw [e]
  have ta := tame_strs a
  obtain ⟨c1, c2⟩ := tame_seq ta
  have c3 : PyData.depthAll (((z.cps.toList.filter p).map fun c => (⟨#[c]⟩ : Str)).map PyData.str) = 0 := by
    generalize ((z.cps.toList.filter p).map fun c => (⟨#[c]⟩ : Str)) = l
    induction l with
    | nil => simp [PyData.depthAll]
    | cons x l ih => simp [PyData.depthAll, PyData.depth, ih]
  unfold tame
  simp only [PyData.canLay0, c1, PyData.depth, c3]
  rfl
theorem eqv_nil (l : List PyData) : PyData.eqv (.list l) (.list []) = l.isEmpty := by
  cases l <;> simp [PyData.eqv, PyData.eqvAll]
theorem keep_none (p : Nat → Bool) (z : Str) : ((z.cps.toList.filter p).map fun c => PyData.str ⟨#[c]⟩).isEmpty = z.cps.toList.all fun c => !p c := by
  rw [List.isEmpty_map]
  induction z.cps.toList with
  | nil => rfl
  | cons c l ih =>
    rw [List.filter_cons, List.all_cons]
    cases p c <;> simp [ih]
theorem q_btw_s {lo hi s : Str} {i n : Nat} {ρ : List DS} {R : QD} (hv : ρ[i]? = some (DS.d (.str s))) (r : R (.bool (!ltS s lo && !ltS hi s)) n) :
    qChain (fOrd (fun i j => decide (i ≤ j)) fun a b => !ltS b a) (fOrd (fun i j => decide (i ≤ j)) fun a b => !ltS b a) (qC (.str lo)) (qVar i) (qC (.str hi)) ρ n R := by
  refine ⟨_, hv, ⟨!ltS s lo, rfl, ?_⟩⟩
  cases e : ltS s lo with
  | true => rw [e] at r; exact r
  | false => rw [e] at r; exact r
theorem q_ix {i n : Nat} {k : Int} {ρ : List DS} {R : QD} {d x : PyData} {es : List PyData} (hv : ρ[i]? = some (DS.d d)) (he : seqD d = some es) (a : atI es k = some x) (r : R x n) : qOp fIx (qVar i) (qC (.int k)) ρ n R := by
  unfold qOp qVar qC
  exact ⟨d, hv, f_ix he rfl a r⟩
theorem q_it_eq {i n : Nat} {k : Int} {ρ : List DS} {R : QD} {d x : PyData} {es : List PyData} {w : Str} (hv : ρ[i]? = some (DS.d d)) (he : seqD d = some es) (a : atI es k = some x) (tx : tame x = true) (tw : PyData.strOk w = true) (r : R (.bool (PyData.eqv x (.str w))) n) :
    qOp fEq (qOp fIx (qVar i) (qC (.int k))) (qC (.str w)) ρ n R := by
  unfold qOp qVar qC
  exact ⟨d, hv, f_ix he rfl a ⟨tx, tame_s tw, r⟩⟩
theorem q_it_ne {i n : Nat} {k : Int} {ρ : List DS} {R : QD} {d x : PyData} {es : List PyData} {w : Str} (hv : ρ[i]? = some (DS.d d)) (he : seqD d = some es) (a : atI es k = some x) (tx : tame x = true) (tw : PyData.strOk w = true) (r : R (.bool (!PyData.eqv x (.str w))) n) :
    qOp fNe (qOp fIx (qVar i) (qC (.int k))) (qC (.str w)) ρ n R := by
  unfold qOp qVar qC
  exact ⟨d, hv, f_ix he rfl a ⟨tx, tame_s tw, r⟩⟩
theorem q_it_is {i n : Nat} {k : Int} {ρ : List DS} {R : QD} {d x : PyData} {es : List PyData} {p : PyData → Bool} (hv : ρ[i]? = some (DS.d d)) (he : seqD d = some es) (a : atI es k = some x) (r : R (.bool (p x)) n) : qIs p (qOp fIx (qVar i) (qC (.int k))) ρ n R := by
  unfold qIs qOp qVar qC
  exact ⟨d, hv, f_ix he rfl a r⟩
theorem q_it_in {i n : Nat} {k : Int} {ρ : List DS} {R : QD} {d x : PyData} {es : List PyData} {neg : Bool} {w1 w2 : Str} (hv : ρ[i]? = some (DS.d d)) (he : seqD d = some es) (a : atI es k = some x) (tx : tame x = true) (t1 : PyData.strOk w1 = true) (t2 : PyData.strOk w2 = true)
    (r : R (.bool (if neg then !inD x [.str w1, .str w2] else inD x [.str w1, .str w2])) n) : qOp (fInV neg) (qOp fIx (qVar i) (qC (.int k))) (qTup (qCons (qC (.str w1)) (qCons (qC (.str w2)) qNil))) ρ n R := by
  unfold qOp qVar qTup qCons qNil qC
  refine ⟨d, hv, f_ix he rfl a ⟨by simp, ?_⟩⟩
  have q : tame x = true ∧ [PyData.str w1, .str w2].all tame = true ∧ R (.bool (if neg then !inD x [.str w1, .str w2] else inD x [.str w1, .str w2])) n := ⟨tx, by simp [tame_s t1, tame_s t2], r⟩
  cases x <;> exact q
theorem q_ord_btw {g g' : Int → Int → Bool} {h h' : Str → Str → Bool} {lo hi : Int} {i n c : Nat} {ρ : List DS} {R : QD} (hv : ρ[i]? = some (DS.d (.str ⟨#[c]⟩))) (r : R (.bool (g lo c && g' c hi)) n) :
    qChain (fOrd g h) (fOrd g' h') (qC (.int lo)) (qCB fOrdS (qCons (qVar i) qNil)) (qC (.int hi)) ρ n R := by
  refine ⟨_, hv, rfl, ⟨g lo c, rfl, ?_⟩⟩
  cases e : g lo c with
  | true => rw [e] at r; exact r
  | false => rw [e] at r; exact r
theorem q_ord_eq {k : Int} {i n c : Nat} {ρ : List DS} {R : QD} (hv : ρ[i]? = some (DS.d (.str ⟨#[c]⟩))) (r : R (.bool (decide ((c : Int) = k))) n) :
    qOp fEq (qCB fOrdS (qCons (qVar i) qNil)) (qC (.int k)) ρ n R := ⟨_, hv, rfl, rfl, rfl, r⟩
theorem eqv_emptyT {d : PyData} {es : List PyData} (h : PyData.eqv d (.tuple []) = true) (e : seqD d = some es) : es = [] := by
  cases d <;> cases e
  · simp [PyData.eqv] at h
  · cases es with
    | nil => rfl
    | cons a b => simp [PyData.eqv, PyData.eqvAll] at h
theorem eqv_emptyL {d : PyData} {es : List PyData} (h : PyData.eqv d (.list []) = true) (e : seqD d = some es) : es = [] := by
  cases d <;> cases e
  · cases es with
    | nil => rfl
    | cons a b => simp [PyData.eqv, PyData.eqvAll] at h
  · simp [PyData.eqv] at h
theorem not_empty {d : PyData} {es : List PyData} (h : ¬ PyData.eqv d (.tuple []) = true) (h2 : ¬ PyData.eqv d (.list []) = true) (e : seqD d = some es) : es ≠ [] := fun q => by
  subst q
  cases d <;> cases e
  · exact h2 (by simp [PyData.eqv, PyData.eqvAll])
  · exact h (by simp [PyData.eqv, PyData.eqvAll])
theorem eqv_str_not {x : PyData} {w : Str} (h : isStrD x = false) : PyData.eqv x (.str w) = false := by
  cases x <;> first | (simp [PyData.eqv]; done) | cases h
theorem in_strs {x : PyData} {w1 w2 : Str} : inD x [.str w1, .str w2] = match x with | .str z => (decide (z = w1) || decide (z = w2)) | _ => false := by
  unfold inD
  cases x with
  | str z =>
    simp only [List.any_cons, List.any_nil, Bool.or_false, eqv_s]
    congr 1
    · exact decide_eq_decide.mpr ⟨Eq.symm, Eq.symm⟩
    · exact decide_eq_decide.mpr ⟨Eq.symm, Eq.symm⟩
  | _ => simp [PyData.eqv]

theorem okB1_of {d : PyData} {ds : List PyData} (e : seqD d = some ds) (l : ds.length ≤ 10000000) (h : ∀ x ∈ ds, okB2 x = true) : okB1 d = true := by
  unfold okB1
  rw [e]
  show (decide (ds.length ≤ 10000000) && ds.all okB2) = true
  rw [decide_eq_true l, Bool.true_and]
  exact List.all_eq_true.mpr h
theorem okB1_atom {d : PyData} (e : seqD d = none) : okB1 d = true := by
  unfold okB1
  rw [e]
theorem okB2_atom {d : PyData} (e : seqD d = none) : okB2 d = true := by
  unfold okB2
  rw [e]
theorem okB2_strs {d : PyData} {ns : List Str} (e : seqD d = some (ns.map PyData.str)) (l : ns.length ≤ 10000000) (h : ∀ z ∈ ns, PyData.strOk z = true ∧ z.length ≤ 1000000) : okB2 d = true := by
  unfold okB2
  rw [e]
  show (decide _ && List.all _ _) = true
  rw [decide_eq_true (by rw [List.length_map]; exact l), Bool.true_and, List.all_map, List.all_eq_true]
  intro z hz
  show (tm 3 (.str z) && decide (z.length ≤ 1000000)) = true
  rw [tm_str (h z hz).1, decide_eq_true (h z hz).2]
  rfl

theorem law_data {K : PySem.W.Frag} {t : TDS} {a0 p b : Addr} {cs : List Int} {H1 : Hp} {Q : VK} {m : Nat} (S1 : Sx p b cs 0 H1) (k : ∀ H', Q (.bl true) H') (q : t (.no :: .dr :: List.replicate m DS.no) 0 (fun _ _ => False) (fun y _ => y = .bool true)) :
    tDs K none t { nx := fun _ H' => Q .non H', rt := Q } (some (.ref a0) :: some (.ref p) :: List.replicate m none) H1 :=
  ⟨drawF (· = p) p b cs rfl, _, 0, _, _, .cons (s := .no) trivial (.cons (s := .dr) ⟨p, rfl, rfl⟩ (no_env m)), ⟨S1, fun c e => by subst e; exact S1.atl⟩, q, fun _ _ z => z.elim, fun d n e v H' _ _ w => by subst e; cases w; exact k H'⟩
theorem okr_bool (b : Bool) : okRepr (.bool b) := by cases b <;> exact ⟨by decide +kernel, by decide +kernel, by decide +kernel, by decide +kernel, by decide +kernel⟩
theorem okr_two (a b : Bool) : okRepr (.list [.bool a, .bool b]) := by cases a <;> cases b <;> exact ⟨by decide +kernel, by decide +kernel, by decide +kernel, by decide +kernel, by decide +kernel⟩
theorem okr_three (a : Bool) : okRepr (.list [.bool a, .bool a, .bool a]) := by cases a <;> exact ⟨by decide +kernel, by decide +kernel, by decide +kernel, by decide +kernel, by decide +kernel⟩
theorem tm_bool (b : Bool) : tame (.str (PyData.bool b).shown) = true := by cases b <;> decide +kernel
theorem tm_two (a b : Bool) : tame (.str (PyData.list [.bool a, .bool b]).shown) = true := by cases a <;> cases b <;> decide +kernel
theorem tm_three (a : Bool) : tame (.str (PyData.list [.bool a, .bool a, .bool a]).shown) = true := by cases a <;> decide +kernel
theorem ne_self {z : Str} : (!PyData.eqv (.str z) (.str z)) = false := by rw [eqv_s, decide_eq_true rfl]; rfl


def okSomeS (d : PyData) : Prop := okSome d ∨ ∃ z : Str, d = .str z ∧ 0 < z.length ∧ z.length ≤ 1000
def oneOfS (d y : PyData) : Prop := oneOf d y ∨ ∃ (z : Str) (c : Nat), d = .str z ∧ y = .str ⟨#[c]⟩ ∧ c ∈ z.cps.toList
theorem oneL {xs : List PyData} {y : PyData} (h : oneOfS (.list xs) y) : oneOf (.list xs) y := h.elim id fun ⟨_, _, e, _⟩ => by cases e
theorem oneT {z : Str} {y : PyData} (h : oneOfS (.str z) y) : ∃ c, y = .str ⟨#[c]⟩ ∧ c ∈ z.cps.toList := by
  rcases h with ⟨xs, e, _⟩ | ⟨u, c, e, h1, h2⟩
  · cases e
  · cases e
    exact ⟨c, h1, h2⟩
def tupS (ns : List Str) : PyData := .tuple (ns.map PyData.str)
def isN (d : PyData) : Prop := ∃ z, d = .str z ∧ nameD (.str z) = true
def isSp (d : PyData) : Prop := ∃ ns, d = tupS ns ∧ ns.length ≤ 6 ∧ ∀ z ∈ ns, nameD (.str z) = true
theorem name_str {z : Str} : nameD (.str z) = ((decide (1 ≤ z.length) && decide (z.length ≤ 12)) && z.cps.toList.all nameSign) := rfl
theorem name_not {d : PyData} (h : isStrD d = false) : nameD d = false := by
  cases d <;> first | rfl | cases h
theorem sign_name (c : Nat) : decide (c ∈ ("abcdefghijklmnopqrstuvwxyz0123456789" : Str).cps.toList) = nameSign c := by
  have e : ("abcdefghijklmnopqrstuvwxyz0123456789" : Str).cps.toList = (List.range 26).map (97 + ·) ++ (List.range 10).map (48 + ·) := by decide +kernel
  rw [e]
  unfold nameSign
  rw [Bool.eq_iff_iff, decide_eq_true_iff, Bool.or_eq_true, Bool.and_eq_true, Bool.and_eq_true, decide_eq_true_iff, decide_eq_true_iff, decide_eq_true_iff, decide_eq_true_iff, List.mem_append, List.mem_map, List.mem_map]
  constructor
  · rintro (⟨i, h, rfl⟩ | ⟨i, h, rfl⟩)
    · have := List.mem_range.mp h; omega
    · have := List.mem_range.mp h; omega
  · rintro (h | h)
    · exact .inl ⟨c - 97, List.mem_range.mpr (by omega), by omega⟩
    · exact .inr ⟨c - 48, List.mem_range.mpr (by omega), by omega⟩
/-- signs, one behind another -/
def ofSigns (cs : List Nat) : List Str := cs.map fun c => ⟨#[c]⟩
theorem join_signs (cs : List Nat) : Txt.join "" (ofSigns cs) = ⟨cs.toArray⟩ := TL.ext_tl (by
  rw [show TL.tl (Txt.join "" (ofSigns cs)) = cs from tl_join_signs cs])


def PSpotL : FD := fun ds R => ds = [.int 0] ∧ ∀ y, isSp y → R y


def okN (d : PyData) : Prop := ∀ z, d = .str z → z.length ≤ 1000000 ∧ PyData.strOk z = true
def PIsName : FD := fun ds R => ∃ d, ds = [d] ∧ okN d ∧ R (.bool (nameD d))
def badN : PyData → Bool
  | .str s => !nameSign (s.cps.getD 0 0)
  | _ => false
def okNB : PyData → Bool
  | .str z => decide (z.length ≤ 1000) && PyData.strOk z
  | _ => true
theorem okN_of {d : PyData} (h : okNB d = true) : okN d := fun z e => by
  subst e
  have h : (decide (z.length ≤ 1000) && PyData.strOk z) = true := h
  rw [Bool.and_eq_true, decide_eq_true_iff] at h
  exact ⟨by omega, h.2⟩
/-- items short, texts well-formed -/
def okI (d : PyData) : Bool := match seqD d with
  | none => true
  | some es => decide (es.length ≤ 100) && es.all okNB
theorem okI_of {d : PyData} {es : List PyData} (h : okI d = true) (e : seqD d = some es) : es.length ≤ 100 ∧ ∀ y ∈ es, okNB y = true := by
  unfold okI at h
  rw [e] at h
  have h : (decide (es.length ≤ 100) && es.all okNB) = true := h
  rw [Bool.and_eq_true, decide_eq_true_iff] at h
  exact ⟨h.1, List.all_eq_true.mp h.2⟩
theorem okI_short {d : PyData} (h : okI d = true) : shortD d := fun ds e x hx => by
  have q := (okN_of ((okI_of h e).2 _ hx)) x rfl
  exact q.1
theorem okI_few {d : PyData} (h : okI d = true) : fewD d := fun ds e => by
  have := (okI_of h e).1
  omega
def PIsSpot : FD := fun ds R => ∃ d, ds = [d] ∧ okI d = true ∧ R (.bool (spotD d))
theorem spot_len {d : PyData} {ds : List PyData} (h : seqD d = some ds) (l : ¬ ds.length ≤ 6) : spotD d = false := by
  rw [spot_some h, decide_eq_false l]
  rfl
theorem none_all {ds : List PyData} (p : PyData → Bool) : ((ds.filter fun x => !p x).map id).isEmpty = ds.all p := by
  rw [List.map_id]
  induction ds with
  | nil => rfl
  | cons x r ih =>
    rw [List.filter_cons, List.all_cons]
    cases p x <;> simp [ih]


def PIsValue : FD := fun ds R => ∃ d, ds = [d] ∧ okI d = true ∧ R (.bool (valueD d))
def badT : PyData → Bool
  | .str s => (ltS s " " || ltS "~" s) || decide (((s.cps.getD 0 0 : Nat) : Int) = 37)
  | _ => false
theorem lt_one (a b : Nat) : ltS ⟨#[a]⟩ ⟨#[b]⟩ = decide (a < b) := by
  unfold ltS
  congr 1
  simp [List.cons_lt_cons_iff]
theorem badT_sign (c : Nat) : badT (.str ⟨#[c]⟩) = !textSign c := by
  show ((ltS ⟨#[c]⟩ ⟨#[32]⟩ || ltS ⟨#[126]⟩ ⟨#[c]⟩) || decide (((c : Nat) : Int) = 37)) = _
  rw [lt_one, lt_one]
  unfold textSign
  have e3 : decide (((c : Nat) : Int) = 37) = decide (c = 37) := decide_eq_decide.mpr (by omega)
  have e1 : decide (c < 32) = !decide (32 ≤ c) := by rw [Bool.eq_iff_iff]; simp
  have e2 : decide (126 < c) = !decide (c ≤ 126) := by rw [Bool.eq_iff_iff]; simp
  rw [e1, e2, e3]
  cases decide (32 ≤ c) <;> cases decide (c ≤ 126) <;> cases decide (c = 37) <;> rfl
theorem text_str {z : Str} : textD (.str z) = (decide (z.length ≤ 60) && z.cps.toList.all textSign) := rfl
theorem text_not {d : PyData} (h : isStrD d = false) : textD d = false := by
  cases d <;> first | rfl | cases h
theorem ok_none : PyData.strOk ("none" : Str) = true := by decide +kernel
theorem ok_folder : PyData.strOk ("folder" : Str) = true := by decide +kernel
theorem ok_file : PyData.strOk ("file" : Str) = true := by decide +kernel
theorem value_two {x e : PyData} : valueL [x, e] = (PyData.eqv x (.str "file") && textD e) := by
  cases x with
  | str z => rw [eqv_s]; rfl
  | _ => simp [PyData.eqv, valueL]
theorem value_one {x : PyData} : valueL [x] = inD x [.str "none", .str "folder"] := by
  rw [in_strs]
  cases x <;> rfl
theorem in_12 {k : Nat} : inD (.int (k : Int)) [.int 1, .int 2] = (decide (1 ≤ k) && decide (k ≤ 2)) := by
  unfold inD
  simp only [List.any_cons, List.any_nil, PyData.eqv, Bool.or_false]
  rw [Bool.eq_iff_iff, Bool.or_eq_true, Bool.and_eq_true, decide_eq_true_iff, decide_eq_true_iff, beq_iff_eq, beq_iff_eq]
  omega
theorem q_op {f : PyData → PyData → (PyData → Prop) → Prop} {ta tb : TD} {ρ : List DS} {n : Nat} {R : QD} (h : ta ρ n fun dx n1 => tb ρ n1 fun dy n2 => f dx dy fun d => R d n2) : qOp f ta tb ρ n R := h
theorem q_lc_ix {vs : List Nat} {f : PyData → List DS → (List DS → Prop) → Prop} {tt : TDB} {te : TD} {i n : Nat} {k : Int} {ρ : List DS} {R : QD} {d x : PyData} {es ds : List PyData} (hv : ρ[i]? = some (DS.d d)) (he : seqD d = some es) (a : atI es k = some x) (hx : itemsD x = some ds)
    (r : ds.length ≤ 10000000 ∧ ∃ A : Nat → List PyData → Nat → Prop, A 0 [] n ∧ (∀ i x acc m, ds[i]? = some x → A i acc m → f x (wipeD ρ vs) fun ρ' => tt ρ' m fun b m' => if b = true then te ρ' m' fun y m'' => A (i + 1) (acc ++ [y]) m'' else A (i + 1) acc m') ∧
      ∀ acc m, A ds.length acc m → acc.length ≤ ds.length → R (.list acc) m) : qLc vs f (qItU (qOp fIx (qVar i) (qC (.int k)))) tt te ρ n R := by
  unfold qLc qItU qOp qVar qC
  exact ⟨d, hv, f_ix he rfl a ⟨ds, hx, r⟩⟩
theorem q_len_in {i n k : Nat} {neg : Bool} {a b : PyData} {ρ : List DS} {R : QD} {d : PyData} (hv : ρ[i]? = some (DS.d d)) (hl : lenOf d = some k) (t : [a, b].all tame = true) (r : R (.bool (if neg then !inD (.int (k : Int)) [a, b] else inD (.int (k : Int)) [a, b])) n) :
    qOp (fInV neg) (qCB fLen (qCons (qVar i) qNil)) (qTup (qCons (qC a) (qCons (qC b) qNil))) ρ n R := by
  unfold qOp qCB qCons qVar qNil qC qTup
  exact ⟨d, hv, f_len hl ⟨by simp, rfl, t, r⟩⟩
theorem q_ix_len_ord {g : Int → Int → Bool} {h : Str → Str → Bool} {hi j : Int} {i n k : Nat} {ρ : List DS} {R : QD} {d x : PyData} {es : List PyData} (hv : ρ[i]? = some (DS.d d)) (he : seqD d = some es) (a : atI es j = some x) (hl : lenOf x = some k) (r : R (.bool (g k hi)) n) :
    qOp (fOrd g h) (qCB fLen (qCons (qOp fIx (qVar i) (qC (.int j))) qNil)) (qC (.int hi)) ρ n R := by
  unfold qOp qCB qCons qVar qNil qC
  exact ⟨d, hv, f_ix he rfl a (f_len hl r)⟩
theorem q_nis {i n : Nat} {k : Int} {ρ : List DS} {R : Bool → Nat → Prop} {d x : PyData} {es : List PyData} {p : PyData → Bool} (hv : ρ[i]? = some (DS.d d)) (he : seqD d = some es) (a : atI es k = some x) (r : R (!(p x)) n) : qNot (qB (qIs p (qOp fIx (qVar i) (qC (.int k))))) ρ n R := by
  unfold qNot qB qIs qOp qVar qC
  exact ⟨d, hv, f_ix he rfl a ⟨_, rfl, r⟩⟩
theorem tame_12 : [PyData.int 1, PyData.int 2].all tame = true := by decide +kernel


/-- can be shown, nested at most n deep, of at most w -/
def fine (n w : Nat) (d : PyData) : Bool := toldD d && (d.showable && (decide (d.depth ≤ n) && (PyData.leavesShort 8 d && decide (PyData.weight d ≤ w))))
theorem fine_of {n w : Nat} {d : PyData} (h : fine n w d = true) : toldD d = true ∧ d.showable = true ∧ d.depth ≤ n ∧ PyData.leavesShort 8 d = true ∧ PyData.weight d ≤ w := by
  unfold fine at h
  simp only [Bool.and_eq_true, decide_eq_true_eq] at h
  exact h
theorem fine_mk {n w : Nat} {d : PyData} (h : toldD d = true ∧ d.showable = true ∧ d.depth ≤ n ∧ PyData.leavesShort 8 d = true ∧ PyData.weight d ≤ w) : fine n w d = true := by
  unfold fine
  simp only [Bool.and_eq_true, decide_eq_true_eq]
  exact h
theorem fine_more {n w m v : Nat} {d : PyData} (h : fine n w d = true) (a : n ≤ m) (b : w ≤ v) : fine m v d = true := by
  obtain ⟨h1, h2, h3, h4, h5⟩ := fine_of h
  exact fine_mk ⟨h1, h2, by omega, h4, by omega⟩
theorem fine_all {n w : Nat} : ∀ {ds : List PyData}, (∀ y ∈ ds, fine n w y = true) → toldAll ds = true ∧ PyData.showableAll ds = true ∧ PyData.depthAll ds ≤ n ∧ PyData.leavesShortAll 8 ds = true ∧ PyData.weightAll ds ≤ ds.length * (w + 1)
  | [], _ => ⟨by simp [toldAll], by simp [PyData.showableAll], by simp [PyData.depthAll], by simp [PyData.leavesShortAll], by simp [PyData.weightAll]⟩
  | d :: ds, h => by
    obtain ⟨h1, h2, h3, h4, h5⟩ := fine_all fun y hy => h y (List.mem_cons_of_mem _ hy)
    obtain ⟨g1, g2, g3, g4, g5⟩ := fine_of (h d List.mem_cons_self)
    refine ⟨by simp only [toldAll, g1, h1, Bool.and_self], by simp only [PyData.showableAll, g2, h2, Bool.and_self], by simp only [PyData.depthAll]; omega, by simp only [PyData.leavesShortAll, g4, h4, Bool.and_self], ?_⟩
    simp only [PyData.weightAll, List.length_cons, Nat.add_mul]
    omega
theorem fine_seq {n w : Nat} {d : PyData} {ds : List PyData} (e : seqD d = some ds) (h : ∀ y ∈ ds, fine n w y = true) : fine (n + 1) (ds.length * (w + 1)) d = true := by
  obtain ⟨h1, h2, h3, h4, h5⟩ := fine_all h
  cases d <;> cases e
  · exact fine_mk ⟨by simp only [toldD, h1], by simp only [PyData.showable, h2], by simp only [PyData.depth]; omega, by simp only [PyData.leavesShort, h4], by simp only [PyData.weight]; exact h5⟩
  · exact fine_mk ⟨by simp only [toldD, h1], by simp only [PyData.showable, h2], by simp only [PyData.depth]; omega, by simp only [PyData.leavesShort, h4], by simp only [PyData.weight]; exact h5⟩
theorem fine_rep {n w : Nat} {d : PyData} (h : fine n w d = true) (a : n ≤ 64) (b : w ≤ 2 ^ 20) : okRepW d := by
  obtain ⟨h1, h2, h3, h4, h5⟩ := fine_of h
  exact ⟨h1, h2, by omega, PyData.shown_fits (B := 8) (by decide) (by decide) h4 (by omega)⟩
def fineI (y : PyData) : Bool := okNB y && fine 3 100 y
def okVd (d : PyData) : Bool := okI d && fine 4 2000 d
theorem okV_of {d : PyData} (h : okVd d = true) : okI d = true ∧ fine 4 2000 d = true := by
  unfold okVd at h
  rwa [Bool.and_eq_true] at h
theorem all_v {xs : List PyData} {y : PyData} (h : xs.all okVd = true) (m : y ∈ xs) : okVd y = true := List.all_eq_true.mp h y m
theorem okV_seq {d : PyData} {ds : List PyData} (e : seqD d = some ds) (l : ds.length ≤ 14) (h : ∀ y ∈ ds, fineI y = true) : okVd d = true := by
  have h2 : ∀ y ∈ ds, okNB y = true ∧ fine 3 100 y = true := fun y hy => by
    have q := h y hy
    unfold fineI at q
    rwa [Bool.and_eq_true] at q
  unfold okVd okI
  rw [e, fine_more (fine_seq e fun y hy => (h2 y hy).2) (by omega) (by omega), Bool.and_true]
  show (decide (ds.length ≤ 100) && ds.all okNB) = true
  rw [decide_eq_true (by omega), Bool.true_and]
  exact List.all_eq_true.mpr fun y hy => (h2 y hy).1
theorem name_fine {z : Str} (h : nameD (.str z) = true) : fineI (.str z) = true := by
  have l := name_len h
  have s := strOk_signs (name_signs h)
  unfold fineI
  rw [Bool.and_eq_true]
  constructor
  · show (decide (z.length ≤ 1000) && PyData.strOk z) = true
    rw [decide_eq_true (by omega), s]
    rfl
  · refine fine_mk ⟨by simp [toldD], by simp [PyData.showable], by simp [PyData.depth], ?_, ?_⟩
    · have q : z.cps.all (· < 0x110000) = true := s
      rw [← Array.all_toList, List.all_eq_true] at q
      simp only [PyData.leavesShort, List.all_eq_true, decide_eq_true_eq]
      intro c hc
      have := of_decide_eq_true (q c hc)
      omega
    · simp only [PyData.weight]
      have : z.cps.size = z.length := rfl
      omega
theorem names_fine {ns : List Str} (h : ∀ z ∈ ns, nameD (.str z) = true) : ∀ y ∈ ns.map PyData.str, fineI y = true := fun y hy => by
  obtain ⟨z, hz, rfl⟩ := List.mem_map.mp hy
  exact name_fine (h z hz)
def PBent : FD := fun ds R => ∃ ns : List Str, ds = [tupS ns] ∧ ns.length ≤ 6 ∧ (∀ z ∈ ns, nameD (.str z) = true) ∧ ∀ y, okVd y = true → R y


def sgB : PyData → Bool
  | .str z => decide (z.cps.toList.length = 1) && z.cps.toList.all fun c => decide (c < 128)
  | _ => false
theorem sg_of {d : PyData} (h : sgB d = true) : ∃ c, d = .str ⟨#[c]⟩ ∧ c < 128 := by
  cases d with
  | str z =>
    obtain ⟨⟨l⟩⟩ := z
    have h : (decide (l.length = 1) && l.all fun c => decide (c < 128)) = true := h
    rw [Bool.and_eq_true, decide_eq_true_iff] at h
    match l, h with
    | [c], h => exact ⟨c, rfl, by simpa using h.2⟩
  | _ => cases h
theorem low_fine {l : List Nat} (h : l.length ≤ 12) (a : ∀ c ∈ l, c < 128) : fineI (.str ⟨l.toArray⟩) = true := by
  have e : (⟨l.toArray⟩ : Str).length = l.length := by show l.toArray.size = _; simp
  unfold fineI
  rw [Bool.and_eq_true]
  constructor
  · show (decide ((⟨l.toArray⟩ : Str).length ≤ 1000) && PyData.strOk ⟨l.toArray⟩) = true
    rw [decide_eq_true (by omega), Bool.true_and]
    show l.toArray.all (· < 0x110000) = true
    rw [← Array.all_toList, List.all_eq_true]
    intro c hc
    have := a c (by simpa using hc)
    exact decide_eq_true (by omega)
  · refine fine_mk ⟨by simp [toldD], by simp [PyData.showable], by simp [PyData.depth], ?_, ?_⟩
    · simp only [PyData.leavesShort, List.all_eq_true, decide_eq_true_eq]
      intro c hc
      have := a c (by simpa using hc)
      omega
    · simp only [PyData.weight]
      show l.toArray.size ≤ 100
      rw [List.size_toArray]
      omega


theorem eqv_strs : ∀ ns ms : List Str, PyData.eqvAll (ns.map PyData.str) (ms.map PyData.str) = decide (ns = ms)
  | [], [] => by simp [PyData.eqvAll]
  | [], _ :: _ => by simp [PyData.eqvAll]
  | _ :: _, [] => by simp [PyData.eqvAll]
  | n :: ns, m :: ms => by
    have ih := eqv_strs ns ms
    simp only [List.map_cons, PyData.eqvAll, PyData.eqv, ih, List.cons.injEq]
    by_cases e : n = m
    · simp [e]
    · simp [e]
theorem depth_strs : ∀ ns : List Str, PyData.depthAll (ns.map PyData.str) = 0
  | [] => by simp [PyData.depthAll]
  | n :: ns => by simp [PyData.depthAll, PyData.depth, depth_strs ns]
def okS (ns : List Str) : Prop := ∀ z ∈ ns, PyData.strOk z = true
theorem tame_tupS {ns : List Str} (h : okS ns) : tame (tupS ns) = true := by
  obtain ⟨c1, c2⟩ := tame_seq (tame_strs h)
  have c3 := depth_strs ns
  unfold tame tupS
  simp only [PyData.canLay0, c1, PyData.depth, c3]
  rfl
theorem eqv_tupS (a b : List Str) : PyData.eqv (tupS a) (tupS b) = decide (a = b) := by simp only [tupS, PyData.eqv, eqv_strs]
theorem okS_take {ns : List Str} (h : okS ns) (k : Nat) : okS (ns.take k) := fun z hz => h z (List.mem_of_mem_take hz)
theorem okS_names {ns : List Str} (h : ∀ z ∈ ns, nameD (.str z) = true) : okS ns := fun z hz => strOk_signs (name_signs (h z hz))
/-- ms is above ns -/
def aboveB (ms ns : List Str) : Bool := decide (ms.length < ns.length) && decide (ns.take ms.length = ms)
def PBegins : FD := fun ds R => ∃ ns ms : List Str, ds = [tupS ns, tupS ms] ∧ okS ns ∧ okS ms ∧ R (.bool (aboveB ms ns))
/-- all above -/
def upsD (ns : List Str) : PyData := .tuple ((List.range (ns.length - 1)).map fun k => tupS (ns.take (k + 1)))
def PUppers : FD := fun ds R => ∃ ns : List Str, ds = [tupS ns] ∧ ns.length ≤ 6 ∧ R (upsD ns)
def PFix : Nat → FD
  | 0 => fun _ _ => False
  | 1 => fun ds R => ∃ z, ds = [PyData.str z] ∧ R (.str z)
  | _ => fun ds R => ∃ d ns, ds = [d] ∧ seqD d = some (List.map PyData.str ns) ∧ ns.length ≤ 10000000 ∧ R (tupS ns)


def isNs (d : PyData) (ns : List Str) : Prop := seqD d = some (ns.map PyData.str) ∧ ns.length ≤ 6 ∧ ∀ z ∈ ns, nameD (.str z) = true
def PAbove (C : Addr) : FE := fun ds R Rx => ∃ d e, ds = [d, e] ∧ shortD d ∧ shortD e ∧ (spotD d = false → Rx C [("part", .str "one")]) ∧ (spotD d = true → spotD e = false → Rx C [("part", .str "other")]) ∧ ∀ ms ns, isNs d ms → isNs e ns → R (.bool (aboveB ms ns))
def PPath (C : Addr) (f : List Str → PyData) : FE := fun ds R Rx => ∃ d, ds = [d] ∧ shortD d ∧ (pathD d = false → Rx C [("part", .str "path")]) ∧ ∀ ns, ns ≠ [] → isNs d ns → R (f ns)
theorem path_of {d : PyData} (h : pathD d = true) : ∃ ns, ns ≠ [] ∧ isNs d ns := by
  unfold pathD at h
  rw [Bool.and_eq_true] at h
  obtain ⟨ns, hs, l, a⟩ := spot_of h.1
  refine ⟨ns, fun e => ?_, hs, l, a⟩
  have q := h.2
  rw [hs, e] at q
  cases q


/-- an error's part -/
def hxP (CP : Addr) : Addr → List (Str × PyData) → PyData → Prop := fun C fs z => C = CP ∧ ∃ p : Str, fs = [(("part" : Str), PyData.str p)] ∧ z = .str p


def PAboveR : FD := fun ds R => ∃ d e, ds = [d, e] ∧ okVd d = true ∧ okVd e = true ∧ R (.bool true)
theorem one_rep (a : Bool) : okRepW (.bool a) := by cases a <;> exact fine_rep (n := 2) (w := 100) (by decide +kernel) (by omega) (by omega)
theorem iteF' {b : Bool} {p q : Prop} (h : b = false) (hq : q) : if b = true then p else q := by rw [if_neg (by rw [h]; exact Bool.false_ne_true)]; exact hq
theorem eqv_oo : PyData.eqv (.str "one") (.str "one") = true := by decide +kernel
theorem eqv_tt : PyData.eqv (.str "other") (.str "other") = true := by decide +kernel
theorem snoc_inj {a b : List Str} {x y : Str} : (a ++ [x] = b ++ [y]) ↔ (a = b ∧ x = y) := by
  constructor
  · intro h
    have := congrArg List.reverse h
    simp at this
    exact ⟨this.2, this.1⟩
  · rintro ⟨h1, h2⟩
    rw [h1, h2]
theorem two_of {d : PyData} {L : List PyData} (h : seqD d = some L) : d = .list L ∨ d = .tuple L := by
  cases d <;> cases h
  · exact .inl rfl
  · exact .inr rfl

theorem iteT' {b : Bool} {p q : Prop} (h : b = true) (hp : p) : if b = true then p else q := by rw [if_pos h]; exact hp
theorem showA : ∃ S : PyData → Str, ∀ d : PyData, d.shown = S d := ⟨fun d => d.shown, fun _ => rfl⟩
theorem nn_self (a : Str) : (!decide (a = a)) = false := by rw [decide_eq_true rfl]; rfl
theorem tabs_same {TS : List (Addr × Str)} {H H' : Hp} (t : LamX.Tabs TS H) (s : Same H H') : LamX.Tabs TS H' := t.ext fun b o e => s _ _ e

theorem ns_inj {d : PyData} {ns ms : List Str} (h : isNs d ns) (g : isNs d ms) : ns = ms := by
  have e : ns.map PyData.str = ms.map PyData.str := Option.some.inj (h.1.symm.trans g.1)
  have q := eqv_strs ns ms
  rw [e] at q
  have q2 := eqv_strs ms ms
  rw [q2, decide_eq_true rfl] at q
  exact of_decide_eq_true q.symm
theorem spot_yes {d : PyData} {ns : List Str} (h : isNs d ns) : spotD d = true := by
  rw [spot_some h.1, List.length_map, decide_eq_true h.2.1, Bool.true_and, List.all_map, List.all_eq_true]
  exact h.2.2
theorem path_yes {d : PyData} {ns : List Str} (h : isNs d ns) (n0 : ns ≠ []) : pathD d = true := by
  rw [path_some h.1, spot_yes h, Bool.true_and, List.length_map, decide_eq_true_iff]
  exact List.length_pos_iff.mpr n0
theorem tupS_fine {ns : List Str} (h : ∀ z ∈ ns, nameD (.str z) = true) (l : ns.length ≤ 6) : fine 4 2000 (tupS ns) = true :=
  (okV_of (okV_seq (d := tupS ns) (ds := ns.map PyData.str) rfl (by rw [List.length_map]; omega) (names_fine h))).2
theorem upsD_fine {ns : List Str} (h : ∀ z ∈ ns, nameD (.str z) = true) (l : ns.length ≤ 6) : fine 5 20000 (upsD ns) = true := by
  refine fine_more (fine_seq (d := upsD ns) rfl (n := 4) (w := 2000) fun y hy => ?_) (by omega) (by rw [List.length_map, List.length_range]; omega)
  obtain ⟨k, hk, rfl⟩ := List.mem_map.mp hy
  exact tupS_fine (fun z hz => h z (List.mem_of_mem_take hz)) (by rw [List.length_take]; omega)
theorem pp_true : PyData.eqv (.list [.str "path", .str "path"]) (.list [.str "path", .str "path"]) = true := by decide +kernel
theorem sum_names : ∀ {ns : List Str}, (∀ z ∈ ns, nameD (.str z) = true) → (ns.map (·.length)).sum ≤ 12 * ns.length
  | [], _ => by simp
  | z :: r, h => by
    have ih := sum_names (ns := r) fun y hy => h y (List.mem_cons_of_mem _ hy)
    have q := name_len (h z List.mem_cons_self)
    rw [List.map_cons, List.sum_cons, List.length_cons]
    omega
theorem len_join {ns : List Str} (h1 : ns.length ≤ 6) (h : ∀ z ∈ ns, nameD (.str z) = true) : (ns.map (·.length)).sum + ns.length * ("/" : Str).length ≤ 78 := by
  have q := sum_names h
  have e : ("/" : Str).length = 1 := by decide +kernel
  rw [e]
  omega
theorem joinL_len {S : List Nat} : ∀ l : List (List Nat), (TL.joinL S l).length ≤ (l.map (·.length)).sum + l.length * S.length
  | [] => Nat.zero_le _
  | [p] => by simp [TL.joinL]
  | p :: q :: r => by
    have ih := joinL_len (S := S) (q :: r)
    show (p ++ (S ++ TL.joinL S (q :: r))).length ≤ _
    rw [List.length_append, List.length_append, List.map_cons, List.sum_cons, List.length_cons, Nat.add_mul]
    omega
theorem len_pathT {ns : List Str} (h1 : ns.length ≤ 6) (h : ∀ z ∈ ns, nameD (.str z) = true) : 1 ≤ (pathT ns).length ∧ (pathT ns).length ≤ 79 := by
  have q := len_join h1 h
  have e : ("/" : Str).length = 1 := by decide +kernel
  rw [e] at q
  have w := joinL_len (S := [47]) (ns.map TL.tl)
  have s : ((ns.map TL.tl).map (·.length)).sum = (ns.map (·.length)).sum := by
    rw [List.map_map]
    exact congrArg List.sum (List.map_congr_left fun z _ => (TL.len_tl z).symm)
  rw [s, List.length_map] at w
  have w : (TL.joinL [47] (ns.map TL.tl)).length ≤ (ns.map (·.length)).sum + ns.length * 1 := w
  rw [TL.len_tl, tl_pathT, List.length_cons]
  omega
theorem len_joined {ns : List Str} (h1 : ns.length ≤ 6) (h : ∀ z ∈ ns, nameD (.str z) = true) : (Txt.join "/" ns).length ≤ 78 := by
  have q := (len_pathT h1 h).2
  unfold pathT at q
  have e : ("/" : Str).length = 1 := by decide +kernel
  rw [TL.len_tl, TL.tl_append, List.length_append, ← TL.len_tl, ← TL.len_tl, e] at q
  omega
def readD : PyData → Option (List Str)
  | .str x => readP x
  | _ => none
theorem read_no {d : PyData} (h : isStrD d = false) : readD d = none := by cases d <;> first | rfl | cases h
theorem split_few (r : Str) : (Txt.split r "/").length ≤ r.length + 2 := PyProof.Rows.split_le r "/"
theorem split_short {r z : Str} (h : z ∈ Txt.split r "/") : z.length ≤ r.length := by
  have m : TL.tl z ∈ TL.spl [47] 0 [] (TL.tl r) := by rw [← split_tl]; exact List.mem_map.mpr ⟨z, h, rfl⟩
  have key : ∀ (l acc p : List Nat), p ∈ TL.spl [47] 0 acc l → p.length ≤ acc.length + l.length := by
    intro l
    induction l with
    | nil =>
      intro acc p hp
      rw [TL.spl_nil] at hp
      rw [List.mem_singleton.mp hp]
      omega
    | cons c r ih =>
      intro acc p hp
      rw [List.length_cons]
      cases e : TL.pre [47] (c :: r) with
      | true =>
        rw [TL.spl_hit e] at hp
        rcases List.mem_cons.mp hp with q | q
        · rw [q]; omega
        · have := ih [] p q
          simp at this
          omega
      | false =>
        rw [TL.spl_miss e] at hp
        have := ih _ p hp
        rw [List.length_append, List.length_singleton] at this
        omega
  have q := key _ _ _ m
  rw [TL.len_tl, TL.len_tl]
  simpa using q
theorem cut_short (x : Str) : (cutS x (some 1) none).length ≤ x.length := by
  rw [TL.len_tl, cut_one, List.length_drop, TL.len_tl]
  omega
theorem split_chars {r : Str} (h : ∀ c ∈ TL.tl r, c < 1114112) : ∀ z ∈ Txt.split r "/", PyData.strOk z = true := fun z hz => by
  refine strOk_of fun c hc => ?_
  have m : TL.tl z ∈ TL.spl [47] 0 [] (TL.tl r) := by rw [← split_tl]; exact List.mem_map.mpr ⟨z, hz, rfl⟩
  exact of_decide_eq_true (spl_all1 (q := fun c => decide (c < 1114112)) (TL.tl r) [] (fun c hc => .inr (decide_eq_true (h c hc))) (fun _ m => nomatch m) _ m c hc)
end MT
set_option maxHeartbeats 1000000
/-! lists under way: made by a def, changed by it, and told as data when it is done with them -/
namespace MT
open PySem L2
/-- an item: data, or a list of its own -/
abbrev Itm := V × PyData × Option Addr
/-- a list under way: where it stands, its items -/
abbrev Rt := Addr × List Itm
def adr (r : Rt) : List Addr := r.1 :: r.2.filterMap (·.2.2)
def AtR (Rs : List Rt) (c : Addr) : Prop := ∃ (i : Nat) (r : Rt), Rs[i]? = some r ∧ c ∈ adr r
def ovR (Rs : List Rt) (k : Nat) : V := match Rs[k]? with
  | some r => .ref r.1
  | none => .non
def dR (r : Rt) : PyData := .list (r.2.map (·.2.1))
def ItOk (K : PySem.W.Frag) (M : Addr → Prop) (H : Hp) (i : Itm) : Prop := match i.2.2 with
  | none => Dw K M H i.1 i.2.1
  | some q => ∃ ys ds, i.1 = .ref q ∧ H q = some (.lst ys) ∧ i.2.1 = .list ds ∧ DwAll K M H ys ds
structure RtOk (K : PySem.W.Frag) (M : Addr → Prop) (H : Hp) (r : Rt) : Prop where
  l : H r.1 = some (.lst (r.2.map (·.1)))
  i : ∀ x ∈ r.2, ItOk K M H x
structure NdR (Rs : List Rt) : Prop where
  e : ∀ (i : Nat) r, Rs[i]? = some r → (adr r).Nodup
  d : ∀ (i j : Nat) a b c, Rs[i]? = some a → Rs[j]? = some b → c ∈ adr a → c ∈ adr b → i = j
def MG (W : Fld) (Rs : List Rt) : Addr → Prop := fun c => W.M c ∨ AtR Rs c
structure OwSt (K : PySem.W.Frag) (o : Option TSet) (W : Fld) (H0 H : Hp) (Rs : List Rt) (ρ : List DS) (σ : L2.St) (n : Nat) : Prop where
  env : EnvD K o (MG W Rs) (W.a, W.ts, ovR Rs) ρ σ H
  g : W.G n H
  rel : W.Rel H0 H
  nd : NdR Rs
  out : ∀ c, AtR Rs c → ¬ W.M c ∧ (∃ m H1, W.Rel H0 H1 ∧ W.G m H1 ∧ H1 c = none) ∧ ∀ H' u, W.Rel H0 H' → W.Rel H0 (upd H' c u)
  ok : ∀ (i : Nat) r, Rs[i]? = some r → RtOk K (MG W Rs) H r
section
variable {K : PySem.W.Frag} {o : Option TSet} {W : Fld} {H0 H H' : Hp} {Rs : List Rt} {ρ : List DS} {σ : L2.St} {n n' : Nat} {M N : Addr → Prop}
theorem it_mem {r : Rt} {x : Itm} {q : Addr} (m : x ∈ r.2) (e : x.2.2 = some q) : q ∈ adr r := List.mem_cons_of_mem _ (List.mem_filterMap.mpr ⟨x, m, e⟩)
theorem RtOk.pl {r : Rt} (h : RtOk K M H r) {c : Addr} (m : c ∈ adr r) : ∃ xs, H c = some (.lst xs) := by
  rcases List.mem_cons.mp m with rfl | m
  · exact ⟨_, h.l⟩
  · obtain ⟨x, hx, e⟩ := List.mem_filterMap.mp m
    have q := h.i x hx
    unfold ItOk at q
    rw [e] at q
    obtain ⟨ys, ds, _, h2, _⟩ := q
    exact ⟨ys, h2⟩
theorem OwSt.pl (S : OwSt K o W H0 H Rs ρ σ n) (c : Addr) (m : AtR Rs c) : ∃ xs, H c = some (.lst xs) := by
  obtain ⟨i, r, e, m⟩ := m
  exact (S.ok i r e).pl m
theorem ItOk.bth {x : Itm} (h : ItOk K M H x) (B : Bth K M N H H') (k : ∀ q, x.2.2 = some q → H' q = H q) : ItOk K N H' x := by
  obtain ⟨v, d, a⟩ := x
  cases a with
  | none => exact Dw.bthR B _ _ h
  | some q =>
    obtain ⟨ys, ds, h1, h2, h3, h4⟩ := h
    exact ⟨ys, ds, h1, by rw [k q rfl]; exact h2, h3, DwAll.bthR B _ _ h4⟩
theorem RtOk.bth {r : Rt} (h : RtOk K M H r) (B : Bth K M N H H') (k : ∀ c ∈ adr r, H' c = H c) : RtOk K N H' r :=
  ⟨by rw [k _ List.mem_cons_self]; exact h.l, fun x m => (h.i x m).bth B fun q e => k q (it_mem m e)⟩
/-- all of it as data -/
theorem ItOk.dw {x : Itm} (h : ItOk K M H x) (i : ∀ c u, N c → H c = some u → M c) (k : ∀ q, x.2.2 = some q → ¬ N q) : Dw K N H x.1 x.2.1 := by
  obtain ⟨v, d, a⟩ := x
  cases a with
  | none => exact Dw.more (v := v) h i
  | some q =>
    obtain ⟨ys, ds, h1, h2, h3, h4⟩ := h
    have h1 : v = .ref q := h1
    have h3 : d = .list ds := h3
    subst h1 h3
    exact .lst ⟨k q rfl, h2⟩ (h4.more i)
theorem its_dw (i : ∀ c u, N c → H c = some u → M c) : ∀ {l : List Itm}, (∀ x ∈ l, ItOk K M H x) → (∀ x ∈ l, ∀ q, x.2.2 = some q → ¬ N q) → DwAll K N H (l.map (·.1)) (l.map (·.2.1))
  | [], _, _ => .nil
  | x :: l, h, k => .cons ((h x List.mem_cons_self).dw i (k x List.mem_cons_self)) (its_dw i (fun y m => h y (List.mem_cons_of_mem _ m)) fun y m => k y (List.mem_cons_of_mem _ m))
theorem RtOk.dw {r : Rt} (h : RtOk K M H r) (i : ∀ c u, N c → H c = some u → M c) (k : ∀ c ∈ adr r, ¬ N c) : Dw K N H (.ref r.1) (dR r) :=
  .lst ⟨k _ List.mem_cons_self, h.l⟩ (its_dw i h.i fun x m q e => k q (it_mem m e))
def borK0 (h : List PyData) (k : Nat) : DS := match h[k]? with
  | some d => .d d
  | none => .no
def bor0 (h : List PyData) : DS → DS
  | .ow k => borK0 h k
  | s => s
theorem OwSt.borE (S : OwSt K o W H0 H Rs ρ σ n) : EnvD K o W.M (W.a, W.ts, W.ov) (ρ.map (bor0 (Rs.map dR))) σ H := by
  have main : ∀ (i : Nat) s, (ρ.map (MT.bor0 (Rs.map dR)))[i]? = some s → ∃ t, ρ[i]? = some t ∧ MT.bor0 (Rs.map dR) t = s := fun i s e => by
    rw [List.getElem?_map] at e
    cases q : ρ[i]? with
    | none => rw [q] at e; cases e
    | some t => rw [q] at e; exact ⟨t, rfl, Option.some.inj e⟩
  have ow : ∀ (k : Nat) s, MT.bor0 (Rs.map dR) (.ow k) = s → s = .no ∨ ∃ r, Rs[k]? = some r ∧ s = .d (dR r) := fun k s e => by
    have e : borK0 (Rs.map dR) k = s := e
    unfold borK0 at e
    rw [List.getElem?_map] at e
    cases q : Rs[k]? with
    | none => rw [q] at e; exact .inl e.symm
    | some r => rw [q] at e; exact .inr ⟨r, rfl, e.symm⟩
  refine ⟨by rw [List.length_map]; exact S.env.len, fun i x e => ?_, fun i x e => ?_, fun i e => ?_, fun i k e => ?_, S.env.tse, fun i e => ?_⟩ <;> obtain ⟨t, h1, h2⟩ := main i _ e
  · cases t with
    | d y => cases h2; exact (S.env.dat i _ h1).imp fun v h => ⟨h.1, h.2.more fun c u m _ => .inl m⟩
    | ow k =>
      rcases ow k _ h2 with z | ⟨r, hr, z⟩
      · cases z
      · cases z
        refine ⟨.ref r.1, ?_, (S.ok k r hr).dw (fun c u m _ => .inl m) fun c m => (S.out c ⟨k, r, hr, m⟩).1⟩
        have q := S.env.own i k h1
        have q2 : ovR Rs k = .ref r.1 := by unfold ovR; rw [hr]
        rw [← q2]
        exact q
    | _ => cases h2
  · cases t with
    | v y => cases h2; exact S.env.val i _ h1
    | ow k => rcases ow k _ h2 with z | ⟨r, hr, z⟩ <;> cases z
    | _ => cases h2
  · cases t with
    | dr => exact S.env.drw i h1
    | ow k => rcases ow k _ h2 with z | ⟨r, hr, z⟩ <;> cases z
    | _ => cases h2
  · cases t with
    | ow k => rcases ow k _ h2 with z | ⟨r, hr, z⟩ <;> cases z
    | _ => cases h2
  · cases t with
    | fz => exact (S.env.fzl i h1).imp fun v h => ⟨h.1, h.2.bth (Bth.more fun c u m _ => .inl m)⟩
    | ow k => rcases ow k _ h2 with z | ⟨r, hr, z⟩ <;> cases z
    | _ => cases h2
theorem mg_fx (F : Fx W.M H H') : Fx (MG W Rs) H H' := F.mono fun c m => .inl m
theorem OwSt.kept (S : OwSt K o W H0 H Rs ρ σ n) (F : Fx W.M H H') : ∀ c, AtR Rs c → H' c = H c := fun c m => by
  obtain ⟨xs, e⟩ := S.pl c m
  rw [e]
  exact F _ _ (S.out c m).1 e fun _ z => by cases z
theorem OwSt.frm (S : OwSt K o W H0 H Rs ρ σ n) (F : W.Rel H H') (g : W.G n' H') : OwSt K o W H0 H' Rs ρ σ n' :=
  ⟨S.env.frm (mg_fx (W.frm F)), g, W.trans S.rel F, S.nd, S.out, fun i r e => (S.ok i r e).bth (Bth.frm (mg_fx (W.frm F))) fun c m => S.kept (W.frm F) c ⟨i, r, e, m⟩⟩
/-- what is under way stands beside -/
def ownF (W : Fld) (P : Addr → Prop) (Hc : Hp) (ov : Nat → V) (hp : ∀ c, P c → ∃ xs, Hc c = some (.lst xs)) (ho : ∀ c, P c → ¬ W.M c) : Fld where
  M := fun c => W.M c ∨ P c
  G := fun n H => W.G n H ∧ ∀ c, P c → H c = Hc c
  Rel := W.Rel
  a := W.a
  ts := W.ts
  ov := ov
  born := fun r g e => W.born r g.1 e
  lm := fun TS e => by
    obtain ⟨h1, h2⟩ := W.lm TS e
    refine ⟨fun n H g => h1 n H g.1, fun n H H' g x t => ?_⟩
    have q := h2 n H H' g.1 x t
    refine ⟨⟨q.1, fun c m => ?_⟩, q.2⟩
    obtain ⟨xs, e⟩ := hp c m
    rw [e]
    exact x c _ (by rw [g.2 c m]; exact e) fun _ z => by cases z
  trans := W.trans
  of := W.of
  frm := fun F => (W.frm F).mono fun c e => .inl e
  same := fun g s => ⟨W.same g.1 s, fun c m => by
    obtain ⟨xs, e⟩ := hp c m
    rw [e]
    exact s _ _ (by rw [g.2 c m]; exact e)⟩
  al := fun g m => m.elim (fun m => W.al g.1 m) fun m => by
    obtain ⟨xs, e⟩ := hp _ m
    exact ⟨_, by rw [g.2 _ m]; exact e, fun _ z => by cases z⟩
  updR := W.updR
  updG := fun g h q hpl => ⟨W.updG g.1 h q.1 hpl, fun c m => by
    obtain ⟨xs, e⟩ := hp c m
    rw [upd_ne (ne_of_none (o := .lst xs) (by rw [g.2 c m]; exact e) h)]
    exact q.2 c m⟩
  dr := fun x e => by
    obtain ⟨m, b, cs, h1, h2⟩ := W.dr x e
    refine ⟨.inl m, b, cs, fun n H g => h1 n H g.1, fun n n' H H' g F S => ?_⟩
    have q := h2 n n' H H' g.1 F S
    refine ⟨⟨q.1, fun c mc => ?_⟩, q.2⟩
    obtain ⟨xs, e⟩ := hp c mc
    rw [e]
    exact F _ _ (fun z => ho c mc (z ▸ m)) (by rw [g.2 c mc]; exact e)
/-- the field in which a step that leaves what is under way alone is told -/
abbrev OwSt.F (S : OwSt K o W H0 H Rs ρ σ n) : Fld := ownF W (AtR Rs) H (ovR Rs) S.pl fun c m => (S.out c m).1
theorem OwSt.G (S : OwSt K o W H0 H Rs ρ σ n) : S.F.G n H := ⟨S.g, fun _ _ => rfl⟩
theorem OwSt.step {ρ' : List DS} {σ' : L2.St} (S : OwSt K o W H0 H Rs ρ σ n) (F : W.Rel H H') (g : S.F.G n' H') (E : EnvD K o (MG W Rs) (W.a, W.ts, ovR Rs) ρ' σ' H') : OwSt K o W H0 H' Rs ρ' σ' n' :=
  ⟨E, g.1, W.trans S.rel F, S.nd, S.out, fun i r e => (S.ok i r e).bth (Bth.frm (mg_fx (W.frm F))) fun c m => g.2 c ⟨i, r, e, m⟩⟩
end
theorem Bth.trans {P : Addr → Prop} {H'' : Hp} {K : PySem.W.Frag} {M N : Addr → Prop} {H H' : Hp} (a : Bth K M N H H') (b : Bth K N P H' H'') : Bth K M P H H'' := ⟨fun h => b.l (a.l h), fun h => b.t (a.t h), fun n e t => b.o (a.o n e t).1 (a.o n e t).2 t⟩
theorem bth_of {K : PySem.W.Frag} {M N : Addr → Prop} {H H' : Hp} (F : Fx M H H') (i : ∀ c u, N c → H c = some u → (∀ ps, u ≠ .tbl ps) → M c) : Bth K M N H H' :=
  ⟨fun h => ⟨fun m => h.1 (i _ _ m h.2 fun _ z => by cases z), F _ _ h.1 h.2 fun _ z => by cases z⟩, fun h => h.imp (fun h => ⟨fun m => h.1 (i _ _ m h.2 fun _ z => by cases z), F _ _ h.1 h.2 fun _ z => by cases z⟩) id, fun n e t => ⟨fun m => n (i _ _ m e t), F _ _ n e t⟩⟩
theorem EnvD.bth {K : PySem.W.Frag} {o : Option TSet} {M N : Addr → Prop} {H H' : Hp} {a : Option Addr × Option TSet × (Nat → V)} {ρ : List DS} {σ : L2.St} (E : EnvD K o M a ρ σ H) (B : Bth K M N H H') : EnvD K o N a ρ σ H' :=
  ⟨E.len, fun i x e => (E.dat i x e).imp fun v h => ⟨h.1, Dw.bthR B _ _ h.2⟩, E.val, E.drw, E.own, E.tse, fun i e => (E.fzl i e).imp fun v h => ⟨h.1, h.2.bth B⟩⟩
/-! ### questions -/
/-- what is told of a list under way: its items; whether they are lists of their own -/
inductive HD where
  | f (ds : List PyData) | n (ds : List PyData)
def HR : HD → Rt → Prop
  | .f ds, r => r.2.map (·.2.1) = ds
  | .n ds, r => r.2.map (·.2.1) = ds ∧ ∀ x ∈ r.2, x.2.2 ≠ none
def HRs (h : List HD) (Rs : List Rt) : Prop := h.length = Rs.length ∧ ∀ (k : Nat) x r, h[k]? = some x → Rs[k]? = some r → HR x r
def borK (h : List HD) (k : Nat) : DS := match h[k]? with
  | some (.f ds) => .d (.list ds)
  | some (.n ds) => .d (.list ds)
  | none => .no
def bor (h : List HD) : DS → DS
  | .ow k => borK h k
  | s => s
theorem bor_eq {h : List HD} {Rs : List Rt} (hr : HRs h Rs) (ρ : List DS) : ρ.map (bor h) = ρ.map (bor0 (Rs.map dR)) := by
  refine List.map_congr_left fun s _ => ?_
  cases s with
  | ow k =>
    show borK h k = borK0 (Rs.map dR) k
    unfold borK borK0
    rw [List.getElem?_map]
    cases q : h[k]? with
    | none =>
      have : Rs[k]? = none := List.getElem?_eq_none (by rw [← hr.1]; exact List.getElem?_eq_none_iff.mp q)
      rw [this]
      rfl
    | some x =>
      have l : k < Rs.length := by rw [← hr.1]; exact (List.getElem?_eq_some_iff.mp q).1
      have e := List.getElem?_eq_getElem l
      have c := hr.2 k x _ q e
      rw [e]
      cases x with
      | f ds =>
        have c : _ = ds := c
        show DS.d (.list ds) = DS.d (dR _)
        unfold dR
        rw [c]
      | n ds =>
        have c : _ = ds := c.1
        show DS.d (.list ds) = DS.d (dR _)
        unfold dR
        rw [c]
  | _ => rfl
theorem OwSt.bor {K : PySem.W.Frag} {o : Option TSet} {W : Fld} {H0 H : Hp} {Rs : List Rt} {ρ : List DS} {σ : L2.St} {n : Nat} {h : List HD} (S : OwSt K o W H0 H Rs ρ σ n) (hr : HRs h Rs) : EnvD K o W.M (W.a, W.ts, W.ov) (ρ.map (MT.bor h)) σ H := by
  rw [bor_eq hr]
  exact S.borE
theorem HRs.nil : HRs [] [] := ⟨rfl, fun k x r e => by simp at e⟩
theorem HRs.at {h : List HD} {Rs : List Rt} {k : Nat} {x : HD} (hr : HRs h Rs) (e : h[k]? = some x) : ∃ r, Rs[k]? = some r ∧ HR x r := by
  have l : k < Rs.length := by rw [← hr.1]; exact (List.getElem?_eq_some_iff.mp e).1
  exact ⟨_, List.getElem?_eq_getElem l, hr.2 k x _ e (List.getElem?_eq_getElem l)⟩
theorem HRs.app {h : List HD} {Rs : List Rt} {x : HD} {r : Rt} (hr : HRs h Rs) (q : HR x r) : HRs (h ++ [x]) (Rs ++ [r]) := by
  refine ⟨by rw [List.length_append, List.length_append, hr.1]; rfl, fun k y s e1 e2 => ?_⟩
  by_cases l : k < h.length
  · rw [List.getElem?_append_left l] at e1
    rw [List.getElem?_append_left (by rw [← hr.1]; exact l)] at e2
    exact hr.2 k y s e1 e2
  · have l1 := (List.getElem?_eq_some_iff.mp e1).1
    rw [List.length_append] at l1
    have : k = h.length := by simp at l1; omega
    subst this
    rw [List.getElem?_append_right (Nat.le_refl _), Nat.sub_self] at e1
    rw [hr.1, List.getElem?_append_right (Nat.le_refl _), Nat.sub_self] at e2
    cases e1
    cases e2
    exact q
theorem HRs.set {h : List HD} {Rs : List Rt} {x : HD} {r : Rt} (hr : HRs h Rs) (k : Nat) (q : HR x r) : HRs (h.set k x) (Rs.set k r) := by
  refine ⟨by rw [List.length_set, List.length_set]; exact hr.1, fun j y s e1 e2 => ?_⟩
  by_cases c : k = j
  · subst c
    have l1 := (List.getElem?_eq_some_iff.mp e1).1
    have l2 := (List.getElem?_eq_some_iff.mp e2).1
    rw [List.length_set] at l1 l2
    rw [List.getElem?_set_self l1] at e1
    rw [List.getElem?_set_self l2] at e2
    cases e1
    cases e2
    exact q
  · rw [List.getElem?_set_ne c] at e1
    rw [List.getElem?_set_ne c] at e2
    exact hr.2 j y s e1 e2
abbrev TDSO := List HD → List DS → Nat → (List HD → List DS → Nat → Prop) → QD → Prop
def tDsO (K : PySem.W.Frag) (o : Option TSet) (t : TDSO) : TS := fun D σ H => ∃ (W : Fld) (H0 : Hp) (Rs : List Rt) (h : List HD) (ρ : List DS) (n : Nat) (Rn : List HD → List DS → Nat → Prop) (Rr : QD), OwSt K o W H0 H Rs ρ σ n ∧ HRs h Rs ∧ t h ρ n Rn Rr ∧
  (∀ Rs' h' ρ' n', HRs h' Rs' → Rn h' ρ' n' → ∀ σ' H', Bth K (MG W Rs) (MG W Rs') H H' → OwSt K o W H0 H' Rs' ρ' σ' n' → D.nx σ' H') ∧ (∀ d n', Rr d n' → ∀ v H', W.Rel H0 H' → W.G n' H' → Dw K W.M H' v d → D.rt v H')
section
variable {X : Cx} {e : Expr} {st : Stmt} {ss : List Stmt} {o : Option TSet}
/-- what leaves them alone -/
def qOld (t : TDS) : TDSO := fun h ρ n Rn Rr => t ρ n (Rn h) Rr
theorem os_old {t : TDS} (h : PS X st (tDs X.K o t)) : PS X st (tDsO X.K o (qOld t)) := PS.imp h fun D σ H ⟨W, H0, Rs, h, ρ, n, Rn, Rr, S, hr, t, k1, k2⟩ =>
  ⟨S.F, ρ, n, Rn h, Rr, S.env, S.G, t, fun ρ' n' r σ' H' F g E => k1 Rs h ρ' n' hr r σ' H' (Bth.frm (mg_fx (W.frm F))) (S.step F g E), fun d n' r v H' F g w => k2 d n' r v H' (W.trans S.rel F) g.1 (w.more fun c u m _ => .inl m)⟩
def qIfO (c : TDB) (t u : TDSO) : TDSO := fun h ρ n Rn Rr => c (ρ.map (bor h)) n fun b n1 => if b = true then t h ρ n1 Rn Rr else u h ρ n1 Rn Rr
theorem os_if {c : TDB} {t u : TDSO} (h : PS X st (tIfS (tDB X.K o c) (tDsO X.K o t) (tDsO X.K o u))) : PS X st (tDsO X.K o (qIfO c t u)) := PS.imp h fun D σ H ⟨W, H0, Rs, h, ρ, n, Rn, Rr, S, hr, t, k1, k2⟩ =>
  ⟨W, _, n, _, S.bor hr, S.g, t, fun b n1 r1 H1 F1 g1 => by
    cases b with
    | true => exact ⟨W, H0, Rs, h, ρ, n1, Rn, Rr, S.frm F1 g1, hr, r1, fun Rs' h' ρ' n' hr' r σ' H' B S' => k1 Rs' h' ρ' n' hr' r σ' H' ((Bth.frm (mg_fx (W.frm F1))).trans B) S', k2⟩
    | false => exact ⟨W, H0, Rs, h, ρ, n1, Rn, Rr, S.frm F1 g1, hr, r1, fun Rs' h' ρ' n' hr' r σ' H' B S' => k1 Rs' h' ρ' n' hr' r σ' H' ((Bth.frm (mg_fx (W.frm F1))).trans B) S', k2⟩⟩
def qRetO (t : TD) : TDSO := fun h ρ n _ Rr => t (ρ.map (bor h)) n Rr
theorem os_ret {t : TD} (h : PS X st (tRet (tD X.K o t))) : PS X st (tDsO X.K o (qRetO t)) := PS.imp h fun D σ H ⟨W, H0, Rs, h, ρ, n, Rn, Rr, S, hr, t, k1, k2⟩ =>
  ⟨W, _, n, _, S.bor hr, S.g, t, fun d n' r v H' F g w => k2 d n' r v H' (W.trans S.rel F) g w⟩
def qSeqO (t u : TDSO) : TDSO := fun h ρ n Rn Rr => t h ρ n (fun h1 ρ1 n1 => u h1 ρ1 n1 Rn Rr) Rr
theorem oss_cons {t u : TDSO} (h : PSs X ss (tSeq (tDsO X.K o t) (tDsO X.K o u))) : PSs X ss (tDsO X.K o (qSeqO t u)) := PSs.imp h fun D σ H ⟨W, H0, Rs, h, ρ, n, Rn, Rr, S, hr, t, k1, k2⟩ =>
  ⟨W, H0, Rs, h, ρ, n, _, Rr, S, hr, t, fun Rs1 h1 ρ1 n1 hr1 r1 σ1 H1 B1 S1 => ⟨W, H0, Rs1, h1, ρ1, n1, Rn, Rr, S1, hr1, r1, fun Rs' h' ρ' n' hr' r σ' H' B S' => k1 Rs' h' ρ' n' hr' r σ' H' (B1.trans B) S', k2⟩, k2⟩
/-- a scalar that is read off them -/
def qSetB (i : Nat) (t : TD) : TDSO := fun h ρ n Rn _ => t (ρ.map (bor h)) n fun d n' => atomD d = true ∧ Rn h (ρ.set i (.d d)) n'
theorem atom_dw {K : PySem.W.Frag} {M N : Addr → Prop} {H H' : Hp} {v : V} {d : PyData} (w : Dw K M H v d) (a : atomD d = true) : Dw K N H' v d := by
  cases w <;> first | exact .non | exact .bl _ | exact .int _ | exact .str _ | cases a
theorem os_setB {i : Nat} {t : TD} (h : PS X st (tAsg (tD X.K o t) (gName i))) : PS X st (tDsO X.K o (qSetB i t)) := PS.imp h fun D σ H ⟨W, H0, Rs, h, ρ, n, Rn, Rr, S, hr, t, k1, k2⟩ =>
  ⟨W, _, n, _, S.bor hr, S.g, t, fun d n1 r v H1 F1 g1 w => by
    have S1 := S.frm F1 g1
    exact k1 Rs h _ n1 hr r.2 _ H1 (Bth.frm (mg_fx (W.frm F1))) ⟨S1.env.set i (atom_dw w r.1), S1.g, S1.rel, S1.nd, S1.out, S1.ok⟩⟩
theorem OwSt.nil {K : PySem.W.Frag} {W : Fld} {H0 H : Hp} {ρ : List DS} {σ : L2.St} {n : Nat} (E : EnvD K o W.M (W.a, W.ts, W.ov) ρ σ H) (g : W.G n H) (rel : W.Rel H0 H) (no : ∀ (i : Nat) k, ρ[i]? ≠ some (DS.ow k)) : OwSt K o W H0 H [] ρ σ n := by
  have z : ∀ c, ¬ AtR [] c := fun c ⟨i, r, e, _⟩ => by simp at e
  have E2 := E.more (N := MG W []) fun c u m _ => m.elim id fun m => (z c m).elim
  exact ⟨⟨E2.len, E2.dat, E2.val, E2.drw, fun i k e => (no i k e).elim, E2.tse, E2.fzl⟩, g, rel, ⟨fun i r e => by simp at e, fun i j a b c e => by simp at e⟩, fun c m => (z c m).elim, fun i r e => by simp at e⟩
def noOw : List DS → Bool
  | [] => true
  | .ow _ :: _ => false
  | _ :: r => noOw r
theorem noOw_at : ∀ {ρ : List DS}, noOw ρ = true → ∀ (i : Nat) k, ρ[i]? ≠ some (DS.ow k)
  | [], _, i, k, e => by simp at e
  | s :: r, h, i, k, e => by
    have hr : noOw r = true := by cases s <;> first | exact h | cases h
    cases i with
    | zero => cases e; cases h
    | succ i => exact noOw_at hr i k e
/-- a part with lists of its own -/
def qOwn (t : TDSO) : TDS := fun ρ n Rn Rr => noOw ρ = true ∧ t [] ρ n (fun h ρ' n' => Rn (ρ'.map (bor h)) n') Rr
theorem dss_own {t : TDSO} (h : PSs X ss (tDsO X.K o t)) : PSs X ss (tDs X.K o (qOwn t)) := PSs.imp h fun D σ H ⟨W, ρ, n, Rn, Rr, E, g, ⟨no, t⟩, k1, k2⟩ =>
  ⟨W, H, [], [], ρ, n, _, Rr, OwSt.nil E g W.refl (noOw_at no), HRs.nil, t, fun Rs' h' ρ' n' hr' r σ' H' _ S => k1 _ n' r σ' H' S.rel S.g (S.bor hr'), fun d n' r v H' F g w => k2 d n' r v H' F g w⟩
/-- done with them -/
def qDone (t : TDS) : TDSO := fun h ρ n Rn Rr => t (ρ.map (bor h)) n (fun ρ' n' => noOw ρ' = true ∧ Rn [] ρ' n') Rr
theorem oss_done {t : TDS} (h : PSs X ss (tDs X.K o t)) : PSs X ss (tDsO X.K o (qDone t)) := PSs.imp h fun D σ H ⟨W, H0, Rs, h, ρ, n, Rn, Rr, S, hr, t, k1, k2⟩ =>
  ⟨W, _, n, _, Rr, S.bor hr, S.g, t, fun ρ' n' ⟨no, r⟩ σ' H' F g E => k1 [] [] ρ' n' HRs.nil r σ' H' (bth_of (mg_fx (W.frm F)) fun c u m e _ => m.elim .inl fun ⟨i, r, e, _⟩ => by simp at e) (OwSt.nil E g (W.trans S.rel F) (noOw_at no)), fun d n' r v H' F g w => k2 d n' r v H' (W.trans S.rel F) g w⟩
end
/-! ### lists that are new -/
def tDF (K : PySem.W.Frag) (o : Option TSet) (t : TDA) : TE := fun σ H Q => ∃ (W : Fld) (ρ : List DS) (n : Nat) (R : List PyData → Nat → Prop), EnvD K o W.M (W.a, W.ts, W.ov) ρ σ H ∧ W.G n H ∧ t ρ n R ∧
  ∀ ds n', R ds n' → ∀ p xs m Hb H', W.Rel H Hb → W.G m Hb → Hb p = none → W.Rel Hb H' → W.G n' H' → H' p = some (.lst xs) → DwAll K (fun c => W.M c ∨ c = p) H' xs ds → Q (.ref p) H'
section
variable {X : Cx} {e : Expr} {st : Stmt} {ss : List Stmt} {o : Option TSet}
def qLstF (u : TDA) : TDA := fun ρ n R => u ρ n fun ds n' => ds.length ≤ 10000000 ∧ R ds n'
theorem df_lst {u : TDA} (h : PE X e (tLstN (tDA X.K o u))) : PE X e (tDF X.K o (qLstF u)) := PE.imp h fun σ H Q ⟨W, ρ, n, R, E, g, r, k⟩ =>
  ⟨W, ρ, n, _, E, g, r, fun ds n1 r1 vs H1 F1 g1 w1 => ⟨by rw [w1.length]; exact small_line r1.1, fun p H2 n2 => k _ n1 r1.2 p vs n1 H1 H2 F1 g1 n2.2.2 (W.of n2.1) (W.same g1 n2.1) n2.2.1 ((w1.more (fun c u m q => m.elim id fun e => by rw [e, n2.2.2] at q; cases q)).same n2.1)⟩⟩
def qListF (u : TDA) : TDA := fun ρ n R => u ρ n fun ds n' => ∃ d xs, ds = [d] ∧ seqD d = some xs ∧ R xs n'
theorem df_list {u : TDA} (h : PE X e (tCB (fun xs H Q => ∃ p ys, xs = [.ref p] ∧ (SqL X.K H p ys ∨ SqT X.K H p ys) ∧ ∀ l H2, New H H2 l (.lst ys) → Q (.ref l) H2) (tDA X.K o u))) : PE X e (tDF X.K o (qListF u)) := PE.imp h fun σ H Q ⟨W, ρ, n, R, E, g, r, k⟩ =>
  ⟨W, ρ, n, _, E, g, r, fun ds n1 ⟨d, es, e1, e2, r1⟩ vs H1 F1 g1 w1 => by
    subst e1
    cases w1 with
    | cons w wn =>
      cases wn
      obtain ⟨p, xs, rfl, s, _, a⟩ := w.seq e2
      exact ⟨p, xs, rfl, s, fun l H2 n2 => k _ n1 r1 l xs n1 H1 H2 F1 g1 n2.2.2 (W.of n2.1) (W.same g1 n2.1) n2.2.1 ((a.more (fun c u m q => m.elim id fun e => by rw [e, n2.2.2] at q; cases q)).same n2.1)⟩⟩
def qLcF (vs : List Nat) (f : PyData → List DS → (List DS → Prop) → Prop) (src : TDI) (tt : TDB) (te : TD) : TDA := fun ρ n R => src ρ n fun ds n1 => ds.length ≤ 10000000 ∧ ∃ A : Nat → List PyData → Nat → Prop, A 0 [] n1 ∧
  (∀ i x acc m, ds[i]? = some x → A i acc m → f x (wipeD ρ vs) fun ρ' => tt ρ' m fun b m' => if b = true then te ρ' m' fun y m'' => A (i + 1) (acc ++ [y]) m'' else A (i + 1) acc m') ∧
  ∀ acc m, A ds.length acc m → acc.length ≤ ds.length → R acc m
theorem df_lc {vs0 : List Nat} {g : TG} {f} {src : TDI} {tt : TDB} {te : TD} (hf : GFit X.K vs0 g f) (h : PE X e (tLc (tDI X.K o src) g (tDB X.K o tt) (tD X.K o te) vs0)) : PE X e (tDF X.K o (qLcF vs0 f src tt te)) := PE.imp h fun σ H Q ⟨W, ρ, n, R, E, gg, t, k⟩ =>
  ⟨W, ρ, n, _, E, gg, t, fun ds n1 ⟨hlen, A, h0, hs, hd⟩ J H1 F1 g1 ⟨P, vs, wk, da, hP⟩ D hD => by
    have ln := da.length
    have nD : ¬ W.M D := fun m => by
      obtain ⟨ob, q, _⟩ := W.al g1 m
      rw [hD] at q
      cases q
    have EM : EnvD X.K o (fun c => W.M c ∨ c = D) (W.a, W.ts, W.ov) ρ σ H1 := (E.frm (W.frm F1)).more fun c o m q => m.elim id fun e => by rw [e, hD] at q; cases q
    have DM : DwAll X.K (fun c => W.M c ∨ c = D) H1 vs ds := da.more fun c o m q => m.elim id fun e => by rw [e, hD] at q; cases q
    refine ⟨fun i m H' => m = ds.length - i ∧ i ≤ ds.length ∧ ∃ acc av c, A i acc c ∧ H' D = some (.lst av) ∧ DwAll X.K (fun c => W.M c ∨ c = D) H' av acc ∧ av.length ≤ i ∧ W.G c H' ∧ W.Rel H1 H',
      ⟨_, rfl, Nat.zero_le _, [], [], n1, h0, upd_same, .nil, Nat.le_refl _, W.updG g1 hD g1 (fun u e => by rw [hD] at e; cases e), W.updR W.refl hD⟩, ?_⟩
    rintro i m H' ⟨rfl, hi, acc, av, c, inv, hDa, hav, hal, g', F'⟩
    have w := wk i H' (hP _ (W.frm F'))
    have FM : Fx (fun c => W.M c ∨ c = D) H1 H' := (W.frm F').mono fun c e => .inl e
    by_cases hlt : i < ds.length
    · refine .inr ⟨w.1 (by omega), fun H2 => i + 1 ≤ ds.length ∧ ∃ acc av c, A (i + 1) acc c ∧ H2 D = some (.lst av) ∧ DwAll X.K (fun c => W.M c ∨ c = D) H2 av acc ∧ av.length ≤ i + 1 ∧ W.G c H2 ∧ W.Rel H1 H2, fun H2 q => ⟨_, by omega, rfl, q⟩, fun x H2 y => ?_⟩
      obtain ⟨e2, y2⟩ := w.2.2 x H2 y
      subst e2
      obtain ⟨d, hd1, hd2⟩ := DM.get (y2 (by omega))
      refine hf o _ (W.a, W.ts, W.ov) _ x d (wipeD ρ vs0) (wipe σ vs0) _ _ (hd2.frm FM) ((EM.frm FM).wipe vs0) (hs i d acc c hd1 inv) fun ρ2 r2 σ2 E2 ew => ⟨by rw [ew]; exact wipe_wipe σ vs0, ?_⟩
      refine ⟨W.plus D (.lst av) (fun _ z => by cases z) nD, ρ2, c, _, E2, ⟨g', hDa⟩, r2, fun b m3 r3 H3 F3 g3 => ?_⟩
      cases b with
      | false => exact ⟨hlt, acc, av, m3, r3, g3.2, hav.frm ((W.plus D (.lst av) (fun _ z => by cases z) nD).frm F3), Nat.le_succ_of_le hal, g3.1, W.trans F' F3⟩
      | true =>
        refine ⟨W.plus D (.lst av) (fun _ z => by cases z) nD, ρ2, m3, _, E2.frm ((W.plus D (.lst av) (fun _ z => by cases z) nD).frm F3), g3, r3, fun y m4 r4 v4 H4 F4 g4 w4 => ⟨av, g4.2, by rw [sizeLine_eq]; omega, hlt, acc ++ [y], av ++ [v4], m4, r4, upd_same, ?_, by rw [List.length_append]; exact Nat.succ_le_succ hal, W.updG g1 hD g4.1 (fun u e => by rw [g4.2] at e; cases e; trivial), W.updR (W.trans F' (W.trans F3 F4)) hD⟩⟩
        have h4 := hav.frm ((W.plus D (.lst av) (fun _ z => by cases z) nD).frm (W.trans F3 F4))
        exact (h4.append (.cons w4 .nil)).frm (fx_frm (Frm.mono (frm_upd (a := D)) fun c e => .inr e))
    · have e : i = ds.length := by omega
      subst e
      have hl := hav.length
      exact .inl ⟨w.2.1 (by omega), k _ c (hd acc c inv (by omega)) D av n1 H1 H' F1 g1 hD F' g' hDa hav⟩⟩
end
section
variable {K : PySem.W.Frag} {o : Option TSet} {W : Fld} {H0 H H' : Hp} {Rs : List Rt} {ρ : List DS} {σ : L2.St} {n n' k : Nat} {M N : Addr → Prop}
theorem its_mk : ∀ {xs : List V} {ds : List PyData}, DwAll K M H xs ds → ∃ l : List Itm, l.map (·.1) = xs ∧ l.map (·.2.1) = ds ∧ (∀ x ∈ l, x.2.2 = none) ∧ ∀ x ∈ l, Dw K M H x.1 x.2.1
  | _, _, .nil => ⟨[], rfl, rfl, (fun x m => nomatch m), (fun x m => nomatch m)⟩
  | _, _, .cons (v := v) (d := d) a r => by
    obtain ⟨l, h1, h2, h3, h4⟩ := its_mk r
    refine ⟨(v, d, none) :: l, by rw [List.map_cons, h1], by rw [List.map_cons, h2], fun x m => ?_, fun x m => ?_⟩
    · rcases List.mem_cons.mp m with rfl | m
      · rfl
      · exact h3 x m
    · rcases List.mem_cons.mp m with rfl | m
      · exact a
      · exact h4 x m
theorem fm_none : ∀ {l : List Itm}, (∀ x ∈ l, x.2.2 = none) → l.filterMap (·.2.2) = []
  | [], _ => rfl
  | x :: l, h => by rw [List.filterMap_cons, h x List.mem_cons_self]; exact fm_none fun y m => h y (List.mem_cons_of_mem _ m)
theorem it_none {x : Itm} (e : x.2.2 = none) (w : Dw K M H x.1 x.2.1) : ItOk K M H x := by
  obtain ⟨v, d, a⟩ := x
  cases e
  exact w
theorem get_app {α : Type} {l : List α} {r x : α} {i : Nat} (e : (l ++ [r])[i]? = some x) : l[i]? = some x ∨ (i = l.length ∧ x = r) := by
  by_cases h : i < l.length
  · rw [List.getElem?_append_left h] at e; exact .inl e
  · rw [List.getElem?_append_right (by omega)] at e
    have : i - l.length = 0 := by
      have := (List.getElem?_eq_some_iff.mp e).1
      simp at this
      omega
    rw [this] at e
    cases e
    exact .inr ⟨by omega, rfl⟩
theorem at_app {r : Rt} {c : Addr} (h : AtR (Rs ++ [r]) c) : AtR Rs c ∨ c ∈ adr r := by
  obtain ⟨i, x, e, m⟩ := h
  rcases get_app e with e | ⟨_, rfl⟩
  · exact .inl ⟨i, x, e, m⟩
  · exact .inr m
theorem at_left {r : Rt} {c : Addr} (h : AtR Rs c) : AtR (Rs ++ [r]) c := by
  obtain ⟨i, x, e, m⟩ := h
  exact ⟨i, x, by rw [List.getElem?_append_left (List.getElem?_eq_some_iff.mp e).1]; exact e, m⟩
theorem nd_app {r : Rt} (h : NdR Rs) (n : (adr r).Nodup) (dis : ∀ c ∈ adr r, ¬ AtR Rs c) : NdR (Rs ++ [r]) := by
  refine ⟨fun i x e => ?_, fun i j a b c ea eb ma mb => ?_⟩
  · rcases get_app e with e | ⟨_, rfl⟩
    · exact h.e i x e
    · exact n
  · rcases get_app ea with ga | ⟨ia, rfl⟩ <;> rcases get_app eb with gb | ⟨ib, rfl⟩
    · exact h.d i j a b c ga gb ma mb
    · exact (dis c mb ⟨i, a, ga, ma⟩).elim
    · exact (dis c ma ⟨j, b, gb, mb⟩).elim
    · rw [ia, ib]
def owLt (k : Nat) : List DS → Bool
  | [] => true
  | .ow j :: r => decide (j < k) && owLt k r
  | _ :: r => owLt k r
theorem owLt_at : ∀ {ρ : List DS}, owLt k ρ = true → ∀ (i j : Nat), ρ[i]? = some (DS.ow j) → j < k
  | [], _, i, j, e => by simp at e
  | s :: r, h, i, j, e => by
    have hr : owLt k r = true := by
      cases s <;> first | exact h | exact (Bool.and_eq_true_iff.mp h).2
    cases i with
    | zero => cases e; exact of_decide_eq_true (Bool.and_eq_true_iff.mp h).1
    | succ i => exact owLt_at hr i j e
theorem EnvD.ovc {a : Option Addr} {ts : Option TSet} {ov ov' : Nat → V} (E : EnvD K o M (a, ts, ov) ρ σ H) (lt : owLt k ρ = true) (h : ∀ j, j < k → ov' j = ov j) : EnvD K o M (a, ts, ov') ρ σ H :=
  ⟨E.len, E.dat, E.val, E.drw, fun i j e => by rw [show (a, ts, ov').2.2 j = ov j from h j (owLt_at lt i j e)]; exact E.own i j e, E.tse, E.fzl⟩
theorem ov_app {r : Rt} {j : Nat} (h : j < Rs.length) : ovR (Rs ++ [r]) j = ovR Rs j := by
  unfold ovR
  rw [List.getElem?_append_left h]
theorem ov_last {r : Rt} : ovR (Rs ++ [r]) Rs.length = .ref r.1 := by
  unfold ovR
  rw [List.getElem?_append_right (Nat.le_refl _), Nat.sub_self]
  rfl
/-- one more stands under way -/
theorem OwSt.bornR (S : OwSt K o W H0 H Rs ρ σ n) {r : Rt} {H1 : Hp} (F : W.Rel H H1) (g1 : S.F.G n' H1) (b : ∀ c ∈ adr r, ∃ m Hb, W.Rel H Hb ∧ S.F.G m Hb ∧ Hb c = none) (nd : (adr r).Nodup)
    (ok : RtOk K (fun c => (W.M c ∨ AtR Rs c) ∨ c ∈ adr r) H1 r) (lt : owLt Rs.length ρ = true) : OwSt K o W H0 H1 (Rs ++ [r]) ρ σ n' ∧ Bth K (MG W Rs) (MG W (Rs ++ [r])) H H1 := by
  have nR : ∀ c ∈ adr r, ¬ AtR Rs c := fun c m q => by
    obtain ⟨j, Hb, Fb, gb, eb⟩ := b c m
    obtain ⟨xs, e⟩ := S.pl c q
    rw [gb.2 c q, e] at eb
    cases eb
  have nM : ∀ c ∈ adr r, ¬ W.M c := fun c m q => by
    obtain ⟨j, Hb, Fb, gb, eb⟩ := b c m
    obtain ⟨u, e, _⟩ := W.al gb.1 q
    rw [e] at eb
    cases eb
  have B : Bth K (MG W Rs) (MG W (Rs ++ [r])) H H1 := bth_of (mg_fx (W.frm F)) fun c u m e t => m.elim .inl fun m => (at_app m).elim .inr fun m => by
    obtain ⟨j, Hb, Fb, gb, eb⟩ := b c m
    rw [W.frm Fb c u (nM c m) e t] at eb
    cases eb
  have i2 : ∀ c, MG W (Rs ++ [r]) c → (W.M c ∨ AtR Rs c) ∨ c ∈ adr r := fun c m => m.elim (fun m => .inl (.inl m)) fun m => (at_app m).elim (fun m => .inl (.inr m)) .inr
  refine ⟨⟨(S.env.bth B).ovc lt fun j h => ov_app h, g1.1, W.trans S.rel F, nd_app S.nd nd nR, fun c m => ?_, fun j x e => ?_⟩, B⟩
  · rcases at_app m with m | m
    · exact S.out c m
    · obtain ⟨j, Hb, Fb, gb, eb⟩ := b c m
      exact ⟨nM c m, ⟨_, Hb, W.trans S.rel Fb, gb.1, eb⟩, fun H' u F => W.born (W.trans S.rel Fb) gb.1 eb H' u F⟩
  · rcases get_app e with e | ⟨_, rfl⟩
    · exact (S.ok j x e).bth B fun c m => g1.2 c ⟨j, x, e, m⟩
    · exact ok.bth (Bth.more fun c u m _ => i2 c m) fun c _ => rfl
/-- one of them changed -/
theorem OwSt.re {Rs' : List Rt} {q : Addr} {zs : List V} (S : OwSt K o W H0 H Rs ρ σ n) (hq : AtR Rs q) (sub : ∀ c, AtR Rs' c → AtR Rs c) (nd : NdR Rs') (ov : ∀ j, j < k → ovR Rs' j = ovR Rs j) (lt : owLt k ρ = true)
    (ok : ∀ (i : Nat) r, Rs'[i]? = some r → RtOk K (MG W Rs) (upd H q (.lst zs)) r) : OwSt K o W H0 (upd H q (.lst zs)) Rs' ρ σ n ∧ Bth K (MG W Rs) (MG W Rs') H (upd H q (.lst zs)) := by
  have fx : Fx (MG W Rs) H (upd H q (.lst zs)) := fx_frm (Frm.mono (frm_upd (a := q)) fun c e => e ▸ .inr hq)
  have i : ∀ {G : Hp} (c : Addr) (u : HO), MG W Rs' c → G c = some u → MG W Rs c := fun c u m _ => m.imp id (sub c)
  obtain ⟨_, ⟨m, H1, _, g1, e1⟩, b⟩ := S.out q hq
  refine ⟨⟨((S.env.frm fx).more i).ovc lt ov, W.updG g1 e1 S.g fun u e => ?_, b _ _ S.rel, nd, fun c m => S.out c (sub c m), fun j r e => (ok j r e).bth (Bth.more i) fun c _ => rfl⟩, (Bth.frm fx).trans (Bth.more i)⟩
  obtain ⟨xs, e2⟩ := S.pl q hq
  rw [e2] at e
  cases e
  trivial
theorem get_set {α : Type} {l : List α} {r x : α} {i j : Nat} (e : (l.set j r)[i]? = some x) : (i = j ∧ x = r) ∨ (i ≠ j ∧ l[i]? = some x) := by
  by_cases h : i = j
  · subst h
    have l1 := (List.getElem?_eq_some_iff.mp e).1
    rw [List.length_set] at l1
    rw [List.getElem?_set_self l1] at e
    exact .inl ⟨rfl, (Option.some.inj e).symm⟩
  · rw [List.getElem?_set_ne (fun z => h z.symm)] at e
    exact .inr ⟨h, e⟩
theorem at_set {r r' : Rt} {c : Addr} (hk : Rs[k]? = some r) (sub : ∀ c ∈ adr r', c ∈ adr r) (h : AtR (Rs.set k r') c) : AtR Rs c := by
  obtain ⟨i, x, e, m⟩ := h
  rcases get_set e with ⟨_, rfl⟩ | ⟨_, e⟩
  · exact ⟨k, r, hk, sub c m⟩
  · exact ⟨i, x, e, m⟩
theorem nd_set {r r' : Rt} (h : NdR Rs) (hk : Rs[k]? = some r) (sub : ∀ c ∈ adr r', c ∈ adr r ∨ ¬ AtR Rs c) (n : (adr r').Nodup) : NdR (Rs.set k r') := by
  refine ⟨fun i x e => ?_, fun i j a b c ea eb ma mb => ?_⟩
  · rcases get_set e with ⟨_, rfl⟩ | ⟨_, e⟩
    · exact n
    · exact h.e i x e
  · rcases get_set ea with ⟨ia, rfl⟩ | ⟨na, ga⟩ <;> rcases get_set eb with ⟨ib, rfl⟩ | ⟨nb, gb⟩
    · rw [ia, ib]
    · rcases sub c ma with m | m
      · exact (nb (h.d k j r b c hk gb m mb).symm).elim
      · exact (m ⟨j, b, gb, mb⟩).elim
    · rcases sub c mb with m | m
      · exact (na (h.d i k a r c ga hk ma m)).elim
      · exact (m ⟨i, a, ga, ma⟩).elim
    · exact h.d i j a b c ga gb ma mb
theorem ov_set {r r' : Rt} {j : Nat} (hk : Rs[k]? = some r) (e : r'.1 = r.1) : ovR (Rs.set k r') j = ovR Rs j := by
  unfold ovR
  by_cases h : j = k
  · subst h
    rw [List.getElem?_set_self (List.getElem?_eq_some_iff.mp hk).1, hk]
    exact congrArg V.ref e
  · rw [List.getElem?_set_ne (fun z => h z.symm)]
theorem OwSt.other {r : Rt} {q : Addr} {zs : List V} (S : OwSt K o W H0 H Rs ρ σ n) (hk : Rs[k]? = some r) (hq : q ∈ adr r) {i : Nat} {x : Rt} (ni : i ≠ k) (e : Rs[i]? = some x) : RtOk K (MG W Rs) (upd H q (.lst zs)) x :=
  (S.ok i x e).bth (Bth.frm (fx_frm (Frm.mono (frm_upd (a := q)) fun c e => e ▸ .inr ⟨k, r, hk, hq⟩))) fun c m => upd_ne fun z => ni (S.nd.d i k x r c e hk m (z ▸ hq))
theorem owLt_big : ∀ (ρ : List DS), ∃ k, owLt k ρ = true
  | [] => ⟨0, rfl⟩
  | s :: r => by
    obtain ⟨k, h⟩ := owLt_big r
    have mono : ∀ {j : Nat} (k : Nat), k ≤ j → ∀ {ρ : List DS}, owLt k ρ = true → owLt j ρ = true := fun {j} k l {ρ} => by
      induction ρ with
      | nil => exact fun _ => rfl
      | cons s r ih =>
        intro h
        cases s with
        | ow i =>
          obtain ⟨h1, h2⟩ := Bool.and_eq_true_iff.mp h
          exact Bool.and_eq_true_iff.mpr ⟨decide_eq_true (Nat.lt_of_lt_of_le (of_decide_eq_true h1) l), ih h2⟩
        | _ => exact ih h
    cases s with
    | ow j => exact ⟨max k (j + 1), Bool.and_eq_true_iff.mpr ⟨decide_eq_true (by omega), mono k (by omega) h⟩⟩
    | _ => exact ⟨k, h⟩
/-- its own items changed -/
theorem OwSt.root {r : Rt} (S : OwSt K o W H0 H Rs ρ σ n) (hk : Rs[k]? = some r) (its : List Itm) (hi : ∀ x ∈ its, x ∈ r.2 ∨ (x.2.2 = none ∧ Dw K (MG W Rs) H x.1 x.2.1)) (nd : (its.filterMap (·.2.2)).Nodup) :
    OwSt K o W H0 (upd H r.1 (.lst (its.map (·.1)))) (Rs.set k (r.1, its)) ρ σ n ∧ Bth K (MG W Rs) (MG W (Rs.set k (r.1, its))) H (upd H r.1 (.lst (its.map (·.1)))) := by
  obtain ⟨kk, lt⟩ := owLt_big ρ
  have nr := S.nd.e k r hk
  unfold adr at nr
  have hq : r.1 ∈ adr r := List.mem_cons_self
  have sub2 : ∀ c ∈ its.filterMap (·.2.2), c ∈ r.2.filterMap (·.2.2) := fun c m => by
    obtain ⟨x, hx, e⟩ := List.mem_filterMap.mp m
    rcases hi x hx with q | ⟨q, _⟩
    · exact List.mem_filterMap.mpr ⟨x, q, e⟩
    · have e : x.2.2 = some c := e
      rw [q] at e
      cases e
  have sub : ∀ c ∈ adr (r.1, its), c ∈ adr r := fun c m => by
    rcases List.mem_cons.mp m with rfl | m
    · exact hq
    · exact List.mem_cons_of_mem _ (sub2 c m)
  refine S.re ⟨k, r, hk, hq⟩ (fun c m => at_set hk sub m) (nd_set S.nd hk (fun c m => .inl (sub c m)) ?_) (fun j _ => ov_set hk rfl) lt fun i x e => ?_
  · exact List.nodup_cons.mpr ⟨fun m => (List.nodup_cons.mp nr).1 (sub2 _ m), nd⟩
  · rcases get_set e with ⟨_, rfl⟩ | ⟨ni, e⟩
    · have fx : Fx (MG W Rs) H (upd H r.1 (.lst (its.map (·.1)))) := fx_frm (Frm.mono (frm_upd (a := r.1)) fun c e => e ▸ .inr ⟨k, r, hk, hq⟩)
      refine ⟨upd_same, fun x m => ?_⟩
      rcases hi x m with q | ⟨q1, q2⟩
      · exact ((S.ok k r hk).i x q).bth (Bth.frm fx) fun c e => upd_ne fun z => (List.nodup_cons.mp nr).1 (List.mem_filterMap.mpr ⟨x, q, e.trans (congrArg some z)⟩)
      · exact it_none q1 (q2.frm fx)
    · exact S.other hk hq ni e
theorem OwSt.at (S : OwSt K o W H0 H Rs ρ σ n) {i : Nat} {r : Rt} (hi : ρ[i]? = some (DS.ow k)) (hk : Rs[k]? = some r) : σ[i]? = some (some (.ref r.1)) := by
  have q := S.env.own i k hi
  have q2 : ovR Rs k = .ref r.1 := by unfold ovR; rw [hk]
  rw [← q2]
  exact q
end
end MT
set_option maxHeartbeats 1000000
/-! statements that change lists under way -/
namespace MT
open PySem L2
section
variable {X : Cx} {e : Expr} {st : Stmt} {ss : List Stmt} {o : Option TSet}
/-- a name that holds a list under way, of data; of lists of its own -/
def rootF (h : List HD) (ρ : List DS) (i k : Nat) (ds : List PyData) : Prop := ρ[i]? = some (DS.ow k) ∧ h[k]? = some (.f ds)
def rootN (h : List HD) (ρ : List DS) (i k : Nat) (ds : List PyData) : Prop := ρ[i]? = some (DS.ow k) ∧ h[k]? = some (.n ds)
/-! ### x = a new list -/
/-- a new list, with new lists in it or none -/
def tDR (K : PySem.W.Frag) (o : Option TSet) (t : TDA) : TE := fun σ H Q => ∃ (W : Fld) (ρ : List DS) (n : Nat) (R : List PyData → Nat → Prop), EnvD K o W.M (W.a, W.ts, W.ov) ρ σ H ∧ W.G n H ∧ t ρ n R ∧
  ∀ ds n', R ds n' → ∀ (r : Rt) H', r.2.map (·.2.1) = ds → W.Rel H H' → W.G n' H' → (∀ c ∈ adr r, ∃ m Hb, W.Rel H Hb ∧ W.G m Hb ∧ Hb c = none) → (adr r).Nodup → RtOk K (fun c => W.M c ∨ c ∈ adr r) H' r → Q (.ref r.1) H'
theorem dr_f {t : TDA} (h : PE X e (tDF X.K o t)) : PE X e (tDR X.K o t) := PE.imp h fun σ H Q ⟨W, ρ, n, R, E, g, t, k⟩ => ⟨W, ρ, n, R, E, g, t, fun ds n1 r p xs m Hb H1 Fb gb eb F2 g1 hp da => by
  obtain ⟨its, rfl, rfl, i3, i4⟩ := its_mk da
  have ad : adr (p, its) = [p] := by unfold adr; rw [fm_none i3]
  refine k _ n1 r (p, its) H1 rfl (W.trans Fb F2) g1 (fun c m => ?_) (by rw [ad]; simp) ⟨hp, fun x m => it_none (i3 x m) ((i4 x m).more fun c u m _ => ?_)⟩
  · rw [ad] at m
    rw [List.mem_singleton.mp m]
    exact ⟨_, Hb, Fb, gb, eb⟩
  · rw [ad] at m
    exact m.imp id List.mem_singleton.mp⟩
theorem OwSt.named {K : PySem.W.Frag} {W : Fld} {H0 H : Hp} {Rs : List Rt} {r : Rt} {ρ : List DS} {σ : L2.St} {n i : Nat} (S : OwSt K o W H0 H (Rs ++ [r]) (ρ.set i .no) σ n) : OwSt K o W H0 H (Rs ++ [r]) (ρ.set i (.ow Rs.length)) (σ.set i (some (.ref r.1))) n := by
  refine ⟨?_, S.g, S.rel, S.nd, S.out, S.ok⟩
  have E := S.env.put i (s := .ow Rs.length) (u := some (.ref r.1)) (by
    show some (V.ref r.1) = some (ovR (Rs ++ [r]) Rs.length)
    rw [ov_last])
  rw [List.set_set] at E
  exact E
def qSetR (i : Nat) (t : TDA) : TDSO := fun h ρ n Rn _ => owLt h.length (ρ.set i .no) = true ∧ t ρ n fun ds n' => Rn (h ++ [.f ds]) (ρ.set i (.ow h.length)) n'
theorem os_setR {i : Nat} {t : TDA} (h : PS X st (tAsg (tDR X.K o t) (gName i))) : PS X st (tDsO X.K o (qSetR i t)) := PS.imp h fun D σ H ⟨W, H0, Rs, h, ρ, n, Rn, Rr, S, hr, ⟨lt, t⟩, k1, k2⟩ =>
  ⟨S.F, ρ, n, _, S.env, S.G, t, fun ds n1 rr r H1 ed F1 g1 b nd ok => by
    rw [hr.1] at lt rr
    have S0 : OwSt X.K o W H0 H Rs (ρ.set i .no) (σ.set i (some (.ref r.1))) n := ⟨S.env.setn i, S.g, S.rel, S.nd, S.out, S.ok⟩
    obtain ⟨S1, B⟩ := S0.bornR F1 g1 b nd ok lt
    have S2 := S1.named
    rw [List.set_set] at S2
    exact k1 (Rs ++ [r]) _ (ρ.set i (.ow Rs.length)) n1 (hr.app (show HR (.f ds) r from ed)) rr _ H1 B S2⟩
/-- x.append(e) -/
def qApp (i : Nat) (t : TD) : TDSO := fun h ρ n Rn _ => ∃ k ds, rootF h ρ i k ds ∧ ds.length < 10000000 ∧ t ρ n fun d n' => Rn (h.set k (.f (ds ++ [d]))) ρ n'
theorem lt_line {k : Nat} (h : k < 10000000) : k < sizeLine := by rw [sizeLine_eq]; omega
theorem os_app {i : Nat} {t : TD} (h : PS X st (tDrop (tBM X.K "list" rAppend (tVar i) (tCons (tD X.K o t) tNil)))) : PS X st (tDsO X.K o (qApp i t)) := PS.imp h fun D σ H ⟨W, H0, Rs, h, ρ, n, Rn, Rr, S, hr, ⟨k, ds, ⟨hi, hk⟩, hl, t⟩, k1, k2⟩ => by
  obtain ⟨r, hkr, ed⟩ := hr.at hk
  have ed : r.2.map (·.2.1) = ds := ed
  refine ⟨.ref r.1, S.at hi hkr, .inl ⟨rfl, _, SqL.of (S.ok k r hkr).l⟩, ?_⟩
  refine ⟨S.F, ρ, n, _, S.env, S.G, t, fun d n1 r1 v H1 F1 g1 w => ?_⟩
  have S1 := S.step F1 g1 (S.env.frm (mg_fx (W.frm F1)))
  refine ⟨r.1, r.2.map (·.1), v, rfl, rfl, (S1.ok k r hkr).l, by rw [List.length_map]; rw [← ed, List.length_map] at hl; exact lt_line hl, ?_⟩
  have S2 := S1.root hkr (r.2 ++ [(v, d, none)]) (fun x m => (List.mem_append.mp m).imp id fun m => by rw [List.mem_singleton.mp m]; exact ⟨rfl, w⟩) (by
    rw [List.filterMap_append]
    simpa using (List.nodup_cons.mp (S.nd.e k r hkr)).2)
  rw [List.map_append] at S2
  exact k1 _ _ ρ n1 (hr.set k (show HR (.f (ds ++ [d])) (r.1, r.2 ++ [(v, d, none)]) from by show (r.2 ++ [(v, d, none)]).map (fun x : Itm => x.2.1) = _; rw [List.map_append, ed]; rfl)) r1 σ _ ((Bth.frm (mg_fx (W.frm F1))).trans S2.2) S2.1
/-- x.extend(e) -/
def qExt (i : Nat) (t : TD) : TDSO := fun h ρ n Rn _ => ∃ k ds, rootF h ρ i k ds ∧ t ρ n fun d n' => ∃ es, d = .list es ∧ ds.length + es.length ≤ 10000000 ∧ Rn (h.set k (.f (ds ++ es))) ρ n'
theorem os_ext {i : Nat} {t : TD} (h : PS X st (tDrop (tBM X.K "list" rExtend (tVar i) (tCons (tD X.K o t) tNil)))) : PS X st (tDsO X.K o (qExt i t)) := PS.imp h fun D σ H ⟨W, H0, Rs, h, ρ, n, Rn, Rr, S, hr, ⟨k, ds, ⟨hi, hk⟩, t⟩, k1, k2⟩ => by
  obtain ⟨r, hkr, ed⟩ := hr.at hk
  have ed : r.2.map (·.2.1) = ds := ed
  refine ⟨.ref r.1, S.at hi hkr, .inl ⟨rfl, _, SqL.of (S.ok k r hkr).l⟩, ?_⟩
  refine ⟨S.F, ρ, n, _, S.env, S.G, t, fun d n1 ⟨es, e1, l1, r1⟩ v H1 F1 g1 w => ?_⟩
  subst e1
  have S1 := S.step F1 g1 (S.env.frm (mg_fx (W.frm F1)))
  cases w with
  | @lst p zs _ s a =>
    refine ⟨r.1, p, r.2.map (·.1), zs, rfl, rfl, (S1.ok k r hkr).l, s.2, by rw [List.length_map, a.length]; rw [← ed, List.length_map] at l1; exact small_line l1, ?_⟩
    obtain ⟨its, rfl, rfl, i3, i4⟩ := its_mk a
    have S2 := S1.root hkr (r.2 ++ its) (fun x m => (List.mem_append.mp m).imp id fun m => ⟨i3 x m, i4 x m⟩) (by
      rw [List.filterMap_append, fm_none i3, List.append_nil]
      exact (List.nodup_cons.mp (S.nd.e k r hkr)).2)
    rw [List.map_append] at S2
    exact k1 _ _ ρ n1 (hr.set k (show HR (.f (ds ++ its.map (fun x : Itm => x.2.1))) (r.1, r.2 ++ its) from by show (r.2 ++ its).map (fun x : Itm => x.2.1) = _; rw [List.map_append, ed])) r1 σ _ ((Bth.frm (mg_fx (W.frm F1))).trans S2.2) S2.1
/-- x.pop(e) -/
theorem er_map {α β : Type} (f : α → β) : ∀ (l : List α) (j : Nat), (l.eraseIdx j).map f = (l.map f).eraseIdx j
  | [], j => by simp
  | a :: l, 0 => rfl
  | a :: l, j + 1 => by simp only [List.eraseIdx_cons_succ, List.map_cons, er_map f l j]
theorem seq_nat {j n : Nat} (h : j < n) : seqIndex? ((j : Nat) : Int) n = some j := by
  unfold seqIndex?
  have h1 : ¬ ((j : Nat) : Int) < 0 := by omega
  simp only [h1, if_false]
  simp [h]
def qPopF (i : Nat) (t : TD) : TDSO := fun h ρ n Rn _ => ∃ k ds, rootF h ρ i k ds ∧ t (ρ.map (bor h)) n fun d n' => ∃ j : Nat, d = .int (j : Nat) ∧ j < ds.length ∧ ds.length ≤ 10000000 ∧ Rn (h.set k (.f (ds.eraseIdx j))) ρ n'
def qPopN (i : Nat) (t : TD) : TDSO := fun h ρ n Rn _ => ∃ k ds, rootN h ρ i k ds ∧ t (ρ.map (bor h)) n fun d n' => ∃ j : Nat, d = .int (j : Nat) ∧ j < ds.length ∧ ds.length ≤ 10000000 ∧ Rn (h.set k (.n (ds.eraseIdx j))) ρ n'
theorem pop_over {W : Fld} {H0 H : Hp} {Rs : List Rt} {ρ : List DS} {σ : L2.St} {n i k : Nat} {h : List HD} {r : Rt} {ds : List PyData} {t : TD} {Rn : List HD → List DS → Nat → Prop} {g : List PyData → HD} {D : Ends} (S : OwSt X.K o W H0 H Rs ρ σ n) (hr : HRs h Rs) (hi : ρ[i]? = some (DS.ow k)) (hkr : Rs[k]? = some r) (ed : r.2.map (·.2.1) = ds)
    (hg : ∀ j, HR (g (ds.eraseIdx j)) (r.1, r.2.eraseIdx j)) (ht : t (ρ.map (bor h)) n fun d n' => ∃ j : Nat, d = .int (j : Nat) ∧ j < ds.length ∧ ds.length ≤ 10000000 ∧ Rn (h.set k (g (ds.eraseIdx j))) ρ n')
    (k1 : ∀ Rs' h' ρ' n', HRs h' Rs' → Rn h' ρ' n' → ∀ σ' H', Bth X.K (MG W Rs) (MG W Rs') H H' → OwSt X.K o W H0 H' Rs' ρ' σ' n' → D.nx σ' H') :
    tDrop (tBM X.K "list" rPopAt (tVar i) (tCons (tD X.K o t) tNil)) D σ H := by
  refine ⟨.ref r.1, S.at hi hkr, .inl ⟨rfl, _, SqL.of (S.ok k r hkr).l⟩, ?_⟩
  refine ⟨W, _, n, _, S.bor hr, S.g, ht, fun d n1 ⟨j, e1, l1, l2, r1⟩ v H1 F1 g1 w => ?_⟩
  subst e1
  cases w
  have S1 := S.frm F1 g1
  have l3 : j < r.2.length := by rw [← ed, List.length_map] at l1; exact l1
  have l4 : r.2.length ≤ 10000000 := by rw [← ed, List.length_map] at l2; exact l2
  refine ⟨r.1, r.2.map (·.1), (j : Nat), j, _, rfl, rfl, (S1.ok k r hkr).l, by omega, by omega, by rw [List.length_map]; exact seq_nat l3, List.getElem?_eq_getElem (by rw [List.length_map]; exact l3), ?_⟩
  have S2 := S1.root hkr (r.2.eraseIdx j) (fun x m => .inl (List.mem_of_mem_eraseIdx m)) ((List.nodup_cons.mp (S.nd.e k r hkr)).2.sublist ((List.eraseIdx_sublist r.2 j).filterMap _))
  rw [er_map] at S2
  exact k1 _ _ ρ n1 (hr.set k (hg j)) r1 σ _ ((Bth.frm (mg_fx (W.frm F1))).trans S2.2) S2.1
theorem os_popF {i : Nat} {t : TD} (h : PS X st (tDrop (tBM X.K "list" rPopAt (tVar i) (tCons (tD X.K o t) tNil)))) : PS X st (tDsO X.K o (qPopF i t)) := PS.imp h fun D σ H ⟨W, H0, Rs, h, ρ, n, Rn, Rr, S, hr, ⟨k, ds, ⟨hi, hk⟩, t⟩, k1, k2⟩ => by
  obtain ⟨r, hkr, ed⟩ := hr.at hk
  have ed : r.2.map (·.2.1) = ds := ed
  exact pop_over (g := .f) S hr hi hkr ed (fun j => by show (r.2.eraseIdx j).map (·.2.1) = _; rw [er_map, ed]) t k1
theorem os_popN {i : Nat} {t : TD} (h : PS X st (tDrop (tBM X.K "list" rPopAt (tVar i) (tCons (tD X.K o t) tNil)))) : PS X st (tDsO X.K o (qPopN i t)) := PS.imp h fun D σ H ⟨W, H0, Rs, h, ρ, n, Rn, Rr, S, hr, ⟨k, ds, ⟨hi, hk⟩, t⟩, k1, k2⟩ => by
  obtain ⟨r, hkr, ed, en⟩ := hr.at hk
  exact pop_over (g := .n) S hr hi hkr ed (fun j => ⟨by show (r.2.eraseIdx j).map (·.2.1) = _; rw [er_map, ed], fun x m => en x (List.mem_of_mem_eraseIdx m)⟩) t k1
/-! ### for -/
def qForO (f : PyData → List DS → (List DS → Prop) → Prop) (src : TDI) (tb : TDSO) : TDSO := fun h ρ n Rn Rr => src ρ n fun ds n1 => ∃ I : Nat → List HD → List DS → Nat → Prop, I 0 h ρ n1 ∧
  (∀ i x h' ρ' m, ds[i]? = some x → I i h' ρ' m → f x ρ' fun ρ2 => tb h' ρ2 m (fun h'' ρ'' m' => I (i + 1) h'' ρ'' m') Rr) ∧ ∀ h' ρ' m, I ds.length h' ρ' m → Rn h' ρ' m
theorem Bth.fx {K : PySem.W.Frag} {M N : Addr → Prop} {H H' : Hp} (B : Bth K M N H H') : Fx M H H' := fun c u n e t => (B.o n e t).2
theorem os_for {vs0 : List Nat} {g : TG} {f} {src : TDI} {tb : TDSO} (hf : GFit X.K vs0 g f) (h : PS X st (tFor (tDI X.K o src) g (tDsO X.K o tb))) : PS X st (tDsO X.K o (qForO f src tb)) := PS.imp h fun D σ H ⟨W, H0, Rs, h, ρ, n, Rn, Rr, S, hr, t, k1, k2⟩ =>
  ⟨S.F, ρ, n, _, S.env, S.G, t, fun ds n1 ⟨I, h0, hs, hd⟩ J H1 F1 g1 ⟨P, vs, wk, da, hP⟩ => by
    have ln := da.length
    have S1 := S.step F1 g1 (S.env.frm (mg_fx (W.frm F1)))
    have B1 : Bth X.K (MG W Rs) (MG W Rs) H H1 := Bth.frm (mg_fx (W.frm F1))
    refine ⟨fun i m σ' H' => m = ds.length - i ∧ i ≤ ds.length ∧ ∃ Rs' h' ρ' c, HRs h' Rs' ∧ I i h' ρ' c ∧ OwSt X.K o W H0 H' Rs' ρ' σ' c ∧ Bth X.K (MG W Rs) (MG W Rs') H1 H', ⟨_, rfl, Nat.zero_le _, Rs, h, ρ, n1, hr, h0, S1, Bth.frm (Fx.refl)⟩, ?_⟩
    rintro i m σ' H' ⟨rfl, hi, Rs', h', ρ', c, hr', inv, S', B'⟩
    have w := wk i H' (hP _ B'.fx)
    by_cases hlt : i < ds.length
    · refine .inr ⟨w.1 (by omega), fun σ2 H2 => i + 1 ≤ ds.length ∧ ∃ Rs' h' ρ' c, HRs h' Rs' ∧ I (i + 1) h' ρ' c ∧ OwSt X.K o W H0 H2 Rs' ρ' σ2 c ∧ Bth X.K (MG W Rs) (MG W Rs') H1 H2, fun σ2 H2 q => ⟨_, by omega, rfl, q⟩, fun x H2 y => ?_⟩
      obtain ⟨e2, y2⟩ := w.2.2 x H2 y
      subst e2
      obtain ⟨d, hd1, hd2⟩ := da.get (y2 (by omega))
      refine hf o _ _ _ x d ρ' σ' _ _ (Dw.bthR B' _ _ hd2) S'.env (hs i d h' ρ' c hd1 inv) fun ρ2 r2 σ2 E2 _ => ?_
      exact ⟨W, H0, Rs', h', ρ2, c, _, Rr, ⟨E2, S'.g, S'.rel, S'.nd, S'.out, S'.ok⟩, hr', r2, fun Rs3 h3 ρ3 m3 hr3 r3 σ3 H3 B3 S3 => ⟨hlt, Rs3, h3, ρ3, m3, hr3, r3, S3, B'.trans B3⟩, fun d3 m3 r3 v3 H3 F3 g3 w3 => k2 d3 m3 r3 v3 H3 F3 g3 w3⟩
    · have e : i = ds.length := by omega
      subst e
      exact .inl ⟨w.2.1 (by omega), k1 Rs' h' ρ' c hr' (hd h' ρ' c inv) σ' H' (B1.trans B') S'⟩⟩
end
end MT
set_option maxHeartbeats 1000000
/-! lists of lists under way -/
namespace MT
open PySem L2
section
variable {K : PySem.W.Frag} {o : Option TSet} {W : Fld} {H0 H H' : Hp} {Rs : List Rt} {ρ : List DS} {σ : L2.St} {n n' k : Nat} {M N : Addr → Prop}
theorem fm_inj : ∀ {l : List Itm}, (l.filterMap (·.2.2)).Nodup → ∀ {i j : Nat} {x y : Itm} {q : Addr}, l[i]? = some x → l[j]? = some y → x.2.2 = some q → y.2.2 = some q → i = j
  | [], _, i, j, x, y, q, ex, _, _, _ => by simp at ex
  | a :: l, nd, i, j, x, y, q, ex, ey, hx, hy => by
    have nd2 : (l.filterMap (·.2.2)).Nodup := by
      rw [List.filterMap_cons] at nd
      cases h : a.2.2 with
      | none => rw [h] at nd; exact nd
      | some b => rw [h] at nd; exact (List.nodup_cons.mp nd).2
    have no : ∀ {k : Nat} {z : Itm}, l[k]? = some z → z.2.2 = some q → a.2.2 ≠ some q := fun {k z} ez hz ha => by
      rw [List.filterMap_cons, ha] at nd
      exact (List.nodup_cons.mp nd).1 (List.mem_filterMap.mpr ⟨z, List.mem_of_getElem? ez, hz⟩)
    cases i with
    | zero =>
      cases j with
      | zero => rfl
      | succ j => cases ex; exact (no ey hy hx).elim
    | succ i =>
      cases j with
      | zero => cases ey; exact (no ex hx hy).elim
      | succ j => exact congrArg Nat.succ (fm_inj nd2 ex ey hx hy)
theorem fm_set : ∀ {l : List Itm} {j : Nat} {x y : Itm}, l[j]? = some x → y.2.2 = x.2.2 → (l.set j y).filterMap (·.2.2) = l.filterMap (·.2.2)
  | [], j, x, y, e, _ => by simp at e
  | a :: l, 0, x, y, e, h => by
    cases e
    rw [List.set_cons_zero, List.filterMap_cons, List.filterMap_cons, h]
  | a :: l, j + 1, x, y, e, h => by
    rw [List.set_cons_succ, List.filterMap_cons, List.filterMap_cons, fm_set (l := l) e h]
theorem set_all {v : V} {d : PyData} : ∀ {ys : List V} {es : List PyData}, DwAll K M H ys es → ∀ b, Dw K M H v d → DwAll K M H (ys.set b v) (es.set b d)
  | _, _, .nil, _, _ => .nil
  | _, _, .cons _ r, 0, w => .cons w r
  | _, _, .cons a r, b + 1, w => .cons a (set_all r b w)
theorem set_self {α : Type} : ∀ {l : List α} {j : Nat} {x : α}, l[j]? = some x → l.set j x = l
  | [], _, _, e => by simp at e
  | a :: l, 0, x, e => by cases e; rfl
  | a :: l, j + 1, x, e => by rw [List.set_cons_succ, set_self (l := l) e]
/-- one place of one of its lists changed -/
theorem OwSt.inner {r : Rt} {j b : Nat} {ys : List V} {es : List PyData} {q : Addr} {v : V} {d : PyData} (S : OwSt K o W H0 H Rs ρ σ n) (hk : Rs[k]? = some r) (hj : r.2[j]? = some (.ref q, .list es, some q))
    (hq : H q = some (.lst ys)) (ha : DwAll K (MG W Rs) H ys es) (hv : Dw K (MG W Rs) H v d) :
    OwSt K o W H0 (upd H q (.lst (ys.set b v))) (Rs.set k (r.1, r.2.set j (.ref q, .list (es.set b d), some q))) ρ σ n ∧ Bth K (MG W Rs) (MG W (Rs.set k (r.1, r.2.set j (.ref q, .list (es.set b d), some q)))) H (upd H q (.lst (ys.set b v))) := by
  obtain ⟨kk, lt⟩ := owLt_big ρ
  have nr := S.nd.e k r hk
  have qa : q ∈ adr r := it_mem (List.mem_of_getElem? hj) rfl
  have fs : (r.2.set j (V.ref q, PyData.list (es.set b d), some q)).filterMap (·.2.2) = r.2.filterMap (·.2.2) := fm_set hj rfl
  have ad : adr (r.1, r.2.set j (V.ref q, PyData.list (es.set b d), some q)) = adr r := by
    unfold adr
    rw [fs]
  have nq : r.1 ≠ q := fun z => (List.nodup_cons.mp nr).1 (z ▸ List.mem_filterMap.mpr ⟨_, List.mem_of_getElem? hj, rfl⟩)
  refine S.re ⟨k, r, hk, qa⟩ (fun c m => at_set hk (fun c m => by rw [ad] at m; exact m) m) (nd_set S.nd hk (fun c m => .inl (by rw [ad] at m; exact m)) (by rw [ad]; exact nr)) (fun j _ => ov_set hk rfl) lt fun i x e => ?_
  rcases get_set e with ⟨_, rfl⟩ | ⟨ni, e⟩
  · have fx : Fx (MG W Rs) H (upd H q (.lst (ys.set b v))) := fx_frm (Frm.mono (frm_upd (a := q)) fun c e => e ▸ .inr ⟨k, r, hk, qa⟩)
    refine ⟨?_, fun x m => ?_⟩
    · show upd H q _ r.1 = _
      rw [upd_ne nq, (S.ok k r hk).l]
      congr 2
      show r.2.map (·.1) = (r.2.set j (V.ref q, PyData.list (es.set b d), some q)).map (·.1)
      rw [List.map_set]
      exact (set_self (by rw [List.getElem?_map, hj]; rfl)).symm
    · obtain ⟨i2, e2⟩ := List.mem_iff_getElem?.mp m
      rcases get_set e2 with ⟨_, rfl⟩ | ⟨n2, e2⟩
      · exact ⟨ys.set b v, es.set b d, rfl, upd_same, rfl, by
          have a2 := ha.frm fx
          have v2 := hv.frm fx
          exact set_all a2 b v2⟩
      · exact ((S.ok k r hk).i x (List.mem_of_getElem? e2)).bth (Bth.frm fx) fun c ec => upd_ne fun z => n2 (fm_inj (List.nodup_cons.mp nr).2 e2 hj ec (congrArg some z.symm))
  · exact S.other hk qa ni e
/-- a list of its own put in -/
theorem OwSt.putIn {r : Rt} {p : Addr} {its : List Itm} {j : Nat} (S : OwSt K o W H0 H (Rs ++ [(p, its)]) ρ σ n) (nn : ∀ x ∈ its, x.2.2 = none) (hk : Rs[k]? = some r) (lt : owLt Rs.length ρ = true) :
    OwSt K o W H0 (upd H r.1 (.lst ((r.2.map (·.1)).take j ++ [.ref p] ++ (r.2.map (·.1)).drop j))) (Rs.set k (r.1, r.2.take j ++ [(.ref p, .list (its.map (·.2.1)), some p)] ++ r.2.drop j)) ρ σ n ∧
      Bth K (MG W (Rs ++ [(p, its)])) (MG W (Rs.set k (r.1, r.2.take j ++ [(.ref p, .list (its.map (·.2.1)), some p)] ++ r.2.drop j))) H (upd H r.1 (.lst ((r.2.map (·.1)).take j ++ [.ref p] ++ (r.2.map (·.1)).drop j))) := by
  have lk := (List.getElem?_eq_some_iff.mp hk).1
  have hk1 : (Rs ++ [(p, its)])[k]? = some r := by rw [List.getElem?_append_left lk]; exact hk
  have hp1 : (Rs ++ [(p, its)])[Rs.length]? = some (p, its) := by rw [List.getElem?_append_right (Nat.le_refl _), Nat.sub_self]; rfl
  have adp : adr (p, its) = [p] := by unfold adr; rw [fm_none nn]
  have pin : p ∈ adr (p, its) := List.mem_cons_self
  have npR : ¬ AtR Rs p := fun ⟨i, x, e, m⟩ => by
    have li := (List.getElem?_eq_some_iff.mp e).1
    have q := S.nd.d i Rs.length x (p, its) p (by rw [List.getElem?_append_left li]; exact e) hp1 m pin
    omega
  have npr : p ∉ adr r := fun m => npR ⟨k, r, hk, m⟩
  have ndR : NdR Rs := ⟨fun i x e => S.nd.e i x (by rw [List.getElem?_append_left (List.getElem?_eq_some_iff.mp e).1]; exact e), fun i j a b c ea eb => S.nd.d i j a b c (by rw [List.getElem?_append_left (List.getElem?_eq_some_iff.mp ea).1]; exact ea) (by rw [List.getElem?_append_left (List.getElem?_eq_some_iff.mp eb).1]; exact eb)⟩
  have nr := S.nd.e k r hk1
  have fm : (r.2.take j ++ [((.ref p, .list (its.map (·.2.1)), some p) : Itm)] ++ r.2.drop j).filterMap (·.2.2) = (r.2.take j).filterMap (·.2.2) ++ p :: (r.2.drop j).filterMap (·.2.2) := by
    rw [List.filterMap_append, List.filterMap_append, List.append_assoc]
    rfl
  have sp : r.2.filterMap (·.2.2) = (r.2.take j).filterMap (·.2.2) ++ (r.2.drop j).filterMap (·.2.2) := by rw [← List.filterMap_append, List.take_append_drop]
  have sub : ∀ c ∈ adr (r.1, r.2.take j ++ [((.ref p, .list (its.map (·.2.1)), some p) : Itm)] ++ r.2.drop j), c ∈ adr r ∨ c = p := fun c m => by
    rcases List.mem_cons.mp m with e | m
    · exact .inl (by rw [e]; exact List.mem_cons_self)
    · have m : c ∈ (r.2.take j ++ [((.ref p, .list (its.map (·.2.1)), some p) : Itm)] ++ r.2.drop j).filterMap (·.2.2) := m
      rw [fm] at m
      rcases List.mem_append.mp m with m | m
      · exact .inl (List.mem_cons_of_mem _ (by rw [sp]; exact List.mem_append_left _ m))
      · rcases List.mem_cons.mp m with m | m
        · exact .inr m
        · exact .inl (List.mem_cons_of_mem _ (by rw [sp]; exact List.mem_append_right _ m))
  refine S.re ⟨k, r, hk1, List.mem_cons_self⟩ (fun c m => ?_) (nd_set ndR hk (fun c m => (sub c m).imp id fun e => by rw [e]; exact npR) ?_) (fun i l => (ov_set (r' := (r.1, r.2.take j ++ [((.ref p, .list (its.map (·.2.1)), some p) : Itm)] ++ r.2.drop j)) hk rfl).trans (ov_app l).symm) lt fun i x e => ?_
  · obtain ⟨i, x, e, m⟩ := m
    rcases get_set e with ⟨_, rfl⟩ | ⟨_, e⟩
    · rcases sub c m with m | m
      · exact ⟨k, r, hk1, m⟩
      · exact ⟨_, _, hp1, by rw [adp]; exact List.mem_singleton.mpr m⟩
    · exact at_left ⟨i, x, e, m⟩
  · unfold adr
    rw [fm]
    unfold adr at nr npr
    rw [sp] at nr npr
    have h1 := List.nodup_cons.mp nr
    refine List.nodup_cons.mpr ⟨fun m => ?_, ?_⟩
    · rcases List.mem_append.mp m with m | m
      · exact h1.1 (List.mem_append_left _ m)
      · rcases List.mem_cons.mp m with m | m
        · exact npr (by rw [← m]; exact List.mem_cons_self)
        · exact h1.1 (List.mem_append_right _ m)
    · refine (List.perm_middle.nodup_iff).mpr (List.nodup_cons.mpr ⟨fun m => npr (List.mem_cons_of_mem _ m), h1.2⟩)
  · rcases get_set e with ⟨_, rfl⟩ | ⟨ni, e⟩
    · have fx : ∀ {zs : List V}, Fx (MG W (Rs ++ [(p, its)])) H (upd H r.1 (.lst zs)) := fun {zs} => fx_frm (Frm.mono (frm_upd (a := r.1)) fun c e => e ▸ .inr ⟨k, r, hk1, List.mem_cons_self⟩)
      refine ⟨by rw [upd_same]; simp only [List.map_append, List.map_take, List.map_drop, List.map_cons, List.map_nil], fun x m => ?_⟩
      have old : ∀ x ∈ r.2, ItOk K (MG W (Rs ++ [(p, its)])) (upd H r.1 (.lst ((r.2.map (·.1)).take j ++ [.ref p] ++ (r.2.map (·.1)).drop j))) x := fun x m =>
        ((S.ok k r hk1).i x m).bth (Bth.frm fx) fun c ec => upd_ne fun z => (List.nodup_cons.mp nr).1 (List.mem_filterMap.mpr ⟨x, m, ec.trans (congrArg some z)⟩)
      rcases List.mem_append.mp m with m | m
      · rcases List.mem_append.mp m with m | m
        · exact old x (List.mem_of_mem_take m)
        · rw [List.mem_singleton.mp m]
          have q := S.ok _ _ hp1
          have w := its_dw (N := MG W (Rs ++ [(p, its)])) (fun c u m _ => m) q.i fun x m z ez => by rw [nn x m] at ez; cases ez
          exact ⟨its.map (·.1), its.map (·.2.1), rfl, by rw [upd_ne (show p ≠ r.1 from fun z => npr (by rw [z]; exact List.mem_cons_self))]; exact q.l, rfl, w.frm fx⟩
      · exact old x (List.mem_of_mem_drop m)
    · exact S.other hk1 List.mem_cons_self ni (by rw [List.getElem?_append_left (List.getElem?_eq_some_iff.mp e).1]; exact e)
end
section
variable {X : Cx} {e : Expr} {st : Stmt} {ss : List Stmt} {o : Option TSet}
theorem atI_natM {α : Type} {xs : List α} {j : Nat} {x : α} (h : xs[j]? = some x) : atI xs ((j : Nat) : Int) = some x := by
  have l := (List.getElem?_eq_some_iff.mp h).1
  unfold atI ixN
  rw [if_pos (by omega), if_pos (by omega)]
  exact h
theorem ixN_nat {n j : Nat} (h : j < n) : ixN n ((j : Nat) : Int) = some j := by
  unfold ixN
  rw [if_pos (by omega), if_pos (by omega)]
  rfl
/-- x[a][b] = e -/
def qSto2 (i : Nat) (t a b : TD) : TDSO := fun h ρ n Rn _ => ∃ k ds, rootN h ρ i k ds ∧ t (ρ.map (bor h)) n fun d n1 => atomD d = true ∧ a (ρ.map (bor h)) n1 fun da n2 => ∃ (x : Nat) (es : List PyData), da = .int (x : Nat) ∧ ds[x]? = some (.list es) ∧ b (ρ.map (bor h)) n2 fun db n3 =>
  ∃ y : Nat, db = .int (y : Nat) ∧ y < es.length ∧ Rn (h.set k (.n (ds.set x (.list (es.set y d))))) ρ n3
theorem os_sto2 {i : Nat} {t a b : TD} (h : PS X st (tAsg (tD X.K o t) (gSub (tOp (rIxU X.K) (tVar i) (tD X.K o a)) (tD X.K o b) rSetL))) : PS X st (tDsO X.K o (qSto2 i t a b)) := PS.imp h fun D σ H ⟨W, H0, Rs, h, ρ, n, Rn, Rr, S, hr, ⟨k, ds, ⟨hi, hk⟩, t⟩, k1, k2⟩ => by
  obtain ⟨r, hkr, ed, en⟩ := hr.at hk
  refine ⟨W, _, n, _, S.bor hr, S.g, t, fun d n1 ⟨at1, ra⟩ v H1 F1 g1 w1 => ?_⟩
  have S1 := S.frm F1 g1
  refine ⟨.ref r.1, S.at hi hkr, W, _, n1, _, S1.bor hr, g1, ra, fun da n2 ⟨x, es, ea, ex, rb⟩ va H2 F2 g2 w2 => ?_⟩
  subst ea
  cases w2
  have S2 := S1.frm F2 g2
  rw [← ed, List.getElem?_map] at ex
  cases q : r.2[x]? with
  | none => rw [q] at ex; cases ex
  | some it =>
    rw [q] at ex
    obtain ⟨v0, d0, a0⟩ := it
    have ex : d0 = .list es := Option.some.inj ex
    subst ex
    cases a0 with
    | none => exact (en _ (List.mem_of_getElem? q) rfl).elim
    | some q0 =>
      obtain ⟨ys0, ds0, h1, h2, h3, h4⟩ := (S2.ok k r hkr).i _ (List.mem_of_getElem? q)
      have h1 : v0 = .ref q0 := h1
      subst h1
      refine .inl ⟨r.1, r.2.map (·.1), (x : Nat), .ref q0, rfl, rfl, .inl (SqL.of (S2.ok k r hkr).l), atI_natM (by rw [List.getElem?_map, q]; rfl), ?_⟩
      refine ⟨W, _, n2, _, S2.bor hr, g2, rb, fun db n3 ⟨y, eb, ly, rr⟩ vb H3 F3 g3 w3 => ?_⟩
      subst eb
      cases w3
      have S3 := S2.frm F3 g3
      obtain ⟨ys, ds1, _, k2, k3, k4⟩ := (S3.ok k r hkr).i _ (List.mem_of_getElem? q)
      have k3 : PyData.list es = .list ds1 := k3
      cases k3
      refine ⟨q0, ys, (y : Nat), y, rfl, rfl, k2, ixN_nat (by rw [k4.length]; exact ly), ?_⟩
      have S4 := S3.inner (b := y) hkr q k2 k4 (atom_dw (H' := H3) w1 at1)
      refine k1 _ _ ρ n3 (hr.set k (x := .n (ds.set x (.list (es.set y d)))) (r := (r.1, r.2.set x (V.ref q0, PyData.list (es.set y d), some q0))) ⟨?_, fun z m => ?_⟩) rr σ _ ((Bth.frm (mg_fx (W.frm (W.trans F1 (W.trans F2 F3))))).trans S4.2) S4.1
      · show (r.2.set x (V.ref q0, PyData.list (es.set y d), some q0)).map (fun z : Itm => z.2.1) = _
        rw [List.map_set, ed]
      · rcases List.mem_or_eq_of_mem_set m with m | m
        · exact en z m
        · rw [m]
          exact fun z => by cases z
/-- x.insert(e, list(..)) -/
abbrev rIns : V → List V → Hp → VK → Prop := fun x vs H Q => ∃ (l : Addr) (xs : List V) (i : Int) (y : V), x = .ref l ∧ vs = [.int i, y] ∧ H l = some (.lst xs) ∧ xs.length < sizeLine ∧ 0 ≤ i ∧ i < 2 ^ 63 ∧
    Q .non (upd H l (.lst (xs.take i.toNat ++ [y] ++ xs.drop i.toNat)))
def qInsL (i : Nat) (a : TD) (t : TDA) : TDSO := fun h ρ n Rn _ => ∃ k ds, rootN h ρ i k ds ∧ owLt h.length ρ = true ∧ ds.length < 10000000 ∧ a (ρ.map (bor h)) n fun da n1 => ∃ j : Nat, da = .int (j : Nat) ∧ j < 2 ^ 62 ∧ t (ρ.map (bor h)) n1 fun es n2 =>
  (∀ e ∈ es, atomD e = true) ∧ Rn (h.set k (.n (ds.take j ++ [.list es] ++ ds.drop j))) ρ n2
theorem os_insL {i : Nat} {a : TD} {t : TDA} (h : PS X st (tDrop (tBM X.K "list" rIns (tVar i) (tCons (tD X.K o a) (tCons (tDF X.K o t) tNil))))) : PS X st (tDsO X.K o (qInsL i a t)) := PS.imp h fun D σ H ⟨W, H0, Rs, h, ρ, n, Rn, Rr, S, hr, ⟨k, ds, ⟨hi, hk⟩, lt, ll, t⟩, k1, k2⟩ => by
  obtain ⟨r, hkr, ed, en⟩ := hr.at hk
  refine ⟨.ref r.1, S.at hi hkr, .inl ⟨rfl, _, SqL.of (S.ok k r hkr).l⟩, ?_⟩
  refine ⟨W, _, n, _, S.bor hr, S.g, t, fun da n1 ⟨j, ea, lj, rt⟩ va H1 F1 g1 w1 => ?_⟩
  subst ea
  cases w1
  have S1 := S.frm F1 g1
  refine ⟨W, _, n1, _, S1.bor hr, g1, rt, fun es n2 ⟨ats, rr⟩ p xs m Hb H2 Fb gb eb F2 g2 hp da => ?_⟩
  obtain ⟨its, rfl, rfl, i3, i4⟩ := its_mk da
  have adp : adr (p, its) = [p] := by unfold adr; rw [fm_none i3]
  have sm : ∀ c ∈ adr (p, its), ∃ m Hb, W.Rel H1 Hb ∧ S1.F.G m Hb ∧ Hb c = none := fun c mc => by
    rw [adp] at mc
    rw [List.mem_singleton.mp mc]
    exact ⟨m, Hb, Fb, ⟨gb, S1.kept (W.frm Fb)⟩, eb⟩
  obtain ⟨S2, B2⟩ := S1.bornR (r := (p, its)) (H1 := H2) (n' := n2) (W.trans Fb F2) ⟨g2, S1.kept (W.frm (W.trans Fb F2))⟩ sm (by rw [adp]; simp) ⟨hp, fun x mx => it_none (i3 x mx) (atom_dw (i4 x mx) (ats _ (List.mem_map_of_mem mx)))⟩ (by rw [← hr.1]; exact lt)
  have hl : H2 r.1 = some (.lst (r.2.map (·.1))) := (S2.ok k r (by rw [List.getElem?_append_left (List.getElem?_eq_some_iff.mp hkr).1]; exact hkr)).l
  have ln : r.2.length = ds.length := by rw [← ed, List.length_map]
  refine ⟨r.1, r.2.map (·.1), (j : Nat), .ref p, rfl, rfl, hl, by rw [List.length_map, ln]; exact lt_line ll, by omega, by omega, ?_⟩
  obtain ⟨S3, B3⟩ := S2.putIn (j := j) i3 hkr (by rw [← hr.1]; exact lt)
  refine k1 _ _ ρ n2 (hr.set k (x := .n (ds.take j ++ [.list (its.map (·.2.1))] ++ ds.drop j)) (r := (r.1, r.2.take j ++ [((V.ref p, PyData.list (its.map (·.2.1)), some p) : Itm)] ++ r.2.drop j)) ⟨?_, fun z mz => ?_⟩) rr σ _ ((Bth.frm (mg_fx (W.frm F1))).trans (B2.trans B3)) S3
  · show (r.2.take j ++ [((V.ref p, PyData.list (its.map (·.2.1)), some p) : Itm)] ++ r.2.drop j).map (fun z : Itm => z.2.1) = _
    rw [List.map_append, List.map_append, List.map_take, List.map_drop, ed]
    rfl
  · rcases List.mem_append.mp mz with mz | mz
    · rcases List.mem_append.mp mz with mz | mz
      · exact en z (List.mem_of_mem_take mz)
      · rw [List.mem_singleton.mp mz]
        exact fun z => by cases z
    · exact en z (List.mem_of_mem_drop mz)
/-- a new list of new lists -/
def tDN (K : PySem.W.Frag) (o : Option TSet) (t : TDA) : TE := fun σ H Q => ∃ (W : Fld) (ρ : List DS) (n : Nat) (R : List PyData → Nat → Prop), EnvD K o W.M (W.a, W.ts, W.ov) ρ σ H ∧ W.G n H ∧ t ρ n R ∧
  ∀ ds n', R ds n' → ∀ (r : Rt) H', r.2.map (·.2.1) = ds → (∀ x ∈ r.2, x.2.2 ≠ none) → W.Rel H H' → W.G n' H' → (∀ c ∈ adr r, ∃ m Hb, W.Rel H Hb ∧ W.G m Hb ∧ Hb c = none) → (adr r).Nodup → RtOk K (fun c => W.M c ∨ c ∈ adr r) H' r → Q (.ref r.1) H'
/-- [list(..) for ..] -/
def qLcN (vs : List Nat) (f : PyData → List DS → (List DS → Prop) → Prop) (src : TDI) (tt : TDB) (te : TDA) : TDA := fun ρ n R => src ρ n fun ds n1 => ds.length ≤ 10000000 ∧ ∃ A : Nat → List PyData → Nat → Prop, A 0 [] n1 ∧
  (∀ i x acc m, ds[i]? = some x → A i acc m → f x (wipeD ρ vs) fun ρ' => tt ρ' m fun b m' => if b = true then te ρ' m' fun es m'' => A (i + 1) (acc ++ [.list es]) m'' else A (i + 1) acc m') ∧
  ∀ acc m, A ds.length acc m → acc.length ≤ ds.length → R acc m
theorem dn_over {vs0 : List Nat} {g : TG} {f} {src : TDI} {tt : TDB} {te : TDA} (hf : GFit X.K vs0 g f) : ∀ {σ H Q}, tDN X.K o (qLcN vs0 f src tt te) σ H Q → tLc (tDI X.K o src) g (tDB X.K o tt) (tDF X.K o te) vs0 σ H Q := fun {σ H Q} ⟨W, ρ, n, R, E, gg, t, k⟩ =>
  ⟨W, ρ, n, _, E, gg, t, fun ds n1 ⟨hlen, A, h0, hs, hd⟩ J H1 F1 g1 ⟨P, vs, wk, da, hP⟩ D hD => by
    have ln := da.length
    have E1 := E.frm (W.frm F1)
    refine ⟨fun i m H' => m = ds.length - i ∧ i ≤ ds.length ∧ ∃ (l : List Itm) (c : Nat), A i (l.map (·.2.1)) c ∧ (∀ x ∈ l, x.2.2 ≠ none) ∧ l.length ≤ i ∧ W.G c H' ∧ W.Rel H1 H' ∧ (∀ q ∈ adr (D, l), ∃ m Hb, W.Rel H1 Hb ∧ W.G m Hb ∧ Hb q = none) ∧ (adr (D, l)).Nodup ∧ RtOk X.K (fun c => W.M c ∨ c ∈ adr (D, l)) H' (D, l),
      ⟨_, rfl, Nat.zero_le _, [], n1, h0, (fun x m => by cases m), Nat.le_refl _, W.updG g1 hD g1 (fun u e => by rw [hD] at e; cases e), W.updR W.refl hD, (fun q mq => by rw [List.mem_singleton.mp mq]; exact ⟨n1, H1, W.refl, g1, hD⟩), (by unfold adr; simp), ⟨upd_same, fun x m => by cases m⟩⟩, ?_⟩
    rintro i m H' ⟨rfl, hi, l, c, inv, en, ll, g', F', bn, nd, ok⟩
    have w := wk i H' (hP _ (W.frm F'))
    have nM : ∀ q ∈ adr (D, l), ¬ W.M q := fun q mq z => by
      obtain ⟨m, Hb, Fb, gb, eb⟩ := bn q mq
      obtain ⟨u, e, _⟩ := W.al gb z
      rw [e] at eb
      cases eb
    have B1 : Bth X.K W.M (fun c => W.M c ∨ c ∈ adr (D, l)) H1 H' := bth_of (W.frm F') fun c u m e t => m.elim id fun mq => by
      obtain ⟨m, Hb, Fb, gb, eb⟩ := bn c mq
      rw [W.frm Fb c u (nM c mq) e t] at eb
      cases eb
    by_cases hlt : i < ds.length
    · refine .inr ⟨w.1 (by omega), fun H2 => i + 1 ≤ ds.length ∧ ∃ (l : List Itm) (c : Nat), A (i + 1) (l.map (·.2.1)) c ∧ (∀ x ∈ l, x.2.2 ≠ none) ∧ l.length ≤ i + 1 ∧ W.G c H2 ∧ W.Rel H1 H2 ∧ (∀ q ∈ adr (D, l), ∃ m Hb, W.Rel H1 Hb ∧ W.G m Hb ∧ Hb q = none) ∧ (adr (D, l)).Nodup ∧ RtOk X.K (fun c => W.M c ∨ c ∈ adr (D, l)) H2 (D, l), fun H2 q => ⟨_, by omega, rfl, q⟩, fun x H2 y => ?_⟩
      obtain ⟨e2, y2⟩ := w.2.2 x H2 y
      subst e2
      obtain ⟨d, hd1, hd2⟩ := da.get (y2 (by omega))
      have hp : ∀ c, c ∈ adr (D, l) → ∃ xs, H2 c = some (.lst xs) := fun c m => ok.pl m
      refine hf o _ (W.a, W.ts, W.ov) _ x d (wipeD ρ vs0) (wipe σ vs0) _ _ (Dw.bthR B1 _ _ hd2) ((E1.bth B1).wipe vs0) (hs i d _ c hd1 inv) fun ρ2 r2 σ2 E2 ew => ⟨by rw [ew]; exact wipe_wipe σ vs0, ?_⟩
      refine ⟨ownF W (· ∈ adr (D, l)) H2 W.ov hp nM, ρ2, c, _, E2, ⟨g', fun _ _ => rfl⟩, r2, fun b m3 r3 H3 F3 g3 => ?_⟩
      have fr : ∀ {Ha Hb}, W.Rel Ha Hb → Fx (fun c => W.M c ∨ c ∈ adr (D, l)) Ha Hb := fun F => (W.frm F).mono fun c m => .inl m
      cases b with
      | false => exact ⟨hlt, l, m3, r3, en, Nat.le_succ_of_le ll, g3.1, W.trans F' F3, bn, nd, ok.bth (Bth.frm (fr F3)) g3.2⟩
      | true =>
        refine ⟨ownF W (· ∈ adr (D, l)) H2 W.ov hp nM, ρ2, m3, _, E2.frm (fr F3), g3, r3, fun es m4 r4 p xs mb Hb H4 Fb gb eb F4 g4 hpl dl => ?_⟩
        have kD : H4 D = some (.lst (l.map (·.1))) := by rw [g4.2 D List.mem_cons_self]; exact ok.l
        refine ⟨l.map (·.1), kD, by rw [List.length_map, sizeLine_eq]; omega, hlt, l ++ [(.ref p, .list es, some p)], m4, ?_, fun x mx => ?_, by rw [List.length_append]; exact Nat.succ_le_succ ll, ?_, ?_, fun q mq => ?_, ?_, ?_⟩
        · rw [List.map_append]; exact r4
        · rcases List.mem_append.mp mx with mx | mx
          · exact en x mx
          · rw [List.mem_singleton.mp mx]; exact fun z => by cases z
        · exact W.updG g1 hD g4.1 (fun u e => by rw [kD] at e; cases e; trivial)
        · exact W.updR (W.trans F' (W.trans F3 (W.trans Fb F4))) hD
        all_goals have ad : adr (D, l ++ [((V.ref p, PyData.list es, some p) : Itm)]) = adr (D, l) ++ [p] := by
                    unfold adr
                    rw [List.filterMap_append]
                    rfl
        · rw [ad] at mq
          rcases List.mem_append.mp mq with mq | mq
          · exact bn q mq
          · rw [List.mem_singleton.mp mq]
            exact ⟨mb, Hb, W.trans F' (W.trans F3 Fb), gb.1, eb⟩
        · have np : p ∉ adr (D, l) := fun mq => by
            obtain ⟨zs, ez⟩ := hp p mq
            rw [gb.2 p mq, ez] at eb
            cases eb
          rw [ad]
          exact List.nodup_append.mpr ⟨nd, by simp, fun a ma b mb z => np (by rw [← List.mem_singleton.mp mb, ← z]; exact ma)⟩
        · have np : p ∉ adr (D, l) := fun mq => by
            obtain ⟨zs, ez⟩ := hp p mq
            rw [gb.2 p mq, ez] at eb
            cases eb
          have npM : ¬ W.M p := fun z => by
            obtain ⟨u, e, _⟩ := W.al gb.1 z
            rw [e] at eb
            cases eb
          rw [ad]
          have B4 : Bth X.K (fun c => W.M c ∨ c ∈ adr (D, l)) (fun c => W.M c ∨ c ∈ adr (D, l) ++ [p]) H2 H4 := bth_of (fr (W.trans F3 (W.trans Fb F4))) fun c u m e t => m.elim .inl fun mq => (List.mem_append.mp mq).elim .inr fun mq => by
            have e0 := List.mem_singleton.mp mq
            rw [e0] at e
            rw [fr (W.trans F3 Fb) p u (fun z => z.elim npM np) e t] at eb
            cases eb
          have fD : Fx (fun c => W.M c ∨ c ∈ adr (D, l) ++ [p]) H4 (upd H4 D (.lst (l.map (·.1) ++ [V.ref p]))) := fx_frm (Frm.mono (frm_upd (a := D)) fun c e => e ▸ .inr (List.mem_append_left _ List.mem_cons_self))
          have nD := List.nodup_cons.mp nd
          refine ⟨by rw [upd_same, List.map_append]; rfl, fun x mx => ?_⟩
          rcases List.mem_append.mp mx with mx | mx
          · exact ((ok.i x mx).bth B4 fun q e => g4.2 q (it_mem (r := (D, l)) mx e)).bth (Bth.frm fD) fun q e => upd_ne fun z => nD.1 (z ▸ List.mem_filterMap.mpr ⟨x, mx, e⟩)
          · rw [List.mem_singleton.mp mx]
            refine ⟨xs, es, rfl, by rw [upd_ne (show p ≠ D from fun z => np (by rw [z]; exact List.mem_cons_self))]; exact hpl, rfl, (dl.more fun c u m _ => ?_).frm fD⟩
            rcases m with m | m
            · exact .inl (.inl m)
            · rcases List.mem_append.mp m with m | m
              · exact .inl (.inr m)
              · exact .inr (List.mem_singleton.mp m)
    · have e : i = ds.length := by omega
      subst e
      exact .inl ⟨w.2.1 (by omega), k _ c (hd _ c inv (by rw [List.length_map]; omega)) (D, l) H' rfl en (W.trans F1 F') g' (fun q mq => (bn q mq).imp fun m ⟨Hb, Fb, z⟩ => ⟨Hb, W.trans F1 Fb, z⟩) nd ok⟩⟩
theorem dn_lc {vs0 : List Nat} {g : TG} {f} {src : TDI} {tt : TDB} {te : TDA} (hf : GFit X.K vs0 g f) (h : PE X e (tLc (tDI X.K o src) g (tDB X.K o tt) (tDF X.K o te) vs0)) : PE X e (tDN X.K o (qLcN vs0 f src tt te)) := PE.imp h fun σ H Q q => dn_over hf q
/-- x, y, z = a new list, e, e -/
def qPar3R (own : Bool) (i j l : Nat) (t : TDA) (u w : TD) : TDSO := fun h ρ n Rn _ => owLt h.length ρ = true ∧ t ρ n fun ds n1 => u ρ n1 fun d n2 => w ρ n2 fun e n3 => Rn (h ++ [if own = true then .n ds else .f ds]) (((ρ.set i (.ow h.length)).set j (.d d)).set l (.d e)) n3
theorem os_par3R {i j l : Nat} {t : TDA} {u w : TD} (h : PS X st (tPar3 i j l (tCons (tDR X.K o t) (tCons (tD X.K o u) (tCons (tD X.K o w) tNil))))) : PS X st (tDsO X.K o (qPar3R false i j l t u w)) := PS.imp h fun D σ H ⟨W, H0, Rs, h, ρ, n, Rn, Rr, S, hr, ⟨lt, t⟩, k1, k2⟩ => by
  refine ⟨S.F, ρ, n, _, S.env, S.G, t, fun ds n1 r1 r H1 ed F1 g1 b nd ok => ?_⟩
  rw [hr.1] at lt
  obtain ⟨S1, B1⟩ := S.bornR F1 g1 b nd ok lt
  refine ⟨S1.F, ρ, n1, _, S1.env, S1.G, r1, fun d n2 r2 v2 H2 F2 g2 w2 => ?_⟩
  have S2 := S1.step F2 g2 (S1.env.frm (mg_fx (W.frm F2)))
  refine ⟨S2.F, ρ, n2, _, S2.env, S2.G, r2, fun e n3 r3 v3 H3 F3 g3 w3 => ?_⟩
  have S3 := S2.step F3 g3 (S2.env.frm (mg_fx (W.frm F3)))
  refine ⟨_, _, _, rfl, ?_⟩
  have E := ((S3.env.put i (s := .ow Rs.length) (u := some (.ref r.1)) (by
    show some (V.ref r.1) = some (ovR (Rs ++ [r]) Rs.length)
    rw [ov_last])).set j (w2.frm (mg_fx (W.frm F3)))).set l w3
  rw [hr.1] at r3
  exact k1 (Rs ++ [r]) _ _ n3 (hr.app (show HR (.f ds) r from ed)) r3 _ H3 (B1.trans (Bth.frm (mg_fx (W.frm (W.trans F2 F3))))) ⟨E, S3.g, S3.rel, S3.nd, S3.out, S3.ok⟩
theorem os_par3N {i j l : Nat} {t : TDA} {u w : TD} (h : PS X st (tPar3 i j l (tCons (tDN X.K o t) (tCons (tD X.K o u) (tCons (tD X.K o w) tNil))))) : PS X st (tDsO X.K o (qPar3R true i j l t u w)) := PS.imp h fun D σ H ⟨W, H0, Rs, h, ρ, n, Rn, Rr, S, hr, ⟨lt, t⟩, k1, k2⟩ => by
  refine ⟨S.F, ρ, n, _, S.env, S.G, t, fun ds n1 r1 r H1 ed en F1 g1 b nd ok => ?_⟩
  rw [hr.1] at lt
  obtain ⟨S1, B1⟩ := S.bornR F1 g1 b nd ok lt
  refine ⟨S1.F, ρ, n1, _, S1.env, S1.G, r1, fun d n2 r2 v2 H2 F2 g2 w2 => ?_⟩
  have S2 := S1.step F2 g2 (S1.env.frm (mg_fx (W.frm F2)))
  refine ⟨S2.F, ρ, n2, _, S2.env, S2.G, r2, fun e n3 r3 v3 H3 F3 g3 w3 => ?_⟩
  have S3 := S2.step F3 g3 (S2.env.frm (mg_fx (W.frm F3)))
  refine ⟨_, _, _, rfl, ?_⟩
  have E := ((S3.env.put i (s := .ow Rs.length) (u := some (.ref r.1)) (by
    show some (V.ref r.1) = some (ovR (Rs ++ [r]) Rs.length)
    rw [ov_last])).set j (w2.frm (mg_fx (W.frm F3)))).set l w3
  rw [hr.1] at r3
  exact k1 (Rs ++ [r]) _ _ n3 (hr.app (show HR (.n ds) r from ⟨ed, en⟩)) r3 _ H3 (B1.trans (Bth.frm (mg_fx (W.frm (W.trans F2 F3))))) ⟨E, S3.g, S3.rel, S3.nd, S3.out, S3.ok⟩
end
end MT
set_option maxHeartbeats 1000000
/-! quotients, four targets, any of integers, a loop over enumerate, a comprehension with two fors -/
namespace MT
open PySem L2
section
variable {K : PySem.W.Frag}
def fDiv : PyData → PyData → (PyData → Prop) → Prop
  | .int i, .int j, R => CDiv i j ∧ R (.int (i / j))
  | _, _, _ => False
theorem fit_fdiv : FitR K (rI CDiv fun i j => .int (i / j)) fDiv := by
  intro dx dy R M H x y Q al wx wy f k
  cases wx <;> first | exact f.elim | skip
  cases wy <;> first | exact f.elim | skip
  exact ⟨_, _, rfl, rfl, f.1, k _ f.2 _ _ (Same.refl _) (.int _)⟩
theorem fit_quad {i j k l : Nat} : GFit K [i, j, k, l] (gTup K 4 (gCons (gName i) (gCons (gName j) (gCons (gName k) (gCons (gName l) gNil))))) (fun d ρ R => ∃ x y z w, d = .tuple [x, y, z, w] ∧ R ((((ρ.set i (DS.d x)).set j (DS.d y)).set k (DS.d z)).set l (DS.d w))) := fun o M a H v d ρ σ R Q w E ⟨x, y, z, u, e, r⟩ k' => by
  subst e
  cases w with
  | tup s w =>
    cases w with
    | cons wa wb =>
      cases wb with
      | cons wc wd =>
        cases wd with
        | cons we wf =>
          cases wf with
          | cons wg wh =>
            cases wh
            exact ⟨_, _, rfl, s.at, rfl, _, _, rfl, _, _, rfl, _, _, rfl, _, _, rfl, rfl, k' _ r _ ((((E.set i wa).set j wc).set k we).set l wg) (by rw [wipe_set (by simp), wipe_set (by simp), wipe_set (by simp), wipe_set (by simp)])⟩
theorem fit_nameW {i : Nat} {vs : List Nat} (h : i ∈ vs) : GFit K vs (gName i) (fName i) := fun o M a H v d ρ σ R Q w E f k => k _ f _ (E.set i w) (wipe_set h)
theorem ints_dw {M : Addr → Prop} {H : Hp} : ∀ {vs : List V} {ns : List Int}, DwAll K M H vs (ns.map PyData.int) → vs = ns.map V.int
  | _, [], h => by cases h; rfl
  | _, n :: ns, h => by
    cases h with
    | cons a r => cases a; rw [ints_dw r]; rfl
def fAnyI (ds : List PyData) (R : PyData → Prop) : Prop := ∃ ns : List Int, ds = [.list (ns.map PyData.int)] ∧ R (.bool (ns.any (· != 0)))
theorem fit_anyI : FitC K (fun vs H Q => ∃ (a : Addr) (ns : List Int), vs = [.ref a] ∧ SqL K H a (ns.map V.int) ∧ Q (.bl (ns.any (· != 0))) H) fAnyI := by
  intro ds R M H vs Q al w f k
  obtain ⟨ns, rfl, r⟩ := f
  cases w with
  | cons a b =>
    cases b
    cases a with
    | lst s a =>
      have e := ints_dw a
      subst e
      exact ⟨_, ns, rfl, s.at, k _ r _ _ (Same.refl _) (.bl _)⟩
end
section
variable {X : Cx} {e : Expr} {st : Stmt} {o : Option TSet}
/-- for i, x in enumerate(e) -/
def qForE (f : PyData → List DS → (List DS → Prop) → Prop) (t : TD) (tb : TDS) : TDS := fun ρ n Rn Rr => t ρ n fun d n1 => ∃ ds, seqD d = some ds ∧ ∃ I : Nat → List DS → Nat → Prop, I 0 ρ n1 ∧
  (∀ i x ρ' m, ds[i]? = some x → I i ρ' m → f (.tuple [.int (i : Nat), x]) ρ' fun ρ2 => tb ρ2 m (fun ρ'' m' => I (i + 1) ρ'' m') Rr) ∧ ∀ ρ' m, I ds.length ρ' m → Rn ρ' m
theorem forE_core {vs0 : List Nat} {g : TG} {f} {tb : TDS} (hf : GFit X.K vs0 g f) {D : Ends} {σ : L2.St} {H H1 : Hp} {W : Fld} {ρ : List DS} {n1 : Nat} {Rn : List DS → Nat → Prop} {Rr : QD} {ds : List PyData} {J : It} {P : Hp → Prop} {vs : List V}
    (E : EnvD X.K o W.M (W.a, W.ts, W.ov) ρ σ H1) (g1 : W.G n1 H1) (F1 : W.Rel H H1) {I : Nat → List DS → Nat → Prop} (h0 : I 0 ρ n1)
    (hs : ∀ i x ρ' m, ds[i]? = some x → I i ρ' m → f (.tuple [.int (i : Nat), x]) ρ' fun ρ2 => tb ρ2 m (fun ρ'' m' => I (i + 1) ρ'' m') Rr) (hd : ∀ ρ' m, I ds.length ρ' m → Rn ρ' m)
    (k1 : ∀ ρ' n', Rn ρ' n' → ∀ σ' H', W.Rel H H' → W.G n' H' → EnvD X.K o W.M (W.a, W.ts, W.ov) ρ' σ' H' → D.nx σ' H') (k2 : ∀ d n', Rr d n' → ∀ v H', W.Rel H H' → W.G n' H' → Dw X.K W.M H' v d → D.rt v H')
    (wk : WlkE J P vs) (da : DwAll X.K W.M H1 vs ds) (hP : ∀ H'', Fx W.M H1 H'' → P H'') :
    ∃ Wn : Nat → Nat → L2.St → Hp → Prop, (∃ m, Wn 0 m σ H1) ∧ ∀ i m σ' H', Wn i m σ' H' → (J.stop i H' ∧ D.nx σ' H') ∨ (J.go i H' ∧ ∃ Nx : L2.St → Hp → Prop, (∀ σ2 H2, Nx σ2 H2 → ∃ m', m' < m ∧ Wn (i + 1) m' σ2 H2) ∧ ∀ x H2, J.yld i H' x H2 → g x σ' H2 fun σ2 H3 => (tDs X.K o tb) { nx := Nx, rt := D.rt } σ2 H3) := by
  have ln := da.length
  refine ⟨fun i m σ' H' => m = ds.length - i ∧ i ≤ ds.length ∧ ∃ ρ' c, I i ρ' c ∧ EnvD X.K o W.M (W.a, W.ts, W.ov) ρ' σ' H' ∧ W.G c H' ∧ W.Rel H1 H', ⟨_, rfl, Nat.zero_le _, ρ, n1, h0, E, g1, W.refl⟩, ?_⟩
  rintro i m σ' H' ⟨rfl, hi, ρ', c, inv, E', g', F'⟩
  have w := wk i H' (hP _ (W.frm F'))
  by_cases hlt : i < ds.length
  · refine .inr ⟨w.1 (by omega), fun σ2 H2 => i + 1 ≤ ds.length ∧ ∃ ρ' c, I (i + 1) ρ' c ∧ EnvD X.K o W.M (W.a, W.ts, W.ov) ρ' σ2 H2 ∧ W.G c H2 ∧ W.Rel H1 H2, fun σ2 H2 q => ⟨_, by omega, rfl, q⟩, fun x H2 y => ?_⟩
    obtain ⟨T, xv, rfl, hT, rfl, y2⟩ := w.2.2 x H2 y
    obtain ⟨d, hd1, hd2⟩ := da.get (y2 (by omega))
    have nT := New.mk' (o := .tup [.int (i : Nat), xv]) hT
    have sT := nT.1
    have F2 := W.trans F' (W.of sT)
    have wT : Dw X.K W.M (upd H' T (.tup [.int (i : Nat), xv])) (.ref T) (.tuple [.int (i : Nat), d]) := .tup (.inl ⟨W.new g' nT, nT.2.1⟩) (.cons (.int _) (.cons ((hd2.frm (W.frm F')).same sT) .nil))
    refine hf o W.M (W.a, W.ts, W.ov) _ _ _ ρ' σ' _ _ wT (E'.frm (fx_same sT)) (hs i d ρ' c hd1 inv) fun ρ2 r2 σ2 E2 _ => ?_
    exact ⟨W, ρ2, c, _, Rr, E2, W.same g' sT, r2, fun ρ3 m3 r3 σ3 H3 F3 g3 E3 => ⟨hlt, ρ3, m3, r3, E3, g3, W.trans F2 F3⟩, fun d3 m3 r3 v3 H3 F3 g3 w3 => k2 d3 m3 r3 v3 H3 (W.trans F1 (W.trans F2 F3)) g3 w3⟩
  · have e : i = ds.length := by omega
    subst e
    exact .inl ⟨w.2.1 (by omega), k1 ρ' c (hd ρ' c inv) σ' H' (W.trans F1 F') g' E'⟩
theorem ds_forE {vs0 : List Nat} {g : TG} {f} {t : TD} {tb : TDS} (hf : GFit X.K vs0 g f) (h : PS X st (tFor (iEnumU X.K (tD X.K o t)) g (tDs X.K o tb))) : PS X st (tDs X.K o (qForE f t tb)) := PS.imp h fun D σ H ⟨W, ρ, n, Rn, Rr, E, gg, t, k1, k2⟩ =>
  ⟨W, ρ, n, _, E, gg, t, fun d n1 ⟨ds, ed, I, h0, hs, hd⟩ v H1 F1 g1 w => by
    cases w with
    | lst s a =>
      cases ed
      exact .inl ⟨_, _, rfl, s.at, forE_core hf (E.frm (W.frm F1)) g1 F1 h0 hs hd k1 k2 wlkE_list a fun H2 F2 => (s.frm F2).at⟩
    | tup s a =>
      cases ed
      exact .inr ⟨_, _, rfl, s.at, forE_core hf (E.frm (W.frm F1)) g1 F1 h0 hs hd k1 k2 wlkE_tup a fun H2 F2 => (s.frm F2).at⟩
    | _ => cases ed⟩
theorem oss_old {ss : List Stmt} {t : TDS} (h : PSs X ss (tDs X.K o t)) : PSs X ss (tDsO X.K o (qOld t)) := PSs.imp h fun D σ H ⟨W, H0, Rs, h, ρ, n, Rn, Rr, S, hr, t, k1, k2⟩ =>
  ⟨S.F, ρ, n, Rn h, Rr, S.env, S.G, t, fun ρ' n' r σ' H' F g E => k1 Rs h ρ' n' hr r σ' H' (Bth.frm (mg_fx (W.frm F))) (S.step F g E), fun d n' r v H' F g w => k2 d n' r v H' (W.trans S.rel F) g.1 (w.more fun c u m _ => .inl m)⟩
/-! ### [.. for .. for ..] -/
def qLc2 (vs vs1 : List Nat) (f f1 : PyData → List DS → (List DS → Prop) → Prop) (src src1 : TDI) (te : TD) : TD := fun ρ n R => src ρ n fun ds n1 => ∃ A : Nat → List PyData → Nat → Prop, A 0 [] n1 ∧
  (∀ i x acc m, ds[i]? = some x → A i acc m → f x (wipeD ρ vs) fun ρ' => src1 ρ' m fun es m1 => ∃ B : Nat → List PyData → Nat → Prop, B 0 acc m1 ∧
    (∀ j y acc' m', es[j]? = some y → B j acc' m' → acc'.length < 10000000 ∧ f1 y (wipeD ρ' vs1) fun ρ'' => te ρ'' m' fun z m'' => B (j + 1) (acc' ++ [z]) m'') ∧ ∀ acc' m', B es.length acc' m' → A (i + 1) acc' m') ∧
  ∀ acc m, A ds.length acc m → R (.list acc) m
theorem lc2_over {K : PySem.W.Frag} {vs0 vs1 : List Nat} {g g1 : TG} {f f1} {src src1 : TDI} {te : TD} (hf : GFit K vs0 g f) (hf1 : GFit K vs1 g1 f1) {σ : L2.St} {H : Hp} {Q : VK} : tD K o (qLc2 vs0 vs1 f f1 src src1 te) σ H Q →
    tLc2 (tDI K o src) g (tDB K o qYes) (tDI K o src1) g1 (tDB K o qYes) (tD K o te) vs0 vs1 σ H Q := fun ⟨W, ρ, n, R, E, gg, t, k⟩ =>
  ⟨W, ρ, n, _, E, gg, t, fun ds n1 ⟨A, h0, hs, hd⟩ J H1 F1 g1' ⟨P, vs, wk, da, hP⟩ D hD => by
    have ln := da.length
    have nD : ¬ W.M D := fun m => by
      obtain ⟨ob, q, _⟩ := W.al g1' m
      rw [hD] at q
      cases q
    have EM : EnvD K o (fun c => W.M c ∨ c = D) (W.a, W.ts, W.ov) ρ σ H1 := (E.frm (W.frm F1)).more fun c o m q => m.elim id fun e => by rw [e, hD] at q; cases q
    have DM : DwAll K (fun c => W.M c ∨ c = D) H1 vs ds := da.more fun c o m q => m.elim id fun e => by rw [e, hD] at q; cases q
    refine ⟨fun i m H' => m = ds.length - i ∧ i ≤ ds.length ∧ ∃ acc av c, A i acc c ∧ H' D = some (.lst av) ∧ DwAll K (fun c => W.M c ∨ c = D) H' av acc ∧ W.G c H' ∧ W.Rel H1 H',
      ⟨_, rfl, Nat.zero_le _, [], [], n1, h0, upd_same, .nil, W.updG g1' hD g1' (fun u e => by rw [hD] at e; cases e), W.updR W.refl hD⟩, ?_⟩
    rintro i m H' ⟨rfl, hi, acc, av, c, inv, hDa, hav, g', F'⟩
    have w := wk i H' (hP _ (W.frm F'))
    have FM : Fx (fun c => W.M c ∨ c = D) H1 H' := (W.frm F').mono fun c e => .inl e
    by_cases hlt : i < ds.length
    · refine .inr ⟨w.1 (by omega), fun H2 => i + 1 ≤ ds.length ∧ ∃ acc av c, A (i + 1) acc c ∧ H2 D = some (.lst av) ∧ DwAll K (fun c => W.M c ∨ c = D) H2 av acc ∧ W.G c H2 ∧ W.Rel H1 H2, fun H2 q => ⟨_, by omega, rfl, q⟩, fun x H2 y => ?_⟩
      obtain ⟨e2, y2⟩ := w.2.2 x H2 y
      subst e2
      obtain ⟨d, hd1, hd2⟩ := DM.get (y2 (by omega))
      refine hf o _ (W.a, W.ts, W.ov) _ x d (wipeD ρ vs0) (wipe σ vs0) _ _ (hd2.frm FM) ((EM.frm FM).wipe vs0) (hs i d acc c hd1 inv) fun ρ2 r2 σ2 E2 ew => ⟨by rw [ew]; exact wipe_wipe σ vs0, ?_⟩
      refine ⟨W.plus D (.lst av) (fun _ z => by cases z) nD, ρ2, c, fun b m => b = true ∧ m = c, E2, ⟨g', hDa⟩, ⟨rfl, rfl⟩, fun b m3 ⟨eb, em⟩ H3 F3 g3 => ?_⟩
      subst eb em
      rw [if_pos rfl]
      have E3 := E2.frm ((W.plus D (.lst av) (fun _ z => by cases z) nD).frm F3)
      have hav3 := hav.frm ((W.plus D (.lst av) (fun _ z => by cases z) nD).frm F3)
      refine ⟨W.plus D (.lst av) (fun _ z => by cases z) nD, ρ2, _, _, E3, g3, r2, fun es n4 ⟨B, b0, bs, bd⟩ J1 H4 F4 g4 ⟨P1, vs4, wk1, da1, hP1⟩ => ?_⟩
      have ln1 := da1.length
      have E4 := E3.frm ((W.plus D (.lst av) (fun _ z => by cases z) nD).frm F4)
      have hav4 := hav3.frm ((W.plus D (.lst av) (fun _ z => by cases z) nD).frm F4)
      have F14 := W.trans F' (W.trans F3 F4)
      refine ⟨fun j m H5 => m = es.length - j ∧ j ≤ es.length ∧ ∃ acc av c, B j acc c ∧ H5 D = some (.lst av) ∧ DwAll K (fun c => W.M c ∨ c = D) H5 av acc ∧ W.G c H5 ∧ W.Rel H1 H5 ∧ Fx (fun c => W.M c ∨ c = D) H4 H5, ⟨_, rfl, Nat.zero_le _, acc, av, n4, b0, g4.2, hav4, g4.1, F14, Fx.refl⟩, ?_⟩
      rintro j m H5 ⟨rfl, hj, acc5, av5, c5, inv5, hD5, hav5, g5, F5, X5⟩
      have w1 := wk1 j H5 (hP1 _ X5)
      by_cases hlt1 : j < es.length
      · refine .inr ⟨w1.1 (by omega), fun H6 => j + 1 ≤ es.length ∧ ∃ acc av c, B (j + 1) acc c ∧ H6 D = some (.lst av) ∧ DwAll K (fun c => W.M c ∨ c = D) H6 av acc ∧ W.G c H6 ∧ W.Rel H1 H6 ∧ Fx (fun c => W.M c ∨ c = D) H4 H6, fun H6 q => ⟨_, by omega, rfl, q⟩, fun x1 H6 y1 => ?_⟩
        obtain ⟨e6, y6⟩ := w1.2.2 x1 H6 y1
        subst e6
        obtain ⟨d6, hd6, hdd6⟩ := da1.get (y6 (by omega))
        obtain ⟨la, r6⟩ := bs j d6 acc5 c5 hd6 inv5
        refine hf1 o _ (W.a, W.ts, W.ov) _ x1 d6 (wipeD ρ2 vs1) (wipe σ2 vs1) _ _ (hdd6.frm X5) ((E4.frm X5).wipe vs1) r6 fun ρ7 r7 σ7 E7 ew7 => ⟨by rw [ew7]; exact wipe_wipe σ2 vs1, ?_⟩
        refine ⟨W.plus D (.lst av5) (fun _ z => by cases z) nD, ρ7, c5, fun b m => b = true ∧ m = c5, E7, ⟨g5, hD5⟩, ⟨rfl, rfl⟩, fun b m8 ⟨eb8, em8⟩ H8 F8 g8 => ?_⟩
        subst eb8 em8
        rw [if_pos rfl]
        have fr : ∀ {Ha Hb}, W.Rel Ha Hb → Fx (fun c => W.M c ∨ c = D) Ha Hb := fun F => (W.frm F).mono fun c m => .inl m
        refine ⟨W.plus D (.lst av5) (fun _ z => by cases z) nD, ρ7, _, _, E7.frm (fr F8), g8, r7, fun z m9 r9 v9 H9 F9 g9 w9 => ⟨av5, g9.2, ?_, hlt1, acc5 ++ [z], av5 ++ [v9], m9, r9, upd_same, ?_, W.updG g1' hD g9.1 (fun u e => by rw [g9.2] at e; cases e; trivial), W.updR (W.trans F5 (W.trans F8 F9)) hD, ?_⟩⟩
        · rw [hav5.length]; exact lt_line la
        · exact ((hav5.frm (fr (W.trans F8 F9))).append (.cons w9 .nil)).frm (fx_frm (Frm.mono (frm_upd (a := D)) fun c e => .inr e))
        · exact (X5.trans (fr (W.trans F8 F9))).trans (fx_frm (Frm.mono (frm_upd (a := D)) fun c e => .inr e))
      · have e : j = es.length := by omega
        subst e
        exact .inl ⟨w1.2.1 (by omega), hlt, acc5, av5, c5, bd acc5 c5 inv5, hD5, hav5, g5, F5⟩
    · have e : i = ds.length := by omega
      subst e
      exact .inl ⟨w.2.1 (by omega), k _ c (hd acc c inv) _ H' (W.trans F1 F') g' (.lst ⟨nD, hDa⟩ (hav.more fun c o m _ => .inl m))⟩⟩
theorem de_lc2 {vs0 vs1 : List Nat} {g g1 : TG} {f f1} {src src1 : TDI} {te : TD} (hf : GFit X.K vs0 g f) (hf1 : GFit X.K vs1 g1 f1) (h : PE X e (tLc2 (tDI X.K o src) g (tDB X.K o qYes) (tDI X.K o src1) g1 (tDB X.K o qYes) (tD X.K o te) vs0 vs1)) : PE X e (tD X.K o (qLc2 vs0 vs1 f f1 src src1 te)) := PE.imp h fun _ _ _ => lc2_over hf hf1
theorem ds_setLc2 {vs0 vs1 : List Nat} {g g1 : TG} {f f1} {src src1 : TDI} {te : TD} {i : Nat} (hf : GFit X.K vs0 g f) (hf1 : GFit X.K vs1 g1 f1) (h : PS X st (tAsg (tLc2 (tDI X.K o src) g (tDB X.K o qYes) (tDI X.K o src1) g1 (tDB X.K o qYes) (tD X.K o te) vs0 vs1) (gName i))) : PS X st (tDs X.K o (qSet i (qLc2 vs0 vs1 f f1 src src1 te))) := PS.imp h fun D σ H ⟨W, ρ, n, Rn, Rr, E, g, t, k1, k2⟩ =>
  lc2_over hf hf1 ⟨W, ρ, n, _, E, g, t, fun d n1 r v H1 F1 g1 w => k1 _ n1 r _ H1 F1 g1 ((E.frm (W.frm F1)).set i w)⟩
end
end MT
set_option maxHeartbeats 1000000
/-! a def that draws and makes lambdas; powers; what a caught error's class is asked for -/
namespace MT
open PySem L2 LamX
section
variable {K : PySem.W.Frag}
def fPow : PyData → PyData → (PyData → Prop) → Prop
  | .int i, .int j, R => CPow i j ∧ R (.int (i ^ j.toNat))
  | _, _, _ => False
theorem fit_pow : FitR K (fun x y H Q => ∃ i j, x = .int i ∧ y = .int j ∧ CPow i j ∧ ∀ z, z = i ^ j.toNat → Q (.int z) H) fPow := by
  intro dx dy R M H x y Q al wx wy f k
  cases wx <;> first | exact f.elim | skip
  cases wy <;> first | exact f.elim | skip
  exact ⟨_, _, rfl, rfl, f.1, fun z e => k _ f.2 _ _ (Same.refl _) (by rw [e]; exact .int _)⟩
/-- draws from a, makes lambdas in the tables of TS -/
def lawFM (M : Addr → Prop) (a b : Addr) (cs : List Int) (TS : TSet) (hM : M a) : Fld where
  M := M
  G := fun n H => (Sx a b cs n H ∧ Tabs TS H) ∧ Al M H
  Rel := Fx (· = a)
  a := some a
  ts := some TS
  ov := noV
  born := fun x g e H' u x' b w n q z => by
    rename_i H0 H D
    rw [upd_ne (fun c => by rw [c] at q n; rw [x _ _ n q z] at e; cases e)]
    exact x' b w n q z
  trans := Fx.trans
  of := fx_same
  frm := fun F => F.mono fun c e => e ▸ hM
  same := fun g s => ⟨⟨g.1.1.same s, g.1.2.ext fun b o e => s _ _ e⟩, g.2.same s⟩
  al := fun g m => g.2 _ m
  updR := fun x h b u n e t => by rw [upd_ne (ne_of_none e h)]; exact x b u n e t
  updG := fun g h q hp => ⟨⟨Sx.updD g.1.1 h q.1.1, tabs_upd g.1.2 h q.1.2 hp⟩, g.2.upd h q.2⟩
  dr := fun x e => by
    cases e
    exact ⟨hM, b, cs, fun n H g => g.1.1, fun n n' H H' g F S => ⟨⟨⟨S, tabs_draw g.1.2 F g.1.1⟩, g.2.frm F S.atl⟩, fx_frm F⟩⟩
  lm := fun T e => by
    cases e
    exact ⟨fun n H g => g.1.2, fun n H H' g x t => ⟨⟨⟨g.1.1.ext x, t⟩, g.2.ext x⟩, fx_ext x⟩⟩
def spDL (K : PySem.W.Frag) (TS : TSet) (c : Nat) (P : FD) : Sp := fun vs H Q _ => ∃ (M : Addr → Prop) (a b : Addr) (cs : List Int) (n : Nat) (us : List V) (ds : List PyData) (R : PyData → Prop), vs = .ref a :: us ∧ M a ∧ Al M H ∧ Sx a b cs n H ∧ Tabs TS H ∧ n + c ≤ 1000000 ∧ DwAll K M H us ds ∧ P ds R ∧
  ∀ d, R d → ∀ v H', Fx (· = a) H H' → Sx a b cs (n + c) H' → Tabs TS H' → Dw K M H' v d → Q v H'
/-- between what was and what is stands a heap where only the drawer has changed -/
theorem mid_draw {a b : Addr} {cs : List Int} {n n' : Nat} {H H' : Hp} (F : Fx (· = a) H H') (S : Sx a b cs n H) (S' : Sx a b cs n' H') : ∃ H1, Frm (· = a) H H1 ∧ Sx a b cs n' H1 ∧ ExtN H1 H' := by
  obtain ⟨t, r, s, hl⟩ := S
  obtain ⟨t', r', s', hl'⟩ := S'
  obtain ⟨o, ho⟩ : ∃ o, H' a = some o := ⟨_, s'.ha⟩
  have hb := s.hb
  have ne : b ≠ a := s.ne
  refine ⟨upd H a o, fun c u n e => by rw [upd_ne n]; exact e, ⟨t', r', ?_, hl'⟩, fun c u e nt => ?_⟩
  · exact { s' with ha := by rw [upd_same, ← ho]; exact s'.ha, hb := by rw [upd_ne ne]; exact hb }
  · by_cases q : c = a
    · subst q
      rw [upd_same] at e
      cases e
      exact ho
    · rw [upd_ne q] at e
      exact F c u q e nt
section
variable {X : Cx} {e : Expr} {E : XK} {TS : TSet}
theorem de_drawL {c i : Nat} {P : FD} {u : TDA} (h : PE X e (tCall (spDL X.K TS c P) [] E (tCons (tVar i) (tDA X.K (some TS) u)))) : PE X e (tD X.K (some TS) (qDr c i P u)) := PE.imp h fun σ H Q ⟨W, ρ, n, R, E, g, ⟨hi, t⟩, k⟩ => by
  obtain ⟨a, ea, hσ⟩ := E.drw i hi
  obtain ⟨m, b, cs, h1, h2⟩ := W.dr a ea
  obtain ⟨l1, l2⟩ := W.lm TS E.tse
  exact ⟨_, hσ, W, ρ, n, _, E, g, t, fun ds n1 ⟨l, t1⟩ vs H1 F1 g1 w => ⟨W.M, a, b, cs, n1, vs, ds, _, by rw [List.append_nil], m, fun c m => W.al g1 m, h1 _ _ g1, l1 _ _ g1, l, w, t1, fun d r v H' F' S' T' w' => by
    obtain ⟨Hm, Fm, Sm, x⟩ := mid_draw F' (h1 _ _ g1) S'
    have q := h2 _ _ _ _ g1 Fm Sm
    have q2 := l2 _ _ _ q.1 x T'
    exact k d _ r v H' (W.trans F1 (W.trans q.2 q2.2)) q2.1 w'⟩⟩
end
section
variable {t : TDS} {N : List Str} {vs : List V} {H : Hp} {Q : VK} {E : XK} {TS : TSet} {c : Nat}
theorem lamDG {P : FD} (h : spDL K TS c P vs H Q E) (q : ∀ n ds R, n + c ≤ 1000000 → P ds R → t (DS.dr :: (ds.map DS.d ++ List.replicate (N.length - (ds.length + 1)) DS.no)) n (fun _ _ => False) (fun y m => m ≤ n + c ∧ R y)) : tDs K (some TS) t { nx := fun _ H' => Q .non H', rt := Q } (start N vs) H := by
  obtain ⟨M, a, b, cs, n, us, ds, R, rfl, hM, al, S, tb, hn, w, p, k⟩ := h
  have e := env_of (o := some TS) (a := some a) (N.length - (ds.length + 1)) w
  refine ⟨lawFM M a b cs TS hM, _, n, _, _, ?_, ⟨⟨S, tb⟩, al⟩, q n ds R hn p, fun _ _ z => z.elim, fun d n r v H' x g w => k d r.2 v H' x (g.1.1.le r.1) g.1.2 w⟩
  unfold L2.start
  rw [List.length_cons, w.length, List.map_cons, List.cons_append]
  exact .cons (s := .dr) ⟨_, rfl, rfl⟩ e
theorem dllenG {P : FD} {n : Nat} (h : spDL K TS c P vs H Q E) (l : ∀ ds R, P ds R → ds.length + 1 = n) : vs.length = n := by
  obtain ⟨M, a, b, cs, n', us, ds, R, rfl, hM, al, S, tb, hn, w, p, k⟩ := h
  exact (congrArg Nat.succ w.length).trans (l ds R p)
end
end
end MT
set_option maxHeartbeats 4000000
/-! errors made as values, by place and by name; asked as data -/
namespace MT
section
open PySem PySem.W PySem.Calls PyProof.Rows PySem.HandSPX
variable {prog : Program} {w : World} {A : Around} {E : Value → Shared → Prop} {R : Result → Shared → Prop} {h : Heap} {g : Array GenState} {d : Drawn} {t : Nat} {os : OsState}
variable {nm q : Str} {C N : Addr} {bs bm bmB : List Value} {hdct : Bool} {sn : List Str} {sub : List Value} {ab : Bool} {col : Option Bool} {dd : Option Addr} {k0 k1 k2 k3 k5 : Option Value} {B newId initId : String}
theorem xk_check {M : Model} (F : ExcBaseFacts B newId initId bmB) (same : ∀ X : String, bm.contains (.type X) = bmB.contains (.type X)) {us : List Value} {kw : List (Str × Value)} {Q : Unit → Shared → Prop}
    (onC : h.get? C = some (excClassObj nm q C N bs bm hdct sn sub ab col dd k0 k1 k2 k3 k5 newId)) (done : Q () ⟨h, g, d, t, os⟩) : wpAny M A (checkBuiltinCall newId ⟨.ref C :: us, kw⟩) Q E ⟨h, g, d, t, os⟩ := by
  have inB : (Value.ref C :: bm).contains (.type B) = true := by rw [List.contains_cons, same B, F.hasB, Bool.or_true]
  have star := F.noStar
  simp only [checkBuiltinCall, F.newKind, F.newRow, F.newSplit]
  repeat (first | refine wpAny_loadPart_at onC ?_ | (refine wpAny_isSubtype_exc onC ?_; rw [inB]) | refine wpAny_staticBase_exc onC ?_ | refine wpAny_madeBy_exc onC ?_ | simp only [bne_self_eq_false, if_false, Bool.false_eq_true] | wp_step)
  exact done
theorem xk_new (F : ExcBaseFacts B newId initId bmB) (same : ∀ X : String, bm.contains (.type X) = bmB.contains (.type X)) {us : List Value} {kw : List (Str × Value)}
    (onC : h.get? C = some (excClassObj nm q C N bs bm hdct sn sub ab col dd k0 k1 k2 k3 k5 newId))
    (done : R (.ok (.ret (.ref (h.objs.size + 1)))) ⟨(h.push (W.kdv_tup us)).push (excO C h.objs.size), g, d, t, os⟩) (short : us.length ≤ sizeLine) :
    codeAny (model prog w) A (.builtin newId ⟨.ref C :: us, kw⟩) R ⟨h, g, d, t, os⟩ := by
  have ends := F.ends
  have inB : (Value.ref C :: bm).contains (.type B) = true := by rw [List.contains_cons, same B, F.hasB, Bool.or_true]
  have inA : (Value.ref C :: bm).contains (.type "AttributeError") = false := by rw [List.contains_cons, same, F.noAttr] <;> rfl
  have inN : (Value.ref C :: bm).contains (.type "NameError") = false := by rw [List.contains_cons, same, F.noName] <;> rfl
  refine codeAny_builtinAt F.entry ?_
  unfold PySem.Builtin.«BaseException.__new__»
  refine PySem.wpAt_bind ?_; show PySem.wpAt _ _ _ (stack >>= _) _ _ _
  refine PySem.wpAt_bind (PySem.wpAt_stack fun p low => PySem.wpAt_of_wpAny ?_)
  wp_walk
  refine PySem.wpAt_of_wpAny ?_
  rw [F.owner]
  repeat (first | with_reducible refine wpAny_madeHere_exc F.canon onC ?_ | with_reducible refine wpAny_loadPart_at onC ?_ | (with_reducible refine wpAny_isSubtype_exc onC ?_; first | rw [inA] | rw [inN] | rw [inB]) | wp_step)
  show R _ _
  rw [Heap.size_push]
  exact done
theorem xk_type (F : ExcBaseFacts B newId initId bmB) (same : ∀ X : String, bm.contains (.type X) = bmB.contains (.type X)) {us : List Value} {kw : List (Str × Value)} {fI : Addr} {Q : Fin → Shared → Prop}
    (onC : h.get? C = some (excClassObj nm q C N bs bm hdct sn sub ab col dd k0 k1 k2 k3 k5 newId))
    (li : W.Looks (model prog w) h (typeLookup (.ref C) "__init__") (some (.ref fI))) (lb : ∀ self, W.Looks (model prog w) h (bindSpecial (.ref fI) self) (.ref fI, [self])) (short : us.length ≤ sizeLine)
    (done : codeAny (model prog w) A (.call (.ref fI) ⟨.ref (h.objs.size + 1) :: us, kw⟩)
      (fun r s' => match r with | .ok (.ret v) => v = .none ∧ Q (.done (.ret (.ref (h.objs.size + 1)))) s' | .ok _ => False | .error e => E e s')
      ⟨(h.push (W.kdv_tup us)).push (excO C h.objs.size), g, d, t, os⟩) :
    wpAny (model prog w) A (Builtin.«type.__call__» ⟨.ref C :: us, kw⟩) Q E ⟨h, g, d, t, os⟩ := by
  repeat (first | with_reducible refine wpAny_loadPart_at onC ?_ | with_reducible refine wpAny_madeBy_exc onC ?_ | wp_step)
  refine codeAny_call_builtin_code (Code.quiet_builtin _ F.quiet) (xk_check F same onC ?_)
  refine xk_new F same onC ?_ short
  show wpAny _ _ _ _ _ _
  have keep : ∀ b o, h.get? b = some o → ((h.push (W.kdv_tup us)).push (excO C h.objs.size)).get? b = some o := fun b o e => Heap.get?_push_of_some _ (Heap.get?_push_of_some _ e)
  have onK := keep _ _ onC
  have made : ((h.push (W.kdv_tup us)).push (excO C h.objs.size)).get? (h.objs.size + 1) = some (excO C h.objs.size) := by heap_get
  have inC : (Value.ref C :: bm).contains (.ref C) = true := by simp
  have i2 := li.keeps keep
  have b2 := (lb (.ref (h.objs.size + 1))).keeps keep
  unfold isInstance
  repeat (first | with_reducible refine wpAny_loadPart_at made ?_ | (with_reducible refine wpAny_isSubtype_exc onK ?_; rw [inC]) | wp_step)
  show wpAny _ _ (typeLookup (.ref C) _) _ _ _
  refine i2.at ?_
  refine wpAny_holding (wpAny_bind (b2.at ?_))
  refine wpAny_bind (wpAny_call (codeAny_mono done fun r s' y => ?_))
  rcases r with e | (v | _ | _ | _) <;> first | exact y | exact y.elim | skip
  obtain ⟨rfl, y⟩ := y
  first
    | exact wpAny_pure (wpAny_pure y)
    | (wp_walk; exact y)
theorem xk_call (F : ExcBaseFacts B newId initId bmB) (same : ∀ X : String, bm.contains (.type X) = bmB.contains (.type X)) {us : List Value} {kw : List (Str × Value)} {fI : Addr}
    (onC : h.get? C = some (excClassObj nm q C N bs bm hdct sn sub ab col dd k0 k1 k2 k3 k5 newId))
    (li : W.Looks (model prog w) h (typeLookup (.ref C) "__init__") (some (.ref fI))) (lb : ∀ self, W.Looks (model prog w) h (bindSpecial (.ref fI) self) (.ref fI, [self])) (short : us.length ≤ sizeLine)
    (done : codeAny (model prog w) (A.under (.builtin "type.__call__" ⟨.ref C :: us, kw⟩)) (.call (.ref fI) ⟨.ref (h.objs.size + 1) :: us, kw⟩) (W.InitBack (h.objs.size + 1) R)
      ⟨(h.push (W.kdv_tup us)).push (excO C h.objs.size), g, d, t, os⟩) : codeAny (model prog w) A (.call (.ref C) ⟨us, kw⟩) R ⟨h, g, d, t, os⟩ := by
  have x1 := tc_lookup
  have x2 := tc_bind (.ref C)
  have xT : (⟨h, g, d, t, os⟩ : Shared).TypeIs (.ref C) "type" := ⟨_, onC, rfl⟩
  refine codeAny_of_tree ?_
  show wpAny _ _ (callAny (.ref C) ⟨us, kw⟩) _ _ _
  repeat (any_goals (first | assumption | with_reducible refine wpAny_loadPart_at onC ?_ | wp_step))
  refine ⟨rfl, ?_⟩
  refine codeAny_call_builtin_at (Code.quiet_builtin _ (by decide +kernel)) entry_typeCall (wpAny_check_type_call_sub onC (xk_type F same onC li lb short ?_))
  refine codeAny_mono done fun r s' y => ?_
  rcases r with e | (v | _ | _ | _) <;> exact y
end
section
open PySem PySem.Spec PyProof.Rows L2
variable {X : Cx} {pins : List (Addr × Obj)} {σ : L2.St} {C fI : Addr} {k : Nat} {fd : FuncData} {ps : List Str} {sp : Sp} {CX : CXT}
theorem mkv_end {H1 H2 : Hp} {hp hp2 h2 : Heap} {g1 g2 : Array GenState} {d1 d2 : Drawn} {t1 t2 : Nat} {os1 os2 : OsState} {a d : Addr} {fs : List (Str × V)} (I1 : Inv X pins σ H1 ⟨hp, g1, d1, t1, os1⟩)
    (ha : hp.objs.size ≤ a) (kk : ∀ b o, hp.get? b = some o → hp2.get? b = some o) (un : Un (frs X.stack) [] (upd H1 a (exo a C none)) H2 hp2 h2) (hok : HOk X.prog X.w H2 h2) (ho : os2 = os1) (hb : AllBare g2)
    (ea : H2 a = some (exo a C (some d))) (ed : H2 d = some (exd d fs)) (hd1 : H1 d = none) : Inv X pins σ (upd (upd H2 a (keptO a (.ref C) (some d))) d (.xd fs)) ⟨h2, g2, d2, t2, os2⟩ := by
  obtain ⟨t0, hoe⟩ := exo_at hok ea
  obtain ⟨mA, hns, rel⟩ := exd_at hok ed
  have hn : H1 a = none := I1.hok.fresh ha
  have nha : ∀ {b : Addr} {o : Obj}, hp.get? b = some o → b ≠ a := fun {b o} z => Nat.ne_of_lt (Nat.lt_of_lt_of_le (Heap.lt_size z) ha)
  have up : ∀ {b : Addr}, b ≠ a → H1 b = none → upd H1 a (exo a C none) b = none := fun {b} hb n => (upd_ne hb).trans n
  have nd : ∀ {b : Addr} {o : Obj}, hp.get? b = some o → H1 b = none → b ≠ d := fun {b o} z n e => by
    have y := un.free b o (kk b o z) (up (nha z) n) (by simp)
    rw [e, ed] at y
    cases y
  have U : Un (frs X.stack) [] H1 (upd (upd H2 a (keptO a (.ref C) (some d))) d (.xd fs)) hp h2 := {
    keep := fun b o z n hf hx => un.keep b o (kk b o z) (up (nha z) n) hf hx
    slot := fun b o z n hf hx => un.slot b o (kk b o z) (up (nha z) n) hf hx
    free := fun b o z n hx => by
      rw [upd_ne (nd z n), upd_ne (nha z)]
      exact un.free b o (kk b o z) (up (nha z) n) hx
    there := fun b o z hx => un.there b o (kk b o z) hx
    tups := fun b xs z => by
      rw [upd_ne (ne_of_none z hd1), upd_ne (ne_of_none z hn)]
      exact un.tups b xs ((upd_ne (ne_of_none z hn)).trans z)
    frzs := fun b o v z => by
      rw [upd_ne (ne_of_none z hd1), upd_ne (ne_of_none z hn)]
      exact un.frzs b o v ((upd_ne (ne_of_none z hn)).trans z)
    tbls := fun b q z => by
      rw [upd_ne (ne_of_none z hd1), upd_ne (ne_of_none z hn)]
      exact un.tbls b q ((upd_ne (ne_of_none z hn)).trans z) }
  have hok3 : HOk X.prog X.w (upd (upd H2 a (keptO a (.ref C) (some d))) d (.xd fs)) h2 := fun b o z => by
    by_cases hbd : b = d
    · subst hbd
      rw [upd_same] at z
      cases z
      exact ⟨mA, hns, rel⟩
    · rw [upd_ne hbd] at z
      by_cases hba : b = a
      · subst hba
        rw [upd_same] at z
        cases z
        exact keptO_ok hoe ⟨rfl, rfl⟩ rfl
      · rw [upd_ne hba] at z
        exact (hok b o z).stay (fun c v hc y => y) (fun c hc => by rw [upd_ne (at_ne ed hc exd_own), upd_ne (at_ne ea hc exo_own)]; exact hc) (fun c xs hc => by rw [upd_ne (at_ne ed hc exd_tup), upd_ne (at_ne ea hc exo_tup)]; exact hc)
  exact I1.call' (ch := []) ho U hok3 hb (fun b z => absurd z (by simp))
theorem mkv_run {H1 : Hp} {s1 : Shared} {us rest : List Value} {vs : List V} {kw : List (Str × Value)} {Q : VK} (T : OexC X.K C) (iC : PySem.W.findIn X.K (.ref C) "__init__" = some (some (.ref fI))) (tI : PySem.W.typeIn X.K (.ref fI) = some (.type "function"))
    (F1 : FnOk X.prog X.w X.K X.mg X.base CX k fI fd ps sp) (hr : Room (k + 1) X.A) (hx : Passes CX X (fun _ _ _ => False)) (I1 : Inv X pins σ H1 s1) (rv : Vals vs rest) (hu : us.length ≤ sizeLine)
    (hbt : ∀ (a : Addr) (s : Shared), X.K.In s.heap → BindsTo s fd ⟨.ref a :: us, kw⟩ (ps.zip (.ref a :: rest)))
    (q1 : ∀ a, H1 a = none → sp (.ref a :: vs) (upd H1 a (exo a C none)) (fun v H2 => v = .non ∧ ∃ (d : Addr) (fs : List (Str × V)), H2 a = some (exo a C (some d)) ∧ H2 d = some (exd d fs) ∧ H1 d = none ∧ Q (.ref a) (upd (upd H2 a (keptO a (.ref C) (some d))) d (.xd fs))) (fun _ _ _ => False)) :
    wpAny (model X.prog X.w) X.A (call (.ref C) us kw) (EP X pins σ Q) X.xe s1 := by
  obtain ⟨nm, q, N, bs, bm, sn, sub, ab, col, dd, k0, k1, k2, k3, k5, onC, hbm⟩ := T.cls
  obtain ⟨hp, g, dr, tk, os⟩ := s1
  have hsz : hp.objs.size ≤ hp.objs.size + 1 := Nat.le_succ _
  have hn : H1 (hp.objs.size + 1) = none := I1.hok.fresh hsz
  have hq := q1 (hp.objs.size + 1) hn
  have kk : ∀ b o, hp.get? b = some o → ((hp.push (PySem.W.kdv_tup us)).push (PySem.HandSPX.excO C hp.objs.size)).get? b = some o := fun b o e => Heap.get?_push_of_some _ (Heap.get?_push_of_some _ e)
  have at2 : ((hp.push (PySem.W.kdv_tup us)).push (PySem.HandSPX.excO C hp.objs.size)).get? (hp.objs.size + 1) = some (PySem.HandSPX.excO C hp.objs.size) := by heap_get
  have I2 : Inv X pins σ (upd H1 (hp.objs.size + 1) (exo (hp.objs.size + 1) C none)) ⟨(hp.push (PySem.W.kdv_tup us)).push (PySem.HandSPX.excO C hp.objs.size), g, dr, tk, os⟩ := I1.laid (t' := tk) kk hsz (exo_ok at2)
  refine wpAny_call (xk_call PySem.F.excBase_ValueError (fun Y => PySem.HandSPX.refsVE_contains Y bm hbm) (I1.kIn _ _ onC) (PySem.W.looks_findIn I1.kIn iC) (fun self => PySem.W.bind_fn I1.kIn self tI) hu
    (codeAny_mono (F1.run _ X.stack _ _ ⟨Value.ref (hp.objs.size + 1) :: us, kw⟩ (Value.ref (hp.objs.size + 1) :: rest) (V.ref (hp.objs.size + 1) :: vs) _ (fun _ _ _ => False) (hr.make C us kw) (I2.env0.make C us kw) (hbt _ _ I2.kIn) (.cons rfl rv) hq) fun r s' hq' => ?_))
  cases r with
  | error er => exact hx pins σ _ _ er s' I2 hq'
  | ok fl =>
    cases fl with
    | ret u =>
      obtain ⟨v, H2, os2, bare2, un2, hok2, rv2, ev, d, fs, ea, ed, hd1, q2⟩ := hq'
      subst ev
      obtain ⟨h2, g2, d2, t2, os'⟩ := s'
      exact ⟨rv2, .ref _, _, mkv_end (d2 := d2) (t2 := t2) I1 hsz kk un2 hok2 os2 bare2 ea ed hd1, rfl, q2⟩
    | _ => exact False.elim hq'
/-- C(..) made: the error at a, its dict at d, both new -/
def Mkv (C : Addr) (fs : List (Str × V)) (H1 : Hp) (Q : VK) : Prop := ∀ a d H3, Same H1 H3 → H1 a = none → H1 d = none → H3 a = some (keptO a (.ref C) (some d)) → H3 d = some (.xd fs) → Q (.ref a) H3
def tMk1 (C : Addr) (f : Str) (ta : TA) : TE := fun σ H Q => ta σ H fun vs H1 => ∃ p, vs = [p] ∧ Mkv C [(f, p)] H1 Q
def tMk2 (C : Addr) (f g : Str) (ta : TA) : TE := fun σ H Q => ta σ H fun vs H1 => ∃ p q, vs = [p, q] ∧ Mkv C [(g, q), (f, p)] H1 Q
def tMk2r (C : Addr) (f g : Str) (ta : TA) : TE := fun σ H Q => ta σ H fun vs H1 => ∃ p q, vs = [q, p] ∧ Mkv C [(g, q), (f, p)] H1 Q
def tMk0 (C : Addr) : TE := fun _ H Q => ∀ a H3, Same H H3 → H a = none → H3 a = some (keptO a (.ref C) none) → Q (.ref a) H3
theorem init_one {f : Str} {p : V} {H1 : Hp} {a : Addr} {Q : VK} (T : OexC X.K C) (no : PySem.W.findIn X.K (.ref C) f = some none) (na : H1 a = none) (q : Mkv C [(f, p)] H1 Q) :
    spInit X.K f [.ref a, p] (upd H1 a (exo a C none)) (fun v H2 => v = .non ∧ ∃ (d : Addr) (fs : List (Str × V)), H2 a = some (exo a C (some d)) ∧ H2 d = some (exd d fs) ∧ H1 d = none ∧ Q (.ref a) (upd (upd H2 a (keptO a (.ref C) (some d))) d (.xd fs))) (fun _ _ _ => False) := by
  refine ⟨a, C, p, rfl, T, no, upd_same, fun dx nx ne => ?_⟩
  rw [upd_ne ne] at nx
  refine ⟨rfl, dx, _, upd_same, by rw [upd_ne ne, upd_same], nx, q a dx _ (fun c o e => ?_) na nx (by rw [upd_ne (Ne.symm ne), upd_same]) upd_same⟩
  have h1 : c ≠ a := ne_of_none e na
  have h2 : c ≠ dx := ne_of_none e nx
  rw [upd_ne h2, upd_ne h1, upd_ne h1, upd_ne h2, upd_ne h1]
  exact e
theorem init_two {f g : Str} {p y : V} {H1 : Hp} {a : Addr} {Q : VK} (T : OexC X.K C) (no : PySem.W.findIn X.K (.ref C) f = some none) (no2 : PySem.W.findIn X.K (.ref C) g = some none) (na : H1 a = none) (q : Mkv C [(g, y), (f, p)] H1 Q) :
    spInit2 X.K f g [.ref a, p, y] (upd H1 a (exo a C none)) (fun v H2 => v = .non ∧ ∃ (d : Addr) (fs : List (Str × V)), H2 a = some (exo a C (some d)) ∧ H2 d = some (exd d fs) ∧ H1 d = none ∧ Q (.ref a) (upd (upd H2 a (keptO a (.ref C) (some d))) d (.xd fs))) (fun _ _ _ => False) := by
  refine ⟨a, C, p, y, rfl, T, no, no2, upd_same, fun dx nx ne => ?_⟩
  rw [upd_ne ne] at nx
  refine ⟨rfl, dx, _, by rw [upd_ne (Ne.symm ne), upd_same], upd_same, nx, q a dx _ (fun c o e => ?_) na nx (by rw [upd_ne (Ne.symm ne), upd_same]) upd_same⟩
  have h1 : c ≠ a := ne_of_none e na
  have h2 : c ≠ dx := ne_of_none e nx
  rw [upd_ne h2, upd_ne h1, upd_ne h2, upd_ne h1, upd_ne h2, upd_ne h1]
  exact e
section
variable {x f g' : Str} {e : Expr} {es : List Expr} {kws : List Keyword} {ta : TA} {p pos : Pos}
theorem pe_mk1 (T : ErrC X.K X.mg x C fI f) (F : FnOk X.prog X.w X.K X.mg X.base CX k fI fd ["self", f] (spInit X.K f)) (hr : Room (k + 1) X.A) (hb : Binds X.K fd ["self", f] []) (hx : Passes CX X (fun _ _ _ => False)) (hg : Gl X x) (ha : PA X (e :: es) ta)
    (hdb : (x == ("__debug__" : Str)) = false := by decide) (he : starEach (e :: es) X.env = (false, eval e X.env) :: starEach es X.env := by rfl) (hpl : (backTo pos (starEach es X.env)).any (·.1) = false := by rfl) :
    PE X (.Call (.Name x p) (e :: es) [] pos) (tMk1 C f ta) := by
  refine ⟨fun pins s σ H Q I h => wpAny_Call_Name_kw (ld_glob I hg T.gC ?_ hdb)⟩
  refine PySem.W.callWith_K (h₀ := X.base) I.ok.mod.kin T.oex.kC (thn (ha.run pos pins s σ H _ I h) fun us s1 ⟨vs, H1, I1, r1, y, ev, q1⟩ => ⟨I1.kIn, ?_⟩) he hpl
  subst ev
  have l1 : us.length = 1 := Paired.length r1 ▸ rfl
  exact mkv_run (rest := us) T.oex T.iC T.tI F hr hx I1 r1 (by show us.length ≤ sizeLine; rw [l1, sizeLine_eq]; decide) (fun a s X => by
    have b := hb s (.ref a :: us) X (by rw [List.append_nil, List.length_cons, l1] <;> rfl)
    rwa [List.append_nil] at b) fun a na => init_one T.oex T.noF na q1
theorem pe_mk2 (T : ErrC2 X.K X.mg x C fI f g') (F : FnOk X.prog X.w X.K X.mg X.base CX k fI fd ["self", f, g'] (spInit2 X.K f g')) (hr : Room (k + 1) X.A) (hb : Binds X.K fd ["self", f, g'] []) (hx : Passes CX X (fun _ _ _ => False)) (hg : Gl X x) (ha : PA X (e :: es) ta)
    (hdb : (x == ("__debug__" : Str)) = false := by decide) (he : starEach (e :: es) X.env = (false, eval e X.env) :: starEach es X.env := by rfl) (hpl : (backTo pos (starEach es X.env)).any (·.1) = false := by rfl) :
    PE X (.Call (.Name x p) (e :: es) [] pos) (tMk2 C f g' ta) := by
  refine ⟨fun pins s σ H Q I h => wpAny_Call_Name_kw (ld_glob I hg T.one.gC ?_ hdb)⟩
  refine PySem.W.callWith_K (h₀ := X.base) I.ok.mod.kin T.one.oex.kC (thn (ha.run pos pins s σ H _ I h) fun us s1 ⟨vs, H1, I1, r1, y, z, ev, q1⟩ => ⟨I1.kIn, ?_⟩) he hpl
  subst ev
  have l1 : us.length = 2 := Paired.length r1 ▸ rfl
  exact mkv_run (rest := us) T.one.oex T.one.iC T.one.tI F hr hx I1 r1 (by show us.length ≤ sizeLine; rw [l1, sizeLine_eq]; decide) (fun a s X => by
    have b := hb s (.ref a :: us) X (by rw [List.append_nil, List.length_cons, l1] <;> rfl)
    rwa [List.append_nil] at b) fun a na => init_two T.one.oex T.one.noF T.noG na q1
def kOne {α : Type} (us ws : List α) : List α := us ++ ws
def kTwo {α : Type} (us ws : List α) : List α := us ++ ws.reverse
theorem pe_mk1k (T : ErrC X.K X.mg x C fI f) (F : FnOk X.prog X.w X.K X.mg X.base CX k fI fd ["self", f] (spInit X.K f)) (hr : Room (k + 1) X.A) (hb : KBn X.K fd ["self", f] 1 [f] kOne kOne) (hx : Passes CX X (fun _ _ _ => False)) (hg : Gl X x) (hkw : PK X kws ta)
    (hall : (backToKw pos (keywordEach kws X.env)).all (·.1.isSome) = true := by rfl) (hks : (backToKw pos (keywordEach kws X.env)).filterMap (·.1) = [f] := by rfl)
    (hpl : ((backTo pos (starEach [] X.env)).any (·.1) || (backToKw pos (keywordEach kws X.env)).any (·.1.isNone)) = false := by rfl) (hdb : (x == ("__debug__" : Str)) = false := by decide) :
    PE X (.Call (.Name x p) [] kws pos) (tMk1 C f ta) := by
  refine ⟨fun pins s σ H Q I h => wpAny_Call_Name_kw (ld_glob I hg T.gC ?_ hdb)⟩
  refine PySem.W.callWith_KW0 (h₀ := X.base) I.ok.mod.kin T.oex.kC hall (thn (hkw.run pos pins s σ H _ I h) fun us s1 ⟨vs, H1, I1, r1, y, ev, q1⟩ => ⟨I1.kIn, ?_⟩) hpl
  rw [hks]
  subst ev
  have l1 : us.length = 1 := Paired.length r1 ▸ rfl
  exact mkv_run (us := []) (rest := us) T.oex T.iC T.tI F hr hx I1 r1 (by decide) (fun a s X => hb.to s [.ref a] us X rfl l1) fun a na => init_one T.oex T.noF na q1
theorem pe_mk2k (T : ErrC2 X.K X.mg x C fI f g') (F : FnOk X.prog X.w X.K X.mg X.base CX k fI fd ["self", f, g'] (spInit2 X.K f g')) (hr : Room (k + 1) X.A) (hb : KBn X.K fd ["self", f, g'] 1 [g', f] kTwo kTwo) (hx : Passes CX X (fun _ _ _ => False)) (hg : Gl X x) (hkw : PK X kws ta)
    (hall : (backToKw pos (keywordEach kws X.env)).all (·.1.isSome) = true := by rfl) (hks : (backToKw pos (keywordEach kws X.env)).filterMap (·.1) = [g', f] := by rfl)
    (hpl : ((backTo pos (starEach [] X.env)).any (·.1) || (backToKw pos (keywordEach kws X.env)).any (·.1.isNone)) = false := by rfl) (hdb : (x == ("__debug__" : Str)) = false := by decide) :
    PE X (.Call (.Name x p) [] kws pos) (tMk2r C f g' ta) := by
  refine ⟨fun pins s σ H Q I h => wpAny_Call_Name_kw (ld_glob I hg T.one.gC ?_ hdb)⟩
  refine PySem.W.callWith_KW0 (h₀ := X.base) I.ok.mod.kin T.one.oex.kC hall (thn (hkw.run pos pins s σ H _ I h) fun us s1 ⟨vs, H1, I1, r1, y, z, ev, q1⟩ => ⟨I1.kIn, ?_⟩) hpl
  rw [hks]
  subst ev
  obtain ⟨u1, u2, rfl, r2, r3⟩ := Vals.two r1
  exact mkv_run (us := []) (rest := [u2, u1]) T.one.oex T.one.iC T.one.tI F hr hx I1 (.cons r3 (.cons r2 .nil)) (by decide) (fun a s X => hb.to s [.ref a] [u1, u2] X rfl rfl) fun a na => init_two T.one.oex T.one.noF T.noG na q1
/-- a class without an own __init__, and nothing is told -/
theorem pe_mk0 {B newId initId : String} {bmB : List Value} (F : ExcBaseFacts B newId initId bmB) (q : PySem.W.excIn X.K C bmB newId = true) (gC : X.mg x = some (.ref C)) (kC : PySem.W.keepIn X.K (.ref C) = true) (hg : Gl X x) (hdb : (x == ("__debug__" : Str)) = false := by decide) :
    PE X (.Call (.Name x p) [] [] pos) (tMk0 C) := by
  refine ⟨fun pins s σ H Q I h => wpAny_Call_Name_kw (ld_glob I hg gC (PySem.W.callWith_K0 I.kIn kC ?_) hdb)⟩
  obtain ⟨bm, N, nm, qn, bs, hdct, sn, sub, ab, col, dd, k0, k1, k2, k3, k5, mN, hC, hN, hni, T⟩ := exc_obj I.kIn q
  refine wpAny_call_exc_subT F T hC hN hni (fun h' a hm => ?_) (by show 0 ≤ sizeLine; exact Nat.zero_le _)
  have na : H a = none := I.hok.gone hm.new
  obtain ⟨t, ht, _, _⟩ := hm.there
  exact ⟨.ref a, upd H a (keptO a (.ref C) none), I.laidN hm.keeps hm.new na (keptO_ok ht ⟨rfl, rfl⟩ rfl), rfl, h a _ (same_new na) na upd_same⟩
end
end
end MT
set_option maxHeartbeats 4000000
/-! != of two lists whose parts are equal, dicts among them -/
namespace MT
section
open PySem PySem.SeqAt
open AutoSeq1 (wpAny_loadPart')
open MeetsSeq MeetsSeq2 MeetsSeq3 SeqRoads2
variable {prog : Program} {w : World}
theorem ne_same_loop (l b : Addr) (xs ys : Array Value) (m m2 : Nat) (dl db : Option Addr) (sl sb : Array (Option Value)) (same : xs.size = ys.size) (k : Nat) :
    ∀ i : Nat, xs.size - i = k → MeetsIn prog w (Builtin.«list.__eq__.loop» ⟨[.ref l, .ref b, rawInt i, rawInt 3], []⟩)
      (fun A R s => s.heap.get? l = some { cls := .type "list", dict := dl, data := .seq xs m, slots := sl } ∧ s.heap.get? b = some { cls := .type "list", dict := db, data := .seq ys m2, slots := sb } ∧
        (∀ j (h1 : j < xs.size) (h2 : j < ys.size), EqP prog w A.in1 s xs[j] ys[j] true) ∧ R (.ok (.ret (.bool false))) s) := by
  induction k with
  | zero =>
    intro i hk A R s told
    obtain ⟨hp, g, d, tk, os⟩ := s; obtain ⟨gl, gb, he, fin⟩ := told
    wp_walk using wpAny_loadPart' gl, wpAny_loadPart' gb
    have z1 : xs[((i : Nat) : Int).toNat]? = none := by simp; omega
    have z2 : ys[((i : Nat) : Int).toNat]? = none := by simp; omega
    rw [z1, z2]
    wp_walk using wpAny_loadPart' gl, wpAny_loadPart' gb
    show R (.ok (.ret (.bool (xs.size != ys.size)))) _
    rw [same]
    simpa using fin
  | succ k ih =>
    intro i hk A R s told
    obtain ⟨hp, g, d, tk, os⟩ := s; obtain ⟨gl, gb, he, fin⟩ := told
    wp_walk using wpAny_loadPart' gl, wpAny_loadPart' gb
    have i1 : i < xs.size := by omega
    have i2 : i < ys.size := by omega
    have z1 : xs[((i : Nat) : Int).toNat]? = some xs[i] := by simp [i1]
    have z2 : ys[((i : Nat) : Int).toNat]? = some ys[i] := by simp [i2]
    have step : ((i : Int) + 1) = ((i + 1 : Nat) : Int) := by push_cast; rfl
    rw [z1, z2]
    refine wpAny_bind (he i i1 i2 _ _ ?_)
    wp_walk
    rw [step]
    exact ⟨plainId_quiet plain_eq_loop _, codeAny_builtin entry_eq_loop (by
      rw [Around.under_plainId plain_eq_loop]
      exact ih (i + 1) (by omega) A R _ ⟨gl, gb, he, fin⟩)⟩
theorem ne_same_list (l b : Addr) (xs ys : Array Value) (m m2 : Nat) (dl db : Option Addr) (sl sb : Array (Option Value)) (same : xs.size = ys.size) : MeetsIn prog w (Builtin.«list.__ne__» ⟨[.ref l, .ref b], []⟩)
      (fun A R s => s.heap.get? l = some { cls := .type "list", dict := dl, data := .seq xs m, slots := sl } ∧ s.heap.get? b = some { cls := .type "list", dict := db, data := .seq ys m2, slots := sb } ∧
        (∀ j (h1 : j < xs.size) (h2 : j < ys.size), EqP prog w A.in1 s xs[j] ys[j] true) ∧ R (.ok (.ret (.bool false))) s) := by
  intro A R s told
  obtain ⟨hp, g, d, tk, os⟩ := s; obtain ⟨gl, gb, he, fin⟩ := told
  have sub := AutoSeq1.sub_list_list
  have alike : ¬ (xs.size != ys.size) = true := by simp [same]
  wp_walk using wpAny_loadPart' gl, wpAny_loadPart' gb
  exact ⟨plainId_quiet plain_eq_loop _, codeAny_builtin entry_eq_loop (by
    rw [Around.under_plainId plain_eq_loop]
    exact ne_same_loop l b xs ys m m2 dl db sl sb same _ 0 rfl A R _ ⟨gl, gb, he, fin⟩)⟩
theorem ne_same {A : Around} {s : Shared} {l b : Addr} {xs ys : Array Value} (gl : s.heap.IsList l xs) (gb : s.heap.IsList b ys) (same : xs.size = ys.size) (hu : A.units < cLine)
    (he : ∀ j (h1 : j < xs.size) (h2 : j < ys.size), EqP prog w A.in1 s xs[j] ys[j] true) (E Q : Value → Shared → Prop) (fin : Q (.bool false) s) : wpAny (model prog w) A (richCompare .NotEq (.ref l) (.ref b)) Q E s := by
  obtain ⟨⟨c1, d1, t1, s1⟩, o1, e1, n1, f1⟩ := id gl
  obtain ⟨⟨c2, d2, t2, s2⟩, o2, e2, n2, f2⟩ := id gb
  simp only at e1 f1 e2 f2
  subst e1 f1 e2 f2
  have y1 : s.TypeIs (.ref l) "list" := ⟨_, o1, rfl⟩
  have y2 : s.TypeIs (.ref b) "list" := ⟨_, o2, rfl⟩
  exact wpAny_richCompare_same_room (op := .NotEq) y1 y2 PySem.F.slot_list_ne (call_meetsIn PySem.F.slot_list_ne y1 PySem.F.entry_list_ne (PySem.F.args_list_ne_2 _ _) (ne_same_list l b xs ys n1 n2 d1 d2 s1 s2 same)
    ⟨o1, o2, he, show Value.bool false ≠ Value.notImplemented ∧ Q (.bool false) s from ⟨(fun x => nomatch x), fin⟩⟩) hu
end
section
open PySem PySem.Spec PyProof.Rows L2
/-- equal, as data or as dicts -/
def ItemS (K : PySem.W.Frag) (H : Hp) (v u : V) : Prop := (∃ d, Dp K H v d ∧ Dp K H u d ∧ d.canLay0 = true ∧ d.depth ≤ 20) ∨ EqV K H 20 v u
/-- two lists of equal parts -/
def rNeS (K : PySem.W.Frag) : R2 := fun x y H Q => ∃ a b xs ys, x = .ref a ∧ y = .ref b ∧ SqL K H a xs ∧ SqL K H b ys ∧ Paired (ItemS K H) xs ys ∧ Q (.bl false) H
theorem op_neS {X : Cx} (hu : X.A.units + 64 < cLine) : OpR X (compareOp .NotEq) (rNeS X.K) := by
  intro pins s σ H x y v u Q I rx ry h
  obtain ⟨a, b, xs, ys, rfl, rfl, ha, hb, hp, q⟩ := h
  cases (show v = Value.ref a from rx)
  cases (show u = Value.ref b from ry)
  obtain ⟨us, r1, p1, _⟩ := I.list ha
  obtain ⟨ws, r2, p2, _⟩ := I.list hb
  have hsz : us.toArray.size = ws.toArray.size := by
    rw [List.size_toArray, List.size_toArray, ← r1.length, ← r2.length]
    exact Paired.length hp
  refine ne_same p1.isList p2.isList hsz (by omega) (fun j h1 h2 => ?_) _ _ ⟨.bl false, H, I, rfl, q⟩
  have k := items_run (P := X.prog) (w := X.w) (A := X.A.in1) (s := s) (F := ItemS X.K H) (fun x y v u f r3 r4 => ?_) hp r1 r2 j (by simpa using h1) (by simpa using h2)
  · simpa using k
  · rcases f with ⟨d, w1, w2, cl, dp⟩ | f
    · obtain ⟨as, z1⟩ := Dp.reads I d x v w1 r3
      obtain ⟨bs, z2⟩ := Dp.reads I d y u w2 r4
      have e := SeqAt.eqAt_reads d d X.A.in1 s v u as bs z1 z2 cl cl (by show X.A.units + 1 + min d.depth d.depth < cLine; omega)
      rw [SeqAt.eqv_refl d cl] at e
      exact e.eqP
    · exact eqV_run I 20 X.A.in1 (by show X.A.units + 1 + 20 < cLine; omega) x y v u f r3 r4
end
end MT
set_option maxHeartbeats 2000000
/-! errors as data: made, asked, their parts read; dicts with an integer; texts of integers; != of what is alike -/
namespace MT
open PySem L2
section
variable {K : PySem.W.Frag} {M : Addr → Prop} {H : Hp}
theorem int_nat_inj {a b : Addr} (h : PyData.int (a : Nat) = .int (b : Nat)) : a = b := by
  injection h with h
  exact Int.ofNat.inj h
theorem kyw_not : ∀ {k : Key} {l : List PyData}, KyW k (.list l) → False
  | .inl _, _, h => h
  | .inr _, _, h => h
theorem exn_inv {v : V} {C : Addr} {ks : List (PyData × PyData)} (w : Dw K M H v (excD C ks)) : ECls K C ∧ ((∃ p dd fv, v = .ref p ∧ H p = some (keptO p (.ref C) (some dd)) ∧ H dd = some (.xd fv) ∧ DwFs K M H fv ks) ∨ ∃ p, v = .ref p ∧ H p = some (keptO p (.ref C) none) ∧ ks = []) := by
  generalize e : excD C ks = x at w
  unfold excD at e
  cases w with
  | dct n h c =>
    injection e with e
    subst e
    rename_i kvs
    match kvs, c with
    | (.inl _, _) :: _, c => exact False.elim c.1
    | (.inr _, _) :: _, c => exact False.elim c.1
  | dk n h c =>
    injection e with e
    subst e
    cases c with
    | cons k _ _ => exact (kyw_not k).elim
  | dt n h c =>
    injection e with e
    subst e
    cases c with
    | cons k _ _ => exact False.elim k
  | obj n h c f =>
    injection e with e
    injection e with e1 e2
    injection e1 with e1 e3
    injection e1 with e1
    injection e1 with e1 e4
    cases e4
  | exn n h n2 h2 c f =>
    injection e with e
    injection e with e1 e2
    injection e1 with e1 e3
    injection e1 with e1
    injection e1 with e1 e4
    cases int_nat_inj e1
    subst e2
    exact ⟨c, .inl ⟨_, _, _, rfl, h, h2, f⟩⟩
  | exn0 n h c =>
    injection e with e
    injection e with e1 e2
    injection e1 with e1 e3
    injection e1 with e1
    injection e1 with e1 e4
    cases int_nat_inj e1
    subst e2
    exact ⟨c, .inr ⟨_, rfl, h, rfl⟩⟩
  | _ => cases e
def lookD (f : Str) : List (PyData × PyData) → Option PyData
  | [] => none
  | (.str g, y) :: r => if f = g then some y else lookD f r
  | _ :: r => lookD f r
theorem look_fs {f : Str} {y : PyData} : ∀ {fv : List (Str × V)} {ks : List (PyData × PyData)}, DwFs K M H fv ks → lookD f ks = some y → ∃ v, fv.lookup f = some v ∧ Dw K M H v y
  | _, _, .nil, e => by cases e
  | _, _, @DwFs.cons _ _ _ g v r d s w t, e => by
    have e : (if f = g then some d else lookD f s) = some y := e
    rw [lookup_put]
    by_cases h : f = g
    · rw [if_pos h] at e ⊢
      cases e
      exact ⟨v, rfl, w⟩
    · rw [if_neg h] at e ⊢
      exact look_fs t e
end
section
variable {X : Cx} {e : Expr} {o : Option TSet}
def qMk1 (C : Addr) (f : Str) (u : TDA) : TD := fun ρ n R => u ρ n fun ds n1 => ∃ x, ds = [x] ∧ R (excD C [(.str f, x)]) n1
def qMk2 (C : Addr) (f g : Str) (u : TDA) : TD := fun ρ n R => u ρ n fun ds n1 => ∃ x y, ds = [x, y] ∧ R (excD C [(.str g, y), (.str f, x)]) n1
def qMk2r (C : Addr) (f g : Str) (u : TDA) : TD := fun ρ n R => u ρ n fun ds n1 => ∃ x y, ds = [y, x] ∧ R (excD C [(.str g, y), (.str f, x)]) n1
theorem nM {W : Fld} {n : Nat} {H : Hp} {a : Addr} (g : W.G n H) (na : H a = none) : ¬ W.M a := fun m => by
  obtain ⟨u, e, _⟩ := W.al g m
  rw [na] at e
  cases e
theorem de_mk1 {C : Addr} {f : Str} {u : TDA} (c : ECls X.K C) (h : PE X e (tMk1 C f (tDA X.K o u))) : PE X e (tD X.K o (qMk1 C f u)) := PE.imp h fun σ H Q ⟨W, ρ, n, R, E, g, t, k⟩ =>
  ⟨W, ρ, n, _, E, g, t, fun ds n1 ⟨x, ed, r⟩ vs H1 F1 g1 w => by
    subst ed
    cases w with
    | cons wa wb =>
      cases wb
      exact ⟨_, rfl, fun a d H3 s na nd ha hd => k _ n1 r _ H3 (W.trans F1 (W.of s)) (W.same g1 s) (.exn (nM g1 na) ha (nM g1 nd) hd c (.cons (wa.same s) .nil))⟩⟩
theorem de_mk2 {C : Addr} {f g' : Str} {u : TDA} (c : ECls X.K C) (h : PE X e (tMk2 C f g' (tDA X.K o u))) : PE X e (tD X.K o (qMk2 C f g' u)) := PE.imp h fun σ H Q ⟨W, ρ, n, R, E, g, t, k⟩ =>
  ⟨W, ρ, n, _, E, g, t, fun ds n1 ⟨x, y, ed, r⟩ vs H1 F1 g1 w => by
    subst ed
    cases w with
    | cons wa wb =>
      cases wb with
      | cons wc wd =>
        cases wd
        exact ⟨_, _, rfl, fun a d H3 s na nd ha hd => k _ n1 r _ H3 (W.trans F1 (W.of s)) (W.same g1 s) (.exn (nM g1 na) ha (nM g1 nd) hd c (.cons (wc.same s) (.cons (wa.same s) .nil)))⟩⟩
theorem de_mk2r {C : Addr} {f g' : Str} {u : TDA} (c : ECls X.K C) (h : PE X e (tMk2r C f g' (tDA X.K o u))) : PE X e (tD X.K o (qMk2r C f g' u)) := PE.imp h fun σ H Q ⟨W, ρ, n, R, E, g, t, k⟩ =>
  ⟨W, ρ, n, _, E, g, t, fun ds n1 ⟨x, y, ed, r⟩ vs H1 F1 g1 w => by
    subst ed
    cases w with
    | cons wa wb =>
      cases wb with
      | cons wc wd =>
        cases wd
        exact ⟨_, _, rfl, fun a d H3 s na nd ha hd => k _ n1 r _ H3 (W.trans F1 (W.of s)) (W.same g1 s) (.exn (nM g1 na) ha (nM g1 nd) hd c (.cons (wa.same s) (.cons (wc.same s) .nil)))⟩⟩
theorem de_mk0 {C : Addr} (c : ECls X.K C) (h : PE X e (tMk0 C)) : PE X e (tD X.K o (qC (excD C []))) := PE.imp h fun σ H Q ⟨W, ρ, n, R, E, g, r, k⟩ a H3 s na ha => k _ n r _ H3 (W.of s) (W.same g s) (.exn0 (nM g na) ha c)
/-- a part of an error -/
def qXf (K : PySem.W.Frag) (f : Str) (t : TD) : TD := fun ρ n R => t ρ n fun d n1 => ∃ C ks y, d = excD C ks ∧ PySem.W.findIn K (.ref C) f = some none ∧ lookD f ks = some y ∧ R y n1
theorem de_xf {f : Str} {t : TD} (h : PE X e (fun σ H Q => tD X.K o t σ H fun x H1 => ∃ (a C dd : Addr) (fs : List (Str × V)) (v : V), x = .ref a ∧ H1 a = some (keptO a (.ref C) (some dd)) ∧ XfC X.K C ∧ PySem.W.findIn X.K (.ref C) f = some none ∧ H1 dd = some (.xd fs) ∧ fs.lookup f = some v ∧ Q v H1)) :
    PE X e (tD X.K o (qXf X.K f t)) := PE.imp h fun σ H Q ⟨W, ρ, n, R, E, g, t, k⟩ => ⟨W, ρ, n, _, E, g, t, fun d n1 ⟨C, ks, y, ed, no, lk, r⟩ v H1 F1 g1 w => by
  subst ed
  obtain ⟨c, ⟨p, dd, fv, rfl, h1, h2, f⟩ | ⟨p, rfl, h1, ek⟩⟩ := exn_inv w
  · obtain ⟨u, l, wu⟩ := look_fs f lk
    exact ⟨p, C, dd, fv, u, rfl, h1, c.xf, no, h2, l, k y n1 r u H1 F1 g1 wu⟩
  · subst ek
    cases lk⟩
theorem exn_ty {K : PySem.W.Frag} {M : Addr → Prop} {H : Hp} {v : V} {C : Addr} {ks : List (PyData × PyData)} (w : Dw K M H v (excD C ks)) : TyY K H v (.ref C) := by
  obtain ⟨c, ⟨p, dd, fv, rfl, h1, h2, f⟩ | ⟨p, rfl, h1, ek⟩⟩ := exn_inv w
  · exact .e h1 (fun d e => by cases e; exact ⟨_, h2⟩) c.ex
  · exact .e h1 (fun d e => by cases e) c.ex
/-- an error asked for a class -/
def qIsX (K : PySem.W.Frag) (u : Value) (t : TD) : TD := fun ρ n R => t ρ n fun d n1 => ∃ C ks b, d = excD C ks ∧ PySem.W.kitOne K (.ref C) u = some b ∧ R (.bool b) n1
theorem de_isX {c : V} {u : Value} {t : TD} (hc : ClsV c u) (h : PE X e (tCB (rIsiY X.K) (tCons (tD X.K o t) (tCons (tC c) tNil)))) : PE X e (tD X.K o (qIsX X.K u t)) := PE.imp h fun σ H Q ⟨W, ρ, n, R, E, g, t, k⟩ =>
  ⟨W, ρ, n, _, E, g, t, fun d n1 ⟨C, ks, b, ed, q, r⟩ v H1 F1 g1 w => by
    subst ed
    exact ⟨v, c, .ref C, u, b, rfl, hc, exn_ty w, q, k _ n1 r _ H1 F1 g1 (.bl _)⟩⟩
def qIsXs (K : PySem.W.Frag) (us : List Value) (t : TD) : TD := fun ρ n R => t ρ n fun d n1 => ∃ C ks b, d = excD C ks ∧ PySem.W.kitAny K (.ref C) us = some b ∧ R (.bool b) n1
theorem de_isX5 {a b c d' e' : String} {t : TD} (h : PE X e (tCB (rIsiTY X.K) (tCons (tD X.K o t) (tCons (tTupN (tCons (tC (.ty a)) (tCons (tC (.ty b)) (tCons (tC (.ty c)) (tCons (tC (.ty d')) (tCons (tC (.ty e')) tNil)))))) tNil)))) :
    PE X e (tD X.K o (qIsXs X.K [.type a, .type b, .type c, .type d', .type e'] t)) := PE.imp h fun σ H Q ⟨W, ρ, n, R, E, g, t, k⟩ =>
  ⟨W, ρ, n, _, E, g, t, fun d n1 ⟨C, ks, b, ed, q, r⟩ v H1 F1 g1 w => ⟨small_line (by simp), fun p H2 n2 => by
    subst ed
    exact ⟨v, p, _, .ref C, _, b, rfl, n2.2.1, .cons (.ty _) (.cons (.ty _) (.cons (.ty _) (.cons (.ty _) (.cons (.ty _) .nil)))), exn_ty (w.same n2.1), q, k _ n1 r _ H2 (W.trans F1 (W.of n2.1)) (W.same g1 n2.1) (.bl _)⟩⟩⟩
/-- {integer: ..} -/
def qDki (t u : TD) : TD := fun ρ n R => t ρ n fun d n1 => (∃ z, d = .int z) ∧ u ρ n1 fun e n2 => R (.dict [(d, e)]) n2
theorem de_dki {t u : TD} (h : PE X e (fun σ H Q => ∀ p H0, New H H0 p (.dK []) → tD X.K o t σ H0 fun x H1 => tD X.K o u σ H1 fun y H2 =>
    H2 p = some (.dK []) ∧ ∃ key : Key, x = kV key ∧ ∀ H3, (∀ c, c ≠ p → H3 c = H2 c) → H3 p = some (.dK [(key, y)]) → Q (.ref p) H3)) : PE X e (tD X.K o (qDki t u)) := PE.imp h fun σ H Q ⟨W, ρ, n, R, E, g, t, k⟩ => fun p H0 n0 => by
  have pM := W.new g n0
  have g0 := W.same g n0.1
  have E0 : EnvD X.K o (fun c => W.M c ∨ c = p) (W.a, W.ts, W.ov) ρ σ H0 := ((E.more (N := fun c => W.M c ∨ c = p) fun c o m q => m.elim id fun e => by rw [e, n0.2.2] at q; cases q).frm (fx_same n0.1))
  refine ⟨W.plus p (.dK []) (fun _ z => by cases z) pM, ρ, n, _, E0, ⟨g0, n0.2.1⟩, t, fun d n1 ⟨⟨z, ez⟩, u1⟩ v H1 F1 g1 w1 => ⟨W.plus p (.dK []) (fun _ z => by cases z) pM, ρ, n1, _, E0.frm ((W.plus p (.dK []) (fun _ z => by cases z) pM).frm F1), g1, u1, fun y n2 r v2 H2 F2 g2 w2 => ⟨g2.2, .inl z, ?_, fun H3 hc h3 => ?_⟩⟩⟩
  · subst ez
    cases w1
    rfl
  · have e3 : H3 = upd H2 p (.dK [(.inl z, v2)]) := by
      funext c
      by_cases ec : c = p
      · rw [ec, h3, upd_same]
      · rw [hc c ec, upd_ne ec]
    subst e3
    have w3 : Dw X.K W.M (upd H2 p (.dK [(.inl z, v2)])) v2 y := (w2.frm (fx_frm (Frm.mono (frm_upd (a := p)) fun c e => .inr e))).more fun c o m _ => .inl m
    exact k _ n2 r _ _ (W.updR (W.trans (W.of n0.1) (W.trans F1 F2)) n0.2.2) (W.updG g n0.2.2 g2.1 (fun u e => by rw [g2.2] at e; cases e; trivial)) (by rw [ez]; exact .dk pM upd_same (.cons rfl w3 .nil))
/-- the text of an integer -/
def fStrI (ds : List PyData) (R : PyData → Prop) : Prop := ∃ i, ds = [.int i] ∧ i.natAbs.log2 < 1920 ∧ R (.str (toString i))
theorem fit_strI {K : PySem.W.Frag} : FitC K (fun xs H Q => ∃ i, xs = [.int i] ∧ i.natAbs.log2 < 1920 ∧ Q (.str (toString i)) H) fStrI := by
  intro ds R M H vs Q al w f k
  obtain ⟨i, rfl, l, r⟩ := f
  cases w with
  | cons a b =>
    cases b
    cases a
    exact ⟨i, rfl, l, k _ r _ _ (Same.refl _) (.str _)⟩
/-- what != finds alike -/
def fineE (d : PyData) : Bool := (d.canLay0 && decide (d.depth ≤ 20)) || match d with | .dict [(.int _, .list [.int _])] => true | _ => false
theorem itemS_of {K : PySem.W.Frag} {M : Addr → Prop} {H : Hp} {v u : V} {d : PyData} (f : fineE d = true) (w1 : Dw K M H v d) (w2 : Dw K M H u d) : ItemS K H v u := by
  unfold fineE at f
  rcases Bool.or_eq_true _ _ ▸ f with f | f
  · rw [Bool.and_eq_true] at f
    exact .inl ⟨d, w1.dp f.1, w2.dp f.1, f.1, of_decide_eq_true f.2⟩
  · split at f
    · rename_i i j _
      have key : ∀ v, Dw K M H v (.dict [(.int i, .list [.int j])]) → ∃ p q, v = .ref p ∧ H p = some (.dK [(.inl i, .ref q)]) ∧ SqL K H q [.int j] := fun v w => by
        cases w with
        | dct n h c =>
          rename_i kvs
          match kvs, c with
          | (k, u) :: r, c => exact (match u, c.2.1 with | .non, q => False.elim q | .bl _, q => False.elim q | .int _, q => False.elim q | .str _, q => False.elim q | .ref _, q => False.elim q | .flt _, q => False.elim q)
        | dk n h c =>
          cases c with
          | cons kk wv t =>
            cases t
            rename_i k v
            cases k with
            | inr _ => exact kk.elim
            | inl z =>
              cases (show z = i from kk)
              cases wv with
              | lst s a =>
                cases a with
                | cons x y =>
                  cases y
                  cases x
                  exact ⟨_, _, rfl, h, s.at⟩
        | dt n h c =>
          cases c with
          | cons kk _ _ => exact False.elim kk
      obtain ⟨p, q, rfl, h1, h2⟩ := key v w1
      obtain ⟨p', q', rfl, h3, h4⟩ := key u w2
      refine .inr (.inr (.inr (.inr ⟨p, p', _, _, rfl, rfl, h1, h3, rfl, fun x hx => ?_⟩)))
      rw [List.mem_singleton.mp hx]
      refine ⟨.ref q', by unfold valV; simp, .inr (.inr (.inl ⟨q, q', _, _, rfl, rfl, h2, h4, .cons (.inl ⟨rfl, rfl⟩) .nil⟩))⟩
    · cases f
def fNeE (d e : PyData) (R : PyData → Prop) : Prop := ∃ ds, d = .list ds ∧ e = .list ds ∧ ds.all fineE = true ∧ R (.bool false)
theorem items_of {K : PySem.W.Frag} {M : Addr → Prop} {H : Hp} : ∀ {ds : List PyData} {vs us : List V}, ds.all fineE = true → DwAll K M H vs ds → DwAll K M H us ds → Paired (ItemS K H) vs us
  | [], _, _, _, .nil, .nil => .nil
  | d :: ds, _, _, f, .cons a b, .cons c e => by
    rw [List.all_cons, Bool.and_eq_true] at f
    exact .cons (itemS_of f.1 a c) (items_of f.2 b e)
theorem fit_neSame {K : PySem.W.Frag} : FitR K (rNeS K) fNeE := by
  intro dx dy R M H x y Q al wx wy f k
  obtain ⟨ds, rfl, rfl, f, r⟩ := f
  cases wx with
  | lst s a =>
    cases wy with
    | lst s2 b => exact ⟨_, _, _, _, rfl, rfl, s.at, s2.at, items_of f a b, k _ r _ _ (Same.refl _) (.bl _)⟩
end
end MT
set_option maxHeartbeats 2000000
/-! objects of own classes as data: made by an own __init__, their fields read, their methods called -/
namespace MT
open PySem L2
section
variable {K : PySem.W.Frag} {M N : Addr → Prop} {H H' : Hp}
def putD (f : Str) (d : PyData) : List (PyData × PyData) → List (PyData × PyData)
  | [] => [(.str f, d)]
  | (.str g, x) :: r => if g = f then (.str g, d) :: r else (.str g, x) :: putD f d r
  | p :: r => p :: putD f d r
theorem fs_put {f : Str} {v : V} {d : PyData} (w : Dw K M H v d) : ∀ {fv : List (Str × V)} {ks : List (PyData × PyData)}, DwFs K M H fv ks → DwFs K M H (putF f v fv) (putD f d ks)
  | _, _, .nil => .cons w .nil
  | _, _, @DwFs.cons _ _ _ g x r e s a t => by
    show DwFs K M H (if g = f then (g, v) :: r else (g, x) :: putF f v r) (if g = f then (.str g, d) :: s else (.str g, e) :: putD f d s)
    by_cases h : g = f
    · rw [if_pos h, if_pos h]; exact .cons w t
    · rw [if_neg h, if_neg h]; exact .cons a (fs_put w t)
theorem fs_len : ∀ {fv : List (Str × V)} {ks : List (PyData × PyData)}, DwFs K M H fv ks → fv.length = ks.length
  | _, _, .nil => rfl
  | _, _, .cons _ t => congrArg Nat.succ (fs_len t)
theorem look_none {f : Str} : ∀ {fv : List (Str × V)} {ks : List (PyData × PyData)}, DwFs K M H fv ks → lookD f ks = none → fv.lookup f = none
  | _, _, .nil, _ => rfl
  | _, _, @DwFs.cons _ _ _ g x r e s a t, q => by
    have q : (if f = g then some e else lookD f s) = none := q
    rw [lookup_put]
    by_cases h : f = g
    · rw [if_pos h] at q; cases q
    · rw [if_neg h] at q ⊢; exact look_none t q
theorem obj_inv {v : V} {C : Addr} {ks : List (PyData × PyData)} (w : Dw K M H v (objD C ks)) : ∃ p dx fv, v = .ref p ∧ ¬ M p ∧ H p = some (.ins C dx fv) ∧ OCls K C ∧ DwFs K M H fv ks := by
  generalize e : objD C ks = x at w
  unfold objD at e
  cases w with
  | dct n h c =>
    injection e with e
    subst e
    rename_i kvs
    match kvs, c with
    | (.inl _, _) :: _, c => exact False.elim c.1
    | (.inr _, _) :: _, c => exact False.elim c.1
  | dk n h c =>
    injection e with e
    subst e
    cases c with
    | cons k _ _ => exact (kyw_not k).elim
  | dt n h c =>
    injection e with e
    subst e
    cases c with
    | cons k _ _ => exact False.elim k
  | obj n h c f =>
    injection e with e
    injection e with e1 e2
    injection e1 with e1 e3
    injection e1 with e1
    injection e1 with e1 e4
    cases int_nat_inj e1
    subst e2
    exact ⟨_, _, _, rfl, n, h, c, f⟩
  | exn n h n2 h2 c f =>
    injection e with e
    injection e with e1 e2
    injection e1 with e1 e3
    injection e1 with e1
    injection e1 with e1 e4
    cases e4
  | exn0 n h c =>
    injection e with e
    injection e with e1 e2
    injection e1 with e1 e3
    injection e1 with e1
    injection e1 with e1 e4
    cases e4
  | _ => cases e
theorem obj_ty {v : V} {C : Addr} {ks : List (PyData × PyData)} (w : Dw K M H v (objD C ks)) : TyY K H v (.ref C) := by
  obtain ⟨p, dx, fv, rfl, _, h, c, _⟩ := obj_inv w
  exact .x (.base (.ins h c.cls c.cc c.gt c.tk c.ob))
abbrev FI := List PyData → (List (PyData × PyData) → Prop) → (Addr → List (Str × PyData) → Prop) → Prop
/-- an own __init__: the fields of what is made -/
def spI (K : PySem.W.Frag) (C : Addr) (P : FI) : Sp := fun vs H Q E => ∃ (M : Addr → Prop) (x dx : Addr) (us : List V) (ds : List PyData) (R : List (PyData × PyData) → Prop) (Rx : Addr → List (Str × PyData) → Prop), vs = .ref x :: us ∧ M x ∧ Al M H ∧ H x = some (.ins C dx []) ∧ Cls K C ∧ DwAll K M H us ds ∧ P ds R Rx ∧
  (∀ ks, R ks → ∀ H' fv, Frm (· = x) H H' → H' x = some (.ins C dx fv) → DwFs K M H' fv ks → Q .non H') ∧
  ∀ C' fs, Rx C' fs → ∀ a H' fv, Frm (· = x) H H' → H a = none → H' a = some (.xd fv) → FvW K M H' fv fs → E (.ref C') (some a) H'
/-- nothing changes; at v what is being made -/
def pureO (M : Addr → Prop) (v : V) : Fld := { pureF M with ov := fun _ => v }
abbrev TDI' := List DS → List (PyData × PyData) → (List DS → List (PyData × PyData) → Prop) → (Addr → List (Str × PyData) → Prop) → Prop
def tDi (K : PySem.W.Frag) (C : Addr) (E : XK) (t : TDI') : TS := fun D σ H => ∃ (M : Addr → Prop) (x dx : Addr) (fv : List (Str × V)) (ks : List (PyData × PyData)) (ρ : List DS) (Rn : List DS → List (PyData × PyData) → Prop) (Rx : Addr → List (Str × PyData) → Prop),
  EnvD K none M (none, none, fun _ => .ref x) ρ σ H ∧ Al M H ∧ M x ∧ H x = some (.ins C dx fv) ∧ Cls K C ∧ DwFs K M H fv ks ∧ t ρ ks Rn Rx ∧
  (∀ ρ' ks', Rn ρ' ks' → ∀ σ' H' fv', Frm (· = x) H H' → Al M H' → EnvD K none M (none, none, fun _ => .ref x) ρ' σ' H' → H' x = some (.ins C dx fv') → DwFs K M H' fv' ks' → D.nx σ' H') ∧
  ∀ C' fs, Rx C' fs → ∀ a H' fv, Frm (· = x) H H' → H a = none → H' a = some (.xd fv) → FvW K M H' fv fs → E (.ref C') (some a) H'
theorem DwFs.same {fv : List (Str × V)} {ks : List (PyData × PyData)} (h : DwFs K M H fv ks) (s : Same H H') : DwFs K M H' fv ks := DwFs.bthR (Bth.frm (fx_same s)) _ _ h
theorem DwFs.more {fv : List (Str × V)} {ks : List (PyData × PyData)} (h : DwFs K M H fv ks) (i : ∀ c o, N c → H c = some o → M c) : DwFs K N H fv ks := DwFs.bthR (Bth.more i) _ _ h
theorem DwFs.frm {fv : List (Str × V)} {ks : List (PyData × PyData)} (h : DwFs K M H fv ks) (F : Fx M H H') : DwFs K M H' fv ks := DwFs.bthR (Bth.frm F) _ _ h
end
section
variable {X : Cx} {C : Addr} {E : XK} {st : Stmt} {ss : List Stmt}
def qiOld (t : TDS) : TDI' := fun ρ ks Rn _ => t ρ 0 (fun ρ' _ => Rn ρ' ks) (fun _ _ => False)
theorem di_old {t : TDS} (h : PS X st (tDs X.K none t)) : PS X st (tDi X.K C E (qiOld t)) := PS.imp h fun D σ H ⟨M, x, dx, fv, ks, ρ, Rn, Rx, e, al, mx, hx, c, f, q, k1, k2⟩ =>
  ⟨pureO M (.ref x), ρ, 0, _, _, e, al, q, fun ρ' n r σ' H' s g e' => k1 ρ' ks r σ' H' fv (frm_same s) g e' (s _ _ hx) (f.same s), fun d n r v H' s g w => r.elim⟩
def qiIf (c : TDB) (t u : TDI') : TDI' := fun ρ ks Rn Rx => c ρ 0 fun b _ => if b = true then t ρ ks Rn Rx else u ρ ks Rn Rx
theorem di_if {c : TDB} {t u : TDI'} (h : PS X st (tIfS (tDB X.K none c) (tDi X.K C E t) (tDi X.K C E u))) : PS X st (tDi X.K C E (qiIf c t u)) := PS.imp h fun D σ H ⟨M, x, dx, fv, ks, ρ, Rn, Rx, e, al, mx, hx, c, f, q, k1, k2⟩ =>
  ⟨pureO M (.ref x), ρ, 0, _, e, al, q, fun b n r H1 s g => by
    have s : Same H H1 := s
    have kn : ∀ ρ' ks', Rn ρ' ks' → ∀ σ' H' fv', Frm (· = x) H1 H' → Al M H' → EnvD X.K none M (none, none, fun _ => .ref x) ρ' σ' H' → H' x = some (.ins C dx fv') → DwFs X.K M H' fv' ks' → D.nx σ' H' := fun ρ' ks' r σ' H' fv' F => k1 ρ' ks' r σ' H' fv' ((frm_same s).trans F)
    have kx : ∀ C' fs, Rx C' fs → ∀ a H' fv, Frm (· = x) H1 H' → H1 a = none → H' a = some (.xd fv) → FvW X.K M H' fv fs → E (.ref C') (some a) H' := fun C' fs r a H' fv F na => k2 C' fs r a H' fv ((frm_same s).trans F) (Same.free s na)
    cases b with
    | true => exact ⟨M, x, dx, fv, ks, ρ, Rn, Rx, e.frm (fx_same s), g, mx, s _ _ hx, c, f.same s, r, kn, kx⟩
    | false => exact ⟨M, x, dx, fv, ks, ρ, Rn, Rx, e.frm (fx_same s), g, mx, s _ _ hx, c, f.same s, r, kn, kx⟩⟩
def qiSeq (t u : TDI') : TDI' := fun ρ ks Rn Rx => t ρ ks (fun ρ1 ks1 => u ρ1 ks1 Rn Rx) Rx
theorem frm_free {x : Addr} {H H' : Hp} {o : HO} (F : Frm (· = x) H H') (hx : H x = some o) {a : Addr} (na : H' a = none) (hx' : ∃ o, H' x = some o) : H a = none := by
  cases q : H a with
  | none => rfl
  | some u =>
    by_cases e : a = x
    · subst e
      obtain ⟨o', h⟩ := hx'
      rw [h] at na
      cases na
    · rw [F _ _ e q] at na
      cases na
theorem dis_cons {t u : TDI'} (h : PSs X ss (tSeq (tDi X.K C E t) (tDi X.K C E u))) : PSs X ss (tDi X.K C E (qiSeq t u)) := PSs.imp h fun D σ H ⟨M, x, dx, fv, ks, ρ, Rn, Rx, e, al, mx, hx, c, f, q, k1, k2⟩ =>
  ⟨M, x, dx, fv, ks, ρ, _, Rx, e, al, mx, hx, c, f, q, fun ρ1 ks1 r1 σ1 H1 fv1 F1 al1 e1 hx1 f1 => ⟨M, x, dx, fv1, ks1, ρ1, Rn, Rx, e1, al1, mx, hx1, c, f1, r1, fun ρ' ks' r σ' H' fv' F => k1 ρ' ks' r σ' H' fv' (F1.trans F),
    fun C' fs r a H' fv F na => k2 C' fs r a H' fv (F1.trans F) (frm_free F1 hx na ⟨_, hx1⟩)⟩, k2⟩
def qiNil : TDI' := fun ρ ks Rn _ => Rn ρ ks
theorem dis_nil (h : PSs X ss tNext) : PSs X ss (tDi X.K C E qiNil) := PSs.imp h fun D σ H ⟨M, x, dx, fv, ks, ρ, Rn, Rx, e, al, mx, hx, c, f, q, k1, k2⟩ => k1 ρ ks q σ H fv Frm.refl al e hx f
/-- self.f = e -/
def qiFld (f : Str) (u : TD) : TDI' := fun ρ ks Rn _ => ρ[0]? = some (.ow 0) ∧ ks.length < 900 ∧ u ρ 0 fun d _ => Rn ρ (putD f d ks)
theorem di_fld {f : Str} {u : TD} (no : NoAttr X.K C f) (h : PS X st (sFld X.K (tVar 0) (tD X.K none u) f)) : PS X st (tDi X.K C E (qiFld f u)) := PS.imp h fun D σ H ⟨M, x, dx, fv, ks, ρ, Rn, Rx, e, al, mx, hx, c, fs, ⟨r0, ln, q⟩, k1, k2⟩ =>
  ⟨pureO M (.ref x), ρ, 0, _, e, al, q, fun d n r v H1 s g w => by
    have s : Same H H1 := s
    have hx1 := s _ _ hx
    have F : Frm (· = x) H1 (upd H1 x (.ins C dx (putF f v fv))) := frm_upd
    have FM : Fx M H1 (upd H1 x (.ins C dx (putF f v fv))) := fx_frm (F.mono fun c e => e ▸ mx)
    refine ⟨.ref x, e.own 0 0 r0, x, C, dx, fv, rfl, hx1, c, no, by rw [fs_len fs]; omega, ?_⟩
    refine k1 ρ _ r σ _ (putF f v fv) ((frm_same s).trans F) (Al.frm g F ⟨_, upd_same, fun _ z => by cases z⟩) ((e.frm (fx_same s)).frm FM) upd_same (fs_put (w.frm FM) ((fs.same s).frm FM))⟩
/-- raising -/
def qiRaise (C' : Addr) (f : Str) (u : TDA) : TDI' := fun ρ _ _ Rx => u ρ 0 fun ds _ => ∃ x, ds = [x] ∧ Rx C' [(f, x)]
theorem di_raise {C' : Addr} {f : Str} {u : TDA} (h : PS X st (fun _ σ H => tMkE C' f (tDA X.K none u) σ H fun cls d H' => E cls d H')) : PS X st (tDi X.K C E (qiRaise C' f u)) := PS.imp h fun D σ H ⟨M, x, dx, fv, ks, ρ, Rn, Rx, e, al, mx, hx, c, fs, q, k1, k2⟩ =>
  ⟨pureO M (.ref x), ρ, 0, _, e, al, q, fun ds n ⟨y, ed, r⟩ vs H1 s g w => by
    have s : Same H H1 := s
    subst ed
    cases w with
    | cons a b =>
      cases b
      exact ⟨_, rfl, fun d H2 n2 => k2 C' _ r d H2 _ (frm_same (s.trans n2.1)) (Same.free s n2.2.2) n2.2.1 ⟨rfl, .cons (a.same n2.1) .nil⟩⟩⟩
end
section
variable {K : PySem.W.Frag} {N : List Str} {vs : List V} {H : Hp} {Q : VK} {E : XK} {C : Addr}
theorem initG {P : FI} {t : TDI'} (h : spI K C P vs H Q E) (q : ∀ ds R Rx, P ds R Rx → t (DS.ow 0 :: (ds.map DS.d ++ List.replicate (N.length - (ds.length + 1)) DS.no)) [] (fun _ ks => R ks) Rx) : tDi K C E t { nx := fun _ H' => Q .non H', rt := Q } (start N vs) H := by
  obtain ⟨M, x, dx, us, ds, R, Rx, rfl, mx, al, hx, c, w, p, k1, k2⟩ := h
  have e := env_of (o := none) (a := none) (N.length - (ds.length + 1)) w
  refine ⟨M, x, dx, [], [], _, _, Rx, ?_, al, mx, hx, c, .nil, q ds R Rx p, fun ρ' ks' r σ' H' fv' F _ e' hx' f' => k1 ks' r H' fv' F hx' f', k2⟩
  have ow : ∀ (i k : Nat), (ds.map DS.d ++ List.replicate (N.length - (ds.length + 1)) DS.no)[i]? = some (DS.ow k) → False := fun i k z => by
    rcases List.mem_append.mp (List.mem_of_getElem? z) with y | y
    · obtain ⟨d, _, q⟩ := List.mem_map.mp y
      cases q
    · cases (List.mem_replicate.mp y).2
  unfold L2.start
  rw [List.length_cons, w.length, List.map_cons, List.cons_append]
  exact .cons (s := .ow 0) rfl ⟨e.len, e.dat, e.val, e.drw, fun i k z => (ow i k z).elim, rfl, e.fzl⟩
theorem ilenG {P : FI} {n : Nat} (h : spI K C P vs H Q E) (l : ∀ ds R Rx, P ds R Rx → ds.length + 1 = n) : vs.length = n := by
  obtain ⟨M, x, dx, us, ds, R, Rx, rfl, mx, al, hx, c, w, p, k1, k2⟩ := h
  exact (congrArg Nat.succ w.length).trans (l ds R Rx p)
end
/-! ### made, read, asked -/
section
variable {X : Cx} {e : Expr} {o : Option TSet}
theorem made_same {H1 : Hp} {x dx C : Addr} (nx : H1 x = none) (nd : H1 dx = none) : Same H1 (upd (upd H1 dx (.own x)) x (.ins C dx [])) := fun c u e => by
  rw [upd_ne (ne_of_none e nx), upd_ne (ne_of_none e nd)]
  exact e
theorem made_al {M : Addr → Prop} {H1 : Hp} {x dx C : Addr} (al : Al M H1) (nx : H1 x = none) (nd : H1 dx = none) : Al (fun c => M c ∨ c = x) (upd (upd H1 dx (.own x)) x (.ins C dx [])) := fun c m => by
  rcases m with m | rfl
  · exact Al.same al (made_same nx nd) c m
  · exact ⟨_, upd_same, fun _ z => by cases z⟩
theorem made_dw {K : PySem.W.Frag} {M : Addr → Prop} {H1 : Hp} {x dx C : Addr} {vs : List V} {ds : List PyData} (w : DwAll K M H1 vs ds) (nx : H1 x = none) (nd : H1 dx = none) : DwAll K (fun c => M c ∨ c = x) (upd (upd H1 dx (.own x)) x (.ins C dx [])) vs ds :=
  (w.more (N := fun c => M c ∨ c = x) fun c u m e => m.elim id fun z => by rw [z, nx] at e; cases e).same (made_same nx nd)
theorem made_end {H1 H' : Hp} {x dx C : Addr} (nx : H1 x = none) (nd : H1 dx = none) (F : Frm (· = x) (upd (upd H1 dx (.own x)) x (.ins C dx [])) H') : Same H1 H' := fun c u e => F c u (ne_of_none e nx) (made_same nx nd c u e)
/-- C(..) -/
def qMake (C : Addr) (P : FI) (u : TDA) : TD := fun ρ n R => u ρ n fun ds n1 => P ds (fun ks => R (objD C ks) n1) fun _ _ => False
theorem de_make {C : Addr} {P : FI} {E : XK} {u : TDA} (c : OCls X.K C) (h : PE X e (tMake C (spI X.K C P) [] E (tDA X.K o u))) : PE X e (tD X.K o (qMake C P u)) := PE.imp h fun σ H Q ⟨W, ρ, n, R, E, g, t, k⟩ =>
  ⟨W, ρ, n, _, E, g, t, fun ds n1 t1 vs H1 F1 g1 w x dx nx nd ne => by
    have al : Al W.M H1 := fun c m => W.al g1 m
    refine ⟨fun c => W.M c ∨ c = x, x, dx, vs, ds, _, _, by rw [List.append_nil], .inr rfl, made_al al nx nd, upd_same, c.cls, made_dw w nx nd, t1, fun ks r H' fv F hx f => ⟨rfl, ?_⟩, fun C' fs z => z.elim⟩
    have s := made_end nx nd F
    exact k _ n1 r _ H' (W.trans F1 (W.of s)) (W.same g1 s) (.obj (nM g1 nx) hx c (f.more fun c u m _ => .inl m))⟩
/-- an object's field -/
def qFd (K : PySem.W.Frag) (f : Str) (t : TD) : TD := fun ρ n R => t ρ n fun d n1 => ∃ C ks y, d = objD C ks ∧ NoAttr K C f ∧ lookD f ks = some y ∧ R y n1
theorem de_fd {f : Str} {t : TD} (h : PE X e (tFld X.K (tD X.K o t) f)) : PE X e (tD X.K o (qFd X.K f t)) := PE.imp h fun σ H Q ⟨W, ρ, n, R, E, g, t, k⟩ => ⟨W, ρ, n, _, E, g, t, fun d n1 ⟨C, ks, y, ed, no, lk, r⟩ v H1 F1 g1 w => by
  subst ed
  obtain ⟨p, dx, fv, rfl, _, h1, c, f⟩ := obj_inv w
  obtain ⟨u, l, wu⟩ := look_fs f lk
  exact ⟨p, C, dx, fv, u, rfl, h1, c.cls, no, l, k y n1 r u H1 F1 g1 wu⟩⟩
/-- a method that may raise -/
def qMeth (C : Addr) (m : Str) (P : FE) (t : TD) (u : TDA) : TD := fun ρ n R => t ρ n fun d n1 => ∃ ks, d = objD C ks ∧ lookD m ks = none ∧ u ρ n1 fun ds n2 => P (d :: ds) (fun y => R y n2) fun _ _ => False
theorem de_meth {C : Addr} {m : Str} {P : FE} {E : XK} {t : TD} {u : TDA} (h : PE X e (tMeth C m (spE X.K P) [] E (tD X.K o t) (tDA X.K o u))) : PE X e (tD X.K o (qMeth C m P t u)) := PE.imp h fun σ H Q ⟨W, ρ, n, R, E, g, t, k⟩ =>
  ⟨W, ρ, n, _, E, g, t, fun d n1 ⟨ks, ed, lk, t1⟩ v H1 F1 g1 w => by
    subst ed
    obtain ⟨p, dx, fv, rfl, np, h1, c, f⟩ := obj_inv w
    refine ⟨p, dx, fv, rfl, h1, look_none f lk, W, ρ, n1, _, E.frm (W.frm F1), g1, t1, fun ds n2 t2 vs H2 F2 g2 w2 => ?_⟩
    refine ⟨W.M, _, _, _, fun c m => W.al g2 m, ?_, t2, fun y r v H' s w' => k y n2 r v H' (W.trans F1 (W.trans F2 (W.of s))) (W.same g2 s) w', fun C' fs z => z.elim⟩
    rw [List.append_nil]
    exact .cons (w.frm (W.frm F2)) w2⟩
/-- isinstance(x, C), C a class of the program -/
def IsO (K : PySem.W.Frag) (C : Addr) (d : PyData) (b : Bool) : Prop := (∃ D ks, d = objD D ks ∧ PySem.W.kitOne K (.ref D) (.ref C) = some b) ∨ ((∀ ks, d ≠ .dict ks) ∧ PySem.W.kitOne K (.type (tyName d)) (.ref C) = some b)
def qIsO (K : PySem.W.Frag) (C : Addr) (t : TD) : TD := fun ρ n R => t ρ n fun d n1 => ∃ b, IsO K C d b ∧ R (.bool b) n1
theorem de_isO {C : Addr} {t : TD} (h : PE X e (tCB (rIsiY X.K) (tCons (tD X.K o t) (tCons (tC (.ref C)) tNil)))) : PE X e (tD X.K o (qIsO X.K C t)) := PE.imp h fun σ H Q ⟨W, ρ, n, R, E, g, t, k⟩ =>
  ⟨W, ρ, n, _, E, g, t, fun d n1 ⟨b, i, r⟩ v H1 F1 g1 w => by
    rcases i with ⟨D, ks, ed, q⟩ | ⟨nd, q⟩
    · subst ed
      exact ⟨v, .ref C, .ref D, .ref C, b, rfl, .own _, obj_ty w, q, k _ n1 r _ H1 F1 g1 (.bl _)⟩
    · have ty : TyY X.K H1 v (.type (tyName d)) := by
        cases w with
        | non => exact .x (.base .non)
        | bl b => exact .x (.base (.bl b))
        | int i => exact .x (.base (.int i))
        | str x => exact .x (.base (.str x))
        | lst s _ => exact .x (tyx_lst s.at)
        | tup s _ => exact .x (tyx_tup s.at)
        | _ => exact absurd rfl (nd _)
      exact ⟨v, .ref C, _, .ref C, b, rfl, .own _, ty, q, k _ n1 r _ H1 F1 g1 (.bl _)⟩⟩
end
end MT
set_option maxHeartbeats 2000000
/-! == by an own __eq__, whatever it answers -/
namespace MT
open PySem PySem.Spec PyProof.Rows L2
section
variable {X : Cx} {CX : CXT} {n : Nat} {C f : Addr} {fd : FuncData} {ps : List Str} {sp : Sp} {E : XK}
/-- x == y, x an instance of the class at C -/
def rEqO (K : PySem.W.Frag) (C : Addr) (sp : Sp) (E : XK) : R2 := fun x y H Q => ∃ (a dx : Addr) (fs : List (Str × V)) (t : Value), x = .ref a ∧ H a = some (.ins C dx fs) ∧ TyY K H y t ∧ PySem.W.notFirst K C t = true ∧ sp [x, y] H (fun v H' => (∃ b, v = .bl b) ∧ Q v H') E
theorem op_eqO (F : FnOk X.prog X.w X.K X.mg X.base CX n f fd ps sp) (hr : Room n X.A) (hs : PySem.W.findIn X.K (.ref C) "__eq__" = some (some (.ref f))) (hf : PySem.W.isFn X.K (.ref f) = true) (hb : L2.Binds X.K fd ps []) (hx : Passes CX X E) : OpR X (compareOp .Eq) (rEqO X.K C sp E) := by
  intro pins s σ H x y v u Q I rx ry h
  obtain ⟨a, dx, fs, t, rfl, ha, ty, nf, hsp⟩ := h
  cases (show v = Value.ref a from rx)
  obtain ⟨mA, J, _⟩ := ins_get I.hok ha
  obtain ⟨od, J, _⟩ := J.look
  obtain ⟨P, Z, p, _⟩ := kitY_of I ry ty
  obtain ⟨m, hF⟩ := I.fr
  show wpAny (model X.prog X.w) X.A (richCompare .Eq (.ref a) u) (EP X pins σ Q) X.xe s
  refine PySem.W.cmp_K (op := .Eq) (tb := t) hr.units0 hF I.ok.mod.kin J (Z.ty _ _ I.kIn p) nf hs hf ?_
  have hl := F.len _ _ _ _ hsp
  refine wpAny_call (codeAny_mono (F.run X.A X.stack s H ⟨[.ref a, u], []⟩ [.ref a, u] [.ref a, y] _ E hr I.env0 (by
    have b := hb s [.ref a, u] I.kIn (by simpa using hl)
    simpa using b) (.cons rfl (.cons ry .nil)) hsp) fun r s' hq => ?_)
  cases r with
  | error e => exact hx pins σ H s e s' I hq
  | ok fl =>
    cases fl with
    | ret z =>
      obtain ⟨y', H', I', rz, ⟨b, ey⟩, q⟩ := I.after hq
      subst ey
      cases rz
      exact ⟨.bl b, H', I', rfl, q⟩
    | _ => exact False.elim hq
end
section
variable {K : PySem.W.Frag}
/-- what == of objects asks -/
def fEqO (K : PySem.W.Frag) (C : Addr) (P : FD) (d e : PyData) (R : PyData → Prop) : Prop := (∃ ks, d = objD C ks) ∧ ((∃ js, e = objD C js) ∨ ((∀ ks, e ≠ .dict ks) ∧ PySem.W.notFirst K C (.type (tyName e)) = true)) ∧ P [d, e] fun y => (∃ b, y = .bool b) ∧ R y
theorem fit_eqO {C : Addr} {P : FD} {E : XK} : FitR K (rEqO K C (spPure K P) E) (fEqO K C P) := by
  intro dx dy R M H x y Q al wx wy f k
  obtain ⟨⟨ks, rfl⟩, c, p⟩ := f
  obtain ⟨a, d0, fv, rfl, _, h, oc, _⟩ := obj_inv wx
  have fin : spPure K P [.ref a, y] H (fun v H' => (∃ b, v = .bl b) ∧ Q v H') E := ⟨M, _, _, al, .cons wx (.cons wy .nil), p, fun d r v H' s w => by
    obtain ⟨⟨b, rfl⟩, r⟩ := r
    have q := k _ r v H' s w
    cases w
    exact ⟨⟨b, rfl⟩, q⟩⟩
  rcases c with ⟨js, rfl⟩ | ⟨nd, nf⟩
  · exact ⟨a, d0, fv, .ref C, rfl, h, obj_ty wy, by unfold PySem.W.notFirst; simp, fin⟩
  · refine ⟨a, d0, fv, _, rfl, h, ?_, nf, fin⟩
    cases wy with
    | non => exact .x (.base .non)
    | bl _ => exact .x (.base (.bl _))
    | int _ => exact .x (.base (.int _))
    | str _ => exact .x (.base (.str _))
    | lst s _ => exact .x (tyx_lst s.at)
    | tup s _ => exact .x (tyx_tup s.at)
    | _ => exact absurd rfl (nd _)
end
end MT
set_option maxHeartbeats 2000000
/-! a static method asked of its class; what may raise, whatever it is, handed on in a lambda -/
namespace MT
open PySem PySem.Spec PyProof.Rows L2
/-- C.m is a staticmethod: its record at p, its def at f -/
structure SMet (K : PySem.W.Frag) (C : Addr) (mc : Value) (m : Str) (p f : Addr) : Prop where
  rd : PySem.W.readsIn K C mc = true
  ga : PySem.W.specialIn K (.ref C) "__getattribute__" = some (some (.builtin "type.__getattribute__"))
  at_ : PySem.W.findCls K (.ref C) mc m = some (.get (.builtin "staticmethod.__get__") (.ref p) .none (.ref C))
  rc : ∃ rest, PySem.W.recIn K p "staticmethod" = some (.ref f :: rest)
  kp : PySem.W.keepIn K (.ref f) = true
section
variable {X : Cx} {CX : CXT} {k n : Nat} {C p f : Addr} {mc : Value} {sp : Sp} {E : XK} {o e : Expr} {es : List Expr} {m : Str} {pos apos : Pos} {t tk : TA} {pl : Sem Bool} {fd : FuncData} {ps : List Str} {x : Str} {np : Pos}
theorem get_static {pins : List (Addr × Obj)} {σ : L2.St} {H : Hp} {s : Shared} {A : Around} {E : Value → Shared → Prop} {Q : Value × List Value → Shared → Prop} (I : Inv X pins σ H s) (c : SMet X.K C mc m p f) (h : ∀ s', Inv X pins σ H s' → Q (.ref f, []) s') :
    wpAny (model X.prog X.w) A (getMethod (.ref C) m pl) Q E s := by
  obtain ⟨rest, hp⟩ := c.rc
  refine PySem.W.method_cls I.kIn c.ga (PySem.W.cls_bind I.kIn c.rd c.at_ ?_)
  refine wpAny_call (PySem.W.sm_get (s := { s with toks := s.toks + 1 }) I.kIn hp (PySem.W.handed_on rfl ?_))
  exact h _ (I.tok _)
/-- C.m(e, ..) -/
theorem pe_static (hg : Gl X x) (hm : X.mg x = some (.ref C)) (c : SMet X.K C mc m p f) (F : FnOk X.prog X.w X.K X.mg X.base CX k f fd ps sp) (hr : Room k X.A) (hb : L2.Binds X.K fd ps []) (hx : Passes CX X E) (ha : PA X (e :: es) t)
    (hdb : (x == ("__debug__" : Str)) = false := by decide) (hst : starEach (e :: es) X.env = (false, eval e X.env) :: starEach es X.env := by rfl) (hpl : (backTo pos (starEach es X.env)).any (·.1) = false := by rfl)
    (ht : eval (.Call (.Attribute (.Name x np) m apos) (e :: es) [] pos) X.env = (do
      let ov ← eval (.Name x np) X.env
      standAt apos.atName
      let (f, first) ← holding [ov] (getMethod ov m pl)
      callWith pos f first (backTo pos (starEach (e :: es) X.env)) (backToKw pos (keywordEach [] X.env))) := by rfl) :
    PE X (.Call (.Attribute (.Name x np) m apos) (e :: es) [] pos) (tCall sp [] E t) := by
  refine ⟨fun pins s σ H Q I h => PySem.W.methodCall_KW (pl := pl) (ld_glob I hg hm ?_ hdb) ht⟩
  refine get_static (I.tok _) c fun s2 I2 => ?_
  refine PySem.W.callWith_K (first := []) (h₀ := X.base) I.ok.mod.kin c.kp (thn (ha.run pos pins s2 σ H _ I2 h) fun us s3 ⟨vs, H2, I3, r, q⟩ => ⟨I3.kIn, ?_⟩) hst hpl
  exact run_fn (us := us) (vs := vs) F hr hb .nil hx I3 r q
/-- C.m(k = v, ..) -/
theorem pe_staticN {kws : List Keyword} {ks : List Str} {g : List Value → List Value → List Value} {gV : List V → List V → List V} (hg : Gl X x) (hm : X.mg x = some (.ref C)) (c : SMet X.K C mc m p f) (F : FnOk X.prog X.w X.K X.mg X.base CX k f fd ps sp) (hr : Room k X.A) (hb : KBn X.K fd ps 0 ks g gV) (hx : Passes CX X E)
    (hkw : PK X kws tk) (hall : (backToKw pos (keywordEach kws X.env)).all (·.1.isSome) = true := by rfl) (hks : (backToKw pos (keywordEach kws X.env)).filterMap (·.1) = ks := by rfl)
    (hpl : ((backTo pos (starEach [] X.env)).any (·.1) || (backToKw pos (keywordEach kws X.env)).any (·.1.isNone)) = false := by rfl) (hdb : (x == ("__debug__" : Str)) = false := by decide)
    (ht : eval (.Call (.Attribute (.Name x np) m apos) [] kws pos) X.env = (do
      let ov ← eval (.Name x np) X.env
      standAt apos.atName
      let (f, first) ← holding [ov] (getMethod ov m pl)
      callWith pos f first (backTo pos (starEach [] X.env)) (backToKw pos (keywordEach kws X.env))) := by rfl) :
    PE X (.Call (.Attribute (.Name x np) m apos) [] kws pos) (tCallN 0 ks.length sp gV E tNil tk) := by
  refine ⟨fun pins s σ H Q I h => PySem.W.methodCall_KW (pl := pl) (ld_glob I hg hm ?_ hdb) ht⟩
  refine get_static (I.tok _) c fun s2 I2 => ?_
  refine PySem.W.callWith_KW0 (h₀ := X.base) I.ok.mod.kin c.kp hall (thn (hkw.run pos pins s2 σ H _ I2 h) fun ws s3 ⟨zs, H2, I3, rz, l1, l2, q⟩ => ⟨I3.kIn, ?_⟩) hpl
  rw [hks]
  exact run_fnN (us := []) (vs := []) F hr hb hx I3 .nil rz l1 l2 q
/-- C(k = v, ..), nothing by place -/
theorem pe_makeN0 {kws : List Keyword} {ks : List Str} {g : List Value → List Value → List Value} {gV : List V → List V → List V} (M : Mk X.K C f) (F : FnOk X.prog X.w X.K X.mg X.base CX k f fd ps sp) (hr : Room (k + 1) X.A) (hg : Gl X x) (hm : X.mg x = some (.ref C)) (hb : KBn X.K fd ps 1 ks g gV) (hx : Passes CX X E)
    (hkw : PK X kws tk) (hall : (backToKw pos (keywordEach kws X.env)).all (·.1.isSome) = true := by rfl) (hks : (backToKw pos (keywordEach kws X.env)).filterMap (·.1) = ks := by rfl)
    (hpl : ((backTo pos (starEach [] X.env)).any (·.1) || (backToKw pos (keywordEach kws X.env)).any (·.1.isNone)) = false := by rfl) (hdb : (x == ("__debug__" : Str)) = false := by decide) :
    PE X (.Call (.Name x np) [] kws pos) (tMakeN C 0 ks.length sp gV E tNil tk) := by
  refine ⟨fun pins s σ H Q I h => wpAny_Call_Name_kw (ld_glob I hg hm ?_ hdb)⟩
  refine PySem.W.callWith_KW0 (h₀ := X.base) I.ok.mod.kin M.kp hall (thn (hkw.run pos pins _ σ H _ (I.tok _) h) fun ws s3 ⟨zs, H2, I3, rz, l1, l2, q⟩ => ⟨I3.kIn, ?_⟩) hpl
  rw [hks]
  exact run_makeN (us := []) (vs := []) M F hr hb hx I3 .nil rz l1 l2 q
/-- o.m(k = v, ..) -/
def tMethN (C : Addr) (m : Str) (n : Nat) (sp : Sp) (gV : List V → List V → List V) (E : XK) (ta : TE) (tk : TA) : TE := fun σ H Q => ta σ H fun x H1 => ∃ a dx fs, x = .ref a ∧ H1 a = some (.ins C dx fs) ∧ fs.lookup m = none ∧ tk σ H1 fun zs H2 => zs.length = n ∧ sp (gV [x] zs) H2 Q E
theorem pe_methN0 {ta : TE} {kws : List Keyword} {ks : List Str} {g : List Value → List Value → List Value} {gV : List V → List V → List V} (he : PE X o ta) (c : Cls X.K C) (hm : Meth X.K C m f) (F : FnOk X.prog X.w X.K X.mg X.base CX k f fd ps sp) (hr : Room k X.A) (hb : KBn X.K fd ps 1 ks g gV) (hx : Passes CX X E)
    (hkw : PK X kws tk) (hall : (backToKw pos (keywordEach kws X.env)).all (·.1.isSome) = true := by rfl) (hks : (backToKw pos (keywordEach kws X.env)).filterMap (·.1) = ks := by rfl)
    (hpl : ((backTo pos (starEach [] X.env)).any (·.1) || (backToKw pos (keywordEach kws X.env)).any (·.1.isNone)) = false := by rfl)
    (ht : eval (.Call (.Attribute o m apos) [] kws pos) X.env = (do
      let ov ← eval o X.env
      standAt apos.atName
      let (f, first) ← holding [ov] (getMethod ov m pl)
      callWith pos f first (backTo pos (starEach [] X.env)) (backToKw pos (keywordEach kws X.env))) := by rfl) :
    PE X (.Call (.Attribute o m apos) [] kws pos) (tMethN C m ks.length sp gV E ta tk) := by
  refine ⟨fun pins s σ H Q I h => ?_⟩
  refine PySem.W.methodCall_KW (pl := pl) (thn (he.run pins s σ H _ I h) fun u s1 ⟨y, H1, I1, rx, a, dx, fs, ex, ea, l, q⟩ => ?_) ht
  subst ex
  obtain rfl : u = Value.ref a := rx
  refine getmeth_ok I1 ea c hm l ?_
  refine PySem.W.callWith_KW0 (first := [.ref a]) (h₀ := X.base) I.ok.mod.kin hm.kp hall (thn (hkw.run pos pins s1 σ H1 _ I1 q) fun ws s2 ⟨zs, H2, I2, rz, l2, q2⟩ => ⟨I2.kIn, ?_⟩) hpl
  rw [hks]
  exact run_fnN (us := [.ref a]) (vs := [.ref a]) F hr hb hx I2 (.cons rfl .nil) rz rfl l2 q2
end
end MT
set_option maxHeartbeats 2000000
/-! what may raise: calls, makings, methods, static ones; heard through a lambda; by names -/
namespace MT
open PySem L2 LamX
abbrev TDX2 := List DS → Nat → QD → (Addr → List (Str × PyData) → Prop) → Prop
def tDE (K : PySem.W.Frag) (o : Option TSet) (E : XK) (q : TDX2) : TE := fun σ H Q => ∃ (W : Fld) (ρ : List DS) (n : Nat) (R : QD) (Rx : Addr → List (Str × PyData) → Prop), EnvD K o W.M (W.a, W.ts, W.ov) ρ σ H ∧ W.G n H ∧ q ρ n R Rx ∧
  (∀ d n', R d n' → ∀ v H', W.Rel H H' → W.G n' H' → Dw K W.M H' v d → Q v H') ∧ ∀ C fs, Rx C fs → ∀ a H' fv, W.Rel H H' → H' a = some (.xd fv) → FvW K W.M H' fv fs → E (.ref C) (some a) H'
section
variable {X : Cx} {e : Expr} {E : XK} {o : Option TSet}
def qxO (t : TD) : TDX2 := fun ρ n R _ => t ρ n R
theorem dxe_of {t : TD} (h : PE X e (tD X.K o t)) : PE X e (tDE X.K o E (qxO t)) := PE.imp h fun σ H Q ⟨W, ρ, n, R, Rx, e, g, t, k, kx⟩ => ⟨W, ρ, n, R, e, g, t, k⟩
def qxCall (P : FE) (u : TDA) : TDX2 := fun ρ n R Rx => u ρ n fun ds n1 => P ds (fun d => R d n1) Rx
theorem dxe_call {P : FE} {u : TDA} (h : PE X e (tCall (spE X.K P) [] E (tDA X.K o u))) : PE X e (tDE X.K o E (qxCall P u)) := PE.imp h fun σ H Q ⟨W, ρ, n, R, Rx, E, g, t, k, kx⟩ =>
  ⟨W, ρ, n, _, E, g, t, fun ds n1 t1 vs H1 F1 g1 w => ⟨W.M, ds, _, _, fun c m => W.al g1 m, by rw [List.append_nil]; exact w, t1, fun d r v H' s w' => k d n1 r v H' (W.trans F1 (W.of s)) (W.same g1 s) w', fun C fs r a H' fv s na ha hw => kx C fs r a H' fv (W.trans F1 (W.of s)) ha hw⟩⟩
def qxMake (C : Addr) (P : FI) (u : TDA) : TDX2 := fun ρ n R Rx => u ρ n fun ds n1 => P ds (fun ks => R (objD C ks) n1) Rx
theorem fv_more {K : PySem.W.Frag} {M N : Addr → Prop} {H : Hp} {fv : List (Str × V)} {fs : List (Str × PyData)} (h : FvW K M H fv fs) (i : ∀ c o, N c → H c = some o → M c) : FvW K N H fv fs := ⟨h.1, h.2.more i⟩
theorem dxe_make {C : Addr} {P : FI} {u : TDA} (c : OCls X.K C) (h : PE X e (tMake C (spI X.K C P) [] E (tDA X.K o u))) : PE X e (tDE X.K o E (qxMake C P u)) := PE.imp h fun σ H Q ⟨W, ρ, n, R, Rx, E, g, t, k, kx⟩ =>
  ⟨W, ρ, n, _, E, g, t, fun ds n1 t1 vs H1 F1 g1 w x dx nx nd ne => by
    have al : Al W.M H1 := fun c m => W.al g1 m
    refine ⟨fun c => W.M c ∨ c = x, x, dx, vs, ds, _, _, by rw [List.append_nil], .inr rfl, made_al al nx nd, upd_same, c.cls, made_dw w nx nd, t1, fun ks r H' fv F hx f => ⟨rfl, ?_⟩, fun C' fs r a H' fv F na ha hw => ?_⟩
    · have s := made_end nx nd F
      exact k _ n1 r _ H' (W.trans F1 (W.of s)) (W.same g1 s) (.obj (nM g1 nx) hx c (f.more fun c u m _ => .inl m))
    · have s := made_end nx nd F
      exact kx C' fs r a H' fv (W.trans F1 (W.of s)) ha (fv_more hw fun c u m _ => .inl m)⟩
def qxMeth (C : Addr) (m : Str) (P : FE) (t : TD) (u : TDA) : TDX2 := fun ρ n R Rx => t ρ n fun d n1 => ∃ ks, d = objD C ks ∧ lookD m ks = none ∧ u ρ n1 fun ds n2 => P (d :: ds) (fun y => R y n2) Rx
theorem dxe_meth {C : Addr} {m : Str} {P : FE} {t : TD} {u : TDA} (h : PE X e (tMeth C m (spE X.K P) [] E (tD X.K o t) (tDA X.K o u))) : PE X e (tDE X.K o E (qxMeth C m P t u)) := PE.imp h fun σ H Q ⟨W, ρ, n, R, Rx, E, g, t, k, kx⟩ =>
  ⟨W, ρ, n, _, E, g, t, fun d n1 ⟨ks, ed, lk, t1⟩ v H1 F1 g1 w => by
    subst ed
    obtain ⟨p, dx, fv, rfl, np, h1, c, f⟩ := obj_inv w
    refine ⟨p, dx, fv, rfl, h1, look_none f lk, W, ρ, n1, _, E.frm (W.frm F1), g1, t1, fun ds n2 t2 vs H2 F2 g2 w2 => ?_⟩
    refine ⟨W.M, _, _, _, fun c m => W.al g2 m, ?_, t2, fun y r v H' s w' => k y n2 r v H' (W.trans F1 (W.trans F2 (W.of s))) (W.same g2 s) w', fun C' fs r a H' fv s na ha hw => kx C' fs r a H' fv (W.trans F1 (W.trans F2 (W.of s))) ha hw⟩
    rw [List.append_nil]
    exact .cons (w.frm (W.frm F2)) w2⟩
/-- by names -/
def qxMakeN (C : Addr) (m : Nat) (gD : List PyData → List PyData → List PyData) (P : FI) (u : TDA) : TDX2 := fun ρ n R Rx => u ρ n fun ds n1 => ds.length = m ∧ P (gD [] ds) (fun ks => R (objD C ks) n1) Rx
theorem dxe_makeN {C : Addr} {m : Nat} {gV : List V → List V → List V} {gD : List PyData → List PyData → List PyData} {P : FI} {u : TDA} (c : OCls X.K C)
    (hg : ∀ {M : Addr → Prop} {H : Hp} {x : V} {zs : List V} {es : List PyData}, zs.length = m → DwAll X.K M H zs es → ∃ us, gV [x] zs = x :: us ∧ DwAll X.K M H us (gD [] es))
    (h : PE X e (tMakeN C 0 m (spI X.K C P) gV E tNil (tDA X.K o u))) : PE X e (tDE X.K o E (qxMakeN C m gD P u)) := PE.imp h fun σ H Q ⟨W, ρ, n, R, Rx, E, g, t, k, kx⟩ =>
  ⟨W, ρ, n, _, E, g, t, fun ds n1 ⟨ln, t1⟩ vs H1 F1 g1 w => ⟨rfl, w.length.trans ln, fun x dx nx nd ne => by
    have al : Al W.M H1 := fun c m => W.al g1 m
    obtain ⟨us, eu, wu⟩ := hg (x := .ref x) (w.length.trans ln) w
    rw [eu]
    refine ⟨fun c => W.M c ∨ c = x, x, dx, us, _, _, _, rfl, .inr rfl, made_al al nx nd, upd_same, c.cls, made_dw wu nx nd, t1, fun ks r H' fv F hx f => ⟨rfl, ?_⟩, fun C' fs r a H' fv F na ha hw => ?_⟩
    · have s := made_end nx nd F
      exact k _ n1 r _ H' (W.trans F1 (W.of s)) (W.same g1 s) (.obj (nM g1 nx) hx c (f.more fun c u m _ => .inl m))
    · have s := made_end nx nd F
      exact kx C' fs r a H' fv (W.trans F1 (W.of s)) ha (fv_more hw fun c u m _ => .inl m)⟩⟩
def qxMethN (C : Addr) (m : Str) (j : Nat) (gD : List PyData → List PyData → List PyData) (P : FE) (t : TD) (u : TDA) : TDX2 := fun ρ n R Rx => t ρ n fun d n1 => ∃ ks, d = objD C ks ∧ lookD m ks = none ∧ u ρ n1 fun ds n2 => ds.length = j ∧ P (gD [d] ds) (fun y => R y n2) Rx
theorem dxe_methN {C : Addr} {m : Str} {j : Nat} {gV : List V → List V → List V} {gD : List PyData → List PyData → List PyData} {P : FE} {t : TD} {u : TDA}
    (hg : ∀ {M : Addr → Prop} {H : Hp} {vs zs : List V} {ds es : List PyData}, DwAll X.K M H vs ds → DwAll X.K M H zs es → DwAll X.K M H (gV vs zs) (gD ds es))
    (h : PE X e (tMethN C m j (spE X.K P) gV E (tD X.K o t) (tDA X.K o u))) : PE X e (tDE X.K o E (qxMethN C m j gD P t u)) := PE.imp h fun σ H Q ⟨W, ρ, n, R, Rx, E, g, t, k, kx⟩ =>
  ⟨W, ρ, n, _, E, g, t, fun d n1 ⟨ks, ed, lk, t1⟩ v H1 F1 g1 w => by
    subst ed
    obtain ⟨p, dx, fv, rfl, np, h1, c, f⟩ := obj_inv w
    refine ⟨p, dx, fv, rfl, h1, look_none f lk, W, ρ, n1, _, E.frm (W.frm F1), g1, t1, fun ds n2 ⟨ln, t2⟩ vs H2 F2 g2 w2 => ⟨w2.length.trans ln, ?_⟩⟩
    exact ⟨W.M, _, _, _, fun c m => W.al g2 m, hg (.cons (w.frm (W.frm F2)) .nil) w2, t2, fun y r v H' s w' => k y n2 r v H' (W.trans F1 (W.trans F2 (W.of s))) (W.same g2 s) w', fun C' fs r a H' fv s na ha hw => kx C' fs r a H' fv (W.trans F1 (W.trans F2 (W.of s))) ha hw⟩⟩
/-- where nothing is raised -/
theorem de_ofX {q : TDX2} (h : PE X e (tDE X.K o E q)) : PE X e (tD X.K o (fun ρ n R => q ρ n R fun _ _ => False)) := PE.imp h fun σ H Q ⟨W, ρ, n, R, e, g, t, k⟩ => ⟨W, ρ, n, R, _, e, g, t, k, fun _ _ z => z.elim⟩
/-- handed on in a lambda -/
def qHeardX (hx : Addr → List (Str × PyData) → PyData → Prop) (hr : PyData → PyData) (q : TDX2) : TD := fun ρ n R => q (ρ.map undr) n (fun d _ => R (hr d) n) fun C fs => ∃ z, hx C fs z ∧ R z n
theorem de_heardX {TS : TSet} {hx : Addr → List (Str × PyData) → PyData → Prop} {hr : PyData → PyData} {q : TDX2} (h : PE X e (LamX.tLam TS (TTs X.K hx hr) (fun E => tDE X.K none E q))) : PE X e (tD X.K (some TS) (qHeardX hx hr q)) := PE.imp h fun σ H Q ⟨W, ρ, n, R, E, g, t, k⟩ => by
  obtain ⟨l1, l2⟩ := W.lm TS E.tse
  refine ⟨l1 _ _ g, fun H1 x1 t1 => ?_⟩
  have q := l2 _ _ _ g x1 t1
  refine ⟨W.M, fun z => R z n, fun c m => W.al q.1 m, fun H0 s0 => ?_, fun z r v H' s w => k z n r v H' (W.trans q.2 (W.of s)) (W.same q.1 s) w⟩
  have E1 := ((E.frm (W.frm q.2)).undr).frm (fx_same s0)
  have al1 : Al W.M H0 := Al.same (fun c m => W.al q.1 m) s0
  refine ⟨pureF W.M, _, n, _, _, E1, al1, t, fun d n' r v H' s g w => ⟨s, d, w, r⟩, ?_⟩
  rintro C fs ⟨z, hz, r⟩ a H' fv s ha hw
  exact ⟨C, fs, fv, z, a, rfl, rfl, s, ha, hw, hz, r⟩
end
end MT
set_option maxHeartbeats 2000000
/-! x = C(..); x.f = e; return x -/
namespace MT
open PySem L2
section
variable {X : Cx} {ss : List Stmt} {o : Option TSet}
def qMkSet (C : Addr) (P : FI) (u : TDA) (i : Nat) (f : Str) (t : TD) : TDS := fun ρ n _ Rr => u ρ n fun ds n1 => P ds (fun ks => ks.length < 900 ∧ i < ρ.length ∧ t (ρ.set i .no) n1 fun d n2 => Rr (objD C (putD f d ks)) n2) fun _ _ => False
theorem ds_mkset {C : Addr} {P : FI} {E : XK} {u : TDA} {i : Nat} {f : Str} {t : TD} (c : OCls X.K C) (no : NoAttr X.K C f) (h : PSs X ss (tSeq (tAsg (tMake C (spI X.K C P) [] E (tDA X.K o u)) (gName i)) (tSeq (sFld X.K (tVar i) (tD X.K o t) f) (tRet (tVar i))))) : PSs X ss (tDs X.K o (qMkSet C P u i f t)) := PSs.imp h fun D σ H ⟨W, ρ, n, Rn, Rr, E, g, q, k1, k2⟩ =>
  ⟨W, ρ, n, _, E, g, q, fun ds n1 q1 vs H1 F1 g1 w x dx nx nd ne => by
    have al : Al W.M H1 := fun c m => W.al g1 m
    refine ⟨fun c => W.M c ∨ c = x, x, dx, vs, ds, _, _, by rw [List.append_nil], .inr rfl, made_al al nx nd, upd_same, c.cls, made_dw w nx nd, q1, fun ks r H2 fv F hx fs => ⟨rfl, ?_⟩, fun C' fs z => z.elim⟩
    obtain ⟨ln, hi, q2⟩ := r
    have s := made_end nx nd F
    have g2 := W.same g1 s
    have xM : ¬ W.M x := nM g1 nx
    have E1 : EnvD X.K o W.M (W.a, W.ts, W.ov) ρ σ H2 := E.frm (W.frm (W.trans F1 (W.of s)))
    have il : i < σ.length := E.len ▸ hi
    have E2 : EnvD X.K o (W.plus x (.ins C dx fv) (fun _ z => by cases z) xM).M (W.a, W.ts, W.ov) (ρ.set i .no) (σ.set i (some (.ref x))) H2 := by
      have e0 : EnvD X.K o (fun c => W.M c ∨ c = x) (W.a, W.ts, W.ov) ρ σ H1 := (E.frm (W.frm F1)).more (N := fun c => W.M c ∨ c = x) fun c u m q => m.elim id fun e => by rw [e, nx] at q; cases q
      exact (e0.frm (fx_same s)).put i (s := .no) trivial
    refine ⟨W.plus x (.ins C dx fv) (fun _ z => by cases z) xM, ρ.set i .no, n1, _, E2, ⟨g2, hx⟩, q2, fun d n2 r v H3 F3 g3 w3 => ?_⟩
    have at_i : (σ.set i (some (V.ref x)))[i]? = some (some (.ref x)) := List.getElem?_set_self il
    refine ⟨.ref x, at_i, x, C, dx, fv, rfl, g3.2, c.cls, no, by rw [fs_len fs]; omega, .ref x, at_i, ?_⟩
    have FU : Fx (fun c => W.M c ∨ c = x) H3 (upd H3 x (.ins C dx (putF f v fv))) := fx_frm (Frm.mono (frm_upd (a := x)) fun c e => .inr e)
    have fs3 : DwFs X.K (fun c => W.M c ∨ c = x) H3 fv ks := fs.frm ((W.plus x (.ins C dx fv) (fun _ z => by cases z) xM).frm F3)
    have fin : DwFs X.K W.M (upd H3 x (.ins C dx (putF f v fv))) (putF f v fv) (putD f d ks) := (fs_put (w3.frm FU) (fs3.frm FU)).more fun c u m _ => .inl m
    exact k2 _ n2 r _ _ (W.trans F1 (W.updR (W.trans (W.of s) F3) nx)) (W.updG g1 nx g3.1 (fun u e => by rw [g3.2] at e; cases e; trivial)) (.obj xM upd_same c fin)⟩
end
end MT
set_option maxHeartbeats 2000000
/-! walking back: reversed(a list or a tuple) -/
namespace MT
open PySem L2 RT
section
variable {K : PySem.W.Frag}
theorem rev_at {α : Type} {xs : List α} {i : Nat} (h : i < xs.length) : xs.reverse[i]? = xs[xs.length - 1 - i]? := List.getElem?_reverse h
theorem wlk_revL {a : Addr} {xs : List V} : Wlk (Itv K a xs.length) (fun H => SqL K H a xs) xs.reverse := fun i H s => by
  rw [List.length_reverse]
  refine ⟨fun h => ⟨h, xs, xs[xs.length - 1 - i]'(by omega), s, List.getElem?_eq_getElem _⟩, fun h => h, fun v H' y => ⟨y.1, fun h => ?_⟩⟩
  rw [rev_at h]
  exact y.2 xs s
theorem wlk_revT {a : Addr} {xs : List V} : Wlk (ItvT K a xs.length) (fun H => SqT K H a xs) xs.reverse := fun i H s => by
  rw [List.length_reverse]
  refine ⟨fun h => ⟨h, xs, xs[xs.length - 1 - i]'(by omega), s, List.getElem?_eq_getElem _⟩, fun h => h, fun v H' y => ⟨y.1, fun h => ?_⟩⟩
  rw [rev_at h]
  exact y.2 xs s
theorem DwAll.rev {M : Addr → Prop} {H : Hp} : ∀ {vs : List V} {ds : List PyData}, DwAll K M H vs ds → DwAll K M H vs.reverse ds.reverse
  | _, _, .nil => .nil
  | _, _, .cons a b => by
    rw [List.reverse_cons, List.reverse_cons]
    exact (DwAll.rev b).append (.cons a .nil)
end
section
variable {X : Cx} {o : Option TSet}
def qItRev (t : TD) : TDI := fun ρ n Q => t ρ n fun d n' => ∃ ds, seqD d = some ds ∧ Q ds.reverse n'
theorem di_rev {tg e : Expr} {t : TD} (h : PI X tg e (iRevA X.K (tD X.K o t))) : PI X tg e (tDI X.K o (qItRev t)) := PI.imp h fun σ H R ⟨W, ρ, n, Q, E, g, t, k⟩ =>
  ⟨W, ρ, n, _, E, g, t, fun d n1 ⟨ds, e, r⟩ v H1 F1 g1 w => by
    cases w with
    | lst s a =>
      cases e
      exact ⟨_, _, rfl, .inl ⟨s.at, k _ n1 r _ H1 F1 g1 ⟨_, _, wlk_revL, a.rev, fun H2 F2 => (s.frm F2).at⟩⟩⟩
    | tup s a =>
      cases e
      exact ⟨_, _, rfl, .inr ⟨s.at, k _ n1 r _ H1 F1 g1 ⟨_, _, wlk_revT, a.rev, fun H2 F2 => (s.frm F2).at⟩⟩⟩
    | _ => cases e⟩
end
end MT
set_option maxHeartbeats 1000000
/-! new lists given back; data without lists kept over changes of lists under way -/
namespace MT
open PySem L2
mutual
/-- no list in it -/
def noL : PyData → Bool
  | .list _ => false
  | .tuple ds => noLs ds
  | .dict ks => noLk ks
  | _ => true
def noLs : List PyData → Bool
  | [] => true
  | d :: ds => noL d && noLs ds
def noLk : List (PyData × PyData) → Bool
  | [] => true
  | (_, e) :: r => noL e && noLk r
end
theorem kept_nl {a C : Addr} {d : Option Addr} : ∀ xs, keptO a (.ref C) d ≠ HO.lst xs := fun xs z => by
  have z' : HO.ext _ = HO.lst xs := z
  cases z'
theorem noLs_mem : ∀ {ds : List PyData}, noLs ds = true → ∀ d ∈ ds, noL d = true
  | d :: ds, h, e, m => by
    have h : (noL d && noLs ds) = true := h
    rw [Bool.and_eq_true] at h
    rcases List.mem_cons.mp m with rfl | m
    · exact h.1
    · exact noLs_mem h.2 e m
theorem noLs_of : ∀ {ds : List PyData}, (∀ d ∈ ds, noL d = true) → noLs ds = true
  | [], _ => rfl
  | d :: ds, h => by
    show (noL d && noLs ds) = true
    rw [h d List.mem_cons_self, noLs_of fun e m => h e (List.mem_cons_of_mem _ m)]
    rfl
section
variable {K : PySem.W.Frag} {M N : Addr → Prop} {H : Hp}
theorem TpW.nol (i : ∀ c u, N c → H c = some u → (∀ xs, u ≠ HO.lst xs) → M c) {p : Addr} {xs : List V} (h : TpW K M H p xs) : TpW K N H p xs := h.imp (fun q => ⟨fun m => q.1 (i _ _ m q.2 fun _ z => by cases z), q.2⟩) id
mutual
theorem Dw.nolR (i : ∀ c u, N c → H c = some u → (∀ xs, u ≠ HO.lst xs) → M c) : ∀ (d : PyData) (v : V), noL d = true → Dw K M H v d → Dw K N H v d
  | .none, _, _, h => by cases h; exact .non
  | .bool b, _, _, h => by cases h; exact .bl b
  | .int j, _, _, h => by cases h; exact .int j
  | .str x, _, _, h => by cases h; exact .str x
  | .list ds, _, e, h => by cases e
  | .tuple ds, _, e, h => by
    cases h with
    | tup n a => exact .tup (n.nol i) (DwAll.nolR i ds _ e a)
  | .dict ks, _, e, h => by
    cases h with
    | dct n s c => exact .dct (fun m => n (i _ _ m s fun _ z => by cases z)) s c
    | dkT n s => exact .dkT (fun m => n (i _ _ m s fun _ z => by cases z)) s
    | dcT n s => exact .dcT (fun m => n (i _ _ m s fun _ z => by cases z)) s
    | dk n s a => exact .dk (fun m => n (i _ _ m s fun _ z => by cases z)) s (DwKs.nolR i ks _ e a)
    | dt n s a => exact .dt (fun m => n (i _ _ m s fun _ z => by cases z)) s (DwKt.nolR i ks _ e a)
    | @exn _ _ _ _ ks n s n2 s2 c a => exact .exn (fun m => n (i _ _ m s kept_nl)) s (fun m => n2 (i _ _ m s2 fun _ z => by cases z)) s2 c (DwFs.nolR i ks _ (by
        have e : (noL .none && noLk ks) = true := e
        rw [Bool.and_eq_true] at e
        exact e.2) a)
    | exn0 n s c => exact .exn0 (fun m => n (i _ _ m s kept_nl)) s c
    | @obj _ _ _ _ ks n s c a => exact .obj (fun m => n (i _ _ m s fun _ z => by cases z)) s c (DwFs.nolR i ks _ (by
        have e : (noL .none && noLk ks) = true := e
        rw [Bool.and_eq_true] at e
        exact e.2) a)
theorem DwAll.nolR (i : ∀ c u, N c → H c = some u → (∀ xs, u ≠ HO.lst xs) → M c) : ∀ (ds : List PyData) (vs : List V), noLs ds = true → DwAll K M H vs ds → DwAll K N H vs ds
  | [], _, _, h => by cases h; exact .nil
  | d :: ds, _, e, h => by
    have e : (noL d && noLs ds) = true := e
    rw [Bool.and_eq_true] at e
    cases h with
    | cons a b => exact .cons (Dw.nolR i d _ e.1 a) (DwAll.nolR i ds _ e.2 b)
theorem DwKs.nolR (i : ∀ c u, N c → H c = some u → (∀ xs, u ≠ HO.lst xs) → M c) : ∀ (ds : List (PyData × PyData)) (vs : List (Key × V)), noLk ds = true → DwKs K M H vs ds → DwKs K N H vs ds
  | [], _, _, h => by cases h; exact .nil
  | (_, e) :: ds, _, q, h => by
    have q : (noL e && noLk ds) = true := q
    rw [Bool.and_eq_true] at q
    cases h with
    | cons k a b => exact .cons k (Dw.nolR i e _ q.1 a) (DwKs.nolR i ds _ q.2 b)
theorem DwKt.nolR (i : ∀ c u, N c → H c = some u → (∀ xs, u ≠ HO.lst xs) → M c) : ∀ (ds : List (PyData × PyData)) (vs : List (List Key × V)), noLk ds = true → DwKt K M H vs ds → DwKt K N H vs ds
  | [], _, _, h => by cases h; exact .nil
  | (_, e) :: ds, _, q, h => by
    have q : (noL e && noLk ds) = true := q
    rw [Bool.and_eq_true] at q
    cases h with
    | cons k a b => exact .cons k (Dw.nolR i e _ q.1 a) (DwKt.nolR i ds _ q.2 b)
theorem DwFs.nolR (i : ∀ c u, N c → H c = some u → (∀ xs, u ≠ HO.lst xs) → M c) : ∀ (ds : List (PyData × PyData)) (vs : List (Str × V)), noLk ds = true → DwFs K M H vs ds → DwFs K N H vs ds
  | [], _, _, h => by cases h; exact .nil
  | (_, e) :: ds, _, q0, h => by
    have q : noL e = true ∧ noLk ds = true := by
      have q2 : (noL e && noLk ds) = true := q0
      rw [Bool.and_eq_true] at q2
      exact q2
    cases h with
    | cons a b => exact .cons (Dw.nolR i e _ q.1 a) (DwFs.nolR i ds _ q.2 b)
end
end
section
variable {K : PySem.W.Frag} {o : Option TSet} {W : Fld} {H0 H H' : Hp} {Rs : List Rt} {ρ : List DS} {σ : L2.St} {n n' k : Nat} {M N : Addr → Prop}
/-- what has no list stands beside the lists under way -/
theorem OwSt.nol {v : V} {d : PyData} (S : OwSt K o W H0 H Rs ρ σ n) (w : Dw K W.M H v d) (e : noL d = true) : Dw K (MG W Rs) H v d := Dw.nolR (fun c u m eu nl => m.elim id fun m => by
  obtain ⟨xs, e⟩ := S.pl c m
  rw [e] at eu
  cases eu
  exact (nl xs rfl).elim) d v e w
/-- one of its lists changed -/
theorem OwSt.innerG {r : Rt} {j : Nat} {zs : List V} {es fs : List PyData} {q : Addr} (S : OwSt K o W H0 H Rs ρ σ n) (hk : Rs[k]? = some r) (hj : r.2[j]? = some (.ref q, .list es, some q))
    (ha : DwAll K (MG W Rs) H zs fs) :
    OwSt K o W H0 (upd H q (.lst zs)) (Rs.set k (r.1, r.2.set j (.ref q, .list fs, some q))) ρ σ n ∧ Bth K (MG W Rs) (MG W (Rs.set k (r.1, r.2.set j (.ref q, .list fs, some q)))) H (upd H q (.lst zs)) := by
  obtain ⟨kk, lt⟩ := owLt_big ρ
  have nr := S.nd.e k r hk
  have qa : q ∈ adr r := it_mem (List.mem_of_getElem? hj) rfl
  have ad : adr (r.1, r.2.set j (V.ref q, PyData.list fs, some q)) = adr r := by
    have fs' : (r.2.set j (V.ref q, PyData.list fs, some q)).filterMap (·.2.2) = r.2.filterMap (·.2.2) := fm_set hj rfl
    unfold adr
    rw [fs']
  have nq : r.1 ≠ q := fun z => (List.nodup_cons.mp nr).1 (z ▸ List.mem_filterMap.mpr ⟨_, List.mem_of_getElem? hj, rfl⟩)
  refine S.re ⟨k, r, hk, qa⟩ (fun c m => at_set hk (fun c m => by rw [ad] at m; exact m) m) (nd_set S.nd hk (fun c m => .inl (by rw [ad] at m; exact m)) (by rw [ad]; exact nr)) (fun j _ => ov_set hk rfl) lt fun i x e => ?_
  rcases get_set e with ⟨_, rfl⟩ | ⟨ni, e⟩
  · have fx : Fx (MG W Rs) H (upd H q (.lst zs)) := fx_frm (Frm.mono (frm_upd (a := q)) fun c e => e ▸ .inr ⟨k, r, hk, qa⟩)
    refine ⟨?_, fun x m => ?_⟩
    · show upd H q _ r.1 = _
      rw [upd_ne nq, (S.ok k r hk).l]
      congr 2
      show r.2.map (·.1) = (r.2.set j (V.ref q, PyData.list fs, some q)).map (·.1)
      rw [List.map_set]
      exact (set_self (by rw [List.getElem?_map, hj]; rfl)).symm
    · obtain ⟨i2, e2⟩ := List.mem_iff_getElem?.mp m
      rcases get_set e2 with ⟨_, rfl⟩ | ⟨n2, e2⟩
      · exact ⟨zs, fs, rfl, upd_same, rfl, ha.frm fx⟩
      · exact ((S.ok k r hk).i x (List.mem_of_getElem? e2)).bth (Bth.frm fx) fun c ec => upd_ne fun z => n2 (fm_inj (List.nodup_cons.mp nr).2 e2 hj ec (congrArg some z.symm))
  · exact S.other hk qa ni e
/-- a list of its own put in, others left out -/
theorem OwSt.putG {r : Rt} {p : Addr} {its : List Itm} {j l : Nat} (hjl : j ≤ l) (S : OwSt K o W H0 H (Rs ++ [(p, its)]) ρ σ n) (nn : ∀ x ∈ its, x.2.2 = none) (hk : Rs[k]? = some r) (lt : owLt Rs.length ρ = true) :
    OwSt K o W H0 (upd H r.1 (.lst ((r.2.map (·.1)).take j ++ [.ref p] ++ (r.2.map (·.1)).drop l))) (Rs.set k (r.1, r.2.take j ++ [(.ref p, .list (its.map (·.2.1)), some p)] ++ r.2.drop l)) ρ σ n ∧
      Bth K (MG W (Rs ++ [(p, its)])) (MG W (Rs.set k (r.1, r.2.take j ++ [(.ref p, .list (its.map (·.2.1)), some p)] ++ r.2.drop l))) H (upd H r.1 (.lst ((r.2.map (·.1)).take j ++ [.ref p] ++ (r.2.map (·.1)).drop l))) := by
  have lk := (List.getElem?_eq_some_iff.mp hk).1
  have hk1 : (Rs ++ [(p, its)])[k]? = some r := by rw [List.getElem?_append_left lk]; exact hk
  have hp1 : (Rs ++ [(p, its)])[Rs.length]? = some (p, its) := by rw [List.getElem?_append_right (Nat.le_refl _), Nat.sub_self]; rfl
  have adp : adr (p, its) = [p] := by unfold adr; rw [fm_none nn]
  have pin : p ∈ adr (p, its) := List.mem_cons_self
  have npR : ¬ AtR Rs p := fun ⟨i, x, e, m⟩ => by
    have li := (List.getElem?_eq_some_iff.mp e).1
    have q := S.nd.d i Rs.length x (p, its) p (by rw [List.getElem?_append_left li]; exact e) hp1 m pin
    omega
  have npr : p ∉ adr r := fun m => npR ⟨k, r, hk, m⟩
  have ndR : NdR Rs := ⟨fun i x e => S.nd.e i x (by rw [List.getElem?_append_left (List.getElem?_eq_some_iff.mp e).1]; exact e), fun i j a b c ea eb => S.nd.d i j a b c (by rw [List.getElem?_append_left (List.getElem?_eq_some_iff.mp ea).1]; exact ea) (by rw [List.getElem?_append_left (List.getElem?_eq_some_iff.mp eb).1]; exact eb)⟩
  have nr := S.nd.e k r hk1
  have fm : (r.2.take j ++ [((.ref p, .list (its.map (·.2.1)), some p) : Itm)] ++ r.2.drop l).filterMap (·.2.2) = (r.2.take j).filterMap (·.2.2) ++ p :: (r.2.drop l).filterMap (·.2.2) := by
    rw [List.filterMap_append, List.filterMap_append, List.append_assoc]
    rfl
  have sp : ((r.2.take j).filterMap (·.2.2) ++ (r.2.drop l).filterMap (·.2.2)).Sublist (r.2.filterMap (·.2.2)) := by
    have e : r.2.filterMap (·.2.2) = (r.2.take j).filterMap (·.2.2) ++ (r.2.drop j).filterMap (·.2.2) := by rw [← List.filterMap_append, List.take_append_drop]
    rw [e]
    exact (List.Sublist.refl _).append ((List.drop_sublist_drop_left r.2 hjl).filterMap _)
  have sub : ∀ c ∈ adr (r.1, r.2.take j ++ [((.ref p, .list (its.map (·.2.1)), some p) : Itm)] ++ r.2.drop l), c ∈ adr r ∨ c = p := fun c m => by
    rcases List.mem_cons.mp m with e | m
    · exact .inl (by rw [e]; exact List.mem_cons_self)
    · have m : c ∈ (r.2.take j ++ [((.ref p, .list (its.map (·.2.1)), some p) : Itm)] ++ r.2.drop l).filterMap (·.2.2) := m
      rw [fm] at m
      rcases List.mem_append.mp m with m | m
      · exact .inl (List.mem_cons_of_mem _ (sp.subset (List.mem_append_left _ m)))
      · rcases List.mem_cons.mp m with m | m
        · exact .inr m
        · exact .inl (List.mem_cons_of_mem _ (sp.subset (List.mem_append_right _ m)))
  refine S.re ⟨k, r, hk1, List.mem_cons_self⟩ (fun c m => ?_) (nd_set ndR hk (fun c m => (sub c m).imp id fun e => by rw [e]; exact npR) ?_) (fun i l' => (ov_set (r' := (r.1, r.2.take j ++ [((.ref p, .list (its.map (·.2.1)), some p) : Itm)] ++ r.2.drop l)) hk rfl).trans (ov_app l').symm) lt fun i x e => ?_
  · obtain ⟨i, x, e, m⟩ := m
    rcases get_set e with ⟨_, rfl⟩ | ⟨_, e⟩
    · rcases sub c m with m | m
      · exact ⟨k, r, hk1, m⟩
      · exact ⟨_, _, hp1, by rw [adp]; exact List.mem_singleton.mpr m⟩
    · exact at_left ⟨i, x, e, m⟩
  · unfold adr
    rw [fm]
    unfold adr at nr npr
    have h1 := List.nodup_cons.mp nr
    have h2 := h1.2.sublist sp
    refine List.nodup_cons.mpr ⟨fun m => ?_, ?_⟩
    · rcases List.mem_append.mp m with m | m
      · exact h1.1 (sp.subset (List.mem_append_left _ m))
      · rcases List.mem_cons.mp m with m | m
        · exact npr (by rw [← m]; exact List.mem_cons_self)
        · exact h1.1 (sp.subset (List.mem_append_right _ m))
    · refine (List.perm_middle.nodup_iff).mpr (List.nodup_cons.mpr ⟨fun m => npr (List.mem_cons_of_mem _ (sp.subset m)), h2⟩)
  · rcases get_set e with ⟨_, rfl⟩ | ⟨ni, e⟩
    · have fx : ∀ {zs : List V}, Fx (MG W (Rs ++ [(p, its)])) H (upd H r.1 (.lst zs)) := fun {zs} => fx_frm (Frm.mono (frm_upd (a := r.1)) fun c e => e ▸ .inr ⟨k, r, hk1, List.mem_cons_self⟩)
      refine ⟨by rw [upd_same]; simp only [List.map_append, List.map_take, List.map_drop, List.map_cons, List.map_nil], fun x m => ?_⟩
      have old : ∀ x ∈ r.2, ItOk K (MG W (Rs ++ [(p, its)])) (upd H r.1 (.lst ((r.2.map (·.1)).take j ++ [.ref p] ++ (r.2.map (·.1)).drop l))) x := fun x m =>
        ((S.ok k r hk1).i x m).bth (Bth.frm fx) fun c ec => upd_ne fun z => (List.nodup_cons.mp nr).1 (List.mem_filterMap.mpr ⟨x, m, ec.trans (congrArg some z)⟩)
      rcases List.mem_append.mp m with m | m
      · rcases List.mem_append.mp m with m | m
        · exact old x (List.mem_of_mem_take m)
        · rw [List.mem_singleton.mp m]
          have q := S.ok _ _ hp1
          have w := its_dw (N := MG W (Rs ++ [(p, its)])) (fun c u m _ => m) q.i fun x m z ez => by rw [nn x m] at ez; cases ez
          exact ⟨its.map (·.1), its.map (·.2.1), rfl, by rw [upd_ne (show p ≠ r.1 from fun z => npr (by rw [z]; exact List.mem_cons_self))]; exact q.l, rfl, w.frm fx⟩
      · exact old x (List.mem_of_mem_drop m)
    · exact S.other hk1 List.mem_cons_self ni (by rw [List.getElem?_append_left (List.getElem?_eq_some_iff.mp e).1]; exact e)
end
section
variable {X : Cx} {e : Expr} {st : Stmt} {ss : List Stmt} {o : Option TSet}
end
/-! ### new lists given back -/
/-- a new list -/
def tDQ (K : PySem.W.Frag) (o : Option TSet) (t : TDA) : TE := fun σ H Q => ∃ (W : Fld) (ρ : List DS) (n : Nat) (R : List PyData → Nat → Prop), EnvD K o W.M (W.a, W.ts, W.ov) ρ σ H ∧ W.G n H ∧ t ρ n R ∧
  ∀ ds n', R ds n' → ∀ p xs m Hb H', W.Rel H Hb → W.G m Hb → Hb p = none → W.Rel H H' → W.G n' H' → H' p = some (.lst xs) → DwAll K (fun c => W.M c ∨ c = p) H' xs ds → Q (.ref p) H'
/-- a def that draws and gives a new list -/
def spDrF (K : PySem.W.Frag) (c : Nat) (P : FD) : Sp := fun vs H Q _ => ∃ (M : Addr → Prop) (a b : Addr) (cs : List Int) (n : Nat) (us : List V) (ds : List PyData) (R : PyData → Prop), vs = .ref a :: us ∧ M a ∧ Al M H ∧ Sx a b cs n H ∧ n + c ≤ 1000000 ∧ DwAll K M H us ds ∧ P ds R ∧
  ∀ es, R (.list es) → ∀ p xs m Hb H', Frm (· = a) H Hb → Sx a b cs m Hb → Hb p = none → Frm (· = a) H H' → Sx a b cs (n + c) H' → H' p = some (.lst xs) → DwAll K (fun c => M c ∨ c = p) H' xs es → Q (.ref p) H'
def qDrF (c : Nat) (i : Nat) (P : FD) (u : TDA) : TDA := fun ρ n R => ρ[i]? = some DS.dr ∧ u ρ n fun ds n1 => n1 + c ≤ 1000000 ∧ P ds fun d => ∃ es, d = .list es ∧ R es (n1 + c)
def qMulF (t u : TD) : TDA := fun ρ n R => t ρ n fun d n1 => u ρ n1 fun y n2 => ∃ (a : List PyData) (k : Int), d = .list a ∧ y = .int k ∧ -(2 ^ 63) ≤ k ∧ k < 2 ^ 63 ∧ a.length * k.toNat ≤ 10000000 ∧ R (List.replicate k.toNat a).flatten n2
def qListD (t : TDA) : TD := fun ρ n R => t ρ n fun es n' => R (.list es) n'
section
variable {X : Cx} {e : Expr} {st : Stmt} {ss : List Stmt} {o : Option TSet}
theorem dq_f {t : TDA} (h : PE X e (tDF X.K o t)) : PE X e (tDQ X.K o t) := PE.imp h fun σ H Q ⟨W, ρ, n, R, E, g, t, k⟩ =>
  ⟨W, ρ, n, R, E, g, t, fun ds n1 r p xs m Hb H1 Fb gb eb F2 g1 hp da => k ds n1 r p xs m Hb H1 Fb gb eb (W.trans Fb F2) g1 hp da⟩
theorem dr_q {t : TDA} (h : PE X e (tDQ X.K o t)) : PE X e (tDR X.K o t) := PE.imp h fun σ H Q ⟨W, ρ, n, R, E, g, t, k⟩ => ⟨W, ρ, n, R, E, g, t, fun ds n1 r p xs m Hb H1 Fb gb eb F2 g1 hp da => by
  obtain ⟨its, rfl, rfl, i3, i4⟩ := its_mk da
  have ad : adr (p, its) = [p] := by unfold adr; rw [fm_none i3]
  refine k _ n1 r (p, its) H1 rfl F2 g1 (fun c m => ?_) (by rw [ad]; simp) ⟨hp, fun x m => it_none (i3 x m) ((i4 x m).more fun c u m _ => ?_)⟩
  · rw [ad] at m
    rw [List.mem_singleton.mp m]
    exact ⟨_, Hb, Fb, gb, eb⟩
  · rw [ad] at m
    exact m.imp id List.mem_singleton.mp⟩
theorem new_nM {W : Fld} {n : Nat} {H : Hp} {p : Addr} (g : W.G n H) (e : H p = none) : ¬ W.M p := fun m => by
  obtain ⟨u, q, _⟩ := W.al g m
  rw [q] at e
  cases e
/-- .. as data -/
theorem d_q {t : TDA} (h : PE X e (tDQ X.K o t)) : PE X e (tD X.K o (qListD t)) := PE.imp h fun σ H Q ⟨W, ρ, n, R, E, g, t, k⟩ => ⟨W, ρ, n, _, E, g, t, fun ds n1 r p xs m Hb H1 Fb gb eb F2 g1 hp da =>
  k _ n1 r _ H1 F2 g1 (.lst ⟨new_nM gb eb, hp⟩ (da.more fun c u m _ => .inl m))⟩
theorem dq_draw {c i : Nat} {P : FD} {u : TDA} {E : XK} (h : PE X e (tCall (spDrF X.K c P) [] E (tCons (tVar i) (tDA X.K o u)))) : PE X e (tDQ X.K o (qDrF c i P u)) := PE.imp h fun σ H Q ⟨W, ρ, n, R, E, g, ⟨hi, t⟩, k⟩ => by
  obtain ⟨a, ea, hσ⟩ := E.drw i hi
  obtain ⟨m, b, cs, h1, h2⟩ := W.dr a ea
  refine ⟨_, hσ, W, ρ, n, _, E, g, t, fun ds n1 ⟨l, t1⟩ vs H1 F1 g1 w => ⟨W.M, a, b, cs, n1, vs, ds, _, by rw [List.append_nil], m, fun c m => W.al g1 m, h1 _ _ g1, l, w, t1, fun es ⟨es2, e2, r⟩ p xs mb Hb H' Fb Sb eb F' S' hp da => ?_⟩⟩
  cases e2
  have qb := h2 _ _ _ _ g1 Fb Sb
  have q := h2 _ _ _ _ g1 F' S'
  exact k _ _ r p xs mb Hb H' (W.trans F1 qb.2) qb.1 eb (W.trans F1 q.2) q.1 hp da
theorem df_mul {t u : TD} (h : PE X e (tOp (fun x y H Q => ∃ l k xs, x = .ref l ∧ y = .int k ∧ H l = some (.lst xs) ∧ -(2 ^ 63) ≤ k ∧ k < 2 ^ 63 ∧ xs.length * k.toNat ≤ sizeLine ∧ ∀ p H2, New H H2 p (.lst (List.replicate k.toNat xs).flatten) → Q (.ref p) H2) (tD X.K o t) (tD X.K o u))) : PE X e (tDF X.K o (qMulF t u)) := PE.imp h fun σ H Q ⟨W, ρ, n, R, E, g, t, k⟩ =>
  ⟨W, ρ, n, _, E, g, t, fun d n1 r1 v H1 F1 g1 w => ⟨W, ρ, n1, _, E.frm (W.frm F1), g1, r1, fun y n2 ⟨a, j, e1, e2, l1, l2, l3, r2⟩ v2 H2 F2 g2 w2 => by
    subst e1
    subst e2
    have w := w.frm (W.frm F2)
    cases w2
    cases w with
    | lst s wa =>
      refine ⟨_, _, _, rfl, rfl, s.2, l1, l2, by rw [wa.length]; exact small_line l3, fun p H3 n3 => ?_⟩
      exact k _ n2 r2 p _ n2 H2 H3 (W.trans F1 F2) g2 n3.2.2 (W.of n3.1) (W.same g2 n3.1) n3.2.1 (((wa.rep _).more (fun c u m q => m.elim id fun e => by rw [e, n3.2.2] at q; cases q)).same n3.1)⟩⟩
/-! ### statements -/
/-- x = a new list of new lists -/
def qSetN (i : Nat) (t : TDA) : TDSO := fun h ρ n Rn _ => owLt h.length (ρ.set i .no) = true ∧ t ρ n fun ds n' => Rn (h ++ [.n ds]) (ρ.set i (.ow h.length)) n'
theorem os_setN {i : Nat} {t : TDA} (h : PS X st (tAsg (tDN X.K o t) (gName i))) : PS X st (tDsO X.K o (qSetN i t)) := PS.imp h fun D σ H ⟨W, H0, Rs, h, ρ, n, Rn, Rr, S, hr, ⟨lt, t⟩, k1, k2⟩ =>
  ⟨S.F, ρ, n, _, S.env, S.G, t, fun ds n1 rr r H1 ed en F1 g1 b nd ok => by
    rw [hr.1] at lt rr
    have S0 : OwSt X.K o W H0 H Rs (ρ.set i .no) (σ.set i (some (.ref r.1))) n := ⟨S.env.setn i, S.g, S.rel, S.nd, S.out, S.ok⟩
    obtain ⟨S1, B⟩ := S0.bornR F1 g1 b nd ok lt
    have S2 := S1.named
    rw [List.set_set] at S2
    exact k1 (Rs ++ [r]) _ (ρ.set i (.ow Rs.length)) n1 (hr.app (show HR (.n ds) r from ⟨ed, en⟩)) rr _ H1 B S2⟩
theorem os_setNLc {i : Nat} {vs0 : List Nat} {g : TG} {f} {src : TDI} {tt : TDB} {te : TDA} (hf : GFit X.K vs0 g f) (h : PS X st (tAsg (tLc (tDI X.K o src) g (tDB X.K o tt) (tDF X.K o te) vs0) (gName i))) : PS X st (tDsO X.K o (qSetN i (qLcN vs0 f src tt te))) := os_setN (PS.imp h fun D σ H q => dn_over hf q)
/-- x[a] = e -/
def qSto1 (i : Nat) (t a : TD) : TDSO := fun h ρ n Rn _ => ∃ k ds, rootF h ρ i k ds ∧ t (ρ.map (bor h)) n fun d n1 => noL d = true ∧ a (ρ.map (bor h)) n1 fun da n2 => ∃ x : Nat, da = .int (x : Nat) ∧ x < ds.length ∧ Rn (h.set k (.f (ds.set x d))) ρ n2
theorem os_sto1 {i : Nat} {t a : TD} (h : PS X st (tAsg (tD X.K o t) (gSub (tVar i) (tD X.K o a) rSetL))) : PS X st (tDsO X.K o (qSto1 i t a)) := PS.imp h fun D σ H ⟨W, H0, Rs, h, ρ, n, Rn, Rr, S, hr, ⟨k, ds, ⟨hi, hk⟩, t⟩, k1, k2⟩ => by
  obtain ⟨r, hkr, ed⟩ := hr.at hk
  have ed : r.2.map (·.2.1) = ds := ed
  refine ⟨W, _, n, _, S.bor hr, S.g, t, fun d n1 ⟨nd, ra⟩ v H1 F1 g1 w1 => ?_⟩
  have S1 := S.frm F1 g1
  refine ⟨.ref r.1, S.at hi hkr, W, _, n1, _, S1.bor hr, g1, ra, fun da n2 ⟨x, ea, lx, rr⟩ va H2 F2 g2 w2 => ?_⟩
  subst ea
  cases w2
  have S2 := S1.frm F2 g2
  have lx2 : x < r.2.length := by rw [← ed, List.length_map] at lx; exact lx
  refine ⟨r.1, r.2.map (·.1), (x : Nat), x, rfl, rfl, (S2.ok k r hkr).l, ixN_nat (by rw [List.length_map]; exact lx2), ?_⟩
  have S3 := S2.root hkr (r.2.set x (v, d, none)) (fun z m => (List.mem_or_eq_of_mem_set m).imp id fun e => by rw [e]; exact ⟨rfl, S2.nol (w1.frm (W.frm F2)) nd⟩) (by
    have nr := (List.nodup_cons.mp (S2.nd.e k r hkr)).2
    rw [List.set_eq_take_append_cons_drop, if_pos lx2, List.filterMap_append, List.filterMap_cons]
    have e : r.2.filterMap (·.2.2) = (r.2.take x).filterMap (·.2.2) ++ (r.2.drop x).filterMap (·.2.2) := by rw [← List.filterMap_append, List.take_append_drop]
    rw [e] at nr
    exact nr.sublist ((List.Sublist.refl _).append ((List.drop_sublist_drop_left r.2 (Nat.le_succ x)).filterMap _)))
  rw [List.map_set] at S3
  exact k1 _ _ ρ n2 (hr.set k (x := .f (ds.set x d)) (r := (r.1, r.2.set x (v, d, none))) (by show (r.2.set x (v, d, none)).map (fun z : Itm => z.2.1) = _; rw [List.map_set, ed])) rr σ _ ((Bth.frm (mg_fx (W.frm (W.trans F1 F2)))).trans S3.2) S3.1
/-- x[a] = a new list -/
def qStoN (i : Nat) (t : TDA) (a : TD) : TDSO := fun h ρ n Rn _ => ∃ k ds, rootN h ρ i k ds ∧ owLt h.length ρ = true ∧ t (ρ.map (bor h)) n fun es n1 => noLs es = true ∧ a (ρ.map (bor h)) n1 fun da n2 => ∃ x : Nat, da = .int (x : Nat) ∧ x < ds.length ∧ Rn (h.set k (.n (ds.set x (.list es)))) ρ n2
theorem os_stoN {i : Nat} {t : TDA} {a : TD} (h : PS X st (tAsg (tDQ X.K o t) (gSub (tVar i) (tD X.K o a) rSetL))) : PS X st (tDsO X.K o (qStoN i t a)) := PS.imp h fun D σ H ⟨W, H0, Rs, h, ρ, n, Rn, Rr, S, hr, ⟨k, ds, ⟨hi, hk⟩, lt, t⟩, k1, k2⟩ => by
  obtain ⟨r, hkr, ed, en⟩ := hr.at hk
  rw [hr.1] at lt
  refine ⟨W, _, n, _, S.bor hr, S.g, t, fun es n1 ⟨nl, ra⟩ p xs mb Hb H1 Fb gb eb F1 g1 hp da => ?_⟩
  have S1 := S.frm F1 g1
  refine ⟨.ref r.1, S.at hi hkr, W, _, n1, _, S1.bor hr, g1, ra, fun dx n2 ⟨x, ea, lx, rr⟩ va H2 F2 g2 w2 => ?_⟩
  subst ea
  cases w2
  have npM := new_nM gb eb
  have hp2 : H2 p = some (.lst xs) := W.frm F2 _ _ npM hp fun _ z => by cases z
  have da2 := da.frm ((W.frm F2).mono fun c m => .inl m)
  have F12 := W.trans F1 F2
  have kS := S.kept (W.frm F12)
  obtain ⟨its, e1, e2, i3, i4⟩ := its_mk da2
  have ad : adr (p, its) = [p] := by unfold adr; rw [fm_none i3]
  have ok : RtOk X.K (fun c => (W.M c ∨ AtR Rs c) ∨ c ∈ adr (p, its)) H2 (p, its) := by
    refine ⟨by rw [e1]; exact hp2, fun y m => it_none (i3 y m) (Dw.nolR (fun c u mc eu nu => ?_) _ _ (noLs_mem nl _ (by rw [← e2]; exact List.mem_map_of_mem m)) (i4 y m))⟩
    rcases mc with (mc | mc) | mc
    · exact .inl mc
    · obtain ⟨zs, ez⟩ := S.pl c mc
      rw [kS c mc, ez] at eu
      cases eu
      exact (nu zs rfl).elim
    · rw [ad] at mc
      exact .inr (List.mem_singleton.mp mc)
  obtain ⟨S2, B2⟩ := S.bornR (r := (p, its)) (H1 := H2) (n' := n2) F12 ⟨g2, kS⟩ (fun c mc => by
    rw [ad] at mc
    rw [List.mem_singleton.mp mc]
    exact ⟨mb, Hb, Fb, ⟨gb, S.kept (W.frm Fb)⟩, eb⟩) (by rw [ad]; simp) ok lt
  have lx2 : x < r.2.length := by rw [← ed, List.length_map] at lx; exact lx
  have hl : H2 r.1 = some (.lst (r.2.map (·.1))) := (S2.ok k r (by rw [List.getElem?_append_left (List.getElem?_eq_some_iff.mp hkr).1]; exact hkr)).l
  refine ⟨r.1, r.2.map (·.1), (x : Nat), x, rfl, rfl, hl, ixN_nat (by rw [List.length_map]; exact lx2), ?_⟩
  obtain ⟨S3, B3⟩ := S2.putG (j := x) (l := x + 1) (Nat.le_succ x) i3 hkr lt
  have es : (r.2.map (·.1)).set x (.ref p) = (r.2.map (·.1)).take x ++ [V.ref p] ++ (r.2.map (·.1)).drop (x + 1) := by
    rw [List.set_eq_take_append_cons_drop, if_pos (by rw [List.length_map]; exact lx2), List.append_assoc]
    rfl
  rw [es]
  refine k1 _ _ ρ n2 (hr.set k (x := .n (ds.set x (.list _))) (r := (r.1, r.2.take x ++ [((V.ref p, PyData.list (its.map (·.2.1)), some p) : Itm)] ++ r.2.drop (x + 1))) ⟨?_, fun z mz => ?_⟩) rr σ _ (B2.trans B3) S3
  · show (r.2.take x ++ [((V.ref p, PyData.list (its.map (·.2.1)), some p) : Itm)] ++ r.2.drop (x + 1)).map (fun z : Itm => z.2.1) = _
    rw [List.map_append, List.map_append, List.map_take, List.map_drop, ed, e2, List.set_eq_take_append_cons_drop, if_pos lx, List.append_assoc]
    rfl
  · rcases List.mem_append.mp mz with mz | mz
    · rcases List.mem_append.mp mz with mz | mz
      · exact en z (List.mem_of_mem_take mz)
      · rw [List.mem_singleton.mp mz]
        exact fun z => by cases z
    · exact en z (List.mem_of_mem_drop mz)
/-- x[a].append(e) -/
def qApp2 (i : Nat) (a t : TD) : TDSO := fun h ρ n Rn _ => ∃ k ds, rootN h ρ i k ds ∧ a (ρ.map (bor h)) n fun da n1 => ∃ (x : Nat) (es : List PyData), da = .int (x : Nat) ∧ ds[x]? = some (.list es) ∧ es.length < 10000000 ∧
  t (ρ.map (bor h)) n1 fun d n2 => noL d = true ∧ Rn (h.set k (.n (ds.set x (.list (es ++ [d]))))) ρ n2
theorem os_app2 {i : Nat} {a t : TD} (h : PS X st (tDrop (tBM X.K "list" rAppend (tOp (rIxU X.K) (tVar i) (tD X.K o a)) (tCons (tD X.K o t) tNil)))) : PS X st (tDsO X.K o (qApp2 i a t)) := PS.imp h fun D σ H ⟨W, H0, Rs, h, ρ, n, Rn, Rr, S, hr, ⟨k, ds, ⟨hi, hk⟩, t⟩, k1, k2⟩ => by
  obtain ⟨r, hkr, ed, en⟩ := hr.at hk
  refine ⟨.ref r.1, S.at hi hkr, W, _, n, _, S.bor hr, S.g, t, fun da n1 ⟨x, es, ea, ex, le, rt⟩ va H1 F1 g1 w1 => ?_⟩
  subst ea
  cases w1
  have S1 := S.frm F1 g1
  rw [← ed, List.getElem?_map] at ex
  cases q : r.2[x]? with
  | none => rw [q] at ex; cases ex
  | some it =>
    rw [q] at ex
    obtain ⟨v0, d0, a0⟩ := it
    have ex : d0 = .list es := Option.some.inj ex
    subst ex
    cases a0 with
    | none => exact (en _ (List.mem_of_getElem? q) rfl).elim
    | some q0 =>
      obtain ⟨ys0, ds0, h1, h2, h3, h4⟩ := (S1.ok k r hkr).i _ (List.mem_of_getElem? q)
      have h1 : v0 = .ref q0 := h1
      subst h1
      refine .inl ⟨r.1, r.2.map (·.1), (x : Nat), .ref q0, rfl, rfl, .inl (SqL.of (S1.ok k r hkr).l), atI_natM (by rw [List.getElem?_map, q]; rfl), ?_⟩
      refine ⟨.inl ⟨rfl, _, SqL.of h2⟩, ?_⟩
      refine ⟨W, _, n1, _, S1.bor hr, g1, rt, fun d n2 ⟨nd, rr⟩ v H2 F2 g2 w2 => ?_⟩
      have S2 := S1.frm F2 g2
      obtain ⟨ys, ds1, _, k2, k3, k4⟩ := (S2.ok k r hkr).i _ (List.mem_of_getElem? q)
      have k3 : PyData.list es = .list ds1 := k3
      cases k3
      refine ⟨q0, ys, v, rfl, rfl, k2, by rw [k4.length]; exact lt_line le, ?_⟩
      have S4 := S2.innerG hkr q (k4.append (.cons (S2.nol w2 nd) .nil))
      refine k1 _ _ ρ n2 (hr.set k (x := .n (ds.set x (.list (es ++ [d])))) (r := (r.1, r.2.set x (V.ref q0, PyData.list (es ++ [d]), some q0))) ⟨?_, fun z m => ?_⟩) rr σ _ ((Bth.frm (mg_fx (W.frm (W.trans F1 F2)))).trans S4.2) S4.1
      · show (r.2.set x (V.ref q0, PyData.list (es ++ [d]), some q0)).map (fun z : Itm => z.2.1) = _
        rw [List.map_set, ed]
      · rcases List.mem_or_eq_of_mem_set m with m | m
        · exact en z m
        · rw [m]
          exact fun z => by cases z
/-- x = what is read off them, with no list in it -/
def qSetT (i : Nat) (t : TD) : TDSO := fun h ρ n Rn _ => t (ρ.map (bor h)) n fun d n' => noL d = true ∧ Rn h (ρ.set i (.d d)) n'
theorem os_setT {i : Nat} {t : TD} (h : PS X st (tAsg (tD X.K o t) (gName i))) : PS X st (tDsO X.K o (qSetT i t)) := PS.imp h fun D σ H ⟨W, H0, Rs, h, ρ, n, Rn, Rr, S, hr, t, k1, k2⟩ =>
  ⟨W, _, n, _, S.bor hr, S.g, t, fun d n1 r v H1 F1 g1 w => by
    have S1 := S.frm F1 g1
    exact k1 Rs h _ n1 hr r.2 _ H1 (Bth.frm (mg_fx (W.frm F1))) ⟨S1.env.set i (S1.nol w r.1), S1.g, S1.rel, S1.nd, S1.out, S1.ok⟩⟩
/-- x = what is read off them; y = what is read off x, with no list in it -/
def qSetT2 (i : Nat) (t : TD) (j : Nat) (u : TD) (q : TDSO) : TDSO := fun h ρ n Rn Rr => t (ρ.map (bor h)) n fun d n1 => u ((ρ.map (bor h)).set i (.d d)) n1 fun y n2 => noL y = true ∧ q h ((ρ.set i .no).set j (.d y)) n2 Rn Rr
theorem oss_setT2 {i j : Nat} {t u : TD} {q : TDSO} (h : PSs X ss (tSeq (tAsg (tD X.K o t) (gName i)) (tSeq (tAsg (tD X.K o u) (gName j)) (tDsO X.K o q)))) : PSs X ss (tDsO X.K o (qSetT2 i t j u q)) := PSs.imp h fun D σ H ⟨W, H0, Rs, h, ρ, n, Rn, Rr, S, hr, t, k1, k2⟩ =>
  ⟨W, _, n, _, S.bor hr, S.g, t, fun d n1 r1 v H1 F1 g1 w1 => by
    have S1 := S.frm F1 g1
    refine ⟨W, _, n1, _, (S1.bor hr).set i w1, g1, r1, fun y n2 r2 v2 H2 F2 g2 w2 => ?_⟩
    have S2 := S1.frm F2 g2
    exact ⟨W, H0, Rs, h, _, n2, Rn, Rr, ⟨(S2.env.setn i).set j (S2.nol w2 r2.1), S2.g, S2.rel, S2.nd, S2.out, S2.ok⟩, hr, r2.2, fun Rs' h' ρ' n' hr' r σ' H' B S' => k1 Rs' h' ρ' n' hr' r σ' H' ((Bth.frm (mg_fx (W.frm (W.trans F1 F2)))).trans B) S', k2⟩⟩
/-! ### a def that gives a list under way back -/
def tDsQ (K : PySem.W.Frag) (o : Option TSet) (t : TDSO) : TS := fun D σ H => ∃ (W : Fld) (H0 : Hp) (Rs : List Rt) (h : List HD) (ρ : List DS) (n : Nat) (Rr : QD), OwSt K o W H0 H Rs ρ σ n ∧ HRs h Rs ∧ t h ρ n (fun _ _ _ => False) Rr ∧
  ∀ es n', Rr (.list es) n' → ∀ p xs m Hb H', W.Rel H0 Hb → W.G m Hb → Hb p = none → W.Rel H0 H' → W.G n' H' → H' p = some (.lst xs) → DwAll K (fun c => W.M c ∨ c = p) H' xs es → D.rt (.ref p) H'
def qSeqQ (t u : TDSO) : TDSO := fun h ρ n Rn Rr => t h ρ n (fun h1 ρ1 n1 => u h1 ρ1 n1 (fun _ _ _ => False) Rr) (fun _ _ => False)
theorem osq_cons {t u : TDSO} (h : PSs X ss (tSeq (tDsO X.K o t) (tDsQ X.K o u))) : PSs X ss (tDsQ X.K o (qSeqQ t u)) := PSs.imp h fun D σ H ⟨W, H0, Rs, h, ρ, n, Rr, S, hr, t, k⟩ =>
  ⟨W, H0, Rs, h, ρ, n, _, _, S, hr, t, fun Rs1 h1 ρ1 n1 hr1 r1 σ1 H1 B1 S1 => ⟨W, H0, Rs1, h1, ρ1, n1, Rr, S1, hr1, r1, k⟩, fun _ _ z => z.elim⟩
def qRetQ (i : Nat) : TDSO := fun h ρ n _ Rr => ∃ k ds, rootF h ρ i k ds ∧ Rr (.list ds) n
theorem osq_ret {i : Nat} (h : PS X st (tRet (tVar i))) : PS X st (tDsQ X.K o (qRetQ i)) := PS.imp h fun D σ H ⟨W, H0, Rs, h, ρ, n, Rr, S, hr, ⟨k, ds, ⟨hi, hk⟩, rr⟩, kk⟩ => by
  obtain ⟨r, hkr, ed⟩ := hr.at hk
  have ed : r.2.map (·.2.1) = ds := ed
  subst ed
  have hat : AtR Rs r.1 := ⟨k, r, hkr, List.mem_cons_self⟩
  obtain ⟨nM, ⟨m, Hb, Fb, gb, eb⟩, _⟩ := S.out r.1 hat
  refine ⟨.ref r.1, S.at hi hkr, kk _ n rr r.1 _ m Hb H Fb gb eb S.rel S.g (S.ok k r hkr).l (its_dw (fun c u mc _ => ?_) (S.ok k r hkr).i fun x mx q eq => ?_)⟩
  · exact mc.elim .inl fun e => .inr (e ▸ hat)
  · have qa := it_mem mx eq
    intro z
    rcases z with z | z
    · exact (S.out q ⟨k, r, hkr, qa⟩).1 z
    · exact (List.nodup_cons.mp (S.nd.e k r hkr)).1 (z ▸ List.mem_filterMap.mpr ⟨x, mx, eq⟩)
theorem no_ow {ds : List PyData} {m : Nat} (i k : Nat) : (DS.dr :: (ds.map DS.d ++ List.replicate m DS.no))[i]? ≠ some (DS.ow k) := fun e => by
  rcases List.mem_cons.mp (List.mem_of_getElem? e) with z | z
  · cases z
  · rcases List.mem_append.mp z with z | z
    · obtain ⟨d, _, z⟩ := List.mem_map.mp z
      cases z
    · have z := (List.mem_replicate.mp z).2
      cases z
theorem drawFG {K : PySem.W.Frag} {t : TDSO} {N : List Str} {vs : List V} {H : Hp} {Q : VK} {E : XK} {c : Nat} {P : FD} (h : spDrF K c P vs H Q E) (q : ∀ n ds R, n + c ≤ 1000000 → P ds R → t [] (DS.dr :: (ds.map DS.d ++ List.replicate (N.length - (ds.length + 1)) DS.no)) n (fun _ _ _ => False) (fun y m => m ≤ n + c ∧ R y)) : tDsQ K none t { nx := fun _ H' => Q .non H', rt := Q } (start N vs) H := by
  obtain ⟨M, a, b, cs, n, us, ds, R, rfl, hM, al, S, hn, w, p, k⟩ := h
  have e := env_of (o := none) (a := some a) (N.length - (ds.length + 1)) w
  refine ⟨drawF M a b cs hM, H, [], [], _, n, _, OwSt.nil (W := drawF M a b cs hM) ?_ ⟨S, al⟩ (Frm.refl) no_ow, HRs.nil, q n ds R hn p, fun es n' r p xs m Hb H' Fb gb eb F' g' hp da => k es r.2 p xs m Hb H' Fb gb.1 eb F' (g'.1.le r.1) hp da⟩
  unfold L2.start
  rw [List.length_cons, w.length, List.map_cons, List.cons_append]
  exact .cons (s := .dr) ⟨_, rfl, rfl⟩ e
theorem flenG {K : PySem.W.Frag} {vs : List V} {H : Hp} {Q : VK} {E : XK} {c : Nat} {P : FD} {n : Nat} (h : spDrF K c P vs H Q E) (l : ∀ ds R, P ds R → ds.length + 1 = n) : vs.length = n := by
  obtain ⟨M, a, b, cs, n', us, ds, R, rfl, hM, al, S, hn, w, p, k⟩ := h
  exact (congrArg Nat.succ w.length).trans (l ds R p)
theorem psq0 {t : TDSO} (h : PSs X ss (tDsQ X.K none t)) : PSs X ss (tDsQ X.K none t) := h
/-! ### list(range(..)), tuple(range(..)) -/
def rgD (a b : Int) : List PyData := (List.range (b - a).toNat).map fun i => PyData.int (a + (i : Nat))
def qRg1 (t : TD) : TDA := fun ρ n R => t ρ n fun d n' => ∃ j : Int, d = .int j ∧ RgOk 0 j ∧ R (rgD 0 j) n'
def qRg2 (t u : TD) : TDA := fun ρ n R => t ρ n fun d n1 => u ρ n1 fun y n2 => ∃ i j : Int, d = .int i ∧ y = .int j ∧ RgOk i j ∧ R (rgD i j) n2
def qTupD (t : TDA) : TD := fun ρ n R => t ρ n fun es n' => R (.tuple es) n'
theorem df_rg1 {t : TD} (h : PE X e (tLstRg (tRg1 (tD X.K o t)))) : PE X e (tDF X.K o (qRg1 t)) := PE.imp h fun σ H Q ⟨W, ρ, n, R, E, g, t, k⟩ =>
  ⟨W, ρ, n, _, E, g, t, fun d n1 ⟨j, e1, ok, r1⟩ v H1 F1 g1 w => by
    subst e1
    cases w
    exact ⟨j, rfl, ok, fun p hp => k _ n1 r1 p _ n1 H1 _ F1 g1 hp (W.of (same_new hp)) (W.same g1 (same_new hp)) upd_same (dw_ints (fun i => 0 + (i : Nat)) _)⟩⟩
theorem df_rg2 {t u : TD} (h : PE X e (tLstRg (tRg2 (tD X.K o t) (tD X.K o u)))) : PE X e (tDF X.K o (qRg2 t u)) := PE.imp h fun σ H Q ⟨W, ρ, n, R, E, g, t, k⟩ =>
  ⟨W, ρ, n, _, E, g, t, fun d n1 r1 v H1 F1 g1 w => ⟨W, ρ, n1, _, E.frm (W.frm F1), g1, r1, fun y n2 ⟨i, j, e1, e2, ok, r2⟩ v2 H2 F2 g2 w2 => by
    subst e1
    subst e2
    cases w
    cases w2
    exact ⟨i, j, rfl, rfl, ok, fun p hp => k _ n2 r2 p _ n2 H2 _ (W.trans F1 F2) g2 hp (W.of (same_new hp)) (W.same g2 (same_new hp)) upd_same (dw_ints (fun k => i + (k : Nat)) _)⟩⟩⟩
theorem de_tupRg1 {t : TD} (h : PE X e (tTupRg (tRg1 (tD X.K o t)))) : PE X e (tD X.K o (qTupD (qRg1 t))) := PE.imp h fun σ H Q ⟨W, ρ, n, R, E, g, t, k⟩ =>
  ⟨W, ρ, n, _, E, g, t, fun d n1 ⟨j, e1, ok, r1⟩ v H1 F1 g1 w => by
    subst e1
    cases w
    exact ⟨j, rfl, ok, fun p hp => k _ n1 r1 _ _ (W.trans F1 (W.of (same_new hp))) (W.same g1 (same_new hp)) (.tup (.inl ⟨new_nM g1 hp, upd_same⟩) (dw_ints (fun i => 0 + (i : Nat)) _))⟩⟩
theorem de_tupRg2 {t u : TD} (h : PE X e (tTupRg (tRg2 (tD X.K o t) (tD X.K o u)))) : PE X e (tD X.K o (qTupD (qRg2 t u))) := PE.imp h fun σ H Q ⟨W, ρ, n, R, E, g, t, k⟩ =>
  ⟨W, ρ, n, _, E, g, t, fun d n1 r1 v H1 F1 g1 w => ⟨W, ρ, n1, _, E.frm (W.frm F1), g1, r1, fun y n2 ⟨i, j, e1, e2, ok, r2⟩ v2 H2 F2 g2 w2 => by
    subst e1
    subst e2
    cases w
    cases w2
    exact ⟨i, j, rfl, rfl, ok, fun p hp => k _ n2 r2 _ _ (W.trans F1 (W.trans F2 (W.of (same_new hp)))) (W.same g2 (same_new hp)) (.tup (.inl ⟨new_nM g2 hp, upd_same⟩) (dw_ints (fun k => i + (k : Nat)) _))⟩⟩⟩
end
end MT
set_option maxHeartbeats 2000000
/-! != where a class has its own __eq__ and no __ne__; lambdas in a comprehension -/
namespace MT
open PySem PySem.Spec PyProof.Rows L2
/-- the class at C has its own __eq__ at f, no __ne__, and object alone above it -/
structure NeO (K : PySem.W.Frag) (C f : Addr) : Prop where
  ob : ∃ nm q N bs hdct sn sub ab col dd k0 k1 k2 k3 k5 newId, K.lookup C = some (excClassObj nm q C N bs [.type "object"] hdct sn sub ab col dd k0 k1 k2 k3 k5 newId) ∧ PySem.W.nsOkIn K N = true ∧
    PySem.W.nsIn K N "__eq__" = some (some (.ref f)) ∧ PySem.W.nsIn K N "__ne__" = some none
  fn : ∃ o, K.lookup f = some o ∧ o.cls = .type "function"
theorem ns_of_K {K : PySem.W.Frag} {h : Heap} {N : Addr} (X : K.In h) (e : PySem.W.nsOkIn K N = true) : ∃ mN, h.Ns N mN := by
  unfold PySem.W.nsOkIn at e
  split at e
  · rename_i oc od es ep osl q
    refine ⟨fun x => nsFind es x, _, es, ep, X _ _ q, rfl, fun en m => ?_, fun _ => rfl⟩
    obtain ⟨i, hi, ei⟩ := Array.mem_iff_getElem.mp m
    have w := Array.all_eq_true.mp e i hi
    rw [ei] at w
    split at w
    · rename_i z t ek
      exact ⟨z, t, ek⟩
    · cases w
  · cases e
theorem ns_some_of {K : PySem.W.Frag} {h : Heap} {N : Addr} {mg : Str → Option Value} {n : Str} {v : Value} (X : K.In h) (G : h.Ns N mg) (e : PySem.W.nsIn K N n = some (some v)) : mg n = some v := by
  obtain ⟨o, es, ep, ho, hd, _, hf⟩ := G
  unfold PySem.W.nsIn at e
  split at e
  · rename_i c d es' n' sl q
    have := X _ _ q
    rw [ho] at this
    cases this
    cases hd
    split at e
    · rename_i en he
      cases e
      rw [← hf]
      unfold nsFind findBy
      rw [← Array.find?_toList, he]
      rfl
    · split at e <;> cases e
  · cases e
theorem obj_eq_look : ∃ y, typeLookup (.type "object") ("__eq__" : Str) = pure y := ⟨_, PySem.F.cmp_object.eq.lookup⟩
section
variable {X : Cx} {CX : CXT} {n : Nat} {C f : Addr} {fd : FuncData} {ps : List Str} {sp : Sp} {E : XK}
theorem NeO.at (N : NeO X.K C f) {h : Heap} (k : X.K.In h) {x : Addr} {o : Obj} (hx : h.get? x = some o) (hc : o.cls = .ref C) : h.OwnEqNoNe x C f "object" [.type "object"] := by
  obtain ⟨⟨nm, q, N0, bs, hdct, sn, sub, ab, col, dd, k0, k1, k2, k3, k5, newId, lk, ok, e1, e2⟩, ⟨of, lf, cf⟩⟩ := N
  obtain ⟨mN, hN⟩ := ns_of_K k ok
  obtain ⟨y, hy⟩ := obj_eq_look
  exact ⟨o, of, nm, q, N0, bs, hdct, sn, sub, ab, col, dd, k0, k1, k2, k3, k5, newId, mN, y, hx, hc, k _ _ lk, hN, ns_some_of k hN e1, k _ _ lf, cf, PySem.F.mro_object, hy, PySem.W.ns_none_of k hN e2⟩
/-- x != y, both instances of the class at C -/
def rNeO (C : Addr) (sp : Sp) (E : XK) : R2 := fun x y H Q => ∃ (a dx : Addr) (fs : List (Str × V)) (b dy : Addr) (gs : List (Str × V)), x = .ref a ∧ H a = some (.ins C dx fs) ∧ y = .ref b ∧ H b = some (.ins C dy gs) ∧ sp [x, y] H (fun v H' => ∃ c, v = .bl c ∧ Q (.bl (!c)) H') E
theorem op_neO (F : FnOk X.prog X.w X.K X.mg X.base CX n f fd ps sp) (hr : Room (n + 1) X.A) (N : NeO X.K C f) (hb : L2.Binds X.K fd ps []) (hx : Passes CX X E) : OpR X (compareOp .NotEq) (rNeO C sp E) := by
  intro pins s σ H x y v u Q I rx ry h
  obtain ⟨a, dx, fs, b, dy, gs, rfl, ha, rfl, hb', hsp⟩ := h
  cases (show v = Value.ref a from rx)
  cases (show u = Value.ref b from ry)
  obtain ⟨mA, J, _⟩ := ins_get I.hok ha
  obtain ⟨mB, J2, _⟩ := ins_get I.hok hb'
  have un := hr.un
  have hl := F.len _ _ _ _ hsp
  obtain ⟨hp, g, d, tk, os⟩ := s
  refine compareOp_ne_ownEq PySem.F.cmp_object (N.at I.kIn J.obj rfl) J2.obj rfl (by omega) ?_
  refine wpAny_call (codeAny_mono (F.run X.A.in1 X.stack _ H ⟨[.ref a, .ref b], []⟩ [.ref a, .ref b] [.ref a, .ref b] _ E hr.in1 I.env0.in1 (by
    have b := hb ⟨hp, g, d, tk, os⟩ [.ref a, .ref b] I.kIn (by simpa using hl)
    simpa using b) (.cons rfl (.cons rfl .nil)) hsp) fun r s' hq => ?_)
  cases r with
  | error e => exact hx pins σ H _ e s' I hq
  | ok fl =>
    cases fl with
    | ret z =>
      obtain ⟨y', H', I', rz, ⟨c, ey, q⟩⟩ := I.after hq
      subst ey
      cases rz
      exact ⟨c, rfl, ⟨.bl (!c), H', I', rfl, q⟩⟩
    | _ => exact False.elim hq
end
section
variable {K : PySem.W.Frag}
def fNeO (C : Addr) (P : FD) (d e : PyData) (R : PyData → Prop) : Prop := (∃ ks, d = objD C ks) ∧ (∃ js, e = objD C js) ∧ P [d, e] fun y => ∃ b, y = .bool b ∧ R (.bool (!b))
theorem fit_neO {C : Addr} {P : FD} {E : XK} : FitR K (rNeO C (spPure K P) E) (fNeO C P) := by
  intro dx dy R M H x y Q al wx wy f k
  obtain ⟨⟨ks, rfl⟩, ⟨js, rfl⟩, p⟩ := f
  obtain ⟨a, d0, fv, rfl, _, h, oc, _⟩ := obj_inv wx
  obtain ⟨b, d1, gv, rfl, _, h2, oc2, _⟩ := obj_inv wy
  exact ⟨a, d0, fv, b, d1, gv, rfl, h, rfl, h2, ⟨M, _, _, al, .cons wx (.cons wy .nil), p, fun d r v H' s w => by
    obtain ⟨b, rfl, r⟩ := r
    cases w
    exact ⟨b, rfl, k _ r _ H' s (.bl _)⟩⟩⟩
end
section
variable {X : Cx} {e : Expr} {E : XK} {o : Option TSet}
/-- by names, and it may raise -/
def qxCallN (m : Nat) (gD : List PyData → List PyData → List PyData) (P : FE) (u : TDA) : TDX2 := fun ρ n R Rx => u ρ n fun ds n1 => ds.length = m ∧ P (gD [] ds) (fun d => R d n1) Rx
theorem dxe_callN {m : Nat} {gV : List V → List V → List V} {gD : List PyData → List PyData → List PyData} {P : FE} {u : TDA}
    (hg : ∀ {M : Addr → Prop} {H : Hp} {vs zs : List V} {ds es : List PyData}, DwAll X.K M H vs ds → DwAll X.K M H zs es → DwAll X.K M H (gV vs zs) (gD ds es))
    (h : PE X e (L2.tCallN 0 m (spE X.K P) gV E tNil (tDA X.K o u))) : PE X e (tDE X.K o E (qxCallN m gD P u)) := PE.imp h fun σ H Q ⟨W, ρ, n, R, Rx, E, g, t, k, kx⟩ =>
  ⟨W, ρ, n, _, E, g, t, fun ds n1 ⟨l, t1⟩ vs H1 F1 g1 w => ⟨rfl, w.length.trans l, W.M, _, _, _, fun c m => W.al g1 m, hg .nil w, t1, fun d r v H' s w' => k d n1 r v H' (W.trans F1 (W.of s)) (W.same g1 s) w', fun C fs r a H' fv s na ha hw => kx C fs r a H' fv (W.trans F1 (W.of s)) ha hw⟩⟩
end
/-! ### the law's script -/
def qScr (i : Nat) : TD := fun ρ n R => ρ[i]? = some DS.fz ∧ ∀ b, R (.bool b) n
section
variable {X : Cx} {e : Expr} {o : Option TSet}
theorem scr_overE {K : PySem.W.Frag} {i : Nat} {σ : L2.St} {H : Hp} {Q : VK} : tD K o (qScr i) σ H Q → tOp (rEqL K) (tVar i) (tLstN tNil) σ H Q := fun ⟨W, ρ, n, R, E, g, ⟨hi, r⟩, k⟩ => by
  obtain ⟨v, hs, z⟩ := E.fzl i hi
  refine ⟨v, hs, Nat.zero_le _, fun p H2 n2 => ?_⟩
  obtain ⟨a, xs, ev, s⟩ := (z.frm (fx_same n2.1)).at
  exact ⟨a, xs, p, ev, rfl, s, SqL.of n2.2.1, k _ n (r _) _ H2 (W.of n2.1) (W.same g n2.1) (.bl _)⟩
theorem de_scrE {i : Nat} (h : PE X e (tOp (rEqL X.K) (tVar i) (tLstN tNil))) : PE X e (tD X.K o (qScr i)) := PE.imp h fun σ H Q q => scr_overE q
theorem dt_scrE {i : Nat} (h : PT X e (tTest (tOp (rEqL X.K) (tVar i) (tLstN tNil)))) : PT X e (tDB X.K o (qB (qScr i))) := PT.imp h fun σ H Q q => scr_overE (b_over q)
theorem scr_overN {K : PySem.W.Frag} {i : Nat} {σ : L2.St} {H : Hp} {Q : VK} : tD K o (qScr i) σ H Q → tOp (rNeL K) (tVar i) (tLstN tNil) σ H Q := fun ⟨W, ρ, n, R, E, g, ⟨hi, r⟩, k⟩ => by
  obtain ⟨v, hs, z⟩ := E.fzl i hi
  refine ⟨v, hs, Nat.zero_le _, fun p H2 n2 => ?_⟩
  obtain ⟨a, xs, ev, s⟩ := (z.frm (fx_same n2.1)).at
  exact ⟨a, xs, p, ev, rfl, s, SqL.of n2.2.1, k _ n (r _) _ H2 (W.of n2.1) (W.same g n2.1) (.bl _)⟩
theorem de_scrN {i : Nat} (h : PE X e (tOp (rNeL X.K) (tVar i) (tLstN tNil))) : PE X e (tD X.K o (qScr i)) := PE.imp h fun σ H Q q => scr_overN q
theorem dt_scrN {i : Nat} (h : PT X e (tTest (tOp (rNeL X.K) (tVar i) (tLstN tNil)))) : PT X e (tDB X.K o (qB (qScr i))) := PT.imp h fun σ H Q q => scr_overN (b_over q)
end
/-! ### a lambda in a comprehension -/
theorem rel_look {h : Str × NameKind → NameKind} (hh : ∀ p : Str × NameKind, p.2 = .cell ∨ p.2 = .free → h p = .cell ∨ h p = .free) : ∀ {names : List (Str × NameKind)} {x : Str}, names.lookup x = some .cell ∨ names.lookup x = some .free →
    (names.map fun p => (p.1, h p)).lookup x = some .cell ∨ (names.map fun p => (p.1, h p)).lookup x = some .free
  | [], _, q => by simp at q
  | (n, k) :: r, x, q => by
    rw [List.map_cons, List.lookup_cons]
    rw [List.lookup_cons] at q
    cases e : x == n with
    | true =>
      rw [e] at q
      have q : k = .cell ∨ k = .free := by simpa using q
      rcases hh (n, k) q with z | z
      · exact .inl (congrArg some z)
      · exact .inr (congrArg some z)
    | false =>
      rw [e] at q
      exact rel_look hh q
theorem rel_names {env : Env} {names : List (Str × NameKind)} {x : Str} (q : names.lookup x = some .cell ∨ names.lookup x = some .free) :
    (names.map fun (n, k) => if (k == NameKind.free && env.scope.kind == .function && env.kindOf n == some .cell) then (n, NameKind.cell) else (n, k)).lookup x = some .cell ∨
    (names.map fun (n, k) => if (k == NameKind.free && env.scope.kind == .function && env.kindOf n == some .cell) then (n, NameKind.cell) else (n, k)).lookup x = some .free := by
  have e : (fun p : Str × NameKind => match p with | (n, k) => if (k == NameKind.free && env.scope.kind == .function && env.kindOf n == some .cell) = true then (n, NameKind.cell) else (n, k)) =
      fun p => (p.1, if (p.2 == NameKind.free && env.scope.kind == .function && env.kindOf p.1 == some .cell) = true then NameKind.cell else p.2) := by
    funext ⟨n, k⟩
    show (if _ then (n, NameKind.cell) else (n, k)) = (n, if _ then NameKind.cell else k)
    split <;> rfl
  have m := rel_look (h := fun p => if (p.2 == NameKind.free && env.scope.kind == .function && env.kindOf p.1 == some .cell) = true then NameKind.cell else p.2) (fun p q => by
    show (if _ then NameKind.cell else p.2) = _ ∨ (if _ then NameKind.cell else p.2) = _
    split
    · exact .inl rfl
    · exact q) q
  rw [← e] at m
  exact m
theorem lamS_rel {sc scope : Scope} {env : Env} (h : LamX.lamSB sc scope = true) : LamX.LamS (relabel sc env) scope := by
  have L := LamX.lamS_by h
  exact ⟨L.kind, L.co, L.gen, L.own, fun y hy e => rel_names (L.free y hy e)⟩
theorem lamS_blk {sc scope : Scope} {cl : List (Str × Addr)} {C : Addr} {env : Env} (h : LamX.lamSB sc scope = true) : LamX.LamS (compEnvC sc cl C env).scope scope := lamS_rel h
end MT
set_option maxHeartbeats 2000000
/-! what the end of a law with objects tells of its classes -/
namespace MT
open PySem PySem.Spec PyProof.Rows L2
section
variable {K : PySem.W.Frag} {C N : Addr} {nm q : Str} {bs : List Value} {hd : Bool} {sn : List Str} {sb : List Value} {ab : Bool} {co : Option Bool} {dd : Option Addr} {k0 k1 k2 k3 k5 : Option Value} {ni : String}
theorem kit_tyC {T : String} {b : Bool} (lk : K.lookup C = some (excClassObj nm q C N bs [.type "object"] hd sn sb ab co dd k0 k1 k2 k3 k5 ni)) (ht : PySem.W.typeIn K (.ref C) = some (.type "type")) (e : PySem.W.subIn K (.type T) (.ref C) = some b) : PySem.W.kitOne K (.type T) (.ref C) = some b := by
  have hc : (PySem.W.clsIn K C).isSome = true := by unfold PySem.W.clsIn; rw [lk]; rfl
  unfold PySem.W.kitOne PySem.W.kitCls
  have ne : (Value.type T == Value.ref C) = false := rfl
  rw [ne]
  simp [hc, ht, e]
theorem kit_noC {T : String} (lk : K.lookup C = some (excClassObj nm q C N bs [.type "object"] hd sn sb ab co dd k0 k1 k2 k3 k5 ni)) (m : PySem.W.kitMeta T = true) (n : ("object" == T) = false) : PySem.W.kitOne K (.ref C) (.type T) = some false := by
  have n1 : (Value.ref C == Value.type T) = false := rfl
  unfold PySem.W.kitOne
  rw [if_neg (by rw [n1]; exact Bool.false_ne_true)]
  show (if PySem.W.kitMeta T = true then PySem.W.subIn K (.ref C) (.type T) else none) = _
  rw [if_pos m]
  show PySem.W.mroIn K C (.type T) = _
  unfold PySem.W.mroIn PySem.W.clsIn
  rw [lk]
  have n2 : (Value.type T == Value.ref C) = false := rfl
  have n3 : (Value.type T == Value.type "object") = false := by
    have : ¬ T = "object" := fun e => by rw [e] at n; cases n
    exact beq_eq_false_iff_ne.mpr fun e => this (Value.type.inj e)
  show some ((Value.ref C :: [.type "object"]).contains (Value.type T)) = some false
  rw [List.contains_cons, List.contains_cons, n2, n3]
  rfl
theorem ocls_mk (lk : K.lookup C = some (excClassObj nm q C N bs [.type "object"] hd sn sb ab co dd k0 k1 k2 k3 k5 ni)) (pg : PySem.W.plainGet K C Str.empty = true) (h : PySem.W.hasDictIn K C = true) (po : PySem.W.plainOver K C = true)
    (sa : PySem.W.findIn K (.ref C) "__setattr__" = some (some (.builtin "object.__setattr__"))) (cc : PySem.W.findIn K (.ref C) "__class__" = some (some (.builtin "object.__class__"))) (gt : PySem.W.specialIn K (.builtin "object.__class__") "__get__" = some (some (.builtin "getset_descriptor.__get__")))
    (tk : PySem.W.takesIn K (.builtin "object.__class__") = some true) (ob : PySem.W.mroIn K C (.type "object") = some true) : OCls K C :=
  ⟨⟨pg, h, po, sa⟩, cc, gt, tk, ob, fun T hT => by
    simp only [List.mem_cons, List.not_mem_nil, or_false] at hT
    rcases hT with rfl | rfl | rfl | rfl | rfl <;> exact kit_noC lk (by decide +kernel) (by decide)⟩
theorem neo_mk {f : Addr} {ocN : Value} {odN : Option Addr} {es : Array DictEntry} {ep : Nat} {slN : Array (Option Value)} (lk : K.lookup C = some (excClassObj nm q C N bs [.type "object"] hd sn sb ab co dd k0 k1 k2 k3 k5 ni))
    (lN : K.lookup N = some ⟨ocN, odN, .dict es ep, slN⟩) (ok : (es.toList.all fun e => match e.key with | .str _ _ => true | _ => false) = true) (e1 : PySem.W.nsIn K N "__eq__" = some (some (.ref f))) (e2 : PySem.W.nsIn K N "__ne__" = some none) (fn : PySem.W.isFn K (.ref f) = true) : NeO K C f := by
  refine ⟨⟨nm, q, N, bs, hd, sn, sb, ab, co, dd, k0, k1, k2, k3, k5, ni, lk, ?_, e1, e2⟩, ?_⟩
  · unfold PySem.W.nsOkIn
    rw [lN]
    show (es.all fun e => match e.key with | .str _ _ => true | _ => false) = true
    rw [← Array.all_toList]
    exact ok
  · have t : ((K.lookup f).map (·.cls) == some (.type "function")) = true := fn
    cases q : K.lookup f with
    | none => rw [q] at t; cases t
    | some o =>
      rw [q] at t
      exact ⟨o, rfl, Option.some.inj (beq_iff_eq.mp t)⟩
end
end MT
set_option maxHeartbeats 4000000
namespace K04
open PySem L2 MT RZ StX


local macro_rules | `(tactic| walk_at "sm") => `(tactic| first | exact Same.refl _ | assumption | exact New.same (by assumption) | exact Same.trans (by assumption) (by walk_at "sm") | exact Same.trans (New.same (by assumption)) (by walk_at "sm"))
local macro_rules | `(tactic| walk_at "fr") => `(tactic| first | exact Frm.refl | assumption | exact frm_same (New.same (by assumption)) | exact frm_same (by assumption) | exact Frm.trans (by assumption) (by walk_at "fr") | exact Frm.trans (frm_same (New.same (by assumption))) (by walk_at "fr") | exact Frm.trans (frm_same (by assumption)) (by walk_at "fr"))
local macro_rules | `(tactic| walk_at "dv") => `(tactic| first | exact Dv.int _ | exact Dv.bl _ | exact Dv.non | exact Dv.str _ | assumption | exact Dv.same (by assumption) (by walk_at "sm") | exact Dv.mono (by assumption) (by walk_at "fr"))
local macro_rules | `(tactic| walk_at "dvs") => `(tactic| first | exact DvAll.nil | exact DvAll.ints _ | (refine DvAll.cons ?_ ?_; walk_at "dv"; walk_at "dvs"))

def top (i : Nat) : Stmt := PySem.Challenge.pw_meettrees_k04_blocks_and_disks_made.main.body.getD i (.Pass ⟨0, 0, 0, 0⟩)
abbrev s__wall : Stmt := top 0
abbrev sl__wall : List Str := ["k"]
theorem sc__wall : FnScope sl__wall ["k"] (defScope s__wall) := ⟨rfl, rfl, rfl, by decide +kernel, rfl, by decide +kernel, by decide +kernel⟩
abbrev s_is_list : Stmt := top 2
abbrev sl_is_list : List Str := ["value"]
theorem sc_is_list : FnScope sl_is_list ["value"] (defScope s_is_list) := ⟨rfl, rfl, rfl, by decide +kernel, rfl, by decide +kernel, by decide +kernel⟩
abbrev s_is_integer : Stmt := top 3
abbrev sl_is_integer : List Str := ["value"]
theorem sc_is_integer : FnScope sl_is_integer ["value"] (defScope s_is_integer) := ⟨rfl, rfl, rfl, by decide +kernel, rfl, by decide +kernel, by decide +kernel⟩
abbrev s_is_within : Stmt := top 4
abbrev sl_is_within : List Str := ["value", "least", "most"]
theorem sc_is_within : FnScope sl_is_within ["value", "least", "most"] (defScope s_is_within) := ⟨rfl, rfl, rfl, by decide +kernel, rfl, by decide +kernel, by decide +kernel⟩
abbrev s_is_numbers : Stmt := top 5
abbrev sl_is_numbers : List Str := ["value", "many", "most", "part"]
theorem sc_is_numbers : FnScope sl_is_numbers ["value", "many", "most"] (defScope s_is_numbers) := ⟨rfl, rfl, rfl, by decide +kernel, rfl, by decide +kernel, by decide +kernel⟩
abbrev s_is_block : Stmt := top 9
abbrev sl_is_block : List Str := ["value"]
theorem sc_is_block : FnScope sl_is_block ["value"] (defScope s_is_block) := ⟨rfl, rfl, rfl, by decide +kernel, rfl, by decide +kernel, by decide +kernel⟩
abbrev s_are_blocks : Stmt := top 10
abbrev sl_are_blocks : List Str := ["value", "least", "most", "part"]
theorem sc_are_blocks : FnScope sl_are_blocks ["value", "least", "most"] (defScope s_are_blocks) := ⟨rfl, rfl, rfl, by decide +kernel, rfl, by decide +kernel, by decide +kernel⟩
abbrev s_fixed : Stmt := top 17
abbrev sl_fixed : List Str := ["value", "part"]
theorem sc_fixed : FnScope sl_fixed ["value"] (defScope s_fixed) := ⟨rfl, rfl, rfl, by decide +kernel, rfl, by decide +kernel, by decide +kernel⟩
abbrev s_image_behind : Stmt := top 22
abbrev sl_image_behind : List Str := ["image", "writes", "blocks", "at", "block"]
theorem sc_image_behind : FnScope sl_image_behind ["image", "writes"] (defScope s_image_behind) := ⟨rfl, rfl, rfl, by decide +kernel, rfl, by decide +kernel, by decide +kernel⟩
abbrev s__law_crib : Stmt := top 25
abbrev sl__law_crib : List Str := ["script", "cell"]
theorem sc__law_crib : FnScope sl__law_crib ["script"] (defScope s__law_crib) := ⟨rfl, rfl, rfl, by decide +kernel, rfl, by decide +kernel, by decide +kernel⟩
abbrev s__law_pluck : Stmt := top 26
abbrev sl__law_pluck : List Str := ["crib", "many", "rest", "turn", "cell", "mixed"]
theorem sc__law_pluck : FnScope sl__law_pluck ["crib", "many"] (defScope s__law_pluck) := ⟨rfl, rfl, rfl, by decide +kernel, rfl, by decide +kernel, by decide +kernel⟩
abbrev s__law_one : Stmt := top 27
abbrev sl__law_one : List Str := ["crib", "some"]
theorem sc__law_one : FnScope sl__law_one ["crib", "some"] (defScope s__law_one) := ⟨rfl, rfl, rfl, by decide +kernel, rfl, by decide +kernel, by decide +kernel⟩
abbrev s__law_block : Stmt := top 28
abbrev sl__law_block : List Str := ["crib", "found", "turn"]
theorem sc__law_block : FnScope sl__law_block ["crib"] (defScope s__law_block) := ⟨rfl, rfl, rfl, by decide +kernel, rfl, by decide +kernel, by decide +kernel⟩
abbrev s__law_is_block : Stmt := top 29
abbrev sl__law_is_block : List Str := ["value", "number"]
theorem sc__law_is_block : FnScope sl__law_is_block ["value"] (defScope s__law_is_block) := ⟨rfl, rfl, rfl, by decide +kernel, rfl, by decide +kernel, by decide +kernel⟩
abbrev s__law_bent : Stmt := top 30
abbrev sl__law_bent : List Str := ["crib", "block", "at", "way", "odd"]
theorem sc__law_bent : FnScope sl__law_bent ["crib", "block"] (defScope s__law_bent) := ⟨rfl, rfl, rfl, by decide +kernel, rfl, by decide +kernel, by decide +kernel⟩
abbrev s__law_heard : Stmt := top 31
abbrev sl__law_heard : List Str := ["ask", "caught", "error"]
theorem sc__law_heard : FnScope sl__law_heard ["ask"] (defScope s__law_heard) := ⟨rfl, rfl, rfl, by decide +kernel, rfl, by decide +kernel, by decide +kernel⟩
abbrev s__law_made_right : Stmt := top 32
abbrev sl__law_made_right : List Str := ["crib", "many", "disk", "zeros", "blocks", "turn", "due", "passed", "other", "at", "block"]
theorem sc__law_made_right : FnScope sl__law_made_right ["crib", "many"] (defScope s__law_made_right) := ⟨rfl, rfl, rfl, by decide +kernel, rfl, by decide +kernel, by decide +kernel⟩
abbrev s__law_refused_right : Stmt := top 33
abbrev sl__law_refused_right : List Str := ["crib", "none", "many", "blocks", "bent", "at", "rows", "value", "is_right", "block"]
theorem sc__law_refused_right : FnScope sl__law_refused_right ["crib"] (defScope s__law_refused_right) := ⟨rfl, rfl, rfl, by decide +kernel, rfl, by decide +kernel, by decide +kernel⟩
abbrev s_law : Stmt := top 34
abbrev sl_law : List Str := ["script", "crib", "turn", "block", "bent", "many"]
theorem sc_law : FnScope sl_law ["script"] (defScope s_law) := ⟨rfl, rfl, rfl, by decide +kernel, rfl, by decide +kernel, by decide +kernel⟩
abbrev s_BadNumber : Stmt := (clsBody (top 13)).getD 0 (.Pass ⟨0, 0, 0, 0⟩)
theorem sc_BadNumber : FnScope ["self", "part"] ["self", "part"] (defScope s_BadNumber) := ⟨rfl, rfl, rfl, by decide +kernel, rfl, by decide +kernel, by decide +kernel⟩
abbrev s_BadBlock : Stmt := (clsBody (top 14)).getD 0 (.Pass ⟨0, 0, 0, 0⟩)
theorem sc_BadBlock : FnScope ["self", "part"] ["self", "part"] (defScope s_BadBlock) := ⟨rfl, rfl, rfl, by decide +kernel, rfl, by decide +kernel, by decide +kernel⟩
abbrev s_TooMany : Stmt := (clsBody (top 15)).getD 0 (.Pass ⟨0, 0, 0, 0⟩)
theorem sc_TooMany : FnScope ["self", "what", "most"] ["self", "what", "most"] (defScope s_TooMany) := ⟨rfl, rfl, rfl, by decide +kernel, rfl, by decide +kernel, by decide +kernel⟩
def g_is_block_value {α : Type} : List α → List α → List α
  | [], [w0] => [w0]
  | _, _ => []
abbrev s_Disk_init : Stmt := (clsBody (top 23)).getD 0 (.Pass ⟨0, 0, 0, 0⟩)
abbrev sl_Disk_init : List Str := ["self", "many"]
theorem sc_Disk_init : FnScope sl_Disk_init ["self", "many"] (defScope s_Disk_init) := ⟨rfl, rfl, rfl, by decide +kernel, rfl, by decide +kernel, by decide +kernel⟩
abbrev s_Disk_of : Stmt := (clsBody (top 23)).getD 1 (.Pass ⟨0, 0, 0, 0⟩)
abbrev sl_Disk_of : List Str := ["image", "disk"]
theorem sc_Disk_of : FnScope sl_Disk_of ["image"] (defScope s_Disk_of) := ⟨rfl, rfl, rfl, by decide +kernel, rfl, by decide +kernel, by decide +kernel⟩
abbrev s_Disk_eq : Stmt := (clsBody (top 23)).getD 2 (.Pass ⟨0, 0, 0, 0⟩)
abbrev sl_Disk_eq : List Str := ["self", "other"]
theorem sc_Disk_eq : FnScope sl_Disk_eq ["self", "other"] (defScope s_Disk_eq) := ⟨rfl, rfl, rfl, by decide +kernel, rfl, by decide +kernel, by decide +kernel⟩
abbrev s_Disk_block_at : Stmt := (clsBody (top 23)).getD 3 (.Pass ⟨0, 0, 0, 0⟩)
abbrev sl_Disk_block_at : List Str := ["self", "at", "number", "block"]
theorem sc_Disk_block_at : FnScope sl_Disk_block_at ["self", "at"] (defScope s_Disk_block_at) := ⟨rfl, rfl, rfl, by decide +kernel, rfl, by decide +kernel, by decide +kernel⟩
structure Txt (K : PySem.W.Frag) (mg : Str → Option Value) (fa : Nat → Addr) (fd : Nat → FuncData) : Prop where
  F__wall : Fun K "_wall" "_wall" s__wall (fa 0) (fd 0)
  g__wall : mg "_wall" = some (.ref (fa 0))
  b__wall : Binds K (fd 0) ["k"] []
  F_is_list : Fun K "is_list" "is_list" s_is_list (fa 2) (fd 2)
  g_is_list : mg "is_list" = some (.ref (fa 2))
  b_is_list : Binds K (fd 2) ["value"] []
  F_is_integer : Fun K "is_integer" "is_integer" s_is_integer (fa 3) (fd 3)
  g_is_integer : mg "is_integer" = some (.ref (fa 3))
  b_is_integer : Binds K (fd 3) ["value"] []
  F_is_within : Fun K "is_within" "is_within" s_is_within (fa 4) (fd 4)
  g_is_within : mg "is_within" = some (.ref (fa 4))
  b_is_within : Binds K (fd 4) ["value", "least", "most"] []
  F_is_numbers : Fun K "is_numbers" "is_numbers" s_is_numbers (fa 5) (fd 5)
  g_is_numbers : mg "is_numbers" = some (.ref (fa 5))
  b_is_numbers : Binds K (fd 5) ["value", "many", "most"] []
  F_is_block : Fun K "is_block" "is_block" s_is_block (fa 9) (fd 9)
  g_is_block : mg "is_block" = some (.ref (fa 9))
  b_is_block : Binds K (fd 9) ["value"] []
  F_are_blocks : Fun K "are_blocks" "are_blocks" s_are_blocks (fa 10) (fd 10)
  g_are_blocks : mg "are_blocks" = some (.ref (fa 10))
  b_are_blocks : Binds K (fd 10) ["value", "least", "most"] []
  F_fixed : Fun K "fixed" "fixed" s_fixed (fa 17) (fd 17)
  g_fixed : mg "fixed" = some (.ref (fa 17))
  b_fixed : Binds K (fd 17) ["value"] []
  F_image_behind : Fun K "image_behind" "image_behind" s_image_behind (fa 22) (fd 22)
  g_image_behind : mg "image_behind" = some (.ref (fa 22))
  b_image_behind : Binds K (fd 22) ["image", "writes"] []
  F__law_crib : Fun K "_law_crib" "_law_crib" s__law_crib (fa 25) (fd 25)
  g__law_crib : mg "_law_crib" = some (.ref (fa 25))
  b__law_crib : Binds K (fd 25) ["script"] []
  F__law_pluck : Fun K "_law_pluck" "_law_pluck" s__law_pluck (fa 26) (fd 26)
  g__law_pluck : mg "_law_pluck" = some (.ref (fa 26))
  b__law_pluck : Binds K (fd 26) ["crib", "many"] []
  F__law_one : Fun K "_law_one" "_law_one" s__law_one (fa 27) (fd 27)
  g__law_one : mg "_law_one" = some (.ref (fa 27))
  b__law_one : Binds K (fd 27) ["crib", "some"] []
  F__law_block : Fun K "_law_block" "_law_block" s__law_block (fa 28) (fd 28)
  g__law_block : mg "_law_block" = some (.ref (fa 28))
  b__law_block : Binds K (fd 28) ["crib"] []
  F__law_is_block : Fun K "_law_is_block" "_law_is_block" s__law_is_block (fa 29) (fd 29)
  g__law_is_block : mg "_law_is_block" = some (.ref (fa 29))
  b__law_is_block : Binds K (fd 29) ["value"] []
  F__law_bent : Fun K "_law_bent" "_law_bent" s__law_bent (fa 30) (fd 30)
  g__law_bent : mg "_law_bent" = some (.ref (fa 30))
  b__law_bent : Binds K (fd 30) ["crib", "block"] []
  F__law_heard : Fun K "_law_heard" "_law_heard" s__law_heard (fa 31) (fd 31)
  g__law_heard : mg "_law_heard" = some (.ref (fa 31))
  b__law_heard : Binds K (fd 31) ["ask"] []
  F__law_made_right : Fun K "_law_made_right" "_law_made_right" s__law_made_right (fa 32) (fd 32)
  g__law_made_right : mg "_law_made_right" = some (.ref (fa 32))
  b__law_made_right : Binds K (fd 32) ["crib", "many"] []
  F__law_refused_right : Fun K "_law_refused_right" "_law_refused_right" s__law_refused_right (fa 33) (fd 33)
  g__law_refused_right : mg "_law_refused_right" = some (.ref (fa 33))
  b__law_refused_right : Binds K (fd 33) ["crib"] []
  F_law : Fun K "law" "law" s_law (fa 34) (fd 34)
  g_law : mg "law" = some (.ref (fa 34))
  b_law : Binds K (fd 34) ["script"] []
  kb_is_block_value : KBn K (fd 9) ["value"] 0 ["value"] (fun us ws => g_is_block_value us ws) (fun us ws => g_is_block_value us ws)
  E_BadNumber : ErrC K mg "BadNumber" (fa 13) (fa 113) "part"
  F_BadNumber : Fun K "__init__" "BadNumber.__init__" s_BadNumber (fa 113) (fd 113)
  b_BadNumber : Binds K (fd 113) ["self", "part"] []
  E_BadBlock : ErrC K mg "BadBlock" (fa 14) (fa 114) "part"
  F_BadBlock : Fun K "__init__" "BadBlock.__init__" s_BadBlock (fa 114) (fd 114)
  b_BadBlock : Binds K (fd 114) ["self", "part"] []
  E_TooMany : ErrC2 K mg "TooMany" (fa 15) (fa 115) "what" "most"
  F_TooMany : Fun K "__init__" "TooMany.__init__" s_TooMany (fa 115) (fd 115)
  b_TooMany : Binds K (fd 115) ["self", "what", "most"] []
  M_MeetError : mg "MeetError" = some (.ref (fa 12))
  X_BadNumber : ExcC K (fa 13)
  kitN_BadNumber : PySem.W.kitOne K (.type "NoneType") (.ref (fa 13)) = some false
  exm_BadNumber_MeetError : PySem.W.exmOne K (.ref (fa 13)) (.ref (fa 12)) = some true
  kit_BadNumber_BadBlock : PySem.W.kitOne K (.ref (fa 13)) (.ref (fa 14)) = some false
  kit_BadNumber_TooMany : PySem.W.kitOne K (.ref (fa 13)) (.ref (fa 15)) = some false
  X_BadBlock : ExcC K (fa 14)
  kitN_BadBlock : PySem.W.kitOne K (.type "NoneType") (.ref (fa 14)) = some false
  exm_BadBlock_MeetError : PySem.W.exmOne K (.ref (fa 14)) (.ref (fa 12)) = some true
  kit_BadBlock_BadNumber : PySem.W.kitOne K (.ref (fa 14)) (.ref (fa 13)) = some false
  kit_BadBlock_TooMany : PySem.W.kitOne K (.ref (fa 14)) (.ref (fa 15)) = some false
  X_TooMany : ExcC K (fa 15)
  exm_TooMany_MeetError : PySem.W.exmOne K (.ref (fa 15)) (.ref (fa 12)) = some true
  kit_TooMany_BadNumber : PySem.W.kitOne K (.ref (fa 15)) (.ref (fa 13)) = some false
  kit_TooMany_BadBlock : PySem.W.kitOne K (.ref (fa 15)) (.ref (fa 14)) = some false
  n_abs : mg "abs" = none
  n_all : mg "all" = none
  n_bool : mg "bool" = none
  n_int : mg "int" = none
  n_isinstance : mg "isinstance" = none
  n_len : mg "len" = none
  n_list : mg "list" = none
  n_range : mg "range" = none
  n_repr : mg "repr" = none
  n_reversed : mg "reversed" = none
  n_tuple : mg "tuple" = none
  c_BLOCK_SIZE : ∃ u, mg "BLOCK_SIZE" = some u ∧ RelV (.int 16) u
  c_MOST_NUMBER : ∃ u, mg "MOST_NUMBER" = some u ∧ RelV (.int 65535) u
  c_LEAST_BLOCKS : ∃ u, mg "LEAST_BLOCKS" = some u ∧ RelV (.int 8) u
  c_MOST_BLOCKS : ∃ u, mg "MOST_BLOCKS" = some u ∧ RelV (.int 512) u
  c_MOST_HELD : ∃ u, mg "MOST_HELD" = some u ∧ RelV (.int 2000) u
  G_Disk : mg "Disk" = some (.ref (fa 23))
  O_Disk : OCls K (fa 23)
  MK_Disk : Mk K (fa 23) (fa 200)
  NA_many : NoAttr K (fa 23) "many"
  NA_image : NoAttr K (fa 23) "image"
  NA_held : NoAttr K (fa 23) "held"
  SM_of : ∃ p, SMet K (fa 23) (.type "type") "of" p (fa 201)
  EQ_Disk : PySem.W.findIn K (.ref (fa 23)) "__eq__" = some (some (.ref (fa 202)))
  NE_Disk : NeO K (fa 23) (fa 202)
  EF_Disk : PySem.W.isFn K (.ref (fa 202)) = true
  KT_Disk : PySem.W.kitOne K (.type "tuple") (.ref (fa 23)) = some false
  NF_Disk : PySem.W.notFirst K (fa 23) (.type "tuple") = true
  ME_block_at : Meth K (fa 23) "block_at" (fa 203)
  F_Disk_init : Fun K "__init__" "Disk.__init__" s_Disk_init (fa 200) (fd 200)
  b_Disk_init : Binds K (fd 200) ["self", "many"] []
  kb_Disk_init : KBn K (fd 200) ["self", "many"] 1 ["many"] kOne kOne
  F_Disk_of : Fun K "of" "Disk.of" s_Disk_of (fa 201) (fd 201)
  b_Disk_of : Binds K (fd 201) ["image"] []
  kb_Disk_of : KBn K (fd 201) ["image"] 0 ["image"] kOne kOne
  F_Disk_eq : Fun K "__eq__" "Disk.__eq__" s_Disk_eq (fa 202) (fd 202)
  b_Disk_eq : Binds K (fd 202) ["self", "other"] []
  F_Disk_block_at : Fun K "block_at" "Disk.block_at" s_Disk_block_at (fa 203) (fd 203)
  b_Disk_block_at : Binds K (fd 203) ["self", "at"] []
  kb_Disk_block_at : KBn K (fd 203) ["self", "at"] 1 ["at"] kOne kOne
theorem ok_BadNumber {P : Program} {w : World} {K : PySem.W.Frag} {mg : Str → Option Value} {base : Heap} {fa : Nat → Addr} {fd : Nat → FuncData} (T : Txt K mg fa fd) : FnOk P w K mg base CX0 1 (fa 113) (fd 113) ["self", "part"] (spInit K "part") := by
  have nd := sc_BadNumber.nd
  refine T.F_BadNumber.ok sc_BadNumber (fun vs H Q E h => ?_) (fun cdv A outer s H vs Q E hr h => ?_)
  · obtain ⟨a, C, p, rfl, _⟩ := h; rfl
  · obtain ⟨a, C, p, rfl, hC, hf, ha, k⟩ := h
    exact ⟨_, pss_one (ps_ost (pv 0) (pv 1)), _, rfl, _, rfl, _, _, rfl, hC, hf, .inl ⟨ha, k⟩⟩
theorem ok_BadBlock {P : Program} {w : World} {K : PySem.W.Frag} {mg : Str → Option Value} {base : Heap} {fa : Nat → Addr} {fd : Nat → FuncData} (T : Txt K mg fa fd) : FnOk P w K mg base CX0 1 (fa 114) (fd 114) ["self", "part"] (spInit K "part") := by
  have nd := sc_BadBlock.nd
  refine T.F_BadBlock.ok sc_BadBlock (fun vs H Q E h => ?_) (fun cdv A outer s H vs Q E hr h => ?_)
  · obtain ⟨a, C, p, rfl, _⟩ := h; rfl
  · obtain ⟨a, C, p, rfl, hC, hf, ha, k⟩ := h
    exact ⟨_, pss_one (ps_ost (pv 0) (pv 1)), _, rfl, _, rfl, _, _, rfl, hC, hf, .inl ⟨ha, k⟩⟩
theorem ok_TooMany {P : Program} {w : World} {K : PySem.W.Frag} {mg : Str → Option Value} {base : Heap} {fa : Nat → Addr} {fd : Nat → FuncData} (T : Txt K mg fa fd) : FnOk P w K mg base CX0 1 (fa 115) (fd 115) ["self", "what", "most"] (spInit2 K "what" "most") := by
  have nd := sc_TooMany.nd
  refine T.F_TooMany.ok sc_TooMany (fun vs H Q E h => ?_) (fun cdv A outer s H vs Q E hr h => ?_)
  · obtain ⟨a, C, p, q, rfl, _⟩ := h; rfl
  · obtain ⟨a, C, p, q, rfl, hC, hf, hg, ha, k⟩ := h
    exact ⟨_, pss_cons (ps_ost (pv 0) (pv 1)) (pss_one (ps_ost (pv 0) (pv 2))), _, rfl, _, rfl, _, _, rfl, hC, hf, .inl ⟨ha, fun dx nx ne => ⟨_, rfl, _, rfl, _, _, rfl, hC, hg, .inr ⟨dx, _, upd_same, (upd_ne ne).trans upd_same, (by show 1 ≤ 900; decide), k dx nx ne⟩⟩⟩⟩
theorem ok__law_crib {P : Program} {w : World} {K : PySem.W.Frag} {mg : Str → Option Value} {base : Heap} {fa : Nat → Addr} {fd : Nat → FuncData} (T : Txt K mg fa fd) : FnOk P w K mg base CX0 1 (fa 25) (fd 25) ["script"] (spStart K) := by
  have nd := sc__law_crib.nd
  refine T.F__law_crib.ok sc__law_crib (fun vs H Q E h => ?_) (fun cdv A outer s H vs Q E hr h => ?_)
  · obtain ⟨a, ns, rfl, _⟩ := h; rfl
  · obtain ⟨a, ns, rfl, hS, hlen, k⟩ := h
    refine ⟨_, (pss_one (ps_ret (pe_lstN (pa_cons (pe_lc (own := [("cell", 1)]) (g := (gName 1)) (by rfl) nd (pi_list (pe_slice sl_listN (pv 0) po_none (po_some pe_int))) (blkOk_by (N := sl__law_crib) (sc := defScope s__law_crib) (by decide +kernel)) (fun _ _ _ _ _ => (pg_name (i := 1) nd rfl (Or.inl rfl))) (fun _ _ _ _ _ => pts_nil) (fun _ _ _ _ _ => (pe_callTy call_int1 (by rfl) T.n_int (by decide +kernel) (pa_cons (pv 1) pa_nil)))) (pa_cons pe_int (pa_cons pe_int pa_nil)))))), ?_⟩
    refine ⟨_, rfl, _, rfl, a, _, rfl, hS, fun p H1 n1 => ?_⟩
    have ec : cutV (ns.map V.int) none (some 60) = (ns.take 60).map V.int := (cutN (ns.map V.int) 60).trans (List.map_take ..).symm
    have hl : ((ns.take 60).map V.int).length ≤ 10000000 := by rw [List.length_map, List.length_take]; omega
    rw [ec] at n1
    refine ⟨p, rfl, ⟨_, SqL.of n1.2.1⟩, fun D hD => lcg_list (fun _ => False) (fun _ _ => True) (fun i acc _ => acc = ((ns.take 60).map V.int).take i) hD (fun H F => (same_frm F).seq (SqL.of n1.2.1)) hl (fun _ _ _ _ z => z) (fun _ _ _ _ _ z => z) trivial rfl ?_ ?_⟩
    · intro i x acc H2 hx F hDa _ hA Ky Kn ky kn
      obtain ⟨z, rfl⟩ := int_at hx
      refine ⟨rfl, _, rfl, .inl ⟨_, rfl, ky _ H2 F hDa trivial ?_⟩⟩
      rw [hA, take_next hx]
    · intro H2 acc F hDa _ hA _
      rw [hA, List.take_of_length_le (Nat.le_refl _)] at hDa
      refine ⟨(by show 3 ≤ sizeLine; decide), fun l H3 n3 => k l D (ns.take 60) H3 ((n1.1.trans (same_frm F)).trans n3.1) ⟨0, 0, ⟨n3.2.1, n3.1 _ _ hDa, Int.le_refl _, Int.le_refl _⟩, Int.le_refl _⟩ ?_⟩
      exact (n1.1.trans (same_frm F)).free n3.2.2
theorem ok__law_pluck {P : Program} {w : World} {K : PySem.W.Frag} {mg : Str → Option Value} {base : Heap} {fa : Nat → Addr} {fd : Nat → FuncData} (T : Txt K mg fa fd) : FnOk P w K mg base CX0 1 (fa 26) (fd 26) ["crib", "many"] spDraw := by
  have nd := sc__law_pluck.nd
  refine T.F__law_pluck.ok sc__law_pluck (fun vs H Q E h => ?_) (fun cdv A outer s H vs Q E hr h => ?_)
  · obtain ⟨a, b, cs, n, m, rfl, _⟩ := h; rfl
  · obtain ⟨a, b, cs, n, m, rfl, ⟨t, r, S, htn⟩, hn, hm, hm2, k⟩ := h
    obtain ⟨ha, hb, ht, hr0⟩ := id S
    refine ⟨_, (pss_cons (ps_if (pt_cmpR op_gt (pe_ix ix_list (pv 0) pe_int (fun _ _ => rfl)) pe_int (nomark _))
          (pss_cons (ps_set (i := 2) nd rfl (Or.inl rfl) (pe_ix ix_list (pv 0) pe_int (fun _ _ => rfl)))
        (pss_cons (ps_asg (pe_op op_fdivL (pe_callTy call_int1 (by rfl) T.n_int (by decide +kernel) (pa_cons (pv 2) pa_nil)) (pv 1)) (pg_sub (pv 0) pe_int set_list))
        (pss_one (ps_ret (pe_op op_modL (pe_callTy call_int1 (by rfl) T.n_int (by decide +kernel) (pa_cons (pv 2) pa_nil)) (pv 1))))))
          pss_nil)
        (pss_cons (ps_set (i := 3) nd rfl (Or.inl rfl) (pe_ix ix_list (pv 0) pe_int (fun _ _ => rfl)))
        (pss_cons (ps_asg (pe_op op_add (pv 3) pe_int) (pg_sub (pv 0) pe_int set_list))
        (pss_cons (ps_set (i := 4) nd rfl (Or.inl rfl) (pe_op op_add (pe_op op_mulL pe_int (pv 3)) pe_int))
        (pss_cons (ps_if (pt_cmpR (op_neD hr.units) (pe_ix ix_list (pv 0) pe_int (fun _ _ => rfl)) (pe_lst pa_nil) (nomark _))
          (pss_one (ps_set (i := 4) nd rfl (Or.inl rfl) (pe_ix ix_list (pe_ix ix_list (pv 0) pe_int (fun _ _ => rfl)) (pe_op op_modL (pe_callTy call_int1 (by rfl) T.n_int (by decide +kernel) (pa_cons (pv 3) pa_nil)) (pe_callB call_len_seq (by rfl) T.n_len (by decide +kernel) (pa_cons (pe_ix ix_list (pv 0) pe_int (fun _ _ => rfl)) pa_nil))) (fun _ _ => rfl))))
          pss_nil)
        (pss_cons (ps_if (PW.pt (pw_and (pt_cmpR op_lt (pv 3) (pe_callB call_len_seq (by rfl) T.n_len (by decide +kernel) (pa_cons (pe_ix ix_list (pv 0) pe_int (fun _ _ => rfl)) pa_nil)) (nomark _)) (pw_and1 (pt_cmpR op_ge (pe_callB call_abs (by rfl) T.n_abs (by decide +kernel) (pa_cons (pv 4) pa_nil)) (pe_op op_powL pe_int pe_int) (nomark _)))))
          (pss_cons (ps_set (i := 2) nd rfl (Or.inl rfl) (pe_op op_add (pe_op op_mulL pe_int (pe_op op_sub (pe_callB call_abs (by rfl) T.n_abs (by decide +kernel) (pa_cons (pv 4) pa_nil)) (pe_op op_powL pe_int pe_int))) (pe_callTy call_int1 (by rfl) T.n_int (by decide +kernel) (pa_cons (pe_cmpR op_lt (pv 4) pe_int (nomark _)) pa_nil))))
        (pss_cons (ps_asg (pe_op op_fdivL (pe_callTy call_int1 (by rfl) T.n_int (by decide +kernel) (pa_cons (pv 2) pa_nil)) (pv 1)) (pg_sub (pv 0) pe_int set_list))
        (pss_one (ps_ret (pe_op op_modL (pe_callTy call_int1 (by rfl) T.n_int (by decide +kernel) (pa_cons (pv 2) pa_nil)) (pv 1))))))
          pss_nil)
        (pss_cons (ps_set (i := 5) nd rfl (Or.inl rfl) (pe_op op_modL (pe_callTy call_int1 (by rfl) T.n_int (by decide +kernel) (pa_cons (pe_op op_powL (pe_op op_add (pe_op op_add (pe_op op_modL (pe_callTy call_int1 (by rfl) T.n_int (by decide +kernel) (pa_cons (pv 4) pa_nil)) pe_int) (pe_op op_mulL pe_int (pv 3))) pe_int) pe_int) pa_nil)) pe_int))
        (pss_cons (ps_set (i := 5) nd rfl (Or.inl rfl) (pe_op op_modL (pe_callTy call_int1 (by rfl) T.n_int (by decide +kernel) (pa_cons (pe_op op_powL (pe_op op_add (pe_op op_add (pe_op op_mulL (pv 5) (pe_op op_add (pe_op op_mulL pe_int (pv 3)) pe_int)) (pe_op op_mulL (pe_op op_mulL pe_int (pv 3)) (pv 3))) pe_int) pe_int) pa_nil)) pe_int))
        (pss_one (ps_ret (pe_op op_modL (pe_callTy call_int1 (by rfl) T.n_int (by decide +kernel) (pa_cons (pe_op op_fdivL (pv 5) pe_int) pa_nil)) (pv 1)))))))))))), ?_⟩
    refine ⟨_, rfl, a, _, 2, _, rfl, rfl, SqL.of ha, rfl, _, _, rfl, rfl, _, rfl, ?_⟩
    refine ite2 (fun h1 => ?_) (fun h1 => ?_)
    · have h1 : 0 < r := of_decide_eq_true h1
      refine ⟨_, rfl, a, _, 2, _, rfl, rfl, SqL.of ha, rfl, ?_⟩
      refine ⟨_, rfl, .inl ⟨_, rfl, _, rfl, _, _, rfl, rfl, draw_div hm hm2, fun r1 er1 => ?_⟩⟩
      refine ⟨_, rfl, a, _, 2, 2, rfl, rfl, ha, rfl, ?_⟩
      refine ⟨_, rfl, .inl ⟨_, rfl, _, rfl, _, _, rfl, rfl, hm, fun d _ d0 d1 => ?_⟩⟩
      exact k _ _ frm_upd ⟨t, r1, S.upd ht (by rw [er1]; exact Int.ediv_nonneg hr0 (Int.le_of_lt hm)), by omega⟩ d0 d1
    · refine ⟨_, rfl, a, _, 1, _, rfl, rfl, SqL.of ha, rfl, ?_⟩
      refine ⟨_, rfl, _, _, rfl, rfl, ?_⟩
      refine ⟨_, rfl, a, _, 1, 1, rfl, rfl, ha, rfl, ?_⟩
      refine ⟨_, rfl, _, _, rfl, rfl, .inl (by decide), fun c0 _ => ⟨_, _, rfl, rfl, ?_⟩⟩
      have S1 : Sat a b cs (t + 1) r (upd H a (.lst ([V.ref b, V.int t, V.int r].set 1 (.int (t + 1))))) := S.upd (by omega) hr0
      refine ⟨_, rfl, a, _, 0, _, rfl, rfl, SqL.of S1.ha, rfl, Nat.zero_le _, fun l hl => ?_⟩
      have E1 := same_new (o := .lst []) hl
      have S2 := S1.same E1
      have F2 : Frm (· = a) H _ := frm_upd.trans (frm_same E1)
      refine ints_ne (SqL.of S2.hb) (SqL.of upd_same) ⟨_, rfl, ?_⟩
      clear E1 hl
      revert S1 S2 F2
      generalize upd (upd H a (.lst ([V.ref b, V.int t, V.int r].set 1 (.int (t + 1))))) l (.lst []) = H2
      intro S1 S2 F2
      clear S1
      refine ite2 (fun h2 => ?_) (fun h2 => ?_)
      · have h3 : cs ≠ [] := by intro e; subst e; exact absurd h2 (by decide)
        have l0 : 0 < ((cs.map V.int).length : Int) := by
          cases cs with
          | nil => exact absurd rfl h3
          | cons c cs => exact Int.natCast_pos.mpr (Nat.succ_pos _)
        obtain ⟨c, hc⟩ := cell_at h3 t
        refine ⟨_, rfl, a, _, 0, _, rfl, rfl, SqL.of S2.ha, rfl, _, rfl, .inl ⟨_, rfl, _, rfl, a, _, 0, _, rfl, rfl, SqL.of S2.ha, rfl, b, _, rfl, .inl (SqL.of S2.hb), _, _, rfl, rfl, l0, fun z ez _ _ => ?_⟩⟩
        rw [← ez] at hc
        refine ⟨b, _, _, .int c, rfl, rfl, SqL.of S2.hb, hc, ?_⟩
        -- if turn < len(satchel[0]) and abs(cell) >= 10 ** 18
        refine ⟨_, rfl, _, rfl, a, _, 0, _, rfl, rfl, SqL.of S2.ha, rfl, b, _, rfl, .inl (SqL.of S2.hb), _, _, rfl, rfl, _, rfl, ?_⟩
        refine ite2 (fun h4 => ?_) (fun h4 => ?_)
        · refine ⟨_, rfl, _, rfl, _, _, rfl, rfl, ⟨by decide, by decide, by decide⟩, fun big hbig => ⟨_, _, rfl, rfl, _, rfl, ?_⟩⟩
          refine ite2 (fun h5 => ?_) (fun h5 => ?_)
          · have h5 := of_decide_eq_true h5
            refine ⟨_, rfl, _, rfl, _, _, rfl, rfl, ⟨by decide, by decide, by decide⟩, fun big2 hbig2 => ⟨_, _, rfl, rfl, _, _, rfl, rfl, .inl (by decide), fun y ey => ?_⟩⟩
            refine ⟨_, rfl, _, _, rfl, rfl, .inr ⟨_, rfl, _, _, rfl, rfl, ?_⟩⟩
            rw [← hbig2] at hbig
            refine ⟨_, rfl, .inl ⟨_, rfl, _, rfl, _, _, rfl, rfl, draw_div hm hm2, fun r1 er1 => ?_⟩⟩
            refine ⟨_, rfl, a, _, 2, 2, rfl, rfl, S2.ha, rfl, ?_⟩
            refine ⟨_, rfl, .inl ⟨_, rfl, _, rfl, _, _, rfl, rfl, hm, fun d _ d0 d1 => ?_⟩⟩
            refine k _ _ (F2.trans frm_upd) ⟨t + 1, r1, S2.upd S2.ht (by rw [er1]; exact Int.ediv_nonneg (draw_rest ey (by rw [← hbig]; exact h5)) (Int.le_of_lt hm)), by omega⟩ d0 d1
          · -- mixed = int((int(cell) % p + q * turn + k) ** 5) % p
            refine ⟨_, rfl, .inl ⟨_, rfl, _, _, rfl, rfl, by decide, fun z0 _ z1 z2 => ?_⟩⟩
            refine ⟨_, rfl, _, _, rfl, rfl, .inl (by decide), fun z3 z4 => ⟨_, _, rfl, rfl, _, _, rfl, rfl, _, _, rfl, rfl, ⟨by decide, by decide, ?_⟩, fun z5 _ => ?_⟩⟩
            · omega
            refine .inl ⟨_, rfl, _, _, rfl, rfl, by decide, fun mx _ m0 m1 => ?_⟩
            -- mixed = int((mixed * (2 * turn + k) + q * turn * turn + l) ** 3) % p
            refine ⟨_, rfl, _, rfl, _, _, rfl, rfl, .inl (by decide), fun y0 y1 => ⟨_, _, rfl, rfl, _, _, rfl, rfl, .inl ⟨by omega, by omega⟩, fun y2 y3 => ?_⟩⟩
            refine ⟨_, rfl, _, _, rfl, rfl, .inl (by decide), fun y4 y5 => ⟨_, rfl, _, _, rfl, rfl, .inl ⟨by omega, by omega⟩, fun y6 y7 => ?_⟩⟩
            have b1 := mul_bd (x := mx) (y := y0 + 4441) (A := 2147483648) (B := 3000000) m0 (by omega) (by omega) (by omega)
            have b2 := mul_bd (x := y4) (y := t) (A := 1000000000000) (B := 1000000) (by omega) (by omega) ht (by omega)
            rw [← y3] at b1
            rw [← y7] at b2
            refine ⟨_, _, rfl, rfl, _, _, rfl, rfl, _, _, rfl, rfl, ⟨by decide, by decide, ?_⟩, fun y8 _ => ?_⟩
            · clear y3 y7 y5 y1
              omega
            refine .inl ⟨_, rfl, _, _, rfl, rfl, by decide, fun my _ n0 n1 => ?_⟩
            -- return int(mixed // 64) % many
            refine ⟨_, rfl, _, _, rfl, rfl, ⟨by decide, by decide⟩, fun w0 _ => .inl ⟨_, rfl, _, rfl, _, _, rfl, rfl, hm, fun d _ d0 d1 => ?_⟩⟩
            exact k _ _ F2 ⟨_, _, S2, by omega⟩ d0 d1
        · refine iteF ?_
          -- mixed = int((int(cell) % p + q * turn + k) ** 5) % p
          refine ⟨_, rfl, .inl ⟨_, rfl, _, _, rfl, rfl, by decide, fun z0 _ z1 z2 => ?_⟩⟩
          refine ⟨_, rfl, _, _, rfl, rfl, .inl (by decide), fun z3 z4 => ⟨_, _, rfl, rfl, _, _, rfl, rfl, _, _, rfl, rfl, ⟨by decide, by decide, ?_⟩, fun z5 _ => ?_⟩⟩
          · omega
          refine .inl ⟨_, rfl, _, _, rfl, rfl, by decide, fun mx _ m0 m1 => ?_⟩
          -- mixed = int((mixed * (2 * turn + k) + q * turn * turn + l) ** 3) % p
          refine ⟨_, rfl, _, rfl, _, _, rfl, rfl, .inl (by decide), fun y0 y1 => ⟨_, _, rfl, rfl, _, _, rfl, rfl, .inl ⟨by omega, by omega⟩, fun y2 y3 => ?_⟩⟩
          refine ⟨_, rfl, _, _, rfl, rfl, .inl (by decide), fun y4 y5 => ⟨_, rfl, _, _, rfl, rfl, .inl ⟨by omega, by omega⟩, fun y6 y7 => ?_⟩⟩
          have b1 := mul_bd (x := mx) (y := y0 + 4441) (A := 2147483648) (B := 3000000) m0 (by omega) (by omega) (by omega)
          have b2 := mul_bd (x := y4) (y := t) (A := 1000000000000) (B := 1000000) (by omega) (by omega) ht (by omega)
          rw [← y3] at b1
          rw [← y7] at b2
          refine ⟨_, _, rfl, rfl, _, _, rfl, rfl, _, _, rfl, rfl, ⟨by decide, by decide, ?_⟩, fun y8 _ => ?_⟩
          · clear y3 y7 y5 y1
            omega
          refine .inl ⟨_, rfl, _, _, rfl, rfl, by decide, fun my _ n0 n1 => ?_⟩
          -- return int(mixed // 64) % many
          refine ⟨_, rfl, _, _, rfl, rfl, ⟨by decide, by decide⟩, fun w0 _ => .inl ⟨_, rfl, _, rfl, _, _, rfl, rfl, hm, fun d _ d0 d1 => ?_⟩⟩
          exact k _ _ F2 ⟨_, _, S2, by omega⟩ d0 d1
      · -- if turn < len(satchel[0]) and abs(cell) >= 10 ** 18
        refine ⟨_, rfl, _, rfl, a, _, 0, _, rfl, rfl, SqL.of S2.ha, rfl, b, _, rfl, .inl (SqL.of S2.hb), _, _, rfl, rfl, _, rfl, ?_⟩
        refine ite2 (fun h4 => ?_) (fun h4 => ?_)
        · refine ⟨_, rfl, _, rfl, _, _, rfl, rfl, ⟨by decide, by decide, by decide⟩, fun big hbig => ⟨_, _, rfl, rfl, _, rfl, ?_⟩⟩
          refine ite2 (fun h5 => ?_) (fun h5 => ?_)
          · have h5 := of_decide_eq_true h5
            refine ⟨_, rfl, _, rfl, _, _, rfl, rfl, ⟨by decide, by decide, by decide⟩, fun big2 hbig2 => ⟨_, _, rfl, rfl, _, _, rfl, rfl, .inl (by decide), fun y ey => ?_⟩⟩
            refine ⟨_, rfl, _, _, rfl, rfl, .inr ⟨_, rfl, _, _, rfl, rfl, ?_⟩⟩
            rw [← hbig2] at hbig
            refine ⟨_, rfl, .inl ⟨_, rfl, _, rfl, _, _, rfl, rfl, draw_div hm hm2, fun r1 er1 => ?_⟩⟩
            refine ⟨_, rfl, a, _, 2, 2, rfl, rfl, S2.ha, rfl, ?_⟩
            refine ⟨_, rfl, .inl ⟨_, rfl, _, rfl, _, _, rfl, rfl, hm, fun d _ d0 d1 => ?_⟩⟩
            refine k _ _ (F2.trans frm_upd) ⟨t + 1, r1, S2.upd S2.ht (by rw [er1]; exact Int.ediv_nonneg (draw_rest ey (by rw [← hbig]; exact h5)) (Int.le_of_lt hm)), by omega⟩ d0 d1
          · -- mixed = int((int(cell) % p + q * turn + k) ** 5) % p
            refine ⟨_, rfl, .inl ⟨_, rfl, _, _, rfl, rfl, by decide, fun z0 _ z1 z2 => ?_⟩⟩
            refine ⟨_, rfl, _, _, rfl, rfl, .inl (by decide), fun z3 z4 => ⟨_, _, rfl, rfl, _, _, rfl, rfl, _, _, rfl, rfl, ⟨by decide, by decide, ?_⟩, fun z5 _ => ?_⟩⟩
            · omega
            refine .inl ⟨_, rfl, _, _, rfl, rfl, by decide, fun mx _ m0 m1 => ?_⟩
            -- mixed = int((mixed * (2 * turn + k) + q * turn * turn + l) ** 3) % p
            refine ⟨_, rfl, _, rfl, _, _, rfl, rfl, .inl (by decide), fun y0 y1 => ⟨_, _, rfl, rfl, _, _, rfl, rfl, .inl ⟨by omega, by omega⟩, fun y2 y3 => ?_⟩⟩
            refine ⟨_, rfl, _, _, rfl, rfl, .inl (by decide), fun y4 y5 => ⟨_, rfl, _, _, rfl, rfl, .inl ⟨by omega, by omega⟩, fun y6 y7 => ?_⟩⟩
            have b1 := mul_bd (x := mx) (y := y0 + 4441) (A := 2147483648) (B := 3000000) m0 (by omega) (by omega) (by omega)
            have b2 := mul_bd (x := y4) (y := t) (A := 1000000000000) (B := 1000000) (by omega) (by omega) ht (by omega)
            rw [← y3] at b1
            rw [← y7] at b2
            refine ⟨_, _, rfl, rfl, _, _, rfl, rfl, _, _, rfl, rfl, ⟨by decide, by decide, ?_⟩, fun y8 _ => ?_⟩
            · clear y3 y7 y5 y1
              omega
            refine .inl ⟨_, rfl, _, _, rfl, rfl, by decide, fun my _ n0 n1 => ?_⟩
            -- return int(mixed // 64) % many
            refine ⟨_, rfl, _, _, rfl, rfl, ⟨by decide, by decide⟩, fun w0 _ => .inl ⟨_, rfl, _, rfl, _, _, rfl, rfl, hm, fun d _ d0 d1 => ?_⟩⟩
            exact k _ _ F2 ⟨_, _, S2, by omega⟩ d0 d1
        · refine iteF ?_
          -- mixed = int((int(cell) % p + q * turn + k) ** 5) % p
          refine ⟨_, rfl, .inl ⟨_, rfl, _, _, rfl, rfl, by decide, fun z0 _ z1 z2 => ?_⟩⟩
          refine ⟨_, rfl, _, _, rfl, rfl, .inl (by decide), fun z3 z4 => ⟨_, _, rfl, rfl, _, _, rfl, rfl, _, _, rfl, rfl, ⟨by decide, by decide, ?_⟩, fun z5 _ => ?_⟩⟩
          · omega
          refine .inl ⟨_, rfl, _, _, rfl, rfl, by decide, fun mx _ m0 m1 => ?_⟩
          -- mixed = int((mixed * (2 * turn + k) + q * turn * turn + l) ** 3) % p
          refine ⟨_, rfl, _, rfl, _, _, rfl, rfl, .inl (by decide), fun y0 y1 => ⟨_, _, rfl, rfl, _, _, rfl, rfl, .inl ⟨by omega, by omega⟩, fun y2 y3 => ?_⟩⟩
          refine ⟨_, rfl, _, _, rfl, rfl, .inl (by decide), fun y4 y5 => ⟨_, rfl, _, _, rfl, rfl, .inl ⟨by omega, by omega⟩, fun y6 y7 => ?_⟩⟩
          have b1 := mul_bd (x := mx) (y := y0 + 4441) (A := 2147483648) (B := 3000000) m0 (by omega) (by omega) (by omega)
          have b2 := mul_bd (x := y4) (y := t) (A := 1000000000000) (B := 1000000) (by omega) (by omega) ht (by omega)
          rw [← y3] at b1
          rw [← y7] at b2
          refine ⟨_, _, rfl, rfl, _, _, rfl, rfl, _, _, rfl, rfl, ⟨by decide, by decide, ?_⟩, fun y8 _ => ?_⟩
          · clear y3 y7 y5 y1
            omega
          refine .inl ⟨_, rfl, _, _, rfl, rfl, by decide, fun my _ n0 n1 => ?_⟩
          -- return int(mixed // 64) % many
          refine ⟨_, rfl, _, _, rfl, rfl, ⟨by decide, by decide⟩, fun w0 _ => .inl ⟨_, rfl, _, rfl, _, _, rfl, rfl, hm, fun d _ d0 d1 => ?_⟩⟩
          exact k _ _ F2 ⟨_, _, S2, by omega⟩ d0 d1
end K04
set_option maxHeartbeats 4000000
namespace K04
open PySem L2 MT RZ StX


local macro_rules | `(tactic| walk_at "sm") => `(tactic| first | exact Same.refl _ | assumption | exact New.same (by assumption) | exact Same.trans (by assumption) (by walk_at "sm") | exact Same.trans (New.same (by assumption)) (by walk_at "sm"))
local macro_rules | `(tactic| walk_at "fr") => `(tactic| first | exact Frm.refl | assumption | exact frm_same (New.same (by assumption)) | exact frm_same (by assumption) | exact Frm.trans (by assumption) (by walk_at "fr") | exact Frm.trans (frm_same (New.same (by assumption))) (by walk_at "fr") | exact Frm.trans (frm_same (by assumption)) (by walk_at "fr"))
local macro_rules | `(tactic| walk_at "dv") => `(tactic| first | exact Dv.int _ | exact Dv.bl _ | exact Dv.non | exact Dv.str _ | assumption | exact Dv.same (by assumption) (by walk_at "sm") | exact Dv.mono (by assumption) (by walk_at "fr"))
local macro_rules | `(tactic| walk_at "dvs") => `(tactic| first | exact DvAll.nil | exact DvAll.ints _ | (refine DvAll.cons ?_ ?_; walk_at "dv"; walk_at "dvs"))

theorem dg_is_block_value {K : PySem.W.Frag} {M : Addr → Prop} {H : Hp} : ∀ {vs zs : List V} {ds es : List PyData}, DwAll K M H vs ds → DwAll K M H zs es → DwAll K M H (g_is_block_value vs zs) (g_is_block_value ds es)
  | _, _, _, _, .nil, .nil => .nil
  | _, _, _, _, .nil, (.cons b0 .nil) => (.cons b0 .nil)
  | _, _, _, _, .nil, (.cons _ (.cons _ _)) => .nil
  | _, _, _, _, (.cons _ _), .nil => .nil
  | _, _, _, _, (.cons _ _), (.cons _ .nil) => .nil
  | _, _, _, _, (.cons _ _), (.cons _ (.cons _ _)) => .nil
theorem okd__law_pluck {P : Program} {w : World} {K : PySem.W.Frag} {mg : Str → Option Value} {base : Heap} {fa : Nat → Addr} {fd : Nat → FuncData} (T : Txt K mg fa fd) : FnOk P w K mg base CX0 1 (fa 26) (fd 26) ["crib", "many"] (spDr K 1 (Dr1 okM1 below)) := (ok__law_pluck T).imp fun _ _ _ _ h => sp_draw h

/-! ### the program's checks -/
def bnd : PyData → Option Int
  | .int i => some i
  | _ => none
def isB (d : PyData) : Prop := d = .none ∨ ∃ i, d = .int i
def blkD (d : PyData) : Bool := numbersD d 16 65535
def blksD (d : PyData) : Bool := match seqD d with
  | some xs => xs.all blkD
  | none => false
def rowD (d : PyData) : Bool := match seqD d with
  | some xs => decide (xs.length ≤ 2000) && xs.all fun x => withinD x (some 0) (some 65535)
  | none => false
/-- no list in it is longer -/
def shortL : PyData → Prop := fun d => ∀ xs, seqD d = some xs → xs.length ≤ 10000000
theorem all_bools {p : PyData → Bool} : ∀ xs : List PyData, ((xs.map fun x => PyData.bool (p x)).all fun d => match d with | .bool b => b | _ => false) = xs.all p
  | [] => rfl
  | x :: xs => by rw [List.map_cons, List.all_cons, List.all_cons, all_bools xs]

theorem ok_is_list {P : Program} {w : World} {K : PySem.W.Frag} {mg : Str → Option Value} {base : Heap} {fa : Nat → Addr} {fd : Nat → FuncData} (T : Txt K mg fa fd) : FnOk P w K mg base CX0 1 (fa 2) (fd 2) ["value"] (spPure K (Fn1 (fun _ => True) fun d => .bool (seqD d).isSome)) := by
  have nd := sc_is_list.nd
  refine T.F_is_list.ok sc_is_list (fun vs H Q E h => len1 h) (fun cdv A outer s H vs Q E hr h => ⟨_, (pss0 (pss_one (ds_ret (ps_ret (de_isi_seq (pe_callB call_isiTY (by rfl) T.n_isinstance (by decide +kernel) (pa_cons (de_var (pv 0)) (pa_cons (pe_tupN (pa_cons (pe_bltn (v := .ty "list") (u := .type "list") (by rfl) T.n_list (by decide +kernel) rfl) (pa_cons (pe_bltn (v := .ty "tuple") (u := .type "tuple") (by rfl) T.n_tuple (by decide +kernel) rfl) pa_nil))) pa_nil)))))))), ?_⟩)
  refine pure1 (m := 0) h (fun _ => rfl) ?_
  intro d _
  exact ⟨d, rfl, rfl⟩
theorem ok_is_integer {P : Program} {w : World} {K : PySem.W.Frag} {mg : Str → Option Value} {base : Heap} {fa : Nat → Addr} {fd : Nat → FuncData} (T : Txt K mg fa fd) : FnOk P w K mg base CX0 1 (fa 3) (fd 3) ["value"] (spPure K (Fn1 (fun _ => True) fun d => .bool (isIntD d))) := by
  have nd := sc_is_integer.nd
  refine T.F_is_integer.ok sc_is_integer (fun vs H Q E h => len1 h) (fun cdv A outer s H vs Q E hr h => ⟨_, (pss0 (pss_one (ds_ret (ps_ret (de_and (pe_and (de_isi_int (pe_callB call_isiY (by rfl) T.n_isinstance (by decide +kernel) (pa_cons (de_var (pv 0)) (pa_cons (pe_bltn (v := .ty "int") (u := .type "int") (by rfl) T.n_int (by decide +kernel) rfl) pa_nil)))) (pe_one (de_not (pe_not (de_isi_bool (pe_callB call_isiY (by rfl) T.n_isinstance (by decide +kernel) (pa_cons (de_var (pv 0)) (pa_cons (pe_bltn (v := .ty "bool") (u := .type "bool") (by rfl) T.n_bool (by decide +kernel) rfl) pa_nil))))))))))))), ?_⟩)
  refine pure1 (m := 0) h (fun _ => rfl) ?_
  intro d _
  cases d <;> first | exact ⟨_, rfl, _, rfl, iteT' rfl ⟨_, rfl, _, rfl, rfl⟩⟩ | exact ⟨_, rfl, _, rfl, iteF' rfl rfl⟩

theorem q_half {g : Int → Int → Bool} {s : Str → Str → Bool} {i : Int} {l : PyData} {j n : Nat} {ρ : List DS} {R : QD} (h0 : ρ[0]? = some (.d (.int i))) (hj : ρ[j]? = some (.d l)) (b : isB l)
    (r : R (.bool (match bnd l with | none => true | some x => g i x)) n) : qOrV (qOp fIs (qVar j) (qC PyData.none)) (qOp (fOrd g s) (qVar 0) (qVar j)) ρ n R := by
  rcases b with rfl | ⟨x, rfl⟩
  · exact ⟨_, hj, true, rfl, iteT' rfl r⟩
  · exact ⟨_, hj, false, rfl, iteF' rfl ⟨_, h0, _, hj, r⟩⟩
theorem wi_t {i : Int} {L M : Option Int} (h : (match L with | none => true | some x => decide (x ≤ i)) = true) : PyData.bool (match M with | none => true | some x => decide (i ≤ x)) = .bool (withinD (.int i) L M) := by
  cases L <;> cases M <;> simp_all [withinD]
theorem wi_f {i : Int} {L M : Option Int} (h : (match L with | none => true | some x => decide (x ≤ i)) = false) : PyData.bool false = .bool (withinD (.int i) L M) := by
  cases L with
  | none => cases h
  | some l =>
    show PyData.bool false = .bool (decide (l ≤ i) && _)
    have h : decide (l ≤ i) = false := h
    rw [h]
    rfl
theorem q_len {i n k : Nat} {ρ : List DS} {R : QD} {d : PyData} (hv : ρ[i]? = some (DS.d d)) (hl : lenOf d = some k) (r : R (.int (k : Nat)) n) : qCB fLen (qCons (qVar i) qNil) ρ n R := by
  unfold qCB qCons qVar qNil
  exact ⟨d, hv, f_len hl r⟩
theorem q_len_nev {i j n k : Nat} {m : Int} {ρ : List DS} {R : QD} {d : PyData} (hv : ρ[i]? = some (DS.d d)) (hj : ρ[j]? = some (DS.d (.int m))) (hl : lenOf d = some k) (r : R (.bool (!decide ((k : Int) = m))) n) : qOp fNe (qCB fLen (qCons (qVar i) qNil)) (qVar j) ρ n R := by
  unfold qOp qCB qCons qVar qNil
  exact ⟨d, hv, f_len hl ⟨_, hj, rfl, rfl, r⟩⟩
theorem q_cb1 {f : List PyData → (PyData → Prop) → Prop} {t : TD} {u : TDA} {ρ : List DS} {n : Nat} {R : QD} (h : t ρ n fun d n1 => u ρ n1 fun ds n2 => f (d :: ds) fun d => R d n2) : qCB f (qCons t u) ρ n R := h
theorem q_sq {i n : Nat} {ρ : List DS} {R : QD} {d : PyData} (hv : ρ[i]? = some (DS.d d)) (r : R (.bool (seqD d).isSome) n) : qCB (Fn1 (fun _ => True) fun d => PyData.bool (seqD d).isSome) (qCons (qVar i) qNil) ρ n R := ⟨d, hv, _, rfl, trivial, r⟩

theorem ok_is_within {P : Program} {w : World} {K : PySem.W.Frag} {mg : Str → Option Value} {base : Heap} {fa : Nat → Addr} {fd : Nat → FuncData} (T : Txt K mg fa fd) : FnOk P w K mg base CX0 2 (fa 4) (fd 4) ["value", "least", "most"] (spPure K (Fn3 (fun d l m => isB l ∧ isB m) fun d l m => .bool (withinD d (bnd l) (bnd m)))) := by
  have nd := sc_is_within.nd
  refine T.F_is_within.ok sc_is_within (fun vs H Q E h => len3 h) (fun cdv A outer s H vs Q E hr h => ⟨_, (pss0 (dss_cons (pss_cons (ds_if (ps_if (dt_not (pt_not (dt_val (pt_val (de_call (pe_call (ok_is_integer T) (hr.mono (by decide)) rfl T.g_is_integer T.F_is_integer.kp T.b_is_integer .nil pass0 (da_cons (pa_cons (de_var (pv 0)) (da_nil pa_nil)))))))))
          (pss_one (ds_ret (ps_ret (de_bl pe_bl))))
          (dss_nil pss_nil)))
        (pss_one (ds_ret (ps_ret (de_and (pe_and (de_or (pe_or (de_op fit_is (pe_cmpR op_isU (de_var (pv 1)) (de_non pe_non) (nomark _))) (pe_one (de_op fit_ord (pe_cmpR op_geU (de_var (pv 0)) (de_var (pv 1)) (nomark _)))))) (pe_one (de_or (pe_or (de_op fit_is (pe_cmpR op_isU (de_var (pv 2)) (de_non pe_non) (nomark _))) (pe_one (de_op fit_ord (pe_cmpR op_leU (de_var (pv 0)) (de_var (pv 2)) (nomark _))))))))))))))), ?_⟩)
  refine pure3 (m := 0) h (fun _ _ _ => rfl) ?_
  rintro d l m ⟨hl, hm⟩
  cases d with
  | int i =>
    refine ⟨_, rfl, _, rfl, trivial, _, rfl, iteF' rfl ?_⟩
    refine q_half rfl rfl hl ⟨_, rfl, ite2 (fun h => ?_) (fun h => ?_)⟩
    · exact q_half rfl rfl hm (wi_t h)
    · exact wi_f (bfalse h)
  | _ => exact ⟨_, rfl, _, rfl, trivial, _, rfl, iteT' rfl rfl⟩

theorem f_all {p : PyData → Bool} {xs : List PyData} {R : PyData → Prop} (r : R (.bool (xs.all p))) : fAll [.list (xs.map fun x => .bool (p x))] R := by
  refine ⟨xs.map p, by rw [List.map_map]; rfl, ?_⟩
  have e : (xs.map p).all id = xs.all p := by rw [List.all_map]; rfl
  rw [e]
  exact r
theorem q_allU {vs : List Nat} {f : PyData → List DS → (List DS → Prop) → Prop} {te : TD} {ρ : List DS} {n : Nat} {R : QD} {i : Nat} {d : PyData} {xs : List PyData} (p : PyData → Bool) (hv : ρ[i]? = some (DS.d d)) (hs : itemsD d = some xs) (hl : xs.length ≤ 10000000)
    (h : ∀ x ∈ xs, ∀ Ky : QD, Ky (.bool (p x)) n → f x (wipeD ρ vs) fun ρ' => te ρ' n Ky) (r : R (.bool (xs.all p)) n) : qCB fAll (qCons (qLc vs f (qItU (qVar i)) qYes te) qNil) ρ n R := by
  unfold qCB qCons qNil
  exact ⟨_, hv, _, hs, lc_map (fun x => .bool (p x)) hl h (f_all r)⟩

theorem ok_is_numbers {P : Program} {w : World} {K : PySem.W.Frag} {mg : Str → Option Value} {base : Heap} {fa : Nat → Addr} {fd : Nat → FuncData} (T : Txt K mg fa fd) : FnOk P w K mg base CX0 3 (fa 5) (fd 5) ["value", "many", "most"] (spPure K (Fn3 (fun d n m => shortL d ∧ ∃ a b : Int, n = .int a ∧ m = .int b) fun d n m => .bool (numbersD d (intOf n) (intOf m)))) := by
  have nd := sc_is_numbers.nd
  refine T.F_is_numbers.ok sc_is_numbers (fun vs H Q E h => len3 h) (fun cdv A outer s H vs Q E hr h => ⟨_, (pss0 (dss_cons (pss_cons (ds_if (ps_if (PW.pt (dw_or (pw_or (dt_not (pt_not (dt_val (pt_val (de_call (pe_call (ok_is_list T) (hr.mono (by decide)) rfl T.g_is_list T.F_is_list.kp T.b_is_list .nil pass0 (da_cons (pa_cons (de_var (pv 0)) (da_nil pa_nil))))))))) (pw_or1 (dt_cmp fit_ne (pt_cmpR (op_neD hr.units) (de_cb fit_len (pe_callB call_lenU (by rfl) T.n_len (by decide +kernel) (da_cons (pa_cons (de_var (pv 0)) (da_nil pa_nil))))) (de_var (pv 1)) (nomark _)))))))
          (pss_one (ds_ret (ps_ret (de_bl pe_bl))))
          (dss_nil pss_nil)))
        (pss_one (ds_ret (ps_ret (de_cb fit_all (pe_callB (cr_all rfl) (by rfl) T.n_all (by decide +kernel) (da_cons (pa_cons (de_lc fit_name (pe_lc (own := [("part", 3)]) (by rfl) nd (di_U (pi_U (de_var (pv 0)))) (blkOk_by (N := sl_is_numbers) (sc := defScope s_is_numbers) (by decide +kernel)) (fun _ _ _ _ _ => (pg_name (i := 3) nd rfl (Or.inl rfl))) (fun _ _ _ _ _ => (dts_nil pts_nil)) (fun _ _ _ _ _ => (de_call (pe_call (ok_is_within T) (hr.mono (by decide)) rfl T.g_is_within T.F_is_within.kp T.b_is_within .nil pass0 (da_cons (pa_cons (de_var (pv 3)) (da_cons (pa_cons (de_int pe_int) (da_cons (pa_cons (de_var (pv 2)) (da_nil pa_nil)))))))))))) (da_nil pa_nil))))))))))), ?_⟩)
  refine pure3 (m := 1) h (fun _ _ _ => rfl) ?_
  rintro d n m ⟨hd, a, b, rfl, rfl⟩
  cases q : seqD d with
  | none =>
    refine ⟨_, rfl, _, rfl, trivial, _, rfl, iteT' (by rw [q]; rfl) (iteT' rfl ?_)⟩
    show PyData.bool false = .bool (numbersD _ _ _)
    unfold numbersD
    rw [q]
  | some xs =>
    refine ⟨_, rfl, _, rfl, trivial, _, rfl, iteF' (by rw [q]; rfl) ?_⟩
    refine q_len_nev rfl rfl (len_seqD q) ⟨_, rfl, ite2 (fun h => ?_) (fun h => ?_)⟩
    · have h := nt_true h
      show PyData.bool false = .bool (numbersD _ _ _)
      unfold numbersD
      rw [q]
      show PyData.bool false = .bool (decide ((xs.length : Int) = a) && _)
      have h : decide ((xs.length : Int) = a) = false := h
      rw [h]
      rfl
    · have h := nt_false h
      refine q_allU (fun x => withinD x (some 0) (some b)) rfl (items_seqD q) (hd xs q) (fun x hx Ky kb => ⟨_, rfl, _, rfl, _, _, _, rfl, ⟨.inr ⟨0, rfl⟩, .inr ⟨b, rfl⟩⟩, kb⟩) ?_
      show PyData.bool _ = .bool (numbersD _ _ _)
      unfold numbersD
      rw [q]
      show _ = PyData.bool (decide ((xs.length : Int) = a) && _)
      have h : decide ((xs.length : Int) = a) = true := h
      rw [h]
      rfl
theorem ok_is_block {P : Program} {w : World} {K : PySem.W.Frag} {mg : Str → Option Value} {base : Heap} {fa : Nat → Addr} {fd : Nat → FuncData} (T : Txt K mg fa fd) : FnOk P w K mg base CX0 4 (fa 9) (fd 9) ["value"] (spPure K (Fn1 shortL fun d => .bool (blkD d))) := by
  have nd := sc_is_block.nd
  obtain ⟨_, g_BLOCK_SIZE, r_BLOCK_SIZE⟩ := T.c_BLOCK_SIZE
  obtain ⟨_, g_MOST_NUMBER, r_MOST_NUMBER⟩ := T.c_MOST_NUMBER
  refine T.F_is_block.ok sc_is_block (fun vs H Q E h => len1 h) (fun cdv A outer s H vs Q E hr h => ⟨_, (pss0 (pss_one (ds_ret (ps_ret (de_call (pe_call (ok_is_numbers T) (hr.mono (by decide)) rfl T.g_is_numbers T.F_is_numbers.kp T.b_is_numbers .nil pass0 (da_cons (pa_cons (de_var (pv 0)) (da_cons (pa_cons (de_int (pe_glob rfl g_BLOCK_SIZE r_BLOCK_SIZE)) (da_cons (pa_cons (de_int (pe_glob rfl g_MOST_NUMBER r_MOST_NUMBER)) (da_nil pa_nil))))))))))))), ?_⟩)
  refine pure1 (m := 0) h (fun _ => rfl) ?_
  intro d hd
  exact ⟨_, rfl, _, _, _, rfl, ⟨hd, 16, 65535, rfl, rfl⟩, rfl⟩

/-- blocks, so many of them -/
def blksN (d l m : PyData) : Bool := match seqD d with
  | some xs => withinD (.int (xs.length : Nat)) (bnd l) (bnd m) && xs.all blkD
  | none => false

theorem ok_are_blocks {P : Program} {w : World} {K : PySem.W.Frag} {mg : Str → Option Value} {base : Heap} {fa : Nat → Addr} {fd : Nat → FuncData} (T : Txt K mg fa fd) : FnOk P w K mg base CX0 5 (fa 10) (fd 10) ["value", "least", "most"] (spPure K (Fn3 (fun d l m => (shortL d ∧ ∀ xs, seqD d = some xs → ∀ x ∈ xs, shortL x) ∧ isB l ∧ isB m) fun d l m => .bool (blksN d l m))) := by
  have nd := sc_are_blocks.nd
  refine T.F_are_blocks.ok sc_are_blocks (fun vs H Q E h => len3 h) (fun cdv A outer s H vs Q E hr h => ⟨_, (pss0 (dss_cons (pss_cons (ds_if (ps_if (PW.pt (dw_or (pw_or (dt_not (pt_not (dt_val (pt_val (de_call (pe_call (ok_is_list T) (hr.mono (by decide)) rfl T.g_is_list T.F_is_list.kp T.b_is_list .nil pass0 (da_cons (pa_cons (de_var (pv 0)) (da_nil pa_nil))))))))) (pw_or1 (dt_not (pt_not (dt_val (pt_val (de_call (pe_call (ok_is_within T) (hr.mono (by decide)) rfl T.g_is_within T.F_is_within.kp T.b_is_within .nil pass0 (da_cons (pa_cons (de_cb fit_len (pe_callB call_lenU (by rfl) T.n_len (by decide +kernel) (da_cons (pa_cons (de_var (pv 0)) (da_nil pa_nil))))) (da_cons (pa_cons (de_var (pv 1)) (da_cons (pa_cons (de_var (pv 2)) (da_nil pa_nil)))))))))))))))))
          (pss_one (ds_ret (ps_ret (de_bl pe_bl))))
          (dss_nil pss_nil)))
        (pss_one (ds_ret (ps_ret (de_cb fit_all (pe_callB (cr_all rfl) (by rfl) T.n_all (by decide +kernel) (da_cons (pa_cons (de_lc fit_name (pe_lc (own := [("part", 3)]) (by rfl) nd (di_U (pi_U (de_var (pv 0)))) (blkOk_by (N := sl_are_blocks) (sc := defScope s_are_blocks) (by decide +kernel)) (fun _ _ _ _ _ => (pg_name (i := 3) nd rfl (Or.inl rfl))) (fun _ _ _ _ _ => (dts_nil pts_nil)) (fun _ _ _ _ _ => (de_call (pe_call (ok_is_block T) (hr.mono (by decide)) rfl T.g_is_block T.F_is_block.kp T.b_is_block .nil pass0 (da_cons (pa_cons (de_var (pv 3)) (da_nil pa_nil)))))))) (da_nil pa_nil))))))))))), ?_⟩)
  refine pure3 (m := 1) h (fun _ _ _ => rfl) ?_
  rintro d l m ⟨⟨hd, hx⟩, bl, bm⟩
  cases q : seqD d with
  | none =>
    refine ⟨_, rfl, _, rfl, trivial, _, rfl, iteT' (by rw [q]; rfl) (iteT' rfl ?_)⟩
    show PyData.bool false = .bool (blksN _ _ _)
    unfold blksN
    rw [q]
  | some xs =>
    refine ⟨_, rfl, _, rfl, trivial, _, rfl, iteF' (by rw [q]; rfl) ?_⟩
    refine q_cb1 (q_len rfl (len_seqD q) ⟨_, rfl, _, rfl, _, _, _, rfl, ⟨bl, bm⟩, _, rfl, ite2 (fun h => ?_) (fun h => ?_)⟩)
    · have h : withinD (.int (xs.length : Nat)) (bnd l) (bnd m) = false := nt_true h
      show PyData.bool false = .bool (blksN _ _ _)
      unfold blksN
      rw [q]
      show PyData.bool false = .bool (withinD (.int (xs.length : Nat)) (bnd l) (bnd m) && xs.all blkD)
      rw [h]
      rfl
    · have h : withinD (.int (xs.length : Nat)) (bnd l) (bnd m) = true := nt_false h
      refine q_allU blkD rfl (items_seqD q) (hd xs q) (fun x hy Ky kb => ⟨_, rfl, _, rfl, hx xs q x hy, kb⟩) ?_
      show PyData.bool _ = .bool (blksN _ _ _)
      unfold blksN
      rw [q]
      show _ = PyData.bool (withinD (.int (xs.length : Nat)) (bnd l) (bnd m) && xs.all blkD)
      rw [h]
      rfl
def PFx : Nat → FD
  | 0 => fun _ _ => False
  | n + 1 => fun ds R => ∃ d, ds = [d] ∧ deepD n d ∧ R (fixedD d)
theorem okd_fixed_s {P : Program} {w : World} {K : PySem.W.Frag} {mg : Str → Option Value} {base : Heap} {fa : Nat → Addr} {fd : Nat → FuncData} (T : Txt K mg fa fd) (n : Nat) (ih : FnOk P w K mg base CX0 n (fa 17) (fd 17) ["value"] (spPure K (PFx n))) : FnOk P w K mg base CX0 (n + 1) (fa 17) (fd 17) ["value"] (spPure K (PFx (n + 1))) := by
  have nd := sc_fixed.nd
  refine T.F_fixed.ok sc_fixed (fun vs H Q E h => lenG h fun ds R p => by obtain ⟨d, rfl, hp, r⟩ := p; rfl) (fun cdv A outer s H vs Q E hr h => ⟨_, (pss0 (dss_cons (pss_cons (ds_if (ps_if (dt_val (pt_val (de_isi_seq (pe_callB call_isiTY (by rfl) T.n_isinstance (by decide +kernel) (pa_cons (de_var (pv 0)) (pa_cons (pe_tupN (pa_cons (pe_bltn (v := .ty "list") (u := .type "list") (by rfl) T.n_list (by decide +kernel) rfl) (pa_cons (pe_bltn (v := .ty "tuple") (u := .type "tuple") (by rfl) T.n_tuple (by decide +kernel) rfl) pa_nil))) pa_nil))))))
          (pss_one (ds_ret (ps_ret (de_cb fit_tuple (pe_callTy call_tuple_ofN (by rfl) T.n_tuple (by decide +kernel) (da_cons (pa_cons (de_lc fit_name (pe_lc (own := [("part", 1)]) (by rfl) nd (di_U (pi_U (de_var (pv 0)))) (blkOk_by (N := sl_fixed) (sc := defScope s_fixed) (by decide +kernel)) (fun _ _ _ _ _ => (pg_name (i := 1) nd rfl (Or.inl rfl))) (fun _ _ _ _ _ => (dts_nil pts_nil)) (fun _ _ _ _ _ => (de_call (pe_call ih hr rfl T.g_fixed T.F_fixed.kp T.b_fixed .nil pass0 (da_cons (pa_cons (de_var (pv 1)) (da_nil pa_nil)))))))) (da_nil pa_nil))))))))
          (dss_nil pss_nil)))
        (pss_one (ds_ret (ps_ret (de_var (pv 0)))))))), ?_⟩)
  refine pureG h ?_
  rintro ds R ⟨d, rfl, hp, r⟩
  refine ⟨_, rfl, _, rfl, ite2 (fun h => ?_) (fun h => ?_)⟩ <;> have h := h
  · obtain ⟨ds, hds⟩ := Option.isSome_iff_exists.mp (show (seqD d).isSome = true from h)
    obtain ⟨m, rfl, hl, hd⟩ := deep_seq hds hp
    rw [fixed_seq hds] at r
    refine ⟨_, rfl, ds, items_seqD hds, ?_⟩
    refine lc_map (ds := ds) fixedD hl ?_ ?_
    · intro x hx Ky ky
      exact ⟨_, rfl, x, rfl, hd x hx, ky⟩
    · exact r
  · have hn : seqD d = none := by
      cases e : seqD d with
      | none => rfl
      | some ds => exact absurd (show (seqD d).isSome = true by rw [e]; rfl) h
    rw [(fixed_atom hn hp).1] at r
    exact ⟨_, rfl, r⟩
theorem okd_fixed {P : Program} {w : World} {K : PySem.W.Frag} {mg : Str → Option Value} {base : Heap} {fa : Nat → Addr} {fd : Nat → FuncData} (T : Txt K mg fa fd) : ∀ n, FnOk P w K mg base CX0 n (fa 17) (fd 17) ["value"] (spPure K (PFx n))
  | 0 => ⟨fun _ _ _ _ h => by obtain ⟨M, ds, R, al, w, p, k⟩ := h; exact p.elim, fun _ _ _ _ _ _ _ _ _ _ _ _ _ h => by obtain ⟨M, ds, R, al, w, p, k⟩ := h; exact p.elim⟩
  | n + 1 => okd_fixed_s T n (okd_fixed T n)
theorem okd_fixed3 {P : Program} {w : World} {K : PySem.W.Frag} {mg : Str → Option Value} {base : Heap} {fa : Nat → Addr} {fd : Nat → FuncData} (T : Txt K mg fa fd) : FnOk P w K mg base CX0 3 (fa 17) (fd 17) ["value"] (spPure K (PFx 3)) := okd_fixed T 3
end K04
set_option maxHeartbeats 4000000
namespace K04
open PySem L2 MT RZ StX

local macro_rules | `(tactic| walk_at "sm") => `(tactic| first | exact Same.refl _ | assumption | exact New.same (by assumption) | exact Same.trans (by assumption) (by walk_at "sm") | exact Same.trans (New.same (by assumption)) (by walk_at "sm"))
local macro_rules | `(tactic| walk_at "fr") => `(tactic| first | exact Frm.refl | assumption | exact frm_same (New.same (by assumption)) | exact frm_same (by assumption) | exact Frm.trans (by assumption) (by walk_at "fr") | exact Frm.trans (frm_same (New.same (by assumption))) (by walk_at "fr") | exact Frm.trans (frm_same (by assumption)) (by walk_at "fr"))
local macro_rules | `(tactic| walk_at "dv") => `(tactic| first | exact Dv.int _ | exact Dv.bl _ | exact Dv.non | exact Dv.str _ | assumption | exact Dv.same (by assumption) (by walk_at "sm") | exact Dv.mono (by assumption) (by walk_at "fr"))
local macro_rules | `(tactic| walk_at "dvs") => `(tactic| first | exact DvAll.nil | exact DvAll.ints _ | (refine DvAll.cons ?_ ?_; walk_at "dv"; walk_at "dvs"))

/-! ### disks -/
def zerosB : PyData := .tuple (List.replicate 16 (.int 0))
def diskF (m : Nat) (image : List PyData) (held : List PyData) : List (PyData × PyData) := [(.str "many", .int (m : Nat)), (.str "image", .tuple image), (.str "held", .tuple held)]
def PDisk (CN : Addr) : FI := fun ds R Rx => ∃ d, ds = [d] ∧ (withinD d (some 8) (some 512) = false → Rx CN [("part", .str "many")]) ∧ ∀ m : Nat, d = .int (m : Nat) → 8 ≤ m → m ≤ 512 → R (diskF m (List.replicate m zerosB) [])


theorem flat1 {a : PyData} : ∀ n : Nat, (List.replicate n [a]).flatten = List.replicate n a
  | 0 => rfl
  | n + 1 => by rw [List.replicate_succ, List.flatten_cons, flat1 n]; rfl
theorem put_len (f : Str) (d : PyData) : ∀ ks : List (PyData × PyData), (putD f d ks).length ≤ ks.length + 1
  | [] => Nat.le_refl _
  | (.str g, x) :: r => by
    show (if g = f then (PyData.str g, d) :: r else (PyData.str g, x) :: putD f d r).length ≤ _
    split
    · simp
    · simpa using put_len f d r
  | (.none, x) :: r => by simpa [putD] using put_len f d r
  | (.bool _, x) :: r => by simpa [putD] using put_len f d r
  | (.int _, x) :: r => by simpa [putD] using put_len f d r
  | (.list _, x) :: r => by simpa [putD] using put_len f d r
  | (.tuple _, x) :: r => by simpa [putD] using put_len f d r
  | (.dict _, x) :: r => by simpa [putD] using put_len f d r
theorem many_of {d : PyData} (h : withinD d (some 8) (some 512) = true) : ∃ m : Nat, d = .int (m : Nat) ∧ 8 ≤ m ∧ m ≤ 512 := by
  cases d with
  | int i =>
    have h : (decide ((8 : Int) ≤ i) && decide (i ≤ 512)) = true := h
    rw [Bool.and_eq_true] at h
    have h0 := of_decide_eq_true h.1
    have h1 := of_decide_eq_true h.2
    exact ⟨i.toNat, by rw [Int.toNat_of_nonneg (by omega)], by omega, by omega⟩
  | _ => cases h

theorem ok_Disk_init {P : Program} {w : World} {K : PySem.W.Frag} {mg : Str → Option Value} {base : Heap} {fa : Nat → Addr} {fd : Nat → FuncData} (T : Txt K mg fa fd) : FnOk P w K mg base (L2.CX P w) 6 (fa 200) (fd 200) ["self", "many"] (spI K (fa 23) (PDisk (fa 13))) := by
  have nd := sc_Disk_init.nd
  obtain ⟨_, g_BLOCK_SIZE, r_BLOCK_SIZE⟩ := T.c_BLOCK_SIZE
  obtain ⟨_, g_LEAST_BLOCKS, r_LEAST_BLOCKS⟩ := T.c_LEAST_BLOCKS
  obtain ⟨_, g_MOST_BLOCKS, r_MOST_BLOCKS⟩ := T.c_MOST_BLOCKS
  refine T.F_Disk_init.okX sc_Disk_init (fun vs H Q E h => ilenG h fun ds R Rx p => by obtain ⟨d, rfl, e1, hok⟩ := p; rfl) (fun cdv A outer s H vs Q E hr h => ⟨_, (dis_cons (pss_cons (di_if (ps_if (dt_not (pt_not (dt_val (pt_val (de_call (pe_call (ok_is_within T) (hr.mono (by decide)) rfl T.g_is_within T.F_is_within.kp T.b_is_within .nil pass0 (da_cons (pa_cons (de_var (pv 1)) (da_cons (pa_cons (de_int (pe_glob rfl g_LEAST_BLOCKS r_LEAST_BLOCKS)) (da_cons (pa_cons (de_int (pe_glob rfl g_MOST_BLOCKS r_MOST_BLOCKS)) (da_nil pa_nil)))))))))))))
          (pss_one (di_raise (ps_raise rfl (takes_of rfl rfl rfl rfl) (pmk_err T.E_BadNumber (ok_BadNumber T) (hr.mono (by decide)) T.b_BadNumber pass0 rfl (da_cons (pa_cons (de_str pe_str) (da_nil pa_nil)))))))
          (dis_nil pss_nil)))
        (dis_cons (pss_cons (di_fld T.NA_many (ps_fld (pv 0) (de_var (pv 1)) rfl))
        (dis_cons (pss_cons (di_fld T.NA_image (ps_fld (pv 0) (de_op fit_mul (pe_op op_mulU (de_tup (pe_tupN (da_cons (pa_cons (de_op fit_mul (pe_op op_mulU (de_tup (pe_tupN (da_cons (pa_cons (de_int pe_int) (da_nil pa_nil))))) (de_int (pe_glob rfl g_BLOCK_SIZE r_BLOCK_SIZE)))) (da_nil pa_nil))))) (de_var (pv 1)))) rfl))
        (pss_one (di_fld T.NA_held (ps_fld (pv 0) (de_tup (pe_tupN (da_nil pa_nil))) rfl))))))))), ?_⟩)
  refine initG h ?_
  rintro ds R Rx ⟨d, rfl, e1, hok⟩
  refine ⟨_, rfl, _, _, _, rfl, ⟨.inr ⟨8, rfl⟩, .inr ⟨_, rfl⟩⟩, _, rfl, ite2 (fun h => ⟨_, rfl, e1 (nt_true h)⟩) (fun h => ?_)⟩
  obtain ⟨m, rfl, m1, m2⟩ := many_of (nt_false h)
  refine ⟨rfl, by simp, _, rfl, rfl, Nat.lt_of_le_of_lt (put_len _ _ _) (by simp), by simp, ⟨by simp, by decide, by decide, by simp⟩, by simp, _, rfl, ⟨by simp, by omega, by omega, by simp⟩, rfl, Nat.lt_of_le_of_lt (put_len _ _ _) (Nat.lt_of_le_of_lt (Nat.succ_le_succ (put_len _ _ _)) (by simp)), by simp, ?_⟩
  have q := hok m rfl m1 m2
  have e : (List.replicate ((m : Nat) : Int).toNat [PyData.tuple (List.replicate (16 : Int).toNat [PyData.int 0]).flatten]).flatten = List.replicate m zerosB := by
    rw [flat1, flat1]
    rfl
  rw [e]
  exact q

def PEqD (C : Addr) : FD := fun ds R => ∃ m image held e, ds = [objD C (diskF m image held), e] ∧ tame (.tuple image) = true ∧ tame (.tuple held) = true ∧
  ((∃ m' im' he', e = objD C (diskF m' im' he') ∧ tame (.tuple im') = true ∧ tame (.tuple he') = true ∧ R (.bool (PyData.eqv (.tuple image) (.tuple im') && PyData.eqv (.tuple held) (.tuple he')))) ∨ ((∃ xs, e = .tuple xs) ∧ R (.bool false)))
def PBlk (CN C : Addr) : FE := fun ds R Rx => ∃ m image at', ds = [objD C (diskF m image []), at'] ∧ 1 ≤ m ∧ image.length = m ∧ (withinD at' (some 0) (some ((m : Nat) - 1 : Int)) = false → Rx CN [("part", .str "at")]) ∧ ∀ k b, at' = .int (k : Nat) → image[k]? = some b → R b
def shD (d : PyData) : Prop := shortL d ∧ ∀ xs, seqD d = some xs → ∀ x ∈ xs, shortL x
def POf (CB C : Addr) : FE := fun ds R Rx => ∃ d, ds = [d] ∧ shD d ∧ (blksN d (.int 8) (.int 512) = false → Rx CB [("part", .str "image")]) ∧ ∀ xs, seqD d = some xs → blksN d (.int 8) (.int 512) = true → R (objD C (diskF xs.length (xs.map fixedD) []))

theorem ok_Disk_eq {P : Program} {w : World} {K : PySem.W.Frag} {mg : Str → Option Value} {base : Heap} {fa : Nat → Addr} {fd : Nat → FuncData} (T : Txt K mg fa fd) : FnOk P w K mg base CX0 4 (fa 202) (fd 202) ["self", "other"] (spPure K (PEqD (fa 23))) := by
  have nd := sc_Disk_eq.nd
  refine T.F_Disk_eq.ok sc_Disk_eq (fun vs H Q E h => lenG h fun ds R p => by obtain ⟨m, image, held, e, rfl, t1, t2, c⟩ := p; rfl) (fun cdv A outer s H vs Q E hr h => ⟨_, (pss0 (pss_one (ds_ret (ps_ret (de_and (pe_and (de_isO (pe_callB call_isiY (by rfl) T.n_isinstance (by decide +kernel) (pa_cons (de_var (pv 1)) (pa_cons (pe_glob (v := .ref _) rfl T.G_Disk rfl) pa_nil)))) (de_and (pe_and (de_op fit_eq (pe_cmpR (op_eqD hr.units) (de_fd (pe_fld (de_var (pv 0)) rfl)) (de_fd (pe_fld (de_var (pv 1)) rfl)) (nomark _))) (pe_one (de_op fit_eq (pe_cmpR (op_eqD hr.units) (de_fd (pe_fld (de_var (pv 0)) rfl)) (de_fd (pe_fld (de_var (pv 1)) rfl)) (nomark _)))))))))))), ?_⟩)
  refine pureG h ?_
  rintro ds R ⟨m, image, held, e, rfl, t1, t2, c⟩
  rcases c with ⟨m', im, he, rfl, t3, t4, r⟩ | ⟨⟨xs, rfl⟩, r⟩
  · refine ⟨_, rfl, true, .inl ⟨_, _, rfl, kit_self⟩, _, rfl, iteT' rfl ?_⟩
    refine ⟨_, rfl, _, _, _, rfl, T.NA_image, rfl, _, rfl, _, _, _, rfl, T.NA_image, rfl, t1, t3, _, rfl, ite2 (fun h => ?_) (fun h => ?_)⟩
    · refine ⟨_, rfl, _, _, _, rfl, T.NA_held, rfl, _, rfl, _, _, _, rfl, T.NA_held, rfl, t2, t4, ?_⟩
      rw [h] at r
      exact r
    · rw [bfalse h] at r
      exact r
  · exact ⟨_, rfl, false, .inr ⟨(fun ks z => by cases z), T.KT_Disk⟩, _, rfl, iteF' rfl r⟩

theorem at_of {d : PyData} {m : Nat} (m1 : 1 ≤ m) (h : withinD d (some 0) (some ((m : Nat) - 1 : Int)) = true) : ∃ k : Nat, d = .int (k : Nat) ∧ k < m := by
  cases d with
  | int i =>
    have h : (decide ((0 : Int) ≤ i) && decide (i ≤ (m : Nat) - 1)) = true := h
    rw [Bool.and_eq_true] at h
    have h0 := of_decide_eq_true h.1
    have h1 := of_decide_eq_true h.2
    exact ⟨i.toNat, by rw [Int.toNat_of_nonneg (by omega)], by omega⟩
  | _ => cases h

theorem ok_Disk_block_at {P : Program} {w : World} {K : PySem.W.Frag} {mg : Str → Option Value} {base : Heap} {fa : Nat → Addr} {fd : Nat → FuncData} (T : Txt K mg fa fd) : FnOk P w K mg base (L2.CX P w) 4 (fa 203) (fd 203) ["self", "at"] (spE K (PBlk (fa 13) (fa 23))) := by
  have nd := sc_Disk_block_at.nd
  refine T.F_Disk_block_at.okX sc_Disk_block_at (fun vs H Q E h => xlenG h fun ds R Rx p => by obtain ⟨m, image, a, rfl, m1, ln, e1, hok⟩ := p; rfl) (fun cdv A outer s H vs Q E hr h => ⟨_, (dxs_cons (pss_cons (dx_if (ps_if (dt_not (pt_not (dt_val (pt_val (de_call (pe_call (ok_is_within T) (hr.mono (by decide)) rfl T.g_is_within T.F_is_within.kp T.b_is_within .nil pass0 (da_cons (pa_cons (de_var (pv 1)) (da_cons (pa_cons (de_int pe_int) (da_cons (pa_cons (de_op fit_sub (pe_op op_sub (de_fd (pe_fld (de_var (pv 0)) rfl)) (de_int pe_int))) (da_nil pa_nil)))))))))))))
          (pss_one (dx_raise (ps_raise rfl (takes_of rfl rfl rfl rfl) (pmk_err T.E_BadNumber (ok_BadNumber T) (hr.mono (by decide)) T.b_BadNumber pass0 rfl (da_cons (pa_cons (de_str pe_str) (da_nil pa_nil)))))))
          (dxs_of (dss_nil pss_nil))))
        (dxs_of (PSs.nox (dss_cons (pss_cons (ds_for fit_pair (ps_for PassesOwn.never rfl (di_rev (RT.pi_revA rfl T.n_reversed (de_fd (pe_fld (de_var (pv 0)) rfl)))) (pg_tup (by rfl) (pgs_cons (pg_name (i := 2) nd rfl (Or.inl rfl)) (pgs_cons (pg_name (i := 3) nd rfl (Or.inl rfl)) pgs_nil)))
          (pss_one (ds_if (ps_if (dt_cmp fit_eq (pt_cmpR (op_eqD hr.units) (de_var (pv 2)) (de_var (pv 1)) (nomark _)))
          (pss_one (ds_ret (ps_ret (de_var (pv 3)))))
          (dss_nil pss_nil))))))
        (pss_one (ds_ret (ps_ret (de_ix (pe_ix ix_U (de_fd (pe_fld (de_var (pv 0)) rfl)) (de_var (pv 1)) (fun _ _ => rfl)))))))))))), ?_⟩)
  refine exG h ?_
  rintro ds R Rx ⟨m, image, a, rfl, m1, ln, e1, hok⟩
  refine ⟨_, rfl, _, rfl, _, _, _, rfl, T.NA_many, rfl, _, _, _, rfl, ⟨.inr ⟨0, rfl⟩, .inr ⟨_, rfl⟩⟩, _, rfl, ite2 (fun h => ⟨_, rfl, e1 (nt_true h)⟩) (fun h => ?_)⟩
  obtain ⟨k, rfl, hk⟩ := at_of m1 (nt_false h)
  refine ⟨_, rfl, _, _, _, rfl, T.NA_held, rfl, [], rfl, fun _ ρ' n => ρ' = [.d (objD (fa 23) (diskF m image [])), .d (.int (k : Nat)), .no, .no] ∧ n = 0, ⟨rfl, rfl⟩, (fun i x ρ' n hx => by simp at hx), ?_⟩
  rintro ρ' n ⟨rfl, rfl⟩
  have hk2 : k < image.length := by omega
  have g : image[k]? = some image[k] := List.getElem?_eq_getElem hk2
  exact ⟨_, rfl, _, _, _, rfl, T.NA_image, rfl, _, rfl, (k : Int), rfl, _, atI_nat g, hok k _ rfl g⟩

theorem q_ulen {i n k : Nat} {ρ : List DS} {R : List PyData → Nat → Prop} {d : PyData} (hv : ρ[i]? = some (DS.d d)) (hl : lenOf d = some k) (r : R [.int (k : Nat)] n) : qCons (qCB fLen (qCons (qVar i) qNil)) qNil ρ n R := by
  unfold qCons qCB qVar qNil
  exact ⟨d, hv, f_len hl r⟩
theorem q_mkset {C : Addr} {P : FI} {u : TDA} {i : Nat} {f : Str} {t : TD} {ρ : List DS} {n : Nat} {Rn : List DS → Nat → Prop} {Rr : QD} (h : u ρ n fun ds n1 => P ds (fun ks => ks.length < 900 ∧ i < ρ.length ∧ t (ρ.set i .no) n1 fun d n2 => Rr (objD C (putD f d ks)) n2) fun _ _ => False) : qMkSet C P u i f t ρ n Rn Rr := h
theorem deep_short {n : Nat} {d : PyData} (h : deepD n d) : shortL d := fun xs e => by
  obtain ⟨m, rfl, h1, _⟩ := deep_seq e h
  exact h1
theorem deep_in {b : PyData} (h : deepD 2 b) : ∀ xs, seqD b = some xs → ∀ x ∈ xs, shortL x := fun xs e x m => by
  obtain ⟨n, en, _, h2⟩ := deep_seq e h
  exact deep_short (h2 x m)
theorem blksN_of {d : PyData} {xs : List PyData} (e : seqD d = some xs) (h : blksN d (.int 8) (.int 512) = true) : 8 ≤ xs.length ∧ xs.length ≤ 512 ∧ xs.all blkD = true := by
  unfold blksN at h
  rw [e] at h
  have h : (withinD (.int (xs.length : Nat)) (some 8) (some 512) && xs.all blkD) = true := h
  rw [Bool.and_eq_true] at h
  obtain ⟨m, em, h1, h2⟩ := many_of h.1
  injection em with em
  exact ⟨by omega, by omega, h.2⟩
theorem blksN_seq {d : PyData} (h : blksN d (.int 8) (.int 512) = true) : ∃ xs, seqD d = some xs := by
  cases q : seqD d with
  | none => unfold blksN at h; rw [q] at h; cases h
  | some xs => exact ⟨xs, rfl⟩


theorem within_int {x : PyData} {lo hi : Option Int} (h : withinD x lo hi = true) : ∃ i, x = .int i := by
  cases x with
  | int i => exact ⟨i, rfl⟩
  | _ => cases h
theorem blk_seq {x : PyData} (h : blkD x = true) : ∃ ys, seqD x = some ys ∧ ys.length = 16 ∧ ∀ y ∈ ys, withinD y (some 0) (some 65535) = true := by
  unfold blkD numbersD at h
  cases q : seqD x with
  | none => rw [q] at h; cases h
  | some ys =>
    rw [q] at h
    have h : (decide ((ys.length : Int) = 16) && ys.all fun x => withinD x (some 0) (some 65535)) = true := h
    rw [Bool.and_eq_true] at h
    have l := of_decide_eq_true h.1
    exact ⟨ys, rfl, by omega, List.all_eq_true.mp h.2⟩
theorem deep_of {n : Nat} {d : PyData} {xs : List PyData} (q : seqD d = some xs) (l : xs.length ≤ 10000000) (h : ∀ x ∈ xs, deepD n x) : deepD (n + 1) d := by
  cases d with
  | list ys => cases q; exact ⟨l, h⟩
  | tuple ys => cases q; exact ⟨l, h⟩
  | _ => cases q
theorem deep_blks {d : PyData} {xs : List PyData} (q : seqD d = some xs) (l : xs.length ≤ 1000) (h : xs.all blkD = true) : deepD 2 d := deep_of q (by omega) fun x m => by
  obtain ⟨ys, e, l2, h2⟩ := blk_seq (List.all_eq_true.mp h x m)
  exact deep_of e (by omega) fun y my => by
    obtain ⟨i, rfl⟩ := within_int (h2 y my)
    exact trivial

theorem ok_Disk_of {P : Program} {w : World} {K : PySem.W.Frag} {mg : Str → Option Value} {base : Heap} {fa : Nat → Addr} {fd : Nat → FuncData} (T : Txt K mg fa fd) : FnOk P w K mg base (L2.CX P w) 8 (fa 201) (fd 201) ["image"] (spE K (POf (fa 14) (fa 23))) := by
  have nd := sc_Disk_of.nd
  obtain ⟨_, g_LEAST_BLOCKS, r_LEAST_BLOCKS⟩ := T.c_LEAST_BLOCKS
  obtain ⟨_, g_MOST_BLOCKS, r_MOST_BLOCKS⟩ := T.c_MOST_BLOCKS
  refine T.F_Disk_of.okX sc_Disk_of (fun vs H Q E h => xlenG h fun ds R Rx p => by obtain ⟨d, rfl, hd, e1, hok⟩ := p; rfl) (fun cdv A outer s H vs Q E hr h => ⟨_, (dxs_cons (pss_cons (dx_if (ps_if (dt_not (pt_not (dt_val (pt_val (de_call (pe_call (ok_are_blocks T) (hr.mono (by decide)) rfl T.g_are_blocks T.F_are_blocks.kp T.b_are_blocks .nil pass0 (da_cons (pa_cons (de_var (pv 0)) (da_cons (pa_cons (de_int (pe_glob rfl g_LEAST_BLOCKS r_LEAST_BLOCKS)) (da_cons (pa_cons (de_int (pe_glob rfl g_MOST_BLOCKS r_MOST_BLOCKS)) (da_nil pa_nil)))))))))))))
          (pss_one (dx_raise (ps_raise rfl (takes_of rfl rfl rfl rfl) (pmk_err T.E_BadBlock (ok_BadBlock T) (hr.mono (by decide)) T.b_BadBlock pass0 rfl (da_cons (pa_cons (de_str pe_str) (da_nil pa_nil)))))))
          (dxs_of (dss_nil pss_nil))))
        (dxs_of (PSs.nox (ds_mkset T.O_Disk T.NA_image (pss_cons (ps_set (i := 1) nd rfl (Or.inl rfl) (pe_make T.MK_Disk (ok_Disk_init T) (hr.mono (by decide)) rfl T.G_Disk T.b_Disk_init .nil passL (da_cons (pa_cons (de_cb fit_len (pe_callB call_lenU (by rfl) T.n_len (by decide +kernel) (da_cons (pa_cons (de_var (pv 0)) (da_nil pa_nil))))) (da_nil pa_nil))))) (pss_cons (ps_fld (pv 1) (de_call (pe_call (okd_fixed3 T) (hr.mono (by decide)) rfl T.g_fixed T.F_fixed.kp T.b_fixed .nil pass0 (da_cons (pa_cons (de_var (pv 0)) (da_nil pa_nil))))) rfl) (pss_one (ps_ret (pv 1)))))))))), ?_⟩)
  refine exG h ?_
  rintro ds R Rx ⟨d, rfl, hd, e1, hok⟩
  refine ⟨_, rfl, _, _, _, rfl, ⟨hd, .inr ⟨8, rfl⟩, .inr ⟨_, rfl⟩⟩, _, rfl, ite2 (fun h => ⟨_, rfl, e1 (nt_true h)⟩) (fun h => ?_)⟩
  have hb : blksN d (.int 8) (.int 512) = true := nt_false h
  obtain ⟨xs, hx⟩ := blksN_seq hb
  obtain ⟨l1, l2, ha⟩ := blksN_of hx hb
  have hn : withinD (.int (xs.length : Nat)) (some 8) (some 512) = true := by
    show (decide ((8 : Int) ≤ (xs.length : Nat)) && decide (((xs.length : Nat) : Int) ≤ 512)) = true
    rw [decide_eq_true (by omega), decide_eq_true (by omega)]
    rfl
  show qMkSet (fa 23) (PDisk (fa 13)) (qCons (qCB fLen (qCons (qVar 0) qNil)) qNil) 1 "image" (qCB (PFx 3) (qCons (qVar 0) qNil)) [.d d, .no] 0 (fun _ _ => False) (fun d _ => R d)
  refine q_mkset ?_
  refine q_ulen rfl (len_seqD hx) ?_
  refine ⟨_, rfl, (fun q => absurd (hn.symm.trans q) (by simp)), fun m em m1 m2 => ⟨by simp [diskF], by simp, _, rfl, _, rfl, deep_blks hx (by omega) ha, ?_⟩⟩
  have em : m = xs.length := by
    injection em with em
    omega
  subst em
  rw [fixed_seq hx]
  exact hok xs hx hb
end K04
set_option maxHeartbeats 4000000
namespace K04
open PySem L2 MT RZ StX

local macro_rules | `(tactic| walk_at "sm") => `(tactic| first | exact Same.refl _ | assumption | exact New.same (by assumption) | exact Same.trans (by assumption) (by walk_at "sm") | exact Same.trans (New.same (by assumption)) (by walk_at "sm"))
local macro_rules | `(tactic| walk_at "fr") => `(tactic| first | exact Frm.refl | assumption | exact frm_same (New.same (by assumption)) | exact frm_same (by assumption) | exact Frm.trans (by assumption) (by walk_at "fr") | exact Frm.trans (frm_same (New.same (by assumption))) (by walk_at "fr") | exact Frm.trans (frm_same (by assumption)) (by walk_at "fr"))
local macro_rules | `(tactic| walk_at "dv") => `(tactic| first | exact Dv.int _ | exact Dv.bl _ | exact Dv.non | exact Dv.str _ | assumption | exact Dv.same (by assumption) (by walk_at "sm") | exact Dv.mono (by assumption) (by walk_at "fr"))
local macro_rules | `(tactic| walk_at "dvs") => `(tactic| first | exact DvAll.nil | exact DvAll.ints _ | (refine DvAll.cons ?_ ?_; walk_at "dv"; walk_at "dvs"))
theorem ok__law_one {P : Program} {w : World} {K : PySem.W.Frag} {mg : Str → Option Value} {base : Heap} {fa : Nat → Addr} {fd : Nat → FuncData} (T : Txt K mg fa fd) : FnOk P w K mg base CX0 2 (fa 27) (fd 27) ["crib", "some"] (spDr K 1 (Dr1 okSome oneOf)) := by
  have nd := sc__law_one.nd
  refine T.F__law_one.ok sc__law_one (fun vs H Q E h => dlen1 h) (fun cdv A outer s H vs Q E hr h => ⟨_, (pss0 (pss_one (ds_ret (ps_ret (de_ix (pe_ix ix_U (de_var (pv 1)) (de_draw (pe_call (okd__law_pluck T) (hr.mono (by decide)) rfl T.g__law_pluck T.F__law_pluck.kp T.b__law_pluck .nil pass0 (pa_cons (pv 0) (da_cons (pa_cons (de_cb fit_len (pe_callB call_lenU (by rfl) T.n_len (by decide +kernel) (da_cons (pa_cons (de_var (pv 1)) (da_nil pa_nil))))) (da_nil pa_nil)))))) (fun _ _ => rfl))))))), ?_⟩)
  refine draw1 (m := 0) h (fun _ _ => rfl) ?_
  rintro n d hn ⟨xs, rfl, hne, hl⟩
  have l0 : 0 < xs.length := List.length_pos_iff.mpr hne
  refine ⟨_, rfl, rfl, _, rfl, hn, _, rfl, ⟨(xs.length : Int), rfl, by omega, by omega⟩, fun y hy => ?_⟩
  obtain ⟨m, i, em, rfl, h0, h1⟩ := hy
  cases em
  obtain ⟨x, hx, hm⟩ := atI_mem h0 h1
  exact ⟨i, rfl, x, hx, Nat.le_refl _, xs, rfl, hm⟩

def okBk (b : List Int) : Prop := b.length = 16 ∧ ∀ x ∈ b, 0 ≤ x ∧ x ≤ 65535
def isBk (y : PyData) : Prop := ∃ b : List Int, y = .list (b.map PyData.int) ∧ okBk b


theorem okM {m : Int} (h : 0 < m) (h2 : m < 2 ^ 62) : okM1 (.int m) := ⟨m, rfl, h, h2⟩
theorem okBk_set {b : List Int} {w : Int} (k : Nat) (h : okBk b) (h0 : 0 ≤ w) (h1 : w ≤ 65535) : okBk (b.set k w) := ⟨by rw [List.length_set]; exact h.1, fun x m => (List.mem_or_eq_of_mem_set m).elim (h.2 x) fun e => e ▸ ⟨h0, h1⟩⟩
theorem drew {d y : PyData} {m : Int} (h : below d y) (e : d = .int m) : ∃ i : Nat, y = .int (i : Nat) ∧ (i : Int) < m := by
  obtain ⟨m', i, e1, rfl, h0, h1⟩ := h
  subst e
  cases e1
  exact ⟨i.toNat, by rw [Int.toNat_of_nonneg h0], by omega⟩

theorem ok__law_block {P : Program} {w : World} {K : PySem.W.Frag} {mg : Str → Option Value} {base : Heap} {fa : Nat → Addr} {fd : Nat → FuncData} (T : Txt K mg fa fd) : FnOk P w K mg base CX0 3 (fa 28) (fd 28) ["crib"] (spDrF K 10 (Dr0 isBk)) := by
  have nd := sc__law_block.nd
  refine T.F__law_block.ok sc__law_block (fun vs H Q E h => flenG h fun ds R p => by obtain ⟨rfl, r⟩ := p; rfl) (fun cdv A outer s H vs Q E hr h => ⟨_, (psq0 (osq_cons (pss_cons (os_setR (ps_set (i := 1) nd rfl (Or.inl rfl) (dr_f (df_mul (pe_op op_repN (de_lst (pe_lstN (da_cons (pa_cons (de_int pe_int) (da_nil pa_nil))))) (de_int pe_int))))))
        (osq_cons (pss_cons (os_for fit_name (ps_for PassesOwn.never rfl (di_1 (pi_range1 rfl T.n_range (da_cons (pa_cons (de_draw (pe_call (okd__law_pluck T) (hr.mono (by decide)) rfl T.g__law_pluck T.F__law_pluck.kp T.b__law_pluck .nil pass0 (pa_cons (pv 0) (da_cons (pa_cons (de_int pe_int) (da_nil pa_nil)))))) (da_nil pa_nil))))) (pg_name (i := 2) nd rfl (Or.inl rfl))
          (pss_one (os_sto1 (ps_asg (de_draw (pe_call (ok__law_one T) (hr.mono (by decide)) rfl T.g__law_one T.F__law_one.kp T.b__law_one .nil pass0 (pa_cons (pv 0) (da_cons (pa_cons (de_lst (pe_lstN (da_cons (pa_cons (de_int pe_int) (da_cons (pa_cons (de_int pe_int) (da_cons (pa_cons (de_draw (pe_call (okd__law_pluck T) (hr.mono (by decide)) rfl T.g__law_pluck T.F__law_pluck.kp T.b__law_pluck .nil pass0 (pa_cons (pv 0) (da_cons (pa_cons (de_int pe_int) (da_nil pa_nil)))))) (da_cons (pa_cons (de_int pe_int) (da_nil pa_nil))))))))))) (da_nil pa_nil)))))) (pg_sub (pv 1) (de_draw (pe_call (okd__law_pluck T) (hr.mono (by decide)) rfl T.g__law_pluck T.F__law_pluck.kp T.b__law_pluck .nil pass0 (pa_cons (pv 0) (da_cons (pa_cons (de_int pe_int) (da_nil pa_nil)))))) set_list))))))
        (pss_one (osq_ret (ps_ret (pv 1))))))))), ?_⟩)
  refine drawFG h ?_
  rintro n ds R hn ⟨rfl, r⟩
  refine ⟨rfl, by simp, _, _, rfl, rfl, by decide, by decide, by simp, ?_⟩
  refine ⟨rfl, by omega, _, rfl, okM (m := 4) (by decide) (by decide), fun y hy => ?_⟩
  obtain ⟨j, rfl, j1⟩ := drew hy rfl
  refine ⟨(j : Nat), rfl, by omega, by omega, fun i h ρ' m => m ≤ n + 1 + 3 * i ∧ ∃ (b : List Int) (z : DS), h = [.f (b.map PyData.int)] ∧ okBk b ∧ ρ' = [.dr, .ow 0, z], ⟨by omega, List.replicate 16 0, _, rfl, ⟨by decide, by decide⟩, rfl⟩, ?_, ?_⟩
  · rintro i x h ρ' m hx ⟨hm, b, z, rfl, hb, rfl⟩
    obtain ⟨hi, rfl⟩ := rng_at hx
    have i3 : i < 3 := by omega
    refine ⟨0, _, ⟨rfl, rfl⟩, rfl, rfl, by omega, _, rfl, okM (m := 65536) (by decide) (by decide), fun y1 hy1 => ?_⟩
    obtain ⟨v, rfl, v1⟩ := drew hy1 rfl
    refine ⟨by simp, by omega, _, rfl, some_ok (by simp) (by simp), fun y2 hy2 => ?_⟩
    obtain ⟨w, rfl, w0, w1⟩ : ∃ w : Int, y2 = .int w ∧ 0 ≤ w ∧ w ≤ 65535 := one_p (p := fun y => ∃ w : Int, y = .int w ∧ 0 ≤ w ∧ w ≤ 65535) hy2 fun z mz => by
      simp only [List.mem_cons, List.not_mem_nil, or_false] at mz
      rcases mz with rfl | rfl | rfl | rfl
      · exact ⟨1, rfl, by decide, by decide⟩
      · exact ⟨65535, rfl, by decide, by decide⟩
      · exact ⟨v, rfl, by omega, by omega⟩
      · exact ⟨0, rfl, by decide, by decide⟩
    refine ⟨rfl, rfl, by omega, _, rfl, okM (m := 16) (by decide) (by decide), fun y3 hy3 => ?_⟩
    obtain ⟨k, rfl, k1⟩ := drew hy3 rfl
    refine ⟨k, rfl, by rw [List.length_map, hb.1]; omega, by omega, b.set k w, _, ?_, okBk_set k hb w0 w1, rfl⟩
    show [HD.f ((b.map PyData.int).set k (.int w))] = _
    rw [List.map_set]
  · rintro h ρ' m ⟨hm, b, z, rfl, hb, rfl⟩
    rw [rng_len] at hm
    exact ⟨0, _, ⟨rfl, rfl⟩, by omega, r _ ⟨b, rfl, hb⟩⟩

def badN (x : PyData) : Bool := !withinD x (some 0) (some 65535)
theorem bad_all : ∀ xs : List PyData, (xs.filter badN).isEmpty = xs.all fun x => withinD x (some 0) (some 65535)
  | [] => rfl
  | x :: xs => by
    rw [List.all_cons, List.filter_cons]
    cases h : withinD x (some 0) (some 65535) with
    | true =>
      have hb : badN x = false := by unfold badN; rw [h]; rfl
      rw [hb, Bool.true_and]
      exact bad_all xs
    | false =>
      have hb : badN x = true := by unfold badN; rw [h]; rfl
      rw [hb, Bool.false_and]
      rfl
theorem q_chain_i {g g' : Int → Int → Bool} {h h' : Str → Str → Bool} {lo hi i : Int} {j n : Nat} {ρ : List DS} {R : QD} (hv : ρ[j]? = some (DS.d (.int i))) (r : R (.bool (g lo i && g' i hi)) n) :
    qChain (fOrd g h) (fOrd g' h') (qC (.int lo)) (qVar j) (qC (.int hi)) ρ n R := by
  unfold qChain qVar qC
  refine ⟨_, hv, g lo i, rfl, ?_⟩
  cases e : g lo i with
  | true => rw [e] at r; exact r
  | false => rw [e] at r; exact r


theorem q_len_nec {i n k : Nat} {m : Int} {ρ : List DS} {R : QD} {d : PyData} (hv : ρ[i]? = some (DS.d d)) (hl : lenOf d = some k) (r : R (.bool (!decide ((k : Int) = m))) n) : qOp fNe (qCB fLen (qCons (qVar i) qNil)) (qC (.int m)) ρ n R := by
  unfold qOp qCB qCons qVar qNil qC
  exact ⟨d, hv, f_len hl ⟨rfl, rfl, r⟩⟩

theorem ok__law_is_block {P : Program} {w : World} {K : PySem.W.Frag} {mg : Str → Option Value} {base : Heap} {fa : Nat → Addr} {fd : Nat → FuncData} (T : Txt K mg fa fd) : FnOk P w K mg base CX0 1 (fa 29) (fd 29) ["value"] (spPure K (Fn1 shortL fun d => .bool (blkD d))) := by
  have nd := sc__law_is_block.nd
  refine T.F__law_is_block.ok sc__law_is_block (fun vs H Q E h => len1 h) (fun cdv A outer s H vs Q E hr h => ⟨_, (pss0 (dss_cons (pss_cons (ds_if (ps_if (PW.pt (dw_or (pw_or (dt_not (pt_not (dt_val (pt_val (de_isi_seq (pe_callB call_isiTY (by rfl) T.n_isinstance (by decide +kernel) (pa_cons (de_var (pv 0)) (pa_cons (pe_tupN (pa_cons (pe_bltn (v := .ty "list") (u := .type "list") (by rfl) T.n_list (by decide +kernel) rfl) (pa_cons (pe_bltn (v := .ty "tuple") (u := .type "tuple") (by rfl) T.n_tuple (by decide +kernel) rfl) pa_nil))) pa_nil)))))))) (pw_or1 (dt_cmp fit_ne (pt_cmpR (op_neD hr.units) (de_cb fit_len (pe_callB call_lenU (by rfl) T.n_len (by decide +kernel) (da_cons (pa_cons (de_var (pv 0)) (da_nil pa_nil))))) (de_int pe_int) (nomark _)))))))
          (pss_one (ds_ret (ps_ret (de_bl pe_bl))))
          (dss_nil pss_nil)))
        (pss_one (ds_ret (ps_ret (de_op fit_eqL (pe_cmpR (op_eqL (Nat.lt_of_le_of_lt (Nat.le_add_right _ 64) hr.units)) (de_lc fit_name (pe_lc (own := [("number", 1)]) (by rfl) nd (di_U (pi_U (de_var (pv 0)))) (blkOk_by (N := sl__law_is_block) (sc := defScope s__law_is_block) (by decide +kernel)) (fun _ _ _ _ _ => (pg_name (i := 1) nd rfl (Or.inl rfl))) (fun _ _ _ _ _ => (pts_one (PW.pt (dw_or (pw_or (dt_not (pt_not (dt_val (pt_val (de_isi_int (pe_callB call_isiY (by rfl) T.n_isinstance (by decide +kernel) (pa_cons (de_var (pv 1)) (pa_cons (pe_bltn (v := .ty "int") (u := .type "int") (by rfl) T.n_int (by decide +kernel) rfl) pa_nil)))))))) (dw_or (pw_or (dt_val (pt_val (de_isi_bool (pe_callB call_isiY (by rfl) T.n_isinstance (by decide +kernel) (pa_cons (de_var (pv 1)) (pa_cons (pe_bltn (v := .ty "bool") (u := .type "bool") (by rfl) T.n_bool (by decide +kernel) rfl) pa_nil)))))) (pw_or1 (dt_not (pt_not (dt_chain fit_ord fit_ord (pt_chain op_leU op_leU (de_int pe_int) (de_var (pv 1)) (de_int pe_int))))))))))))) (fun _ _ _ _ _ => (de_var (pv 1))))) (de_lst (pe_lstN (da_nil pa_nil))) (nomark _))))))))), ?_⟩)
  refine pure1 (m := 1) h (fun _ => rfl) ?_
  intro d hd
  refine ⟨_, rfl, _, rfl, ite2 (fun h => ?_) (fun h => ?_)⟩ <;> have h := h
  · have h : (!(seqD d).isSome) = true := h
    cases q : seqD d with
    | none =>
      refine iteT' rfl ?_
      show PyData.bool false = .bool (numbersD _ _ _)
      unfold numbersD
      rw [q]
    | some xs => rw [q] at h; cases h
  have h : ¬ (!(seqD d).isSome) = true := h
  obtain ⟨xs, q⟩ : ∃ xs, seqD d = some xs := by
    cases q : seqD d with
    | none => rw [q] at h; exact absurd rfl h
    | some xs => exact ⟨xs, rfl⟩
  have hl := hd xs q
  have e : blkD d = (decide ((xs.length : Int) = 16) && xs.all fun x => withinD x (some 0) (some 65535)) := by
    unfold blkD numbersD
    rw [q]
  rw [e]
  refine q_len_nec rfl (len_seqD q) ⟨_, rfl, ite2 (fun h => ?_) (fun h => ?_)⟩
  · have h : decide ((xs.length : Int) = 16) = false := nt_true h
    show PyData.bool false = _
    rw [h, Bool.false_and]
  have h : decide ((xs.length : Int) = 16) = true := nt_false h
  rw [h, Bool.true_and]
  refine ⟨_, rfl, xs, items_seqD q, lc_pure badN id hl (fun x hx Ky Kn ky kn => ?_) ?_⟩
  · cases x with
    | bool b => exact ⟨_, rfl, _, rfl, iteF' rfl ⟨_, rfl, _, rfl, iteT' rfl (iteT' rfl ⟨_, rfl, ky rfl⟩)⟩⟩
    | int i =>
      refine ⟨_, rfl, _, rfl, iteF' rfl ⟨_, rfl, _, rfl, iteF' rfl (q_chain_i rfl ⟨_, rfl, ?_⟩)⟩⟩
      have e : (decide ((0 : Int) ≤ i) && decide (i ≤ 65535)) = !badN (.int i) := (Bool.not_not _).symm
      show if (!(decide ((0 : Int) ≤ i) && decide (i ≤ 65535))) = true then _ else _
      rw [e, Bool.not_not]
      cases z : badN (.int i) with
      | true => exact iteT' rfl ⟨_, rfl, ky z⟩
      | false => exact iteF' rfl (kn z)
    | _ => exact ⟨_, rfl, _, rfl, iteT' rfl (iteT' rfl ⟨_, rfl, ky rfl⟩)⟩
  · refine ⟨Nat.zero_le _, _, rfl, rfl, ?_⟩
    show PyData.bool ((xs.filter badN).map id).isEmpty = _
    rw [List.map_id, bad_all]
theorem fSl_tup {ds es : List PyData} {lo hi : Option Int} {R : PyData → Prop} (e : cutD ds lo hi = es) (r : R (.tuple es)) : fSl (.tuple ds) lo hi R := by
  show R (.tuple (cutD ds lo hi))
  rw [e]
  exact r

theorem fSl_lst {ds es : List PyData} {lo hi : Option Int} {R : PyData → Prop} (e : cutD ds lo hi = es) (r : R (.list es)) : fSl (.list ds) lo hi R := by
  show R (.list (cutD ds lo hi))
  rw [e]
  exact r

theorem q_noO {ρ : List DS} {n : Nat} {R : Option Int → Nat → Prop} (h : R none n) : qNoO ρ n R := h

theorem q_cb2 {f : List PyData → (PyData → Prop) → Prop} {t u : TD} {v : TDA} {ρ : List DS} {n : Nat} {R : QD} (h : t ρ n fun d n1 => u ρ n1 fun e n2 => v ρ n2 fun ds n3 => f (d :: e :: ds) fun d => R d n3) : qCB f (qCons t (qCons u v)) ρ n R := h

theorem q_cb3 {f : List PyData → (PyData → Prop) → Prop} {t u v : TD} {w : TDA} {ρ : List DS} {n : Nat} {R : QD} (h : t ρ n fun d n1 => u ρ n1 fun e n2 => v ρ n2 fun c n3 => w ρ n3 fun ds n4 => f (d :: e :: c :: ds) fun d => R d n4) : qCB f (qCons t (qCons u (qCons v w))) ρ n R := h

theorem q_tup1 {t : TD} {ρ : List DS} {n : Nat} {R : QD} (h : t ρ n fun d n' => 1 ≤ 10000000 ∧ R (.tuple [d]) n') : qTup (qCons t qNil) ρ n R := h

theorem q_tlc {vs : List Nat} {f : PyData → List DS → (List DS → Prop) → Prop} {src : TDI} {te : TD} {ρ : List DS} {n : Nat} {R : QD}
    (h : src ρ n fun ds n1 => ds.length ≤ 10000000 ∧ ∃ A : Nat → List PyData → Nat → Prop, A 0 [] n1 ∧ (∀ i x acc m, ds[i]? = some x → A i acc m → f x (wipeD ρ vs) fun ρ' => qYes ρ' m fun b m' => if b = true then te ρ' m' fun y m'' => A (i + 1) (acc ++ [y]) m'' else A (i + 1) acc m') ∧
      ∀ acc m, A ds.length acc m → acc.length ≤ ds.length → R (.tuple acc) m) : qCB fTuple (qCons (qLc vs f src qYes te) qNil) ρ n R := h


def shB (d : PyData) : Bool := match seqD d with
  | some xs => decide (xs.length ≤ 1000)
  | none => true
theorem sh_of {d : PyData} (h : shB d = true) : shortL d := fun xs e => by
  unfold shB at h
  rw [e] at h
  have := of_decide_eq_true h
  omega
theorem shB_l {xs : List PyData} (h : xs.length ≤ 1000) : shB (.list xs) = true := decide_eq_true h
theorem shB_t {xs : List PyData} (h : xs.length ≤ 1000) : shB (.tuple xs) = true := decide_eq_true h
theorem cut_le (xs : List PyData) (a b : Option Int) : (cutD xs a b).length ≤ xs.length := by
  unfold cutD
  rw [List.length_take, List.length_drop]
  omega

theorem ok__law_bent {P : Program} {w : World} {K : PySem.W.Frag} {mg : Str → Option Value} {base : Heap} {fa : Nat → Addr} {fd : Nat → FuncData} (T : Txt K mg fa fd) : FnOk P w K mg base CX0 3 (fa 30) (fd 30) ["crib", "block"] (spDr K 4 (Dr1 isBk fun _ y => shB y = true)) := by
  have nd := sc__law_bent.nd
  refine T.F__law_bent.ok sc__law_bent (fun vs H Q E h => dlen1 h) (fun cdv A outer s H vs Q E hr h => ⟨_, (pss0 (dss_cons (pss_cons (ds_par (ps_par (i := 2) (j := 3) (by rfl) nd rfl rfl (by decide) rfl rfl (da_cons (pa_cons (de_draw (pe_call (okd__law_pluck T) (hr.mono (by decide)) rfl T.g__law_pluck T.F__law_pluck.kp T.b__law_pluck .nil pass0 (pa_cons (pv 0) (da_cons (pa_cons (de_int pe_int) (da_nil pa_nil)))))) (da_cons (pa_cons (de_draw (pe_call (okd__law_pluck T) (hr.mono (by decide)) rfl T.g__law_pluck T.F__law_pluck.kp T.b__law_pluck .nil pass0 (pa_cons (pv 0) (da_cons (pa_cons (de_int pe_int) (da_nil pa_nil)))))) (da_nil pa_nil))))) (by rfl)))
        (dss_cons (pss_cons (ds_set (ps_set (i := 4) nd rfl (Or.inl rfl) (de_draw (pe_call (ok__law_one T) (hr.mono (by decide)) rfl T.g__law_one T.F__law_one.kp T.b__law_one .nil pass0 (pa_cons (pv 0) (da_cons (pa_cons (de_lst (pe_lstN (da_cons (pa_cons (de_int pe_int) (da_cons (pa_cons (de_neg (pe_un un_neg (de_int pe_int))) (da_cons (pa_cons (de_bl pe_bl) (da_cons (pa_cons (de_bl pe_bl) (da_cons (pa_cons (de_non pe_non) (da_cons (pa_cons (de_str pe_str) (da_cons (pa_cons (de_lst (pe_lstN (da_cons (pa_cons (de_int pe_int) (da_nil pa_nil))))) (da_cons (pa_cons (de_int pe_int) (da_cons (pa_cons (de_op fit_pow (pe_op op_powL (de_int pe_int) (de_int pe_int))) (da_cons (pa_cons (de_tup (pe_tupN (da_cons (pa_cons (de_int pe_int) (da_nil pa_nil))))) (da_nil pa_nil))))))))))))))))))))))) (da_nil pa_nil))))))))
        (dss_cons (pss_cons (ds_if (ps_if (dt_cmp fit_ord (pt_cmpR op_ltU (de_var (pv 3)) (de_int pe_int) (nomark _)))
          (pss_one (ds_ret (ps_ret (de_op fit_add (pe_op op_addU (de_op fit_add (pe_op op_addU (de_sl fit_sl (pe_slice sl_U (de_var (pv 1)) (do_none po_none) (do_some (po_some (de_var (pv 2)))))) (de_lst (pe_lstN (da_cons (pa_cons (de_var (pv 4)) (da_nil pa_nil))))))) (de_sl fit_sl (pe_slice sl_U (de_var (pv 1)) (do_some (po_some (de_op fit_add (pe_op op_addU (de_var (pv 2)) (de_int pe_int))))) (do_none po_none))))))))
          (dss_nil pss_nil)))
        (dss_cons (pss_cons (ds_if (ps_if (dt_cmp fit_eq (pt_cmpR (op_eqD hr.units) (de_var (pv 3)) (de_int pe_int) (nomark _)))
          (pss_one (ds_ret (ps_ret (de_op fit_add (pe_op op_addU (de_sl fit_sl (pe_slice sl_U (de_var (pv 1)) (do_none po_none) (do_some (po_some (de_var (pv 2)))))) (de_sl fit_sl (pe_slice sl_U (de_var (pv 1)) (do_some (po_some (de_op fit_add (pe_op op_addU (de_var (pv 2)) (de_int pe_int))))) (do_none po_none))))))))
          (dss_nil pss_nil)))
        (dss_cons (pss_cons (ds_if (ps_if (dt_cmp fit_eq (pt_cmpR (op_eqD hr.units) (de_var (pv 3)) (de_int pe_int) (nomark _)))
          (pss_one (ds_ret (ps_ret (de_op fit_add (pe_op op_addU (de_op fit_add (pe_op op_addU (de_sl fit_sl (pe_slice sl_U (de_var (pv 1)) (do_none po_none) (do_some (po_some (de_var (pv 2)))))) (de_lst (pe_lstN (da_cons (pa_cons (de_int pe_int) (da_nil pa_nil))))))) (de_sl fit_sl (pe_slice sl_U (de_var (pv 1)) (do_some (po_some (de_var (pv 2)))) (do_none po_none))))))))
          (dss_nil pss_nil)))
        (pss_one (ds_ret (ps_ret (de_if (pe_ifExp (dt_cmp fit_eq (pt_cmpR (op_eqD hr.units) (de_var (pv 3)) (de_int pe_int) (nomark _))) (de_draw (pe_call (ok__law_one T) (hr.mono (by decide)) rfl T.g__law_one T.F__law_one.kp T.b__law_one .nil pass0 (pa_cons (pv 0) (da_cons (pa_cons (de_lst (pe_lstN (da_cons (pa_cons (de_non pe_non) (da_cons (pa_cons (de_int pe_int) (da_cons (pa_cons (de_op fit_mul (pe_op op_mulU (de_str pe_str) (de_int pe_int))) (da_cons (pa_cons (de_d0 pe_dnewK) (da_cons (pa_cons (de_lst (pe_lstN (da_nil pa_nil))) (da_cons (pa_cons (de_lst (pe_lstN (da_cons (pa_cons (de_var (pv 1)) (da_nil pa_nil))))) (da_cons (pa_cons (de_bl pe_bl) (da_cons (pa_cons (d_q (dq_f (df_rg1 (pe_listRg (by rfl) (by rfl) T.n_list (prg_1 (by rfl) T.n_range (de_int pe_int)))))) (da_cons (pa_cons (de_tupRg2 (pe_tupRg (by rfl) (by rfl) T.n_tuple (prg_2 (by rfl) T.n_range (de_int pe_int) (de_int pe_int)))) (da_cons (pa_cons (de_op fit_mul (pe_op op_mulU (de_tup (pe_tupN (da_cons (pa_cons (de_non pe_non) (da_nil pa_nil))))) (de_int pe_int))) (da_nil pa_nil))))))))))))))))))))))) (da_nil pa_nil)))))) (de_cb fit_tuple (pe_callTy call_tuple_ofN (by rfl) T.n_tuple (by decide +kernel) (da_cons (pa_cons (de_var (pv 1)) (da_nil pa_nil))))))))))))))))))))), ?_⟩)
  refine draw1 (m := 3) h (fun _ _ => rfl) ?_
  rintro n d hn ⟨b, rfl, hb⟩
  refine ⟨rfl, by omega, _, rfl, okM (m := 16) (by decide) (by decide), fun y1 hy1 => ⟨rfl, by omega, _, rfl, okM (m := 6) (by decide) (by decide), fun y2 hy2 => ?_⟩⟩
  obtain ⟨i, rfl, i1⟩ := drew hy1 rfl
  obtain ⟨j, rfl, j1⟩ := drew hy2 rfl
  refine ⟨_, _, rfl, rfl, 1, rfl, by simp, ⟨by decide, by decide, by decide⟩, by simp, by simp, by omega, _, rfl, some_ok (by simp) (by simp), fun y3 hy3 => ?_⟩
  have hl : ∀ a c, (cutD (b.map PyData.int) a c).length ≤ 16 := fun a c => by
    have := cut_le (b.map PyData.int) a c
    rw [List.length_map, hb.1] at this
    exact this
  refine ⟨_, rfl, _, rfl, ite2 (fun h => ?_) (fun h => ?_)⟩
  · refine ⟨_, rfl, _, rfl, _, rfl, fSl_lst rfl ⟨_, rfl, by simp, Nat.le_trans (Nat.add_le_add (hl _ _) (Nat.le_refl 1)) (by decide), _, rfl, _, rfl, _, rfl, q_noO (fSl_lst rfl ⟨?_, by omega, shB_l ?_⟩)⟩⟩
    · rw [List.length_append]; exact Nat.le_trans (Nat.add_le_add (Nat.add_le_add (hl _ _) (Nat.le_refl 1)) (hl _ _)) (by decide)
    · rw [List.length_append, List.length_append]; exact Nat.le_trans (Nat.add_le_add (Nat.add_le_add (hl _ _) (Nat.le_refl 1)) (hl _ _)) (by decide)
  refine ⟨_, rfl, rfl, rfl, _, rfl, ite2 (fun h => ?_) (fun h => ?_)⟩
  · refine ⟨_, rfl, _, rfl, _, rfl, fSl_lst rfl ⟨_, rfl, _, rfl, _, rfl, q_noO (fSl_lst rfl ⟨?_, by omega, shB_l ?_⟩)⟩⟩
    · exact Nat.le_trans (Nat.add_le_add (hl _ _) (hl _ _)) (by decide)
    · rw [List.length_append]; exact Nat.le_trans (Nat.add_le_add (hl _ _) (hl _ _)) (by decide)
  refine ⟨_, rfl, rfl, rfl, _, rfl, ite2 (fun h => ?_) (fun h => ?_)⟩
  · refine ⟨_, rfl, _, rfl, _, rfl, fSl_lst rfl ⟨by simp, Nat.le_trans (Nat.add_le_add (hl _ _) (Nat.le_refl 1)) (by decide), _, rfl, _, rfl, _, rfl, q_noO (fSl_lst rfl ⟨?_, by omega, shB_l ?_⟩)⟩⟩
    · rw [List.length_append]; exact Nat.le_trans (Nat.add_le_add (Nat.add_le_add (hl _ _) (Nat.le_refl 1)) (hl _ _)) (by decide)
    · rw [List.length_append, List.length_append]; exact Nat.le_trans (Nat.add_le_add (Nat.add_le_add (hl _ _) (Nat.le_refl 1)) (hl _ _)) (by decide)
  refine ⟨_, rfl, rfl, rfl, _, rfl, ite2 (fun h => ?_) (fun h => ?_)⟩
  · refine ⟨rfl, ⟨⟨by decide, by decide, by decide, by decide, by rw [sizeLine_eq]; decide⟩, ?_⟩⟩
    refine ⟨by simp, _, rfl, by simp, 16, rfl, ⟨by decide, by decide, by decide, by decide, by decide⟩, 65520, 65536, rfl, rfl, ⟨by decide, by decide, by decide, by decide, by decide⟩, by simp, ⟨by simp, by decide, by decide, by simp⟩, ?_⟩
    refine ⟨by simp, by omega, _, rfl, some_ok (by simp) (by simp), fun y4 hy4 => ⟨by omega, ?_⟩⟩
    refine one_p (p := fun z => shB z = true) hy4 fun z mz => ?_
    simp only [List.mem_cons, List.not_mem_nil, or_false] at mz
    rcases mz with rfl | rfl | rfl | rfl | rfl | rfl | rfl | rfl | rfl | rfl <;> first | rfl | exact shB_l (by simp) | exact shB_t (by simp)
  · exact ⟨_, rfl, by omega, shB_t (by rw [List.length_map, hb.1]; decide)⟩
end K04
set_option maxHeartbeats 4000000
namespace K04
open PySem L2 MT RZ StX

local macro_rules | `(tactic| walk_at "sm") => `(tactic| first | exact Same.refl _ | assumption | exact New.same (by assumption) | exact Same.trans (by assumption) (by walk_at "sm") | exact Same.trans (New.same (by assumption)) (by walk_at "sm"))
local macro_rules | `(tactic| walk_at "fr") => `(tactic| first | exact Frm.refl | assumption | exact frm_same (New.same (by assumption)) | exact frm_same (by assumption) | exact Frm.trans (by assumption) (by walk_at "fr") | exact Frm.trans (frm_same (New.same (by assumption))) (by walk_at "fr") | exact Frm.trans (frm_same (by assumption)) (by walk_at "fr"))
local macro_rules | `(tactic| walk_at "dv") => `(tactic| first | exact Dv.int _ | exact Dv.bl _ | exact Dv.non | exact Dv.str _ | assumption | exact Dv.same (by assumption) (by walk_at "sm") | exact Dv.mono (by assumption) (by walk_at "fr"))
local macro_rules | `(tactic| walk_at "dvs") => `(tactic| first | exact DvAll.nil | exact DvAll.ints _ | (refine DvAll.cons ?_ ?_; walk_at "dv"; walk_at "dvs"))

/-- what the law makes of an error -/
def hxH (CN CB : Addr) : Addr → List (Str × PyData) → PyData → Prop := fun C fs z => (C = CN ∧ ∃ p, fs = [(("part" : Str), p)] ∧ z = .tuple [.str "number", p]) ∨ (C = CB ∧ ∃ p, fs = [(("part" : Str), p)] ∧ z = .tuple [.str "block", p])
abbrev hrN : PyData → PyData := fun _ => .none
theorem fresh_not {M : Addr → Prop} {H H' : Hp} {p : Addr} (al : Al M H) (s : Same H H') (n : H' p = none) : ¬ M p := fun m => by
  obtain ⟨o, e, _⟩ := al p m
  have q := s _ _ e
  rw [n] at q
  cases q

theorem heard_gives {X : Cx} {fa : Nat → Addr} {fd : Nat → FuncData} (T : Txt X.K X.mg fa fd) {g : Addr} {cdg : Value} {q : Str} : GivesN X sl__law_heard "_law_heard" (defScope s__law_heard) g cdg (defBody s__law_heard) "ask" q (TTs X.K (hxH (fa 13) (fa 14)) hrN) := by
  intro f c' s H Q tl act hc h
  obtain ⟨M, R, al, h, k⟩ := h
  have nd := sc__law_heard.nd
  refine ⟨_, pss_cons (ps_set (i := 1) nd rfl (Or.inl rfl) pe_non) (pss_cons (ps_try_keep (i := 2) (j := 1) (tb := fun W D σ H => ∃ Ech : XK, (∀ cls d H', Ech cls d H' → W cls d σ H') ∧ σ[0]? = some (some (.ref f)) ∧ H c' = some (LamX.CodeO c' q) ∧ ∃ R' : VK, (∀ x H', R' x H' → D.nx σ H') ∧ tl Ech H R')
    (Wout := fun _ _ _ _ => False) rfl rfl nd rfl rfl rfl (Or.inl rfl) (.inr rfl) rfl (Or.inl rfl) ⟨rfl, by decide, Or.inl T.M_MeetError⟩ takes0 (fun W pn xe tk _ => ?_)) (pss_cons (ps_if (pt_val (pe_callB call_isiTY (by rfl) T.n_isinstance (by decide +kernel) (pa_cons (pv 1) (pa_cons (pe_tupN (pa_cons (pe_glob (v := .ref _) rfl T.E_BadBlock.gC rfl) (pa_cons (pe_glob (v := .ref _) rfl T.E_BadNumber.gC rfl) pa_nil))) pa_nil))))
          (pss_one (ps_ret (pe_tupN (pa_cons (pe_ifExp (pt_val (pe_callB call_isK (by rfl) T.n_isinstance (by decide +kernel) (pa_cons (pv 1) (pa_cons (pe_glob (v := .ref _) rfl T.E_BadBlock.gC rfl) pa_nil)))) pe_str pe_str) (pa_cons (pe_xfK (pv 1)) pa_nil)))))
          pss_nil)
        (pss_one (ps_ret (pe_ifExp (pt_cmpR op_isN (pv 1) pe_non (nomark _)) pe_non (pe_tupN (pa_cons pe_str (pa_cons pe_non pa_nil)))))))), ?_⟩
  · refine ⟨fun pins s' σ H' D I told => ?_⟩
    obtain ⟨Ech, hW, w1, w2, R', imp, w3⟩ := told
    exact (pss_one (ps_expr (PE.cl (act W pn xe _ _ tk)))).run pins s' σ H' D I ⟨R', imp, Ech, hW, w1, w2, w3⟩
  · refine ⟨_, ?_, rfl, hc, _, fun x H' q => ?_, h H (Same.refl _)⟩
    · rintro cls d H' ⟨C, fs, fv, z, dd, rfl, rfl, sH, hdd, hw, (⟨rfl, p, rfl, rfl⟩ | ⟨rfl, p, rfl, rfl⟩), r⟩
      · obtain ⟨v, rfl, wv⟩ := hw.one
        refine ⟨true, T.exm_BadNumber_MeetError, fun _ a na => ?_, fun z => Bool.noConfusion z⟩
        have s1 := same_new (o := keptO a (.ref (fa 13)) (some dd)) na
        have ka : (upd H' a (keptO a (.ref (fa 13)) (some dd))) a = some (keptO a (.ref (fa 13)) (some dd)) := upd_same
        have kd := s1 _ _ hdd
        refine ⟨_, rfl, (by show 2 ≤ sizeLine; decide), fun p1 H1 n1 => ⟨_, p1, _, _, _, true, rfl, n1.2.1, .cons (.own _) (.cons (.own _) .nil), .e (n1.1 _ _ ka) (fun d2 e2 => by cases e2; exact ⟨_, n1.1 _ _ kd⟩) T.X_BadNumber, (kitAny_cons T.kit_BadNumber_BadBlock (fun _ => (kitAny_cons kit_self (fun z => by cases z) (fun _ => rfl))) (fun z => by cases z)), _, rfl, iteT ?_⟩⟩
        have k2 := n1.1 _ _ ka
        have d2 := n1.1 _ _ kd
        refine ⟨_, rfl, _, _, false, rfl, .inr ⟨a, _, dd, _, rfl, k2, d2, T.X_BadNumber, T.kit_BadNumber_BadBlock⟩, _, rfl, iteF ?_⟩
        refine ⟨_, rfl, a, _, dd, _, v, rfl, k2, T.E_BadNumber.xf, T.E_BadNumber.noF, d2, rfl, (by show 2 ≤ sizeLine; decide), fun p2 H2 n2 => ?_⟩
        have s2 := (s1.trans n1.1).trans n2.1
        exact k _ r _ _ (sH.trans s2) (.tup (.inl ⟨fresh_not al (sH.trans (s1.trans n1.1)) n2.2.2, n2.2.1⟩) (.cons (.str _) (.cons (wv.same s2) .nil)))
      · obtain ⟨v, rfl, wv⟩ := hw.one
        refine ⟨true, T.exm_BadBlock_MeetError, fun _ a na => ?_, fun z => Bool.noConfusion z⟩
        have s1 := same_new (o := keptO a (.ref (fa 14)) (some dd)) na
        have ka : (upd H' a (keptO a (.ref (fa 14)) (some dd))) a = some (keptO a (.ref (fa 14)) (some dd)) := upd_same
        have kd := s1 _ _ hdd
        refine ⟨_, rfl, (by show 2 ≤ sizeLine; decide), fun p1 H1 n1 => ⟨_, p1, _, _, _, true, rfl, n1.2.1, .cons (.own _) (.cons (.own _) .nil), .e (n1.1 _ _ ka) (fun d2 e2 => by cases e2; exact ⟨_, n1.1 _ _ kd⟩) T.X_BadBlock, (kitAny_cons kit_self (fun z => by cases z) (fun _ => rfl)), _, rfl, iteT ?_⟩⟩
        have k2 := n1.1 _ _ ka
        have d2 := n1.1 _ _ kd
        refine ⟨_, rfl, _, _, true, rfl, .inr ⟨a, _, dd, _, rfl, k2, d2, T.X_BadBlock, kit_self⟩, _, rfl, iteT ?_⟩
        refine ⟨_, rfl, a, _, dd, _, v, rfl, k2, T.E_BadBlock.xf, T.E_BadBlock.noF, d2, rfl, (by show 2 ≤ sizeLine; decide), fun p2 H2 n2 => ?_⟩
        have s2 := (s1.trans n1.1).trans n2.1
        exact k _ r _ _ (sH.trans s2) (.tup (.inl ⟨fresh_not al (sH.trans (s1.trans n1.1)) n2.2.2, n2.2.1⟩) (.cons (.str _) (.cons (wv.same s2) .nil)))
    · obtain ⟨sH, d, w, r⟩ := q
      refine ⟨_, rfl, (by show 2 ≤ sizeLine; decide), fun p1 H1 n1 => ⟨_, p1, _, _, _, false, rfl, n1.2.1, .cons (.own _) (.cons (.own _) .nil), .x (.base .non), (kitAny_cons T.kitN_BadBlock (fun _ => kitAny_cons T.kitN_BadNumber (fun _ => kitAny_nil) (fun z => by cases z)) (fun z => by cases z)), _, rfl, iteF ?_⟩⟩
      exact ⟨_, rfl, rfl, _, rfl, iteT (k _ r _ _ (sH.trans n1.1) .non)⟩
end K04
set_option maxHeartbeats 4000000
namespace K04
open PySem L2 MT RZ StX

local macro_rules | `(tactic| walk_at "sm") => `(tactic| first | exact Same.refl _ | assumption | exact New.same (by assumption) | exact Same.trans (by assumption) (by walk_at "sm") | exact Same.trans (New.same (by assumption)) (by walk_at "sm"))
local macro_rules | `(tactic| walk_at "fr") => `(tactic| first | exact Frm.refl | assumption | exact frm_same (New.same (by assumption)) | exact frm_same (by assumption) | exact Frm.trans (by assumption) (by walk_at "fr") | exact Frm.trans (frm_same (New.same (by assumption))) (by walk_at "fr") | exact Frm.trans (frm_same (by assumption)) (by walk_at "fr"))
local macro_rules | `(tactic| walk_at "dv") => `(tactic| first | exact Dv.int _ | exact Dv.bl _ | exact Dv.non | exact Dv.str _ | assumption | exact Dv.same (by assumption) (by walk_at "sm") | exact Dv.mono (by assumption) (by walk_at "fr"))
local macro_rules | `(tactic| walk_at "dvs") => `(tactic| first | exact DvAll.nil | exact DvAll.ints _ | (refine DvAll.cons ?_ ?_; walk_at "dv"; walk_at "dvs"))
def bD (b : List Int) : PyData := .tuple (b.map PyData.int)
theorem lay_ints : ∀ ns : List Int, PyData.canLayAll0 (ns.map PyData.int) = true ∧ PyData.depthAll (ns.map PyData.int) ≤ 1
  | [] => ⟨by simp [PyData.canLayAll0], by simp [PyData.depthAll]⟩
  | n :: ns => by
    obtain ⟨h1, h2⟩ := lay_ints ns
    exact ⟨by simp [PyData.canLayAll0, PyData.canLay0, h1], by simp only [List.map_cons, PyData.depthAll, PyData.depth]; omega⟩

theorem tame_tupI (ns : List Int) : tame (.tuple (ns.map PyData.int)) = true := by
  obtain ⟨h1, h2⟩ := lay_ints ns
  unfold tame
  rw [Bool.and_eq_true]
  exact ⟨by simpa [PyData.canLay0] using h1, decide_eq_true (by simp only [PyData.depth]; omega)⟩

theorem eqv_tupI (a b : List Int) : PyData.eqv (.tuple (a.map PyData.int)) (.tuple (b.map PyData.int)) = decide (a = b) := by
  rw [PyData.eqv, eqv_ints]

theorem eqv_blks : ∀ A C : List (List Int), PyData.eqvAll (A.map bD) (C.map bD) = decide (A = C)
  | [], [] => by simp [PyData.eqvAll]
  | [], _ :: _ => by simp [PyData.eqvAll]
  | _ :: _, [] => by simp [PyData.eqvAll]
  | a :: A, c :: C => by
    rw [List.map_cons, List.map_cons, PyData.eqvAll, eqv_blks A C]
    unfold bD
    rw [eqv_tupI]
    simp only [List.cons.injEq, Bool.decide_and]

theorem tame_blks : ∀ A : List (List Int), PyData.canLayAll0 (A.map bD) = true ∧ PyData.depthAll (A.map bD) ≤ 2
  | [] => ⟨by simp [PyData.canLayAll0], by simp [PyData.depthAll]⟩
  | a :: A => by
    obtain ⟨h1, h2⟩ := tame_blks A
    obtain ⟨h3, h4⟩ := lay_ints a
    refine ⟨?_, ?_⟩
    · rw [List.map_cons, PyData.canLayAll0, h1, Bool.and_true]
      unfold bD
      simpa [PyData.canLay0] using h3
    · rw [List.map_cons, PyData.depthAll]
      have : (bD a).depth ≤ 2 := by unfold bD; simp only [PyData.depth]; omega
      omega

theorem tame_tB (A : List (List Int)) : tame (.tuple (A.map bD)) = true := by
  obtain ⟨h1, h2⟩ := tame_blks A
  unfold tame
  rw [Bool.and_eq_true]
  exact ⟨by simpa [PyData.canLay0] using h1, decide_eq_true (by simp only [PyData.depth]; omega)⟩

theorem rep_ints : ∀ {ns : List Int}, (∀ x ∈ ns, 0 ≤ x ∧ x ≤ 65535) → toldAll (ns.map PyData.int) = true ∧ PyData.showableAll (ns.map PyData.int) = true ∧ PyData.depthAll (ns.map PyData.int) ≤ 1 ∧ PyData.leavesShortAll 13 (ns.map PyData.int) = true ∧ PyData.weightAll (ns.map PyData.int) ≤ 18 * ns.length
  | [], _ => ⟨by simp [toldAll], by simp [PyData.showableAll], by simp [PyData.depthAll], by simp [PyData.leavesShortAll], by simp [PyData.weightAll]⟩
  | n :: ns, h => by
    obtain ⟨h1, h2, h3, h4, h5⟩ := rep_ints fun x m => h x (List.mem_cons_of_mem _ m)
    obtain ⟨a, b⟩ := h n List.mem_cons_self
    have lg : n.natAbs.log2 ≤ 16 := by
      have : n.natAbs < 2 ^ 17 := by omega
      by_cases z : n.natAbs = 0
      · rw [z]; decide
      · have := (Nat.log2_lt z).mpr this
        omega
    have sh : (PyData.shown (.int n)).length ≤ 13 := PyData.shown_int_le (by omega)
    refine ⟨by simp only [List.map_cons, toldAll, toldD, h1, Bool.and_self], ?_, ?_, ?_, ?_⟩
    · simp only [List.map_cons, PyData.showableAll, PyData.showable, h2, Bool.and_true]
      exact decide_eq_true (by omega)
    · simp only [List.map_cons, PyData.depthAll, PyData.depth]; omega
    · simp only [List.map_cons, PyData.leavesShortAll, PyData.leavesShort, h4, Bool.and_true]
      exact decide_eq_true sh
    · simp only [List.map_cons, PyData.weightAll, PyData.weight, List.length_cons]
      split <;> omega

theorem rep_blks : ∀ {A : List (List Int)}, (∀ b ∈ A, b.length = 16 ∧ ∀ x ∈ b, 0 ≤ x ∧ x ≤ 65535) → toldAll (A.map bD) = true ∧ PyData.showableAll (A.map bD) = true ∧ PyData.depthAll (A.map bD) ≤ 2 ∧ PyData.leavesShortAll 13 (A.map bD) = true ∧ PyData.weightAll (A.map bD) ≤ 300 * A.length
  | [], _ => ⟨by simp [toldAll], by simp [PyData.showableAll], by simp [PyData.depthAll], by simp [PyData.leavesShortAll], by simp [PyData.weightAll]⟩
  | b :: A, h => by
    obtain ⟨h1, h2, h3, h4, h5⟩ := rep_blks fun x m => h x (List.mem_cons_of_mem _ m)
    obtain ⟨l, q⟩ := h b List.mem_cons_self
    obtain ⟨g1, g2, g3, g4, g5⟩ := rep_ints q
    refine ⟨?_, ?_, ?_, ?_, ?_⟩
    · rw [List.map_cons, toldAll, h1, Bool.and_true]; unfold bD; rw [toldD]; exact g1
    · rw [List.map_cons, PyData.showableAll, h2, Bool.and_true]; unfold bD; rw [PyData.showable]; exact g2
    · rw [List.map_cons, PyData.depthAll]
      have : (bD b).depth ≤ 2 := by unfold bD; rw [PyData.depth]; omega
      omega
    · rw [List.map_cons, PyData.leavesShortAll, h4, Bool.and_true]; unfold bD; rw [PyData.leavesShort]; exact g4
    · rw [List.map_cons, PyData.weightAll, List.length_cons]
      have : (bD b).weight ≤ 288 := by unfold bD; rw [PyData.weight]; omega
      omega

theorem rep_tB {A : List (List Int)} (h : ∀ b ∈ A, b.length = 16 ∧ ∀ x ∈ b, 0 ≤ x ∧ x ≤ 65535) (l : A.length ≤ 1000) : okRepW (.tuple (A.map bD)) := by
  obtain ⟨h1, h2, h3, h4, h5⟩ := rep_blks h
  refine ⟨by rw [toldD]; exact h1, by rw [PyData.showable]; exact h2, by rw [PyData.depth]; omega, PyData.shown_fits (B := 13) (by decide) (by decide) (by rw [PyData.leavesShort]; exact h4) ?_⟩
  rw [PyData.weight]
  omega

theorem fix_bD (b : List Int) : fixedD (bD b) = bD b := by
  unfold bD
  rw [fixed_seq (ds := b.map PyData.int) rfl, List.map_map]
  rfl

theorem lcN_map {vs : List Nat} {f : PyData → List DS → (List DS → Prop) → Prop} {te : TDA} {ρ : List DS} {n : Nat} {R : List PyData → Nat → Prop} {ds : List PyData} (g : PyData → List PyData) (hl : ds.length ≤ 10000000)
    (hs : ∀ x ∈ ds, ∀ Ks : List PyData → Nat → Prop, Ks (g x) n → f x (wipeD ρ vs) fun ρ' => te ρ' n Ks) (hf : ∀ {x : PyData} {ρ : List DS} {A C : List DS → Prop}, (∀ ρ', A ρ' → C ρ') → f x ρ A → f x ρ C) (r : R (ds.map fun x => .list (g x)) n) :
    ds.length ≤ 10000000 ∧ ∃ A : Nat → List PyData → Nat → Prop, A 0 [] n ∧ (∀ i x acc m, ds[i]? = some x → A i acc m → f x (wipeD ρ vs) fun ρ' => qYes ρ' m fun b m' => if b = true then te ρ' m' fun es m'' => A (i + 1) (acc ++ [.list es]) m'' else A (i + 1) acc m') ∧
      ∀ acc m, A ds.length acc m → acc.length ≤ ds.length → R acc m := by
  refine ⟨hl, fun i acc m => m = n ∧ acc = (ds.take i).map fun x => .list (g x), ⟨rfl, rfl⟩, ?_, ?_⟩
  · rintro i x acc m hx ⟨rfl, rfl⟩
    refine hf (fun ρ' h => ?_) (hs x (List.mem_of_getElem? hx) (fun es m'' => m'' = m ∧ ((ds.take i).map fun x => PyData.list (g x)) ++ [.list es] = (ds.take (i + 1)).map fun x => .list (g x)) ⟨rfl, by rw [take_next hx, List.map_append]; rfl⟩)
    exact q_yes (f := fun m' => te ρ' m' fun es m'' => (fun (i : Nat) (acc : List PyData) (m_1 : Nat) => m_1 = m ∧ acc = ((ds.take i).map fun x => PyData.list (g x))) (i + 1) (((ds.take i).map fun x => PyData.list (g x)) ++ [.list es]) m'') h
  · rintro acc m ⟨rfl, rfl⟩ _
    rw [List.take_of_length_le (Nat.le_refl _)]
    exact r

def tupD : PyData → PyData
  | .list xs => .tuple xs
  | d => d


def bL (b : List Int) : PyData := .list (b.map PyData.int)
def Z (m : Nat) : List (List Int) := List.replicate m (List.replicate 16 0)
theorem Z_ok (m : Nat) : ∀ b ∈ Z m, okBk b := fun b h => by rw [(List.mem_replicate.mp h).2]; exact ⟨by decide, by decide⟩
theorem Z_len (m : Nat) : (Z m).length = m := List.length_replicate
theorem Z_img (m : Nat) : List.replicate m zerosB = (Z m).map bD := by
  unfold Z
  rw [List.map_replicate]
  rfl
theorem z_flat : (List.replicate (16 : Int).toNat [PyData.int 0]).flatten = List.replicate 16 (.int 0) := rfl
theorem mul_t1 {z : PyData} {m : Nat} {R : PyData → Prop} (a : 2 ≤ m) (b : m ≤ 1000) (r : R (.tuple (List.replicate m z))) : fMul (.tuple [z]) (.int (m : Nat)) R := by
  refine ⟨⟨by simp, by omega, by omega, by simp⟩, ?_⟩
  rw [flat1]
  exact r
theorem in_many {m : Nat} (a : 8 ≤ m) (b : m ≤ 512) : withinD (.int (m : Nat)) (some 8) (some 512) = true := by
  show (decide ((8 : Int) ≤ (m : Nat)) && decide (((m : Nat) : Int) ≤ 512)) = true
  rw [decide_eq_true (by omega), decide_eq_true (by omega)]
  rfl
theorem tame_nil : tame (.tuple []) = true := by decide
theorem eqv_nn : PyData.eqv (.tuple []) (.tuple []) = true := by decide +kernel
theorem eqD (A C : List (List Int)) : PyData.eqv (.tuple (A.map bD)) (.tuple (C.map bD)) = decide (A = C) := by rw [PyData.eqv, eqv_blks]
theorem fEq_dd {K : PySem.W.Frag} {C : Addr} {m k : Nat} {A B : List (List Int)} {R : PyData → Prop} (r : R (.bool (decide (A = B)))) : fEqO K C (PEqD C) (objD C (diskF m (A.map bD) [])) (objD C (diskF k (B.map bD) [])) R := by
  refine ⟨⟨_, rfl⟩, .inl ⟨_, rfl⟩, m, A.map bD, [], _, rfl, tame_tB _, tame_nil, .inl ⟨k, B.map bD, [], rfl, tame_tB _, tame_nil, ⟨_, rfl⟩, ?_⟩⟩
  rw [eqD, eqv_nn, Bool.and_true]
  exact r
theorem fNe_dd {C : Addr} {m k : Nat} {A B : List (List Int)} {R : PyData → Prop} (r : R (.bool (!decide (A = B)))) : fNeO C (PEqD C) (objD C (diskF m (A.map bD) [])) (objD C (diskF k (B.map bD) [])) R := by
  refine ⟨⟨_, rfl⟩, ⟨_, rfl⟩, m, A.map bD, [], _, rfl, tame_tB _, tame_nil, .inl ⟨k, B.map bD, [], rfl, tame_tB _, tame_nil, _, rfl, ?_⟩⟩
  rw [eqD, eqv_nn, Bool.and_true]
  exact r
theorem fEq_dt {K : PySem.W.Frag} {C : Addr} {m : Nat} {A : List (List Int)} {xs : List PyData} {R : PyData → Prop} (nf : PySem.W.notFirst K C (.type "tuple") = true) (r : R (.bool false)) : fEqO K C (PEqD C) (objD C (diskF m (A.map bD) [])) (.tuple xs) R :=
  ⟨⟨_, rfl⟩, .inr ⟨(fun ks z => by cases z), nf⟩, m, A.map bD, [], _, rfl, tame_tB _, tame_nil, .inr ⟨⟨_, rfl⟩, ⟨_, rfl⟩, r⟩⟩
theorem tame_b (b : Bool) : tame (.bool b) = true := by cases b <;> decide
theorem eqv_b (a b : Bool) : PyData.eqv (.bool a) (.bool b) = decide (a = b) := by cases a <;> cases b <;> decide +kernel
theorem rep_bD {b : List Int} (h : okBk b) : okRepW (bD b) := by
  obtain ⟨g1, g2, g3, g4, g5⟩ := rep_ints h.2
  unfold bD
  refine ⟨by rw [toldD]; exact g1, by rw [PyData.showable]; exact g2, by rw [PyData.depth]; omega, PyData.shown_fits (B := 13) (by decide) (by decide) (by rw [PyData.leavesShort]; exact g4) ?_⟩
  rw [PyData.weight]
  have := h.1
  omega
theorem rep_mh {m : Nat} (h : m ≤ 512) : okRepW (.tuple [.int (m : Nat), .tuple []]) := by
  obtain ⟨g1, g2, g3, g4, g5⟩ := rep_ints (ns := [(m : Int)]) (fun x q => by rw [List.mem_singleton.mp q]; omega)
  have g1 : (toldD (.int (m : Nat)) && toldAll []) = true := g1
  have g2 : (PyData.showable (.int (m : Nat)) && PyData.showableAll []) = true := g2
  have g4 : (PyData.leavesShort 13 (.int (m : Nat)) && PyData.leavesShortAll 13 []) = true := g4
  rw [Bool.and_eq_true] at g1 g2 g4
  have g5 : PyData.weightAll ([(m : Int)].map PyData.int) ≤ 18 := g5
  simp only [List.map_cons, List.map_nil, PyData.weightAll] at g5
  refine ⟨by simp [toldD, toldAll], by rw [PyData.showable, PyData.showableAll, g2.1]; simp [PyData.showable, PyData.showableAll], by simp [PyData.depth, PyData.depthAll], PyData.shown_fits (B := 13) (by decide) (by decide) (by rw [PyData.leavesShort, PyData.leavesShortAll, g4.1]; simp [PyData.leavesShort, PyData.leavesShortAll]) ?_⟩
  simp only [PyData.weight, PyData.weightAll] at g5 ⊢
  omega
theorem noL_ints : ∀ ns : List Int, noLs (ns.map PyData.int) = true
  | [] => rfl
  | n :: ns => by
    show (noL (.int n) && noLs (ns.map PyData.int)) = true
    rw [noL_ints ns]
    rfl
theorem noL_blks : ∀ A : List (List Int), noLs (A.map bD) = true
  | [] => rfl
  | a :: A => by
    show (noL (bD a) && noLs (A.map bD)) = true
    rw [noL_blks A, Bool.and_true]
    exact noL_ints a
theorem noL_disk (C : Addr) (m : Nat) (A : List (List Int)) : noL (objD C (diskF m (A.map bD) [])) = true := by
  show (noL .none && (noL (.int (m : Nat)) && (noLs (A.map bD) && (noLs [] && true)))) = true
  rw [noL_blks]
  rfl


theorem blk_ok {d : PyData} {b : List Int} (e : seqD d = some (b.map PyData.int)) (h : okBk b) : blkD d = true := by
  unfold blkD numbersD
  rw [e]
  show (decide ((((b.map PyData.int).length : Nat) : Int) = 16) && (b.map PyData.int).all fun x => withinD x (some 0) (some 65535)) = true
  rw [Bool.and_eq_true]
  refine ⟨decide_eq_true (by rw [List.length_map, h.1]; rfl), List.all_eq_true.mpr fun x m => ?_⟩
  obtain ⟨i, hi, rfl⟩ := List.mem_map.mp m
  obtain ⟨a, c⟩ := h.2 i hi
  show (decide ((0 : Int) ≤ i) && decide (i ≤ 65535)) = true
  rw [decide_eq_true a, decide_eq_true c]
  rfl
theorem fix_g {d : PyData} {b : List Int} (e : seqD d = some (b.map PyData.int)) : fixedD d = bD b := by
  rw [fixed_seq e, List.map_map]
  rfl
theorem blks_g {g : List Int → PyData} (hg : ∀ b, seqD (g b) = some (b.map PyData.int)) {B : List (List Int)} {p : PyData} (e : seqD p = some (B.map g)) (ok : ∀ b ∈ B, okBk b) (l : 8 ≤ B.length) (l2 : B.length ≤ 512) :
    shD p ∧ blksN p (.int 8) (.int 512) = true ∧ ∀ xs, seqD p = some xs → xs.length = B.length ∧ xs.map fixedD = B.map bD := by
  refine ⟨⟨fun xs ex => ?_, fun xs ex x m ys ey => ?_⟩, ?_, fun xs ex => ?_⟩
  · rw [e] at ex
    cases ex
    rw [List.length_map]
    omega
  · rw [e] at ex
    cases ex
    obtain ⟨b, hb, rfl⟩ := List.mem_map.mp m
    rw [hg b] at ey
    cases ey
    rw [List.length_map, (ok b hb).1]
    decide
  · unfold blksN
    rw [e]
    show (withinD (.int ((B.map g).length : Nat)) (some 8) (some 512) && (B.map g).all blkD) = true
    rw [List.length_map, in_many l l2, Bool.true_and, List.all_eq_true]
    intro x m
    obtain ⟨b, hb, rfl⟩ := List.mem_map.mp m
    exact blk_ok (hg b) (ok b hb)
  · rw [e] at ex
    cases ex
    refine ⟨List.length_map _, ?_⟩
    rw [List.map_map]
    exact List.map_congr_left fun b _ => fix_g (hg b)
theorem passed_ok {B : List (List Int)} {p : PyData} (ok : ∀ b ∈ B, okBk b) (l : 8 ≤ B.length) (l2 : B.length ≤ 512) (hp : p ∈ [.list (B.map bL), .tuple (B.map bL), .list (B.map bD)]) :
    shD p ∧ blksN p (.int 8) (.int 512) = true ∧ ∀ xs, seqD p = some xs → xs.length = B.length ∧ xs.map fixedD = B.map bD := by
  simp only [List.mem_cons, List.not_mem_nil, or_false] at hp
  rcases hp with rfl | rfl | rfl
  · exact blks_g (g := bL) (fun b => rfl) rfl ok l l2
  · exact blks_g (g := bL) (fun b => rfl) rfl ok l l2
  · exact blks_g (g := bD) (fun b => rfl) rfl ok l l2
theorem set_get {B : List (List Int)} {k j : Nat} {x : Int} (hk : k < B.length) (hj : j < B.length) (ok : ∀ b ∈ B, okBk b) : ∃ es, ((B.map bL).set k (.list ((B.getD k []).map PyData.int ++ [.int x])))[j]? = some (.list es) ∧ 0 < es.length := by
  by_cases e : k = j
  · subst e
    exact ⟨_, List.getElem?_set_self (by rw [List.length_map]; exact hk), by simp⟩
  · refine ⟨(B[j]).map PyData.int, ?_, by rw [List.length_map, (ok _ (List.getElem_mem hj)).1]; decide⟩
    rw [List.getElem?_set_ne e, List.getElem?_map, List.getElem?_eq_getElem hj]
    rfl

theorem ok__law_made_right {P : Program} {w : World} {K : PySem.W.Frag} {mg : Str → Option Value} {base : Heap} {fa : Nat → Addr} {fd : Nat → FuncData} (T : Txt K mg fa fd) : FnG P w K mg base CX0 10 (fa 32) (fd 32) ["crib", "many"] (spDr K 120 (Dr1 (fun d => ∃ m : Nat, d = .int (m : Nat) ∧ 8 ≤ m ∧ m ≤ 512) fun _ y => y = .bool true)) := by
  have nd := sc__law_made_right.nd
  refine okGn T.F__law_made_right sc__law_made_right (fun vs H Q E h => dlen1 h) (fun cdv A outer s H vs Q E hq hr h => ⟨_, (pss0 (dss_own (oss_cons (pss_cons (os_old (ds_par (ps_par (i := 2) (j := 3) (by rfl) nd rfl rfl (by decide) rfl rfl (da_cons (pa_cons (de_ofX (dxe_makeN (gD := kOne) T.O_Disk (fun _ w => ⟨_, rfl, w⟩) (pe_makeN0 T.MK_Disk (ok_Disk_init T) (hr.mono (by decide)) rfl T.G_Disk T.kb_Disk_init passL (dk_cons (pk_cons (de_var (pv 1)) (dk_nil pk_nil)))))) (da_cons (pa_cons (de_op fit_mul (pe_op op_mulU (de_tup (pe_tupN (da_cons (pa_cons (de_int pe_int) (da_nil pa_nil))))) (de_int pe_int))) (da_nil pa_nil))))) (by rfl))))
        (oss_cons (pss_cons (os_if (ps_if (PW.pt (dw_or (pw_or (dt_cmp fit_neS (pt_cmpR op_ne (de_cb fit_reprW (pe_callB (call_reprW hq hr) (by rfl) T.n_repr (by decide +kernel) (da_cons (pa_cons (de_tup (pe_tupN (da_cons (pa_cons (de_fd (pe_fld (de_var (pv 2)) rfl)) (da_cons (pa_cons (de_fd (pe_fld (de_var (pv 2)) rfl)) (da_nil pa_nil))))))) (da_nil pa_nil))))) (de_cb fit_reprW (pe_callB (call_reprW hq hr) (by rfl) T.n_repr (by decide +kernel) (da_cons (pa_cons (de_tup (pe_tupN (da_cons (pa_cons (de_var (pv 1)) (da_cons (pa_cons (de_tup (pe_tupN (da_nil pa_nil))) (da_nil pa_nil))))))) (da_nil pa_nil))))) (nomark _))) (dw_or (pw_or (dt_cmp fit_ne (pt_cmpR (op_neD hr.units) (de_fd (pe_fld (de_var (pv 2)) rfl)) (de_op fit_mul (pe_op op_mulU (de_tup (pe_tupN (da_cons (pa_cons (de_var (pv 3)) (da_nil pa_nil))))) (de_var (pv 1)))) (nomark _))) (pw_or1 (dt_not (pt_not (dt_val (pt_val (de_isi_tuple (pe_callB call_isiY (by rfl) T.n_isinstance (by decide +kernel) (pa_cons (de_fd (pe_fld (de_var (pv 2)) rfl)) (pa_cons (pe_bltn (v := .ty "tuple") (u := .type "tuple") (by rfl) T.n_tuple (by decide +kernel) rfl) pa_nil))))))))))))))
          (oss_old (pss_one (ds_ret (ps_ret (de_bl pe_bl)))))
          (oss_old (dss_nil pss_nil))))
        (oss_cons (pss_cons (os_setNLc fit_name (ps_setLc (i := 4) (own := [("at", 9)]) (by rfl) nd rfl rfl (sw_true rfl rfl rfl (by decide +kernel)) (di_1 (pi_range1 rfl T.n_range (da_cons (pa_cons (de_var (pv 1)) (da_nil pa_nil))))) (blkOk_by (N := sl__law_made_right) (sc := defScope s__law_made_right) (by decide +kernel)) (fun _ _ _ _ _ => (pg_name (i := 9) nd rfl (Or.inl rfl))) (fun _ _ _ _ _ => (dts_nil pts_nil)) (fun _ _ _ _ _ => (df_mul (pe_op op_repN (de_lst (pe_lstN (da_cons (pa_cons (de_int pe_int) (da_nil pa_nil))))) (de_int pe_int))))))
        (oss_cons (pss_cons (os_for fit_name (ps_for PassesOwn.never rfl (di_1 (pi_range1 rfl T.n_range (da_cons (pa_cons (de_draw (pe_call (okd__law_pluck T) (hr.mono (by decide)) rfl T.g__law_pluck T.F__law_pluck.kp T.b__law_pluck .nil pass0 (pa_cons (pv 0) (da_cons (pa_cons (de_int pe_int) (da_nil pa_nil)))))) (da_nil pa_nil))))) (pg_name (i := 5) nd rfl (Or.inl rfl))
          (pss_one (os_stoN (ps_asg (dq_draw (pe_call (ok__law_block T) (hr.mono (by decide)) rfl T.g__law_block T.F__law_block.kp T.b__law_block .nil pass0 (pa_cons (pv 0) (da_nil pa_nil)))) (pg_sub (pv 4) (de_draw (pe_call (okd__law_pluck T) (hr.mono (by decide)) rfl T.g__law_pluck T.F__law_pluck.kp T.b__law_pluck .nil pass0 (pa_cons (pv 0) (da_cons (pa_cons (de_var (pv 1)) (da_nil pa_nil)))))) set_list))))))
        (oss_cons (pss_cons (os_setT (ps_set (i := 6) nd rfl (Or.inl rfl) (de_cb fit_tuple (pe_callTy call_tuple_ofN (by rfl) T.n_tuple (by decide +kernel) (da_cons (pa_cons (de_lc fit_name (pe_lc (own := [("block", 10)]) (by rfl) nd (di_U (pi_U (de_var (pv 4)))) (blkOk_by (N := sl__law_made_right) (sc := defScope s__law_made_right) (by decide +kernel)) (fun _ _ _ _ _ => (pg_name (i := 10) nd rfl (Or.inl rfl))) (fun _ _ _ _ _ => (dts_nil pts_nil)) (fun _ _ _ _ _ => (de_cb fit_tuple (pe_callTy call_tuple_ofN (by rfl) T.n_tuple (by decide +kernel) (da_cons (pa_cons (de_var (pv 10)) (da_nil pa_nil)))))))) (da_nil pa_nil)))))))
        (oss_setT2 (pss_cons (ps_set (i := 7) nd rfl (Or.inl rfl) (de_draw (pe_call (ok__law_one T) (hr.mono (by decide)) rfl T.g__law_one T.F__law_one.kp T.b__law_one .nil pass0 (pa_cons (pv 0) (da_cons (pa_cons (de_lst (pe_lstN (da_cons (pa_cons (de_var (pv 4)) (da_cons (pa_cons (de_cb fit_tuple (pe_callTy call_tuple_ofN (by rfl) T.n_tuple (by decide +kernel) (da_cons (pa_cons (de_var (pv 4)) (da_nil pa_nil))))) (da_cons (pa_cons (de_cb fit_list (pe_callTy call_list_ofN (by rfl) T.n_list (by decide +kernel) (da_cons (pa_cons (de_var (pv 6)) (da_nil pa_nil))))) (da_nil pa_nil))))))))) (da_nil pa_nil))))))) (pss_cons (ps_set (i := 8) nd rfl (Or.inl rfl) (de_ofX (dxe_callN (gD := kOne) (fun a b => a.append b) (pe_staticN rfl T.G_Disk T.SM_of.choose_spec (ok_Disk_of T) (hr.mono (by decide)) T.kb_Disk_of passL (dk_cons (pk_cons (de_var (pv 7)) (dk_nil pk_nil)))))))
        (oss_cons (pss_cons (os_app2 (ps_expr (pe_bm PySem.F.plainAttrs_list PySem.F.slot_list_append PySem.F.type_list_append mt_append (pe_ix ix_U (pv 4) (de_draw (pe_call (okd__law_pluck T) (hr.mono (by decide)) rfl T.g__law_pluck T.F__law_pluck.kp T.b__law_pluck .nil pass0 (pa_cons (pv 0) (da_cons (pa_cons (de_var (pv 1)) (da_nil pa_nil)))))) (fun _ _ => rfl)) (pa_cons (de_int pe_int) pa_nil))))
        (oss_cons (pss_cons (os_sto2 (ps_asg (de_int pe_int) (pg_sub (pe_ix ix_U (pv 4) (de_draw (pe_call (okd__law_pluck T) (hr.mono (by decide)) rfl T.g__law_pluck T.F__law_pluck.kp T.b__law_pluck .nil pass0 (pa_cons (pv 0) (da_cons (pa_cons (de_var (pv 1)) (da_nil pa_nil)))))) (fun _ _ => rfl)) (de_int pe_int) set_list)))
        (oss_done (dss_cons (pss_cons (ds_if (ps_if (PW.pt (dw_or (pw_or (dt_cmp fit_neS (pt_cmpR op_ne (de_cb fit_reprW (pe_callB (call_reprW hq hr) (by rfl) T.n_repr (by decide +kernel) (da_cons (pa_cons (de_fd (pe_fld (de_var (pv 8)) rfl)) (da_nil pa_nil))))) (de_cb fit_reprW (pe_callB (call_reprW hq hr) (by rfl) T.n_repr (by decide +kernel) (da_cons (pa_cons (de_var (pv 6)) (da_nil pa_nil))))) (nomark _))) (pw_or1 (dt_cmp fit_neS (pt_cmpR op_ne (de_cb fit_reprW (pe_callB (call_reprW hq hr) (by rfl) T.n_repr (by decide +kernel) (da_cons (pa_cons (de_tup (pe_tupN (da_cons (pa_cons (de_fd (pe_fld (de_var (pv 8)) rfl)) (da_cons (pa_cons (de_fd (pe_fld (de_var (pv 8)) rfl)) (da_nil pa_nil))))))) (da_nil pa_nil))))) (de_cb fit_reprW (pe_callB (call_reprW hq hr) (by rfl) T.n_repr (by decide +kernel) (da_cons (pa_cons (de_tup (pe_tupN (da_cons (pa_cons (de_var (pv 1)) (da_cons (pa_cons (de_tup (pe_tupN (da_nil pa_nil))) (da_nil pa_nil))))))) (da_nil pa_nil))))) (nomark _)))))))
          (pss_one (ds_ret (ps_ret (de_bl pe_bl))))
          (dss_nil pss_nil)))
        (dss_cons (pss_cons (ds_if (ps_if (PW.pt (dw_or (pw_or (dt_cmp fit_ne (pt_cmpR (op_neD hr.units) (de_op fit_eqO (pe_cmpR (op_eqO (ok_Disk_eq T) (hr.mono (by decide)) T.EQ_Disk T.EF_Disk T.b_Disk_eq pass0) (de_var (pv 8)) (de_var (pv 2)) (nomark _))) (de_op fit_eq (pe_cmpR (op_eqD hr.units) (de_var (pv 6)) (de_fd (pe_fld (de_var (pv 2)) rfl)) (nomark _))) (nomark _))) (dw_or (pw_or (dt_cmp fit_ne (pt_cmpR (op_neD hr.units) (de_op fit_neO (pe_cmpR (op_neO (ok_Disk_eq T) (hr.mono (by decide)) T.NE_Disk T.b_Disk_eq pass0) (de_var (pv 8)) (de_var (pv 2)) (nomark _))) (de_op fit_ne (pe_cmpR (op_neD hr.units) (de_var (pv 6)) (de_fd (pe_fld (de_var (pv 2)) rfl)) (nomark _))) (nomark _))) (dw_or (pw_or (dt_cmp fit_eqO (pt_cmpR (op_eqO (ok_Disk_eq T) (hr.mono (by decide)) T.EQ_Disk T.EF_Disk T.b_Disk_eq pass0) (de_var (pv 8)) (de_var (pv 6)) (nomark _))) (pw_or1 (dt_not (pt_not (dt_cmp fit_eqO (pt_cmpR (op_eqO (ok_Disk_eq T) (hr.mono (by decide)) T.EQ_Disk T.EF_Disk T.b_Disk_eq pass0) (de_var (pv 8)) (de_ofX (dxe_call (pe_static rfl T.G_Disk T.SM_of.choose_spec (ok_Disk_of T) (hr.mono (by decide)) T.b_Disk_of passL (da_cons (pa_cons (de_var (pv 6)) (da_nil pa_nil)))))) (nomark _)))))))))))))
          (pss_one (ds_ret (ps_ret (de_bl pe_bl))))
          (dss_nil pss_nil)))
        (dss_cons (pss_cons (ds_set (ps_set (i := 9) nd rfl (Or.inl rfl) (de_draw (pe_call (okd__law_pluck T) (hr.mono (by decide)) rfl T.g__law_pluck T.F__law_pluck.kp T.b__law_pluck .nil pass0 (pa_cons (pv 0) (da_cons (pa_cons (de_var (pv 1)) (da_nil pa_nil))))))))
        (pss_one (ds_ret (ps_ret (de_and (pe_and (de_op fit_eqS (pe_cmpR op_eq (de_cb fit_reprW (pe_callB (call_reprW hq hr) (by rfl) T.n_repr (by decide +kernel) (da_cons (pa_cons (de_ofX (dxe_methN (gD := kOne) (fun a b => a.append b) (pe_methN0 (de_var (pv 8)) T.O_Disk.cls T.ME_block_at (ok_Disk_block_at T) (hr.mono (by decide)) T.kb_Disk_block_at passL (dk_cons (pk_cons (de_var (pv 9)) (dk_nil pk_nil)))))) (da_nil pa_nil))))) (de_cb fit_reprW (pe_callB (call_reprW hq hr) (by rfl) T.n_repr (by decide +kernel) (da_cons (pa_cons (de_ix (pe_ix ix_U (de_var (pv 6)) (de_var (pv 9)) (fun _ _ => rfl))) (da_nil pa_nil))))) (nomark _))) (de_and (pe_and (de_op fit_eqO (pe_cmpR (op_eqO (ok_Disk_eq T) (hr.mono (by decide)) T.EQ_Disk T.EF_Disk T.b_Disk_eq pass0) (de_var (pv 2)) (de_ofX (dxe_make T.O_Disk (pe_make T.MK_Disk (ok_Disk_init T) (hr.mono (by decide)) rfl T.G_Disk T.b_Disk_init .nil passL (da_cons (pa_cons (de_var (pv 1)) (da_nil pa_nil)))))) (nomark _))) (pe_one (de_not (pe_not (de_op fit_eqO (pe_cmpR (op_eqO (ok_Disk_eq T) (hr.mono (by decide)) T.EQ_Disk T.EF_Disk T.b_Disk_eq pass0) (de_var (pv 2)) (de_ofX (dxe_make T.O_Disk (pe_make T.MK_Disk (ok_Disk_init T) (hr.mono (by decide)) rfl T.G_Disk T.b_Disk_init .nil passL (da_cons (pa_cons (de_if (pe_ifExp (dt_cmp fit_ord (pt_cmpR op_ltU (de_var (pv 1)) (de_int pe_int) (nomark _))) (de_op fit_add (pe_op op_addU (de_var (pv 1)) (de_int pe_int))) (de_int pe_int))) (da_nil pa_nil)))))) (nomark _))))))))))))))))))))))))))))))))))))))), ?_⟩)
  refine draw1 (m := 9) h (fun _ _ => rfl) ?_
  rintro n d hn ⟨m, rfl, m1, m2⟩
  have wm := in_many m1 m2
  have rZ : okRepW (.tuple [.int (m : Nat), .tuple []]) := rep_mh m2
  refine ⟨rfl, _, rfl, rfl, _, rfl, (fun q => absurd (wm.symm.trans q) (by simp)), fun m' em _ _ => ?_⟩
  have em : m = m' := by
    injection em with em
    omega
  subst em
  rw [Z_img]
  refine ⟨by simp, ⟨by simp, by decide, by decide, by simp⟩, _, _, rfl, ?_⟩
  rw [z_flat]
  refine ⟨_, rfl, _, _, _, rfl, T.NA_many, rfl, _, rfl, _, _, _, rfl, T.NA_held, rfl, by simp, _, rfl, rZ, _, rfl, by simp, by simp, _, rfl, rZ, _, _, rfl, rfl, _, rfl, iteF' (by simp) ?_⟩
  refine ⟨_, rfl, _, _, _, rfl, T.NA_image, rfl, _, rfl, by simp, _, rfl, mul_t1 (by omega) (by omega) ?_⟩
  rw [show List.replicate m (PyData.tuple (List.replicate 16 (PyData.int 0))) = (Z m).map bD from Z_img m]
  refine ⟨tame_tB _, tame_tB _, _, rfl, iteF' (by rw [eqD, decide_eq_true rfl]; rfl) ?_⟩
  refine ⟨_, rfl, _, _, _, rfl, T.NA_image, rfl, _, rfl, iteF' rfl ?_⟩
  refine ⟨rfl, _, rfl, (m : Int), rfl, by omega, by omega, lcN_map (fun _ => (List.replicate 16 0).map PyData.int) (by rw [rng_len]; omega) (fun x hx Ks ks => ⟨by simp, _, _, rfl, rfl, by decide, by decide, by simp, ks⟩) (fun h q => h _ q) ?_⟩
  have e0 : (((List.range ((m : Nat) : Int).toNat).map fun i => PyData.int (0 + (i : Nat))).map fun x => PyData.list ((List.replicate 16 0).map PyData.int)) = (Z m).map bL := by
    rw [List.map_map]
    unfold Z
    rw [List.map_replicate]
    refine List.ext_getElem (by simp) fun k h1 h2 => ?_
    simp [bL]
  rw [e0]
  refine ⟨rfl, by omega, _, rfl, okM (m := 6) (by decide) (by decide), fun y hy => ?_⟩
  obtain ⟨j, rfl, j1⟩ := drew hy rfl
  refine ⟨(j : Nat), rfl, by omega, by omega, fun i h ρ' c2 => c2 ≤ n + 1 + 11 * i ∧ ∃ (B : List (List Int)) (z : DS), h = [.n (B.map bL)] ∧ B.length = m ∧ (∀ b ∈ B, okBk b) ∧
    ρ' = [.dr, .d (.int (m : Nat)), .d (objD (fa 23) (diskF m ((Z m).map bD) [])), .d zerosB, .ow 0, z, .no, .no, .no, .no, .no], ⟨by omega, Z m, _, rfl, Z_len m, Z_ok m, rfl⟩, ?_, ?_⟩
  · rintro i x h ρ' c2 hx ⟨hc, B, z, rfl, hB, ok, rfl⟩
    obtain ⟨hi, rfl⟩ := rng_at hx
    have i6 : i < 6 := by omega
    refine ⟨0, _, ⟨rfl, rfl⟩, rfl, rfl, by omega, rfl, fun y ⟨b, eb, hb⟩ => ⟨_, eb, noL_ints b, rfl, _, rfl, by omega, _, rfl, okM (m := m) (by omega) (by omega), fun y3 hy3 => ?_⟩⟩
    obtain ⟨k, rfl, k1⟩ := drew hy3 rfl
    refine ⟨k, rfl, by rw [List.length_map]; omega, by omega, B.set k b, _, ?_, by rw [List.length_set]; exact hB, fun a ma => (List.mem_or_eq_of_mem_set ma).elim (ok a) fun e => e ▸ hb, rfl⟩
    show [HD.n ((B.map bL).set k (bL b))] = _
    rw [List.map_set]
  rintro h ρ' c2 ⟨hc, B, z, rfl, hB, ok, rfl⟩
  rw [rng_len] at hc
  refine q_tlc ⟨_, rfl, _, rfl, lc_map tupD (by rw [List.length_map]; omega) (fun x mx Ky ky => ?_) ?_⟩
  · obtain ⟨b, hb, rfl⟩ := List.mem_map.mp mx
    exact ⟨_, rfl, ky⟩
  have e1 : (B.map bL).map tupD = B.map bD := by
    rw [List.map_map]
    rfl
  rw [e1]
  refine ⟨noL_blks B, ?_⟩
  refine ⟨rfl, _, rfl, _, rfl, _, rfl, by simp, by omega, _, rfl, some_ok (by simp) (by simp), fun p hp => ?_⟩
  obtain ⟨zs, ez, hp⟩ := hp
  cases ez
  obtain ⟨sh, bl, px⟩ := passed_ok ok (by omega) (by omega) hp
  refine ⟨_, rfl, rfl, _, rfl, sh, (fun q => absurd (bl.symm.trans q) (by simp)), fun xs ex _ => ?_⟩
  obtain ⟨lx, fx⟩ := px xs ex
  rw [fx, lx, hB]
  refine ⟨noL_disk _ _ _, 0, _, ⟨rfl, rfl⟩, rfl, _, rfl, by omega, _, rfl, okM (m := m) (by omega) (by omega), fun y1 hy1 => ?_⟩
  obtain ⟨k, rfl, k1⟩ := drew hy1 rfl
  have hk : k < B.length := by omega
  have gk : (B.map bL)[k]? = some (.list ((B.getD k []).map PyData.int)) := by
    rw [List.getElem?_map, List.getElem?_eq_getElem hk, List.getD_eq_getElem?_getD, List.getElem?_eq_getElem hk]
    rfl
  have lk : ((B.getD k []).map PyData.int).length = 16 := by
    rw [List.length_map, List.getD_eq_getElem?_getD, List.getElem?_eq_getElem hk]
    exact (ok _ (List.getElem_mem hk)).1
  refine ⟨k, _, rfl, gk, by rw [lk]; decide, rfl, 0, _, ⟨rfl, rfl⟩, rfl, rfl, _, rfl, by omega, _, rfl, okM (m := m) (by omega) (by omega), fun y2 hy2 => ?_⟩
  obtain ⟨k2, rfl, k3⟩ := drew hy2 rfl
  obtain ⟨es, ges, les⟩ := set_get (x := 7) hk (j := k2) (by omega) ok
  refine ⟨k2, es, rfl, ges, 0, rfl, les, ?_⟩
  have rB : okRepW (.tuple (B.map bD)) := rep_tB ok (by omega)
  refine ⟨_, rfl, _, _, _, rfl, T.NA_image, rfl, _, rfl, rB, _, rfl, _, rfl, rB, _, _, rfl, rfl, _, rfl, iteF' (by simp) ?_⟩
  refine ⟨_, rfl, _, _, _, rfl, T.NA_many, rfl, _, rfl, _, _, _, rfl, T.NA_held, rfl, by simp, _, rfl, rZ, _, rfl, by simp, by simp, _, rfl, rZ, _, _, rfl, rfl, _, rfl, iteF' (by simp) ?_⟩
  refine ⟨_, rfl, _, rfl, fEq_dd ⟨_, rfl, _, rfl, _, _, _, rfl, T.NA_image, rfl, tame_tB _, tame_tB _, tame_b _, tame_b _, _, rfl, iteF' (by rw [eqD, eqv_b]; simp) ?_⟩⟩
  refine ⟨_, rfl, _, rfl, fNe_dd ⟨_, rfl, _, rfl, _, _, _, rfl, T.NA_image, rfl, tame_tB _, tame_tB _, tame_b _, tame_b _, _, rfl, iteF' (by rw [eqD, eqv_b]; simp) ?_⟩⟩
  refine ⟨_, rfl, _, rfl, fEq_dt T.NF_Disk ⟨_, rfl, iteF' rfl ?_⟩⟩
  obtain ⟨sh2, bl2, px2⟩ := blks_g (g := bD) (fun b => rfl) (p := .tuple (B.map bD)) rfl ok (by omega) (by omega)
  refine ⟨_, rfl, _, rfl, _, rfl, sh2, (fun q => absurd (bl2.symm.trans q) (by simp)), fun xs2 ex2 _ => ?_⟩
  obtain ⟨lx2, fx2⟩ := px2 xs2 ex2
  rw [fx2, lx2]
  refine fEq_dd ⟨_, rfl, iteF' (by simp) ?_⟩
  refine ⟨rfl, _, rfl, by omega, _, rfl, okM (m := m) (by omega) (by omega), fun y3 hy3 => ?_⟩
  obtain ⟨k4, rfl, k5⟩ := drew hy3 rfl
  have w4 : withinD (.int (k4 : Nat)) (some 0) (some ((m : Nat) - 1 : Int)) = true := by
    show (decide ((0 : Int) ≤ (k4 : Nat)) && decide (((k4 : Nat) : Int) ≤ (m : Nat) - 1)) = true
    rw [decide_eq_true (by omega), decide_eq_true (by omega)]
    rfl
  refine ⟨_, rfl, _, rfl, rfl, _, rfl, rfl, _, _, _, rfl, by omega, by rw [List.length_map]; exact hB, (fun q => absurd (w4.symm.trans q) (by simp)), fun k6 b ek eb => ?_⟩
  have ek : k4 = k6 := by
    injection ek with ek
    omega
  subst ek
  have hk4 : k4 < B.length := by omega
  have g4 : (B.map bD)[k4]? = some (bD B[k4]) := by rw [List.getElem?_map, List.getElem?_eq_getElem hk4]; rfl
  have eb : b = bD B[k4] := Option.some.inj (eb.symm.trans g4)
  subst eb
  have r4 := rep_bD (ok _ (List.getElem_mem hk4))
  refine ⟨_, rfl, r4, _, rfl, _, rfl, (k4 : Int), rfl, _, atI_nat g4, _, rfl, r4, _, _, rfl, rfl, _, rfl, iteT' (by simp) ?_⟩
  refine ⟨_, rfl, _, rfl, _, rfl, (fun q => absurd (wm.symm.trans q) (by simp)), fun m' em _ _ => ?_⟩
  have em : m = m' := by
    injection em with em
    omega
  subst em
  rw [Z_img]
  refine fEq_dd ⟨_, rfl, iteT' (decide_eq_true rfl) ?_⟩
  have zne : ∀ k, k ≠ m → decide (Z m = Z k) = false := fun k ne => decide_eq_false fun e => ne (by
    have := congrArg List.length e
    rw [Z_len, Z_len] at this
    exact this.symm)
  refine ⟨_, rfl, _, rfl, _, rfl, ite2 (fun h => ?_) (fun h => ?_)⟩
  · have h : (m : Int) < 512 := of_decide_eq_true h
    refine ⟨_, rfl, _, rfl, (fun q => absurd ((in_many (m := m + 1) (by omega) (by omega)).symm.trans q) (by simp)), fun m' em _ _ => ?_⟩
    have em : m' = m + 1 := by
      injection em with em
      omega
    subst em
    rw [Z_img]
    refine fEq_dd ⟨_, rfl, by omega, ?_⟩
    rw [zne _ (by omega)]
    rfl
  · have h : ¬ (m : Int) < 512 := fun z => h (decide_eq_true z)
    refine ⟨_, rfl, (fun q => absurd ((in_many (m := 8) (by omega) (by omega)).symm.trans q) (by simp)), fun m' em _ _ => ?_⟩
    have em : m' = 8 := by
      injection em with em
      omega
    subst em
    rw [Z_img]
    refine fEq_dd ⟨_, rfl, by omega, ?_⟩
    rw [zne _ (by omega)]
    rfl
end K04
set_option maxHeartbeats 4000000
namespace K04
open PySem L2 MT RZ StX

local macro_rules | `(tactic| walk_at "sm") => `(tactic| first | exact Same.refl _ | assumption | exact New.same (by assumption) | exact Same.trans (by assumption) (by walk_at "sm") | exact Same.trans (New.same (by assumption)) (by walk_at "sm"))
local macro_rules | `(tactic| walk_at "fr") => `(tactic| first | exact Frm.refl | assumption | exact frm_same (New.same (by assumption)) | exact frm_same (by assumption) | exact Frm.trans (by assumption) (by walk_at "fr") | exact Frm.trans (frm_same (New.same (by assumption))) (by walk_at "fr") | exact Frm.trans (frm_same (by assumption)) (by walk_at "fr"))
local macro_rules | `(tactic| walk_at "dv") => `(tactic| first | exact Dv.int _ | exact Dv.bl _ | exact Dv.non | exact Dv.str _ | assumption | exact Dv.same (by assumption) (by walk_at "sm") | exact Dv.mono (by assumption) (by walk_at "fr"))
local macro_rules | `(tactic| walk_at "dvs") => `(tactic| first | exact DvAll.nil | exact DvAll.ints _ | (refine DvAll.cons ?_ ?_; walk_at "dv"; walk_at "dvs"))

abbrev lamQ : Str := (("_law_refused_right" : Str) ++ ".<locals>.") ++ "<lambda>"
abbrev TSs (PT : Addr) : List (Addr × Str) := [(PT, lamQ)]
theorem uni1 {PT : Addr} : ∀ p ∈ TSs PT, p.1 = PT → p.2 = lamQ := fun p hp e => by rw [List.mem_singleton.mp hp]
def PRef : FD := fun ds R => ds = [] ∧ R (.bool true)


theorem heard_row {CN CB C : Addr} {x : PyData} {b : Bool} {ρ : List DS} {n : Nat} {Rn : List DS → Nat → Prop} {Rr : QD} (h7 : ρ[7]? = some (DS.d x)) (h8 : ρ[8]? = some (DS.d (.bool b))) (sh : shD x) (e : blksN x (.int 8) (.int 512) = b) (k : Rn ρ n) :
    qIfS (qB (qOp fNe (qHeardX (hxH CN CB) hrN (qxCall (POf CB C) (qCons (qVar 7) qNil))) (qIf (qB (qVar 8)) (qC PyData.none) (qTup (qCons (qC (PyData.str (Str.ofString "block"))) (qCons (qC (PyData.str (Str.ofString "image"))) qNil)))))) (qRet (qC (PyData.bool false))) qNilS ρ n Rn Rr := by
  have h7' : (ρ.map undr)[7]? = some (DS.d x) := by rw [List.getElem?_map, h7]; rfl
  refine ⟨_, h7', _, rfl, sh, fun q => ?_, fun xs ex bl => ?_⟩
  · rw [e] at q
    subst q
    exact ⟨_, .inr ⟨rfl, _, rfl, rfl⟩, _, h8, _, rfl, iteF' rfl ⟨by simp, by decide +kernel, by decide +kernel, _, rfl, iteF' (by decide +kernel) k⟩⟩
  · rw [e] at bl
    subst bl
    exact ⟨_, h8, _, rfl, iteT' rfl ⟨(show tame .none = true by decide), (show tame .none = true by decide), _, rfl, iteF' (show (!PyData.eqv .none .none) = false by decide +kernel) k⟩⟩
def okRow (x : PyData) : Prop := shD x ∧ ((∃ ys, x = .list ys) ∨ (isLstD x = false ∧ seqD x = none))
theorem okRow_l {ys : List PyData} (l : ys.length ≤ 10000000) (h : ∀ y ∈ ys, shortL y) : okRow (.list ys) := ⟨⟨fun xs e => by cases e; exact l, fun xs e => by cases e; exact h⟩, .inl ⟨ys, rfl⟩⟩
theorem okRow_n {x : PyData} (h1 : isLstD x = false) (h2 : seqD x = none) : okRow x := ⟨⟨fun xs e => (by rw [h2] at e; cases e), fun xs e => (by rw [h2] at e; cases e)⟩, .inr ⟨h1, h2⟩⟩
theorem cut_mem {xs : List PyData} {a b : Option Int} {x : PyData} (h : x ∈ cutD xs a b) : x ∈ xs := by
  unfold cutD at h
  exact List.mem_of_mem_drop (List.mem_of_mem_take h)
theorem bL_short {B : List (List Int)} (ok : ∀ b ∈ B, okBk b) : ∀ y ∈ B.map bL, shortL y := fun y m xs e => by
  obtain ⟨b, hb, rfl⟩ := List.mem_map.mp m
  cases e
  rw [List.length_map, (ok b hb).1]
  decide
theorem none_out {x : PyData} (h : x ∈ [PyData.int 7, .int 513, .int 0, .int (-8), .none, .bool true, .str "8", .list [.int 8], .int (10 ^ (20 : Int).toNat), .bool false]) : withinD x (some 8) (some 512) = false := by
  simp only [List.mem_cons, List.not_mem_nil, or_false] at h
  rcases h with rfl | rfl | rfl | rfl | rfl | rfl | rfl | rfl | rfl | rfl <;> first | rfl | decide +kernel
theorem add_ii {i j k : Int} {R : PyData → Prop} (e : i + j = k) (r : R (.int k)) : fAdd (.int i) (.int j) R := by
  subst e
  exact r
theorem fn_yes {i n : Nat} {x : PyData} {ρ : List DS} {R : List DS → Bool → Nat → Prop} (h : R (ρ.set i (.d x)) true n) : fName i x ρ fun ρ' => qYes ρ' n (R ρ') := h
theorem none_empty : ∀ xs : List PyData, (xs.filter fun _ => false) = []
  | [] => rfl
  | x :: xs => none_empty xs
theorem all_not : ∀ xs : List PyData, (xs.filter fun y => !blkD y).isEmpty = xs.all blkD
  | [] => rfl
  | x :: xs => by
    rw [List.all_cons, List.filter_cons]
    cases h : blkD x with
    | true => exact all_not xs
    | false => rfl
theorem rows_right {CN CB C : Addr} {rows : List PyData} (hr : ∀ x ∈ rows, okRow x) {a1 a2 a3 a4 a5 a7 a8 a9 : DS} {n : Nat} {Rn : List DS → Nat → Prop} {Rr : QD} (k : Rr (.bool true) n) :
    qSeq
      (qFor (fName 7) (qItU (qVar 6))
        (qSeq
          (qSet 8
            (qAndV (qIs isLstD (qVar 7))
              (qAndV
                (qChain (fOrd (fun i j => decide (i ≤ j)) fun a b => !ltS b a) (fOrd (fun i j => decide (i ≤ j)) fun a b => !ltS b a) (qC (PyData.int 8)) (qCB fLen (qCons (qVar 7) qNil)) (qC (PyData.int 512)))
                (qOp fEqL (qLc [9] (fName 9) (qItU (qVar 7)) (qNot (qB (qCB (Fn1 shortL fun d => PyData.bool (blkD d)) (qCons (qVar 9) qNil)))) (qVar 9)) (qLst qNil)))))
          (qIfS
            (qB
              (qOp fNe (qHeardX (hxH CN CB) hrN (qxCall (POf CB C) (qCons (qVar 7) qNil)))
                (qIf (qB (qVar 8)) (qC PyData.none) (qTup (qCons (qC (PyData.str (Str.ofString "block"))) (qCons (qC (PyData.str (Str.ofString "image"))) qNil))))))
            (qRet (qC (PyData.bool false))) qNilS)))
      (qRet (qC (PyData.bool true))) [.dr, a1, a2, a3, a4, a5, .d (.list rows), a7, a8, a9] n Rn Rr := by
  refine ⟨_, rfl, rows, rfl, fun i ρ m => m = n ∧ ∃ z7 z8, ρ = [.dr, a1, a2, a3, a4, a5, .d (.list rows), z7, z8, a9], ⟨rfl, _, _, rfl⟩, ?_, ?_⟩
  · rintro i x ρ m hx ⟨rfl, z7, z8, rfl⟩
    obtain ⟨sh, hc⟩ := hr x (List.mem_of_getElem? hx)
    rcases hc with ⟨ys, rfl⟩ | ⟨h1, h2⟩
    · have hb : blksN (.list ys) (.int 8) (.int 512) = (withinD (.int (ys.length : Nat)) (some 8) (some 512) && ys.all blkD) := rfl
      refine ⟨_, rfl, _, rfl, iteT' rfl (q_len_btw rfl rfl ⟨_, rfl, ite2 (fun h => ?_) (fun h => ?_)⟩)⟩
      · have h : withinD (.int (ys.length : Nat)) (some 8) (some 512) = true := h
        refine ⟨_, rfl, ys, rfl, lc_pure (fun y => !blkD y) id (sh.1 ys rfl) (fun y hy Ky Kn ky kn => ?_) ?_⟩
        · refine ⟨_, rfl, _, rfl, sh.2 ys rfl y hy, _, rfl, ite2 (fun z => ?_) (fun z => ?_)⟩
          · exact ⟨_, rfl, ky z⟩
          · exact kn (bfalse z)
        · refine ⟨Nat.zero_le _, _, rfl, rfl, heard_row rfl rfl sh ?_ ⟨rfl, _, _, rfl⟩⟩
          rw [hb, h, Bool.true_and, List.map_id, all_not]
      · have h : withinD (.int (ys.length : Nat)) (some 8) (some 512) = false := bfalse h
        exact heard_row rfl rfl sh (by rw [hb, h, Bool.false_and]) ⟨rfl, _, _, rfl⟩
    · refine ⟨_, rfl, _, rfl, iteF' h1 (heard_row rfl rfl sh ?_ ⟨rfl, _, _, rfl⟩)⟩
      unfold blksN
      rw [h2]
  · rintro ρ m ⟨rfl, z7, z8, rfl⟩
    exact k

theorem ok__law_refused_right {P : Program} {w : World} {K : PySem.W.Frag} {mg : Str → Option Value} {base : Heap} {fa : Nat → Addr} {fd : Nat → FuncData} {c PT : Addr} (T : Txt K mg fa fd) (TB : LamX.TabB base mg c PT)
    {oc kV doc pm ct : Value} {od an : Option Addr} {osl : Array (Option Value)} (lk : K.lookup (fa 33) = some ⟨oc, od, .func (PySem.W.fnOf "_law_refused_right" "_law_refused_right" (defArgs s__law_refused_right) (defBody s__law_refused_right) (defScope s__law_refused_right) .none kV doc pm an (.ref c) ct), osl⟩)
    (hcd : PySem.W.codeIn K (.ref c) "_law_refused_right" = true) : FnG P w K mg base CX0 14 (fa 33) (PySem.W.fnOf "_law_refused_right" "_law_refused_right" (defArgs s__law_refused_right) (defBody s__law_refused_right) (defScope s__law_refused_right) .none kV doc pm an (.ref c) ct) ["crib"] (spDL K (TSs PT) 300 PRef) := by
  have nd := sc__law_refused_right.nd
  obtain ⟨ocH, odH, kVH, docH, pmH, anH, cdH, ctH, oslH, eH, lkH, cgH⟩ := T.F__law_heard.ex
  have bH := T.b__law_heard
  rw [eH] at bH
  rw [eH] at lkH
  refine fnG_of lk hcd sc__law_refused_right (fun vs H Q E h => dllenG h fun ds R p => by obtain ⟨rfl, r⟩ := p; rfl) fun A outer s H vs Q E hq hr h => ?_
  refine ⟨_, (pss1 (TS := TSs PT) (dss_cons (pss_cons (ds_set (ps_set (i := 1) nd rfl (Or.inl rfl) (de_lst (pe_lstN (da_cons (pa_cons (de_int pe_int) (da_cons (pa_cons (de_int pe_int) (da_cons (pa_cons (de_int pe_int) (da_cons (pa_cons (de_neg (pe_un un_neg (de_int pe_int))) (da_cons (pa_cons (de_non pe_non) (da_cons (pa_cons (de_bl pe_bl) (da_cons (pa_cons (de_str pe_str) (da_cons (pa_cons (de_lst (pe_lstN (da_cons (pa_cons (de_int pe_int) (da_nil pa_nil))))) (da_cons (pa_cons (de_op fit_pow (pe_op op_powL (de_int pe_int) (de_int pe_int))) (da_cons (pa_cons (de_bl pe_bl) (da_nil pa_nil)))))))))))))))))))))))))
      (dss_cons (pss_cons (ds_if (ps_if (dt_cmp fit_neL (pt_cmpR (op_neL (Nat.lt_of_le_of_lt (Nat.le_add_right _ 64) hr.units)) (de_lc fit_name (pe_lc (own := [("value", 7)]) (by rfl) nd (di_U (pi_U (de_var (pv 1)))) (blkOk_by (N := sl__law_refused_right) (sc := defScope s__law_refused_right) (by decide +kernel)) (fun _ _ _ _ _ => (pg_name (i := 7) nd rfl (Or.inr rfl))) (fun _ _ _ _ _ => (pts_one (dt_cmp fit_ne (pt_cmpR (op_neD hr.units) (de_heardX (nf_call (g := fa 31) (TT := TTs K (hxH (fa 13) (fa 14)) hrN) (TS := TSs PT) (m := 11) (Ng := sl__law_heard) rfl T.g__law_heard T.F__law_heard.kp lkH cgH bH sc__law_heard rfl (Or.inl rfl) (heard_gives T) TB rfl List.mem_cons_self uni1 hr (lamS_blk (by decide +kernel)) rfl (fun _ _ _ _ _ => rfl) (fun A outer s H E f c' hr => (dxe_make T.O_Disk (pe_make T.MK_Disk (ok_Disk_init T) (hr.mono (by decide)) rfl T.G_Disk T.b_Disk_init .nil (passes_call (W := fun cls d _ H => E cls d H) (takes_of rfl rfl rfl rfl) (fun _ _ _ _ z => z)) (da_cons (pa_cons (de_var (pv 7)) (da_nil pa_nil)))))))) (de_tup (pe_tupN (da_cons (pa_cons (de_str pe_str) (da_cons (pa_cons (de_str pe_str) (da_nil pa_nil))))))) (nomark _))))) (fun _ _ _ _ _ => (de_var (pv 7))))) (de_lst (pe_lstN (da_nil pa_nil))) (nomark _)))
        (pss_one (ds_ret (ps_ret (de_bl pe_bl))))
        (dss_nil pss_nil)))
      (dss_cons (pss_cons (ds_set (ps_set (i := 2) nd rfl (Or.inl rfl) (de_op fit_add (pe_op op_addU (de_int pe_int) (de_draw (pe_call (okd__law_pluck T) (hr.mono (by decide)) rfl T.g__law_pluck T.F__law_pluck.kp T.b__law_pluck .nil pass0 (pa_cons (pv 0) (da_cons (pa_cons (de_int pe_int) (da_nil pa_nil))))))))))
      (dss_cons (pss_cons (ds_setLc fit_name (ps_setLc (i := 3) (own := [("at", 5)]) (by rfl) nd rfl rfl (sw_true rfl rfl rfl (by decide +kernel)) (di_1 (pi_range1 rfl T.n_range (da_cons (pa_cons (de_var (pv 2)) (da_nil pa_nil))))) (blkOk_by (N := sl__law_refused_right) (sc := defScope s__law_refused_right) (by decide +kernel)) (fun _ _ _ _ _ => (pg_name (i := 5) nd rfl (Or.inl rfl))) (fun _ _ _ _ _ => (dts_nil pts_nil)) (fun _ _ _ _ _ => (d_q (dq_draw (pe_call (ok__law_block T) (hr.mono (by decide)) rfl T.g__law_block T.F__law_block.kp T.b__law_block .nil pass0 (pa_cons (pv 0) (da_nil pa_nil))))))))
      (dss_cons (pss_cons (ds_set (ps_set (i := 4) nd rfl (Or.inl rfl) (de_draw (pe_call (ok__law_bent T) (hr.mono (by decide)) rfl T.g__law_bent T.F__law_bent.kp T.b__law_bent .nil pass0 (pa_cons (pv 0) (da_cons (pa_cons (de_ix (pe_ix ix_U (de_var (pv 3)) (de_int pe_int) (fun _ _ => rfl))) (da_nil pa_nil))))))))
      (dss_cons (pss_cons (ds_set (ps_set (i := 5) nd rfl (Or.inl rfl) (de_draw (pe_call (okd__law_pluck T) (hr.mono (by decide)) rfl T.g__law_pluck T.F__law_pluck.kp T.b__law_pluck .nil pass0 (pa_cons (pv 0) (da_cons (pa_cons (de_var (pv 2)) (da_nil pa_nil))))))))
      (dss_cons (pss_cons (ds_set (ps_set (i := 6) nd rfl (Or.inl rfl) (de_lst (pe_lstN (da_cons (pa_cons (de_op fit_add (pe_op op_addU (de_op fit_add (pe_op op_addU (de_sl fit_sl (pe_slice sl_U (de_var (pv 3)) (do_none po_none) (do_some (po_some (de_var (pv 5)))))) (de_lst (pe_lstN (da_cons (pa_cons (de_var (pv 4)) (da_nil pa_nil))))))) (de_sl fit_sl (pe_slice sl_U (de_var (pv 3)) (do_some (po_some (de_op fit_add (pe_op op_addU (de_var (pv 5)) (de_int pe_int))))) (do_none po_none))))) (da_cons (pa_cons (de_sl fit_sl (pe_slice sl_U (de_var (pv 3)) (do_none po_none) (do_some (po_some (de_int pe_int))))) (da_cons (pa_cons (de_op fit_mul (pe_op op_mulU (de_lst (pe_lstN (da_cons (pa_cons (de_op fit_mul (pe_op op_mulU (de_lst (pe_lstN (da_cons (pa_cons (de_int pe_int) (da_nil pa_nil))))) (de_int pe_int))) (da_nil pa_nil))))) (de_int pe_int))) (da_cons (pa_cons (de_lst (pe_lstN (da_nil pa_nil))) (da_cons (pa_cons (de_non pe_non) (da_cons (pa_cons (de_int pe_int) (da_cons (pa_cons (de_str pe_str) (da_cons (pa_cons (de_d0 pe_dnewK) (da_cons (pa_cons (de_ix (pe_ix ix_U (de_var (pv 3)) (de_int pe_int) (fun _ _ => rfl))) (da_cons (pa_cons (de_ofX (dxe_make T.O_Disk (pe_make T.MK_Disk (ok_Disk_init T) (hr.mono (by decide)) rfl T.G_Disk T.b_Disk_init .nil passL (da_cons (pa_cons (de_int pe_int) (da_nil pa_nil)))))) (da_cons (pa_cons (de_bl pe_bl) (da_nil pa_nil)))))))))))))))))))))))))))
      (dss_cons (pss_cons (ds_for fit_name (ps_for PassesOwn.never rfl (di_U (pi_U (de_var (pv 6)))) (pg_name (i := 7) nd rfl (Or.inr rfl))
        (dss_cons (pss_cons (ds_set (ps_set (i := 8) nd rfl (Or.inl rfl) (de_and (pe_and (de_isi_list (pe_callB call_isiY (by rfl) T.n_isinstance (by decide +kernel) (pa_cons (de_var (pv 7)) (pa_cons (pe_bltn (v := .ty "list") (u := .type "list") (by rfl) T.n_list (by decide +kernel) rfl) pa_nil)))) (de_and (pe_and (de_chain fit_ord fit_ord (pe_chain op_leU op_leU (de_int pe_int) (de_cb fit_len (pe_callB call_lenU (by rfl) T.n_len (by decide +kernel) (da_cons (pa_cons (de_var (pv 7)) (da_nil pa_nil))))) (de_int pe_int))) (pe_one (de_op fit_eqL (pe_cmpR (op_eqL (Nat.lt_of_le_of_lt (Nat.le_add_right _ 64) hr.units)) (de_lc fit_name (pe_lc (own := [("block", 9)]) (by rfl) nd (di_U (pi_U (de_var (pv 7)))) (blkOk_by (N := sl__law_refused_right) (sc := defScope s__law_refused_right) (by decide +kernel)) (fun _ _ _ _ _ => (pg_name (i := 9) nd rfl (Or.inl rfl))) (fun _ _ _ _ _ => (pts_one (dt_not (pt_not (dt_val (pt_val (de_call (pe_call (ok__law_is_block T) (hr.mono (by decide)) rfl T.g__law_is_block T.F__law_is_block.kp T.b__law_is_block .nil pass0 (da_cons (pa_cons (de_var (pv 9)) (da_nil pa_nil))))))))))) (fun _ _ _ _ _ => (de_var (pv 9))))) (de_lst (pe_lstN (da_nil pa_nil))) (nomark _))))))))))
      (pss_one (ds_if (ps_if (dt_cmp fit_ne (pt_cmpR (op_neD hr.units) (de_heardX (nf_call (g := fa 31) (TT := TTs K (hxH (fa 13) (fa 14)) hrN) (TS := TSs PT) (m := 11) (Ng := sl__law_heard) rfl T.g__law_heard T.F__law_heard.kp lkH cgH bH sc__law_heard rfl (Or.inl rfl) (heard_gives T) TB rfl List.mem_cons_self uni1 hr (LamX.lamS_by (sc := defScope s__law_refused_right) (by decide +kernel)) rfl (fun _ _ _ _ _ => rfl) (fun A outer s H E f c' hr => (dxe_call (pe_static rfl T.G_Disk T.SM_of.choose_spec (ok_Disk_of T) (hr.mono (by decide)) T.b_Disk_of (passes_call (W := fun cls d _ H => E cls d H) (takes_of rfl rfl rfl rfl) (fun _ _ _ _ z => z)) (da_cons (pa_cons (de_var (pv 7)) (da_nil pa_nil)))))))) (de_if (pe_ifExp (dt_val (pt_val (de_var (pv 8)))) (de_non pe_non) (de_tup (pe_tupN (da_cons (pa_cons (de_str pe_str) (da_cons (pa_cons (de_str pe_str) (da_nil pa_nil))))))))) (nomark _)))
        (pss_one (ds_ret (ps_ret (de_bl pe_bl))))
        (dss_nil pss_nil))))))))
      (pss_one (ds_ret (ps_ret (de_bl pe_bl))))))))))))))))))))), ?_⟩
  refine lamDG h ?_
  rintro n ds R hn ⟨rfl, r⟩
  refine ⟨8, rfl, by simp, ⟨by decide, by decide, by decide⟩, by simp, ?_⟩
  refine ⟨_, rfl, _, rfl, lc_pure (fun _ => false) id (by simp) (fun x hx Ky Kn ky kn => ?_) ?_⟩
  · have hw := none_out hx
    exact ⟨_, rfl, _, rfl, (fun _ => ⟨_, .inl ⟨rfl, _, rfl, rfl⟩, by simp, by decide +kernel, by decide +kernel, _, rfl, iteF' (by decide +kernel) (kn rfl)⟩), fun m e a b => absurd (in_many a b) (by rw [← e, hw]; simp)⟩
  rw [none_empty]
  refine ⟨Nat.zero_le _, _, rfl, rfl, _, rfl, iteF' rfl ?_⟩
  refine ⟨rfl, by omega, _, rfl, okM (m := 9) (by decide) (by decide), fun y1 hy1 => ?_⟩
  obtain ⟨j, rfl, j1⟩ := drew hy1 rfl
  obtain ⟨M, eM, M1, M2⟩ : ∃ M : Nat, (8 + (j : Int)) = (M : Nat) ∧ 8 ≤ M ∧ M ≤ 16 := ⟨8 + j, by omega, by omega, by omega⟩
  refine add_ii eM ?_
  refine ⟨_, rfl, (M : Int), rfl, by omega, by omega, by rw [rng_len]; omega, fun i acc c => c ≤ n + 1 + 10 * i ∧ ∃ B : List (List Int), acc = B.map bL ∧ B.length = i ∧ ∀ b ∈ B, okBk b, ⟨by omega, [], rfl, rfl, fun b m => by simp at m⟩, ?_, ?_⟩
  · rintro i x acc c3 hx ⟨hc, B, rfl, lB, ok⟩
    obtain ⟨hi, rfl⟩ := rng_at hx
    have iM : i < M := by omega
    refine fn_yes ?_
    refine iteT' rfl ?_
    refine ⟨rfl, by omega, rfl, fun y ⟨b, eb, hb⟩ => ⟨_, eb, by omega, B ++ [b], ?_, by rw [List.length_append, lB]; rfl, fun a ma => (List.mem_append.mp ma).elim (ok a) fun e => by rw [List.mem_singleton.mp e]; exact hb⟩⟩
    rw [List.map_append]
    rfl
  rintro acc c3 ⟨hc, B, rfl, lB, ok⟩ _
  rw [rng_len] at hc lB
  have lM : B.length = M := by omega
  have g0 : atI (B.map bL) 0 = some (bL (B.getD 0 [])) := by
    have h0 : 0 < B.length := by omega
    have e : (B.map bL)[0]? = some (bL (B.getD 0 [])) := by
      rw [List.getElem?_map, List.getD_eq_getElem?_getD, List.getElem?_eq_getElem h0]
      rfl
    exact atI_nat e
  have ok0 : okBk (B.getD 0 []) := by
    have h0 : 0 < B.length := by omega
    rw [List.getD_eq_getElem?_getD, List.getElem?_eq_getElem h0]
    exact ok _ (List.getElem_mem h0)
  have sB := bL_short ok
  refine ⟨rfl, _, rfl, (0 : Int), rfl, _, g0, by omega, _, rfl, ⟨_, rfl, ok0⟩, fun y2 hy2 => ?_⟩
  have s2 := sh_of hy2
  refine ⟨rfl, _, rfl, by omega, _, rfl, okM (m := M) (by omega) (by omega), fun y3 hy3 => ?_⟩
  obtain ⟨k, rfl, k1⟩ := drew hy3 rfl
  have hl : ∀ a c, (cutD (B.map bL) a c).length ≤ 16 := fun a c => by
    have := cut_le (B.map bL) a c
    rw [List.length_map] at this
    omega
  refine ⟨_, rfl, _, rfl, _, rfl, fSl_lst rfl ⟨_, rfl, by simp, Nat.le_trans (Nat.add_le_add (hl _ _) (Nat.le_refl 1)) (by decide), _, rfl, _, rfl, _, rfl, q_noO (fSl_lst rfl ⟨?_, ?_⟩)⟩⟩
  · rw [List.length_append]; exact Nat.le_trans (Nat.add_le_add (Nat.add_le_add (hl _ _) (Nat.le_refl 1)) (hl _ _)) (by decide)
  refine ⟨_, rfl, _, rfl, fSl_lst rfl ?_⟩
  refine ⟨by simp, ⟨by decide, by decide, by simp⟩, by simp, ⟨by decide, by decide, by simp⟩, by simp, _, rfl, (0 : Int), rfl, _, g0, _, rfl, (fun q => absurd ((in_many (m := 8) (by omega) (by omega)).symm.trans q) (by simp)), fun m' em _ _ => ?_⟩
  have em : m' = 8 := by
    injection em with em
    omega
  subst em
  refine ⟨by simp, ?_⟩
  refine rows_right (fun x hx => ?_) ⟨by omega, r⟩
  simp only [List.mem_cons, List.not_mem_nil, or_false] at hx
  rcases hx with rfl | rfl | rfl | rfl | rfl | rfl | rfl | rfl | rfl | rfl | rfl
  · refine okRow_l ?_ fun y my => ?_
    · rw [List.length_append, List.length_append]; exact Nat.le_trans (Nat.add_le_add (Nat.add_le_add (hl _ _) (Nat.le_refl 1)) (hl _ _)) (by decide)
    · rcases List.mem_append.mp my with my | my
      · rcases List.mem_append.mp my with my | my
        · exact sB y (cut_mem my)
        · rw [List.mem_singleton.mp my]; exact s2
      · exact sB y (cut_mem my)
  · exact okRow_l (Nat.le_trans (hl _ _) (by decide)) fun y my => sB y (cut_mem my)
  · rw [flat1]
    refine okRow_l (by simp) fun y my => ?_
    rw [(List.mem_replicate.mp my).2]
    exact sh_of (by decide +kernel)
  · exact okRow_l (by simp) fun y my => by simp at my
  · exact okRow_n rfl rfl
  · exact okRow_n rfl rfl
  · exact okRow_n rfl rfl
  · exact okRow_n rfl rfl
  · refine okRow_l (by rw [List.length_map, ok0.1]; decide) fun y my => ?_
    obtain ⟨i, _, rfl⟩ := List.mem_map.mp my
    exact fun xs e => by cases e
  · exact okRow_n rfl rfl
  · exact okRow_n rfl rfl
end K04
set_option maxHeartbeats 4000000
namespace K04
open PySem L2 MT RZ StX

local macro_rules | `(tactic| walk_at "sm") => `(tactic| first | exact Same.refl _ | assumption | exact New.same (by assumption) | exact Same.trans (by assumption) (by walk_at "sm") | exact Same.trans (New.same (by assumption)) (by walk_at "sm"))
local macro_rules | `(tactic| walk_at "fr") => `(tactic| first | exact Frm.refl | assumption | exact frm_same (New.same (by assumption)) | exact frm_same (by assumption) | exact Frm.trans (by assumption) (by walk_at "fr") | exact Frm.trans (frm_same (New.same (by assumption))) (by walk_at "fr") | exact Frm.trans (frm_same (by assumption)) (by walk_at "fr"))
local macro_rules | `(tactic| walk_at "dv") => `(tactic| first | exact Dv.int _ | exact Dv.bl _ | exact Dv.non | exact Dv.str _ | assumption | exact Dv.same (by assumption) (by walk_at "sm") | exact Dv.mono (by assumption) (by walk_at "fr"))
local macro_rules | `(tactic| walk_at "dvs") => `(tactic| first | exact DvAll.nil | exact DvAll.ints _ | (refine DvAll.cons ?_ ?_; walk_at "dv"; walk_at "dvs"))

def spLawT (K : PySem.W.Frag) (PT : Addr) : Sp := fun vs H Q _ => ∃ (a : Addr) (ns : List Int), vs = [.ref a] ∧ SqL K H a (ns.map V.int) ∧ ns.length ≤ 63 ∧ H PT = some (.tbl #[]) ∧ ∀ H', Q (.bl true) H'
theorem q_scrIf {i n : Nat} {x y : PyData} {ρ : List DS} {R : QD} (h : ρ[i]? = some DS.fz) (k : ∀ z, z = x ∨ z = y → R z n) : qIf (qB (qScr i)) (qC x) (qC y) ρ n R := by
  refine ⟨h, fun b => ⟨b, rfl, ?_⟩⟩
  cases b with
  | true => exact k _ (.inl rfl)
  | false => exact k _ (.inr rfl)
theorem one_rep (a : Bool) : okRepW (.bool a) := ⟨by simp [toldD], by simp [PyData.showable], by simp [PyData.depth], PyData.shown_fits (B := 13) (by decide) (by decide) (by simp [PyData.leavesShort]) (by simp [PyData.weight])⟩
theorem tabs_one {H : Hp} {PT : Addr} (h1 : H PT = some (.tbl #[])) : LamX.Tabs (TSs PT) H := fun p hp => by
  rw [List.mem_singleton.mp hp]; exact LamX.TabS.nil h1

theorem ok_law {P : Program} {w : World} {K : PySem.W.Frag} {mg : Str → Option Value} {base : Heap} {fa : Nat → Addr} {fd : Nat → FuncData} {PT : Addr} (T : Txt K mg fa fd) (G1 : FnG P w K mg base CX0 14 (fa 33) (fd 33) ["crib"] (spDL K (TSs PT) 300 PRef)) : FnG P w K mg base CX0 18 (fa 34) (fd 34) ["script"] (spLawT K PT) := by
  have nd := sc_law.nd
  refine okGn T.F_law sc_law (fun vs H Q E h => by obtain ⟨a, ns, rfl, _⟩ := h; rfl) fun cdv A outer s H vs Q E hq hr h => ?_
  obtain ⟨a0, ns0, rfl, hS, hlen, hP, k⟩ := h
  refine ⟨_, pss_cons (ps_set (i := 1) nd rfl (Or.inl rfl) (pe_call (ok__law_crib T) (hr.mono (by decide)) rfl T.g__law_crib T.F__law_crib.kp T.b__law_crib .nil pass0 (pa_cons (pv 0) pa_nil))) (pss1 (TS := TSs PT) (dss_cons (pss_cons (ds_for fit_name (ps_for PassesOwn.never rfl (di_1 (pi_range1 rfl T.n_range (da_cons (pa_cons (de_if (pe_ifExp (dt_scrE (pt_cmpR (op_eqL (Nat.lt_of_le_of_lt (Nat.le_add_right _ 64) hr.units)) (pv 0) (pe_lstN pa_nil) (nomark _))) (de_int pe_int) (de_int pe_int))) (da_nil pa_nil))))) (pg_name (i := 2) nd rfl (Or.inl rfl))
          (dss_cons (pss_cons (ds_set (ps_set (i := 3) nd rfl (Or.inl rfl) (d_q (dq_draw (pe_call (ok__law_block T) (hr.mono (by decide)) rfl T.g__law_block T.F__law_block.kp T.b__law_block .nil pass0 (pa_cons (pv 1) (da_nil pa_nil)))))))
        (dss_cons (pss_cons (ds_set (ps_set (i := 4) nd rfl (Or.inl rfl) (de_draw (pe_call (ok__law_bent T) (hr.mono (by decide)) rfl T.g__law_bent T.F__law_bent.kp T.b__law_bent .nil pass0 (pa_cons (pv 1) (da_cons (pa_cons (de_var (pv 3)) (da_nil pa_nil))))))))
        (pss_one (ds_if (ps_if (PW.pt (dw_or (pw_or (dt_cmp fit_not (pt_cmpR op_notU (de_call (pe_call (ok_is_block T) (hr.mono (by decide)) rfl T.g_is_block T.F_is_block.kp T.b_is_block .nil pass0 (da_cons (pa_cons (de_var (pv 3)) (da_nil pa_nil))))) (de_bl pe_bl) (nomark _))) (dw_or (pw_or (dt_cmp fit_not (pt_cmpR op_notU (de_call (pe_call (ok_is_block T) (hr.mono (by decide)) rfl T.g_is_block T.F_is_block.kp T.b_is_block .nil pass0 (da_cons (pa_cons (de_cb fit_tuple (pe_callTy call_tuple_ofN (by rfl) T.n_tuple (by decide +kernel) (da_cons (pa_cons (de_var (pv 3)) (da_nil pa_nil))))) (da_nil pa_nil))))) (de_bl pe_bl) (nomark _))) (pw_or1 (dt_cmp fit_neS (pt_cmpR op_ne (de_cb fit_reprW (pe_callB (call_reprW hq hr) (by rfl) T.n_repr (by decide +kernel) (da_cons (pa_cons (de_callN0 dg_is_block_value (pe_callN0 (ok_is_block T) (hr.mono (by decide)) rfl T.g_is_block T.F_is_block.kp T.kb_is_block_value pass0 (dk_cons (pk_cons (de_var (pv 4)) (dk_nil pk_nil))))) (da_nil pa_nil))))) (de_cb fit_reprW (pe_callB (call_reprW hq hr) (by rfl) T.n_repr (by decide +kernel) (da_cons (pa_cons (de_call (pe_call (ok__law_is_block T) (hr.mono (by decide)) rfl T.g__law_is_block T.F__law_is_block.kp T.b__law_is_block .nil pass0 (da_cons (pa_cons (de_var (pv 4)) (da_nil pa_nil))))) (da_nil pa_nil))))) (nomark _)))))))))
          (pss_one (ds_ret (ps_ret (de_bl pe_bl))))
          (dss_nil pss_nil))))))))))
        (dss_cons (pss_cons (ds_for fit_name (ps_for PassesOwn.never rfl (di_U (pi_U (de_tup (pe_tupN (da_cons (pa_cons (de_int pe_int) (da_cons (pa_cons (de_draw (pe_call (ok__law_one T) (hr.mono (by decide)) rfl T.g__law_one T.F__law_one.kp T.b__law_one .nil pass0 (pa_cons (pv 1) (da_cons (pa_cons (de_lst (pe_lstN (da_cons (pa_cons (de_int pe_int) (da_cons (pa_cons (de_int pe_int) (da_cons (pa_cons (de_int pe_int) (da_cons (pa_cons (de_if (pe_ifExp (dt_scrN (pt_cmpR (op_neL (Nat.lt_of_le_of_lt (Nat.le_add_right _ 64) hr.units)) (pv 0) (pe_lstN pa_nil) (nomark _))) (de_int pe_int) (de_int pe_int))) (da_nil pa_nil))))))))))) (da_nil pa_nil)))))) (da_nil pa_nil))))))))) (pg_name (i := 5) nd rfl (Or.inl rfl))
          (pss_one (ds_if (ps_if (dt_not (pt_not (dt_val (pt_val (de_draw (pe_callG (ok__law_made_right T) hq (hr.mono (by decide)) rfl T.g__law_made_right T.F__law_made_right.kp T.b__law_made_right .nil pass0 (pa_cons (pv 1) (da_cons (pa_cons (de_var (pv 5)) (da_nil pa_nil))))))))))
          (pss_one (ds_ret (ps_ret (de_bl pe_bl))))
          (dss_nil pss_nil))))))
        (pss_one (ds_ret (ps_ret (de_drawL (pe_callG G1 hq (hr.mono (by decide)) rfl T.g__law_refused_right T.F__law_refused_right.kp T.b__law_refused_right .nil pass0 (pa_cons (pv 1) (da_nil pa_nil)))))))))))), ?_⟩
  refine ⟨_, rfl, a0, ns0, rfl, hS, hlen, fun p b cs H1 s1 S1 hp => ?_⟩
  have tb : LamX.Tabs (TSs PT) H1 := tabs_same (tabs_one hP) s1
  refine (show tDs K (some (TSs PT)) _ { nx := fun _ H' => Q .non H', rt := Q } (some (.ref a0) :: some (.ref p) :: List.replicate 4 none) H1 from law_lamZ S1 tb hS hp s1 k ?_)
  refine q_scrIf rfl fun z hz => ?_
  obtain ⟨j, rfl, j1⟩ : ∃ j : Nat, z = .int (j : Nat) ∧ j ≤ 12 := hz.elim (fun e => ⟨3, e, by decide⟩) fun e => ⟨12, e, by decide⟩
  refine ⟨(j : Nat), rfl, by omega, by omega, fun i ρ m => m ≤ 14 * i ∧ ∃ z2 z3 z4 z5, ρ = [.fz, .dr, z2, z3, z4, z5], ⟨by omega, _, _, _, _, rfl⟩, ?_, ?_⟩
  · rintro i x ρ m hx ⟨hm, z2, z3, z4, z5, rfl⟩
    obtain ⟨hi, rfl⟩ := rng_at hx
    have i12 : i < 12 := by omega
    refine ⟨rfl, by omega, rfl, fun y ⟨b, eb, hb⟩ => ⟨_, eb, rfl, _, rfl, by omega, _, rfl, ⟨b, rfl, hb⟩, fun y2 hy2 => ?_⟩⟩
    have sh := sh_of hy2
    have s1 : shortL (.list (b.map PyData.int)) := fun xs e => by
      cases e
      rw [List.length_map, hb.1]
      decide
    have s2 : shortL (.tuple (b.map PyData.int)) := fun xs e => by
      cases e
      rw [List.length_map, hb.1]
      decide
    have b1 : blkD (.list (b.map PyData.int)) = true := blk_ok rfl hb
    have b2 : blkD (.tuple (b.map PyData.int)) = true := blk_ok rfl hb
    have rB : okRepW (.bool (blkD y2)) := one_rep _
    refine ⟨_, rfl, _, rfl, s1, _, rfl, _, rfl, iteF' (by rw [b1]; rfl) ?_⟩
    refine ⟨_, rfl, _, rfl, s2, _, rfl, _, rfl, iteF' (by rw [b2]; rfl) ?_⟩
    refine ⟨_, rfl, rfl, rfl, _, rfl, sh, _, rfl, rB, _, rfl, _, rfl, sh, _, rfl, rB, _, _, rfl, rfl, _, rfl, iteF' (by simp) ?_⟩
    exact ⟨by omega, _, _, _, _, rfl⟩
  rintro ρ m ⟨hm, z2, z3, z4, z5, rfl⟩
  rw [rng_len] at hm
  have hm : m ≤ 168 := by omega
  refine ⟨rfl, q_scrIf rfl fun z hz => ?_⟩
  refine ⟨by simp, by omega, _, rfl, some_ok (by simp) (by simp), fun y hy => ?_⟩
  have mk : ∀ k : Nat, 8 ≤ k → k ≤ 512 → ∃ m : Nat, PyData.int (k : Nat) = .int (m : Nat) ∧ 8 ≤ m ∧ m ≤ 512 := fun k a b => ⟨k, rfl, a, b⟩
  have hy : ∃ m : Nat, y = .int (m : Nat) ∧ 8 ≤ m ∧ m ≤ 512 := one_p (p := fun y => ∃ m : Nat, y = .int (m : Nat) ∧ 8 ≤ m ∧ m ≤ 512) hy fun w mw => by
    simp only [List.mem_cons, List.not_mem_nil, or_false] at mw
    rcases mw with rfl | rfl | rfl | rfl
    · exact mk 9 (by decide) (by decide)
    · exact mk 12 (by decide) (by decide)
    · exact mk 33 (by decide) (by decide)
    · rcases hz with rfl | rfl
      · exact mk 512 (by decide) (by decide)
      · exact mk 10 (by decide) (by decide)
  refine ⟨by simp, _, rfl, fun i ρ m => m ≤ 169 + 120 * i ∧ ∃ z2 z3 z4 z5, ρ = [.fz, .dr, z2, z3, z4, z5], ⟨by omega, _, _, _, _, rfl⟩, ?_, ?_⟩
  · rintro i x ρ m hx ⟨hm, z2, z3, z4, z5, rfl⟩
    have mx := List.mem_of_getElem? hx
    have li : i < 2 := (List.getElem?_eq_some_iff.mp hx).1
    have hx : ∃ m : Nat, x = .int (m : Nat) ∧ 8 ≤ m ∧ m ≤ 512 := by
      simp only [List.mem_cons, List.not_mem_nil, or_false] at mx
      rcases mx with rfl | rfl
      · exact mk 8 (by decide) (by decide)
      · exact hy
    refine ⟨rfl, _, rfl, by omega, _, rfl, hx, fun y ey => ?_⟩
    subst ey
    exact ⟨_, rfl, iteF' rfl ⟨by omega, _, _, _, _, rfl⟩⟩
  rintro ρ m ⟨hm, z2, z3, z4, z5, rfl⟩
  have hm : m ≤ 409 := hm
  exact ⟨rfl, by omega, rfl, rfl⟩
end K04
set_option maxHeartbeats 4000000
namespace K04
open PySem L2 MT RZ StX

local macro_rules | `(tactic| walk_at "sm") => `(tactic| first | exact Same.refl _ | assumption | exact New.same (by assumption) | exact Same.trans (by assumption) (by walk_at "sm") | exact Same.trans (New.same (by assumption)) (by walk_at "sm"))
local macro_rules | `(tactic| walk_at "fr") => `(tactic| first | exact Frm.refl | assumption | exact frm_same (New.same (by assumption)) | exact frm_same (by assumption) | exact Frm.trans (by assumption) (by walk_at "fr") | exact Frm.trans (frm_same (New.same (by assumption))) (by walk_at "fr") | exact Frm.trans (frm_same (by assumption)) (by walk_at "fr"))
local macro_rules | `(tactic| walk_at "dv") => `(tactic| first | exact Dv.int _ | exact Dv.bl _ | exact Dv.non | exact Dv.str _ | assumption | exact Dv.same (by assumption) (by walk_at "sm") | exact Dv.mono (by assumption) (by walk_at "fr"))
local macro_rules | `(tactic| walk_at "dvs") => `(tactic| first | exact DvAll.nil | exact DvAll.ints _ | (refine DvAll.cons ?_ ?_; walk_at "dv"; walk_at "dvs"))
theorem grel_is_block_value : ∀ {vs zs : List V} {us ws : List Value}, Vals vs us → Vals zs ws → Vals (g_is_block_value vs zs) (g_is_block_value us ws)
  | _, _, _, _, .nil, .nil => .nil
  | _, _, _, _, .nil, (.cons b0 .nil) => (.cons b0 .nil)
  | _, _, _, _, .nil, (.cons _ (.cons _ _)) => .nil
  | _, _, _, _, (.cons _ _), .nil => .nil
  | _, _, _, _, (.cons _ _), (.cons _ .nil) => .nil
  | _, _, _, _, (.cons _ _), (.cons _ (.cons _ _)) => .nil
def fd0 : FuncData := PySem.W.fnOf "" "" (defArgs s_law) [] (defScope s_law) .none .none .none .none none .none .none
theorem kit_none {K : PySem.W.Frag} {C : Addr} {b : Bool} (hc : (PySem.W.clsIn K C).isSome = true) (ht : PySem.W.typeIn K (.ref C) = some (.type "type")) (e : PySem.W.subIn K (.type "NoneType") (.ref C) = some b) : PySem.W.kitOne K (.type "NoneType") (.ref C) = some b := by
  unfold PySem.W.kitOne PySem.W.kitCls
  have ne : (Value.type "NoneType" == Value.ref C) = false := rfl
  rw [ne]
  simp [hc, ht, e]
theorem all_mk {l : PySem.W.OpenLaw} {w : World} {K : PySem.W.Frag} {h : Heap} {mg : Str → Option Value} {fL fM f0 f2 f3 f4 f5 f9 f10 f17 f22 f25 f26 f27 f28 f29 f30 f31 f32 f33 f34 f13 f113 n13 f14 f114 n14 f15 f115 n15 c1 PT1 f23 nDisk f200 f201 f202 f203 pDisk_of : Addr} (X : K.In h) (G : h.Ns mainGlobals mg) (hfa : mg "law" = some (.ref fL))
    {od0 an0 od2 an2 od3 an3 od4 an4 od5 an5 od9 an9 od10 an10 od17 an17 od22 an22 od25 an25 od26 an26 od27 an27 od28 an28 od29 an29 od30 an30 od31 an31 od32 an32 od33 an33 od34 an34 od113 an113 od114 an114 od115 an115 : Option Addr} {sl0 sl2 sl3 sl4 sl5 sl9 sl10 sl17 sl22 sl25 sl26 sl27 sl28 sl29 sl30 sl31 sl32 sl33 sl34 sl113 sl114 sl115 : Array (Option Value)} {oc0 kV0 dc0 pm0 ct0 cd0 oc2 kV2 dc2 pm2 ct2 cd2 oc3 kV3 dc3 pm3 ct3 cd3 oc4 kV4 dc4 pm4 ct4 cd4 oc5 kV5 dc5 pm5 ct5 cd5 oc9 kV9 dc9 pm9 ct9 cd9 oc10 kV10 dc10 pm10 ct10 cd10 oc17 kV17 dc17 pm17 ct17 cd17 oc22 kV22 dc22 pm22 ct22 cd22 oc25 kV25 dc25 pm25 ct25 cd25 oc26 kV26 dc26 pm26 ct26 cd26 oc27 kV27 dc27 pm27 ct27 cd27 oc28 kV28 dc28 pm28 ct28 cd28 oc29 kV29 dc29 pm29 ct29 cd29 oc30 kV30 dc30 pm30 ct30 cd30 oc31 kV31 dc31 pm31 ct31 cd31 oc32 kV32 dc32 pm32 ct32 cd32 oc33 kV33 dc33 pm33 ct33 oc34 kV34 dc34 pm34 ct34 cd34 oc113 kV113 dc113 pm113 ct113 cd113 oc114 kV114 dc114 pm114 ct114 cd114 oc115 kV115 dc115 pm115 ct115 cd115 : Value}
    {odC1 : Option Addr} {slC1 : Array (Option Value)} {us1 : Array Value}
    {nm13 qn13 : Str} {bs13 : List Value} {sn13 : List Str} {sb13 : List Value} {ab13 : Bool} {co13 : Option Bool} {dd13 : Option Addr} {p13 q13 r13 s13 t13 : Option Value}
    {nm14 qn14 : Str} {bs14 : List Value} {sn14 : List Str} {sb14 : List Value} {ab14 : Bool} {co14 : Option Bool} {dd14 : Option Addr} {p14 q14 r14 s14 t14 : Option Value}
    {nm15 qn15 : Str} {bs15 : List Value} {sn15 : List Str} {sb15 : List Value} {ab15 : Bool} {co15 : Option Bool} {dd15 : Option Addr} {p15 q15 r15 s15 t15 : Option Value}
    (a0 : PySem.W.nsIn K mainGlobals "_wall" = some (some (.ref f0)))
    (l0 : K.lookup f0 = some ⟨oc0, od0, .func (PySem.W.fnOf "_wall" "_wall" (defArgs s__wall) (defBody s__wall) (defScope s__wall) .none kV0 dc0 pm0 an0 cd0 ct0), sl0⟩)
    (w0 : PySem.W.codeIn K cd0 "_wall" = true)
    (k0 : PySem.W.keepIn K (.ref f0) = true)
    (a2 : PySem.W.nsIn K mainGlobals "is_list" = some (some (.ref f2)))
    (l2 : K.lookup f2 = some ⟨oc2, od2, .func (PySem.W.fnOf "is_list" "is_list" (defArgs s_is_list) (defBody s_is_list) (defScope s_is_list) .none kV2 dc2 pm2 an2 cd2 ct2), sl2⟩)
    (w2 : PySem.W.codeIn K cd2 "is_list" = true)
    (k2 : PySem.W.keepIn K (.ref f2) = true)
    (a3 : PySem.W.nsIn K mainGlobals "is_integer" = some (some (.ref f3)))
    (l3 : K.lookup f3 = some ⟨oc3, od3, .func (PySem.W.fnOf "is_integer" "is_integer" (defArgs s_is_integer) (defBody s_is_integer) (defScope s_is_integer) .none kV3 dc3 pm3 an3 cd3 ct3), sl3⟩)
    (w3 : PySem.W.codeIn K cd3 "is_integer" = true)
    (k3 : PySem.W.keepIn K (.ref f3) = true)
    (a4 : PySem.W.nsIn K mainGlobals "is_within" = some (some (.ref f4)))
    (l4 : K.lookup f4 = some ⟨oc4, od4, .func (PySem.W.fnOf "is_within" "is_within" (defArgs s_is_within) (defBody s_is_within) (defScope s_is_within) .none kV4 dc4 pm4 an4 cd4 ct4), sl4⟩)
    (w4 : PySem.W.codeIn K cd4 "is_within" = true)
    (k4 : PySem.W.keepIn K (.ref f4) = true)
    (a5 : PySem.W.nsIn K mainGlobals "is_numbers" = some (some (.ref f5)))
    (l5 : K.lookup f5 = some ⟨oc5, od5, .func (PySem.W.fnOf "is_numbers" "is_numbers" (defArgs s_is_numbers) (defBody s_is_numbers) (defScope s_is_numbers) .none kV5 dc5 pm5 an5 cd5 ct5), sl5⟩)
    (w5 : PySem.W.codeIn K cd5 "is_numbers" = true)
    (k5 : PySem.W.keepIn K (.ref f5) = true)
    (a9 : PySem.W.nsIn K mainGlobals "is_block" = some (some (.ref f9)))
    (l9 : K.lookup f9 = some ⟨oc9, od9, .func (PySem.W.fnOf "is_block" "is_block" (defArgs s_is_block) (defBody s_is_block) (defScope s_is_block) .none kV9 dc9 pm9 an9 cd9 ct9), sl9⟩)
    (w9 : PySem.W.codeIn K cd9 "is_block" = true)
    (k9 : PySem.W.keepIn K (.ref f9) = true)
    (a10 : PySem.W.nsIn K mainGlobals "are_blocks" = some (some (.ref f10)))
    (l10 : K.lookup f10 = some ⟨oc10, od10, .func (PySem.W.fnOf "are_blocks" "are_blocks" (defArgs s_are_blocks) (defBody s_are_blocks) (defScope s_are_blocks) .none kV10 dc10 pm10 an10 cd10 ct10), sl10⟩)
    (w10 : PySem.W.codeIn K cd10 "are_blocks" = true)
    (k10 : PySem.W.keepIn K (.ref f10) = true)
    (a17 : PySem.W.nsIn K mainGlobals "fixed" = some (some (.ref f17)))
    (l17 : K.lookup f17 = some ⟨oc17, od17, .func (PySem.W.fnOf "fixed" "fixed" (defArgs s_fixed) (defBody s_fixed) (defScope s_fixed) .none kV17 dc17 pm17 an17 cd17 ct17), sl17⟩)
    (w17 : PySem.W.codeIn K cd17 "fixed" = true)
    (k17 : PySem.W.keepIn K (.ref f17) = true)
    (a22 : PySem.W.nsIn K mainGlobals "image_behind" = some (some (.ref f22)))
    (l22 : K.lookup f22 = some ⟨oc22, od22, .func (PySem.W.fnOf "image_behind" "image_behind" (defArgs s_image_behind) (defBody s_image_behind) (defScope s_image_behind) .none kV22 dc22 pm22 an22 cd22 ct22), sl22⟩)
    (w22 : PySem.W.codeIn K cd22 "image_behind" = true)
    (k22 : PySem.W.keepIn K (.ref f22) = true)
    (a25 : PySem.W.nsIn K mainGlobals "_law_crib" = some (some (.ref f25)))
    (l25 : K.lookup f25 = some ⟨oc25, od25, .func (PySem.W.fnOf "_law_crib" "_law_crib" (defArgs s__law_crib) (defBody s__law_crib) (defScope s__law_crib) .none kV25 dc25 pm25 an25 cd25 ct25), sl25⟩)
    (w25 : PySem.W.codeIn K cd25 "_law_crib" = true)
    (k25 : PySem.W.keepIn K (.ref f25) = true)
    (a26 : PySem.W.nsIn K mainGlobals "_law_pluck" = some (some (.ref f26)))
    (l26 : K.lookup f26 = some ⟨oc26, od26, .func (PySem.W.fnOf "_law_pluck" "_law_pluck" (defArgs s__law_pluck) (defBody s__law_pluck) (defScope s__law_pluck) .none kV26 dc26 pm26 an26 cd26 ct26), sl26⟩)
    (w26 : PySem.W.codeIn K cd26 "_law_pluck" = true)
    (k26 : PySem.W.keepIn K (.ref f26) = true)
    (a27 : PySem.W.nsIn K mainGlobals "_law_one" = some (some (.ref f27)))
    (l27 : K.lookup f27 = some ⟨oc27, od27, .func (PySem.W.fnOf "_law_one" "_law_one" (defArgs s__law_one) (defBody s__law_one) (defScope s__law_one) .none kV27 dc27 pm27 an27 cd27 ct27), sl27⟩)
    (w27 : PySem.W.codeIn K cd27 "_law_one" = true)
    (k27 : PySem.W.keepIn K (.ref f27) = true)
    (a28 : PySem.W.nsIn K mainGlobals "_law_block" = some (some (.ref f28)))
    (l28 : K.lookup f28 = some ⟨oc28, od28, .func (PySem.W.fnOf "_law_block" "_law_block" (defArgs s__law_block) (defBody s__law_block) (defScope s__law_block) .none kV28 dc28 pm28 an28 cd28 ct28), sl28⟩)
    (w28 : PySem.W.codeIn K cd28 "_law_block" = true)
    (k28 : PySem.W.keepIn K (.ref f28) = true)
    (a29 : PySem.W.nsIn K mainGlobals "_law_is_block" = some (some (.ref f29)))
    (l29 : K.lookup f29 = some ⟨oc29, od29, .func (PySem.W.fnOf "_law_is_block" "_law_is_block" (defArgs s__law_is_block) (defBody s__law_is_block) (defScope s__law_is_block) .none kV29 dc29 pm29 an29 cd29 ct29), sl29⟩)
    (w29 : PySem.W.codeIn K cd29 "_law_is_block" = true)
    (k29 : PySem.W.keepIn K (.ref f29) = true)
    (a30 : PySem.W.nsIn K mainGlobals "_law_bent" = some (some (.ref f30)))
    (l30 : K.lookup f30 = some ⟨oc30, od30, .func (PySem.W.fnOf "_law_bent" "_law_bent" (defArgs s__law_bent) (defBody s__law_bent) (defScope s__law_bent) .none kV30 dc30 pm30 an30 cd30 ct30), sl30⟩)
    (w30 : PySem.W.codeIn K cd30 "_law_bent" = true)
    (k30 : PySem.W.keepIn K (.ref f30) = true)
    (a31 : PySem.W.nsIn K mainGlobals "_law_heard" = some (some (.ref f31)))
    (l31 : K.lookup f31 = some ⟨oc31, od31, .func (PySem.W.fnOf "_law_heard" "_law_heard" (defArgs s__law_heard) (defBody s__law_heard) (defScope s__law_heard) .none kV31 dc31 pm31 an31 cd31 ct31), sl31⟩)
    (w31 : PySem.W.codeIn K cd31 "_law_heard" = true)
    (k31 : PySem.W.keepIn K (.ref f31) = true)
    (a32 : PySem.W.nsIn K mainGlobals "_law_made_right" = some (some (.ref f32)))
    (l32 : K.lookup f32 = some ⟨oc32, od32, .func (PySem.W.fnOf "_law_made_right" "_law_made_right" (defArgs s__law_made_right) (defBody s__law_made_right) (defScope s__law_made_right) .none kV32 dc32 pm32 an32 cd32 ct32), sl32⟩)
    (w32 : PySem.W.codeIn K cd32 "_law_made_right" = true)
    (k32 : PySem.W.keepIn K (.ref f32) = true)
    (a33 : PySem.W.nsIn K mainGlobals "_law_refused_right" = some (some (.ref f33)))
    (l33 : K.lookup f33 = some ⟨oc33, od33, .func (PySem.W.fnOf "_law_refused_right" "_law_refused_right" (defArgs s__law_refused_right) (defBody s__law_refused_right) (defScope s__law_refused_right) .none kV33 dc33 pm33 an33 (.ref c1) ct33), sl33⟩)
    (w33 : PySem.W.codeIn K (.ref c1) "_law_refused_right" = true)
    (k33 : PySem.W.keepIn K (.ref f33) = true)
    (a34 : PySem.W.nsIn K mainGlobals "law" = some (some (.ref f34)))
    (l34 : K.lookup f34 = some ⟨oc34, od34, .func (PySem.W.fnOf "law" "law" (defArgs s_law) (defBody s_law) (defScope s_law) .none kV34 dc34 pm34 an34 cd34 ct34), sl34⟩)
    (w34 : PySem.W.codeIn K cd34 "law" = true)
    (k34 : PySem.W.keepIn K (.ref f34) = true)
    (A13 : PySem.W.nsIn K mainGlobals "BadNumber" = some (some (.ref f13)))
    (L13 : K.lookup f13 = some (excClassObj nm13 qn13 f13 n13 bs13 [.ref fM, .type "ValueError", .type "Exception", .type "BaseException", .type "object"] true sn13 sb13 ab13 co13 dd13 p13 q13 r13 s13 t13 "ValueError.__new__"))
    (sa13 : PySem.W.findIn K (.ref f13) "__setattr__" = some (some (.builtin "object.__setattr__")))
    (ga13 : PySem.W.findIn K (.ref f13) "__getattribute__" = some (some (.builtin "BaseException.__getattribute__")))
    (gg13 : PySem.W.findIn K (.ref f13) "__getattr__" = some none)
    (nf13 : PySem.W.findIn K (.ref f13) "part" = some none)
    (ii13 : PySem.W.findIn K (.ref f13) "__init__" = some (some (.ref f113)))
    (ti13 : PySem.W.typeIn K (.ref f113) = some (.type "function"))
    (l113 : K.lookup f113 = some ⟨oc113, od113, .func (PySem.W.fnOf "__init__" "BadNumber.__init__" (defArgs s_BadNumber) (defBody s_BadNumber) (defScope s_BadNumber) .none kV113 dc113 pm113 an113 cd113 ct113), sl113⟩)
    (w113 : PySem.W.codeIn K cd113 "BadNumber.__init__" = true)
    (k113 : PySem.W.keepIn K (.ref f113) = true)
    (kC13 : PySem.W.keepIn K (.ref f13) = true)
    (eC13 : PySem.W.subIn K (.ref f13) (.type "BaseException") = some true)
    (tC13 : PySem.W.typeIn K (.ref f13) = some (.type "type"))
    (hC13 : PySem.W.hasDictIn K f13 = true)
    (cc13 : PySem.W.findIn K (.ref f13) "__class__" = some (some (.builtin "object.__class__")))
    (oo13 : PySem.W.mroIn K f13 (.type "object") = some true)
    (sM13 : PySem.W.subIn K (.ref f13) (.ref fM) = some true)
    (sN13 : PySem.W.subIn K (.type "NoneType") (.ref f13) = some false)
    (A14 : PySem.W.nsIn K mainGlobals "BadBlock" = some (some (.ref f14)))
    (L14 : K.lookup f14 = some (excClassObj nm14 qn14 f14 n14 bs14 [.ref fM, .type "ValueError", .type "Exception", .type "BaseException", .type "object"] true sn14 sb14 ab14 co14 dd14 p14 q14 r14 s14 t14 "ValueError.__new__"))
    (sa14 : PySem.W.findIn K (.ref f14) "__setattr__" = some (some (.builtin "object.__setattr__")))
    (ga14 : PySem.W.findIn K (.ref f14) "__getattribute__" = some (some (.builtin "BaseException.__getattribute__")))
    (gg14 : PySem.W.findIn K (.ref f14) "__getattr__" = some none)
    (nf14 : PySem.W.findIn K (.ref f14) "part" = some none)
    (ii14 : PySem.W.findIn K (.ref f14) "__init__" = some (some (.ref f114)))
    (ti14 : PySem.W.typeIn K (.ref f114) = some (.type "function"))
    (l114 : K.lookup f114 = some ⟨oc114, od114, .func (PySem.W.fnOf "__init__" "BadBlock.__init__" (defArgs s_BadBlock) (defBody s_BadBlock) (defScope s_BadBlock) .none kV114 dc114 pm114 an114 cd114 ct114), sl114⟩)
    (w114 : PySem.W.codeIn K cd114 "BadBlock.__init__" = true)
    (k114 : PySem.W.keepIn K (.ref f114) = true)
    (kC14 : PySem.W.keepIn K (.ref f14) = true)
    (eC14 : PySem.W.subIn K (.ref f14) (.type "BaseException") = some true)
    (tC14 : PySem.W.typeIn K (.ref f14) = some (.type "type"))
    (hC14 : PySem.W.hasDictIn K f14 = true)
    (cc14 : PySem.W.findIn K (.ref f14) "__class__" = some (some (.builtin "object.__class__")))
    (oo14 : PySem.W.mroIn K f14 (.type "object") = some true)
    (sM14 : PySem.W.subIn K (.ref f14) (.ref fM) = some true)
    (sN14 : PySem.W.subIn K (.type "NoneType") (.ref f14) = some false)
    (A15 : PySem.W.nsIn K mainGlobals "TooMany" = some (some (.ref f15)))
    (L15 : K.lookup f15 = some (excClassObj nm15 qn15 f15 n15 bs15 [.ref fM, .type "ValueError", .type "Exception", .type "BaseException", .type "object"] true sn15 sb15 ab15 co15 dd15 p15 q15 r15 s15 t15 "ValueError.__new__"))
    (sa15 : PySem.W.findIn K (.ref f15) "__setattr__" = some (some (.builtin "object.__setattr__")))
    (ga15 : PySem.W.findIn K (.ref f15) "__getattribute__" = some (some (.builtin "BaseException.__getattribute__")))
    (gg15 : PySem.W.findIn K (.ref f15) "__getattr__" = some none)
    (nf15 : PySem.W.findIn K (.ref f15) "what" = some none)
    (nf15b : PySem.W.findIn K (.ref f15) "most" = some none)
    (ii15 : PySem.W.findIn K (.ref f15) "__init__" = some (some (.ref f115)))
    (ti15 : PySem.W.typeIn K (.ref f115) = some (.type "function"))
    (l115 : K.lookup f115 = some ⟨oc115, od115, .func (PySem.W.fnOf "__init__" "TooMany.__init__" (defArgs s_TooMany) (defBody s_TooMany) (defScope s_TooMany) .none kV115 dc115 pm115 an115 cd115 ct115), sl115⟩)
    (w115 : PySem.W.codeIn K cd115 "TooMany.__init__" = true)
    (k115 : PySem.W.keepIn K (.ref f115) = true)
    (kC15 : PySem.W.keepIn K (.ref f15) = true)
    (eC15 : PySem.W.subIn K (.ref f15) (.type "BaseException") = some true)
    (tC15 : PySem.W.typeIn K (.ref f15) = some (.type "type"))
    (hC15 : PySem.W.hasDictIn K f15 = true)
    (cc15 : PySem.W.findIn K (.ref f15) "__class__" = some (some (.builtin "object.__class__")))
    (oo15 : PySem.W.mroIn K f15 (.type "object") = some true)
    (sM15 : PySem.W.subIn K (.ref f15) (.ref fM) = some true)
    (oG : PySem.W.specialIn K (.builtin "object.__class__") "__get__" = some (some (.builtin "getset_descriptor.__get__")))
    (oT : PySem.W.takesIn K (.builtin "object.__class__") = some true)
    (x13_14 : PySem.W.subIn K (.ref f13) (.ref f14) = some false)
    (xne13_14 : f13 ≠ f14)
    (x13_15 : PySem.W.subIn K (.ref f13) (.ref f15) = some false)
    (xne13_15 : f13 ≠ f15)
    (x14_13 : PySem.W.subIn K (.ref f14) (.ref f13) = some false)
    (xne14_13 : f14 ≠ f13)
    (x14_15 : PySem.W.subIn K (.ref f14) (.ref f15) = some false)
    (xne14_15 : f14 ≠ f15)
    (x15_13 : PySem.W.subIn K (.ref f15) (.ref f13) = some false)
    (xne15_13 : f15 ≠ f13)
    (x15_14 : PySem.W.subIn K (.ref f15) (.ref f14) = some false)
    (xne15_14 : f15 ≠ f14)
    (AM : PySem.W.nsIn K mainGlobals "MeetError" = some (some (.ref fM)))
    (eM : PySem.W.subIn K (.ref fM) (.type "BaseException") = some true)
    (hM : PySem.W.hasDictIn K fM = true)
    (tM : PySem.W.typeIn K (.ref fM) = some (.type "type"))
    (z_abs : PySem.W.nsIn K mainGlobals "abs" = some none)
    (z_all : PySem.W.nsIn K mainGlobals "all" = some none)
    (z_bool : PySem.W.nsIn K mainGlobals "bool" = some none)
    (z_int : PySem.W.nsIn K mainGlobals "int" = some none)
    (z_isinstance : PySem.W.nsIn K mainGlobals "isinstance" = some none)
    (z_len : PySem.W.nsIn K mainGlobals "len" = some none)
    (z_list : PySem.W.nsIn K mainGlobals "list" = some none)
    (z_range : PySem.W.nsIn K mainGlobals "range" = some none)
    (z_repr : PySem.W.nsIn K mainGlobals "repr" = some none)
    (z_reversed : PySem.W.nsIn K mainGlobals "reversed" = some none)
    (z_tuple : PySem.W.nsIn K mainGlobals "tuple" = some none)
    {t_BLOCK_SIZE : Tok}
    (q_BLOCK_SIZE : PySem.W.nsIn K mainGlobals "BLOCK_SIZE" = some (some (.int 16 t_BLOCK_SIZE)))
    {t_MOST_NUMBER : Tok}
    (q_MOST_NUMBER : PySem.W.nsIn K mainGlobals "MOST_NUMBER" = some (some (.int 65535 t_MOST_NUMBER)))
    {t_LEAST_BLOCKS : Tok}
    (q_LEAST_BLOCKS : PySem.W.nsIn K mainGlobals "LEAST_BLOCKS" = some (some (.int 8 t_LEAST_BLOCKS)))
    {t_MOST_BLOCKS : Tok}
    (q_MOST_BLOCKS : PySem.W.nsIn K mainGlobals "MOST_BLOCKS" = some (some (.int 512 t_MOST_BLOCKS)))
    {t_MOST_HELD : Tok}
    (q_MOST_HELD : PySem.W.nsIn K mainGlobals "MOST_HELD" = some (some (.int 2000 t_MOST_HELD)))
    (lC1 : K.lookup c1 = some ⟨.type "code", odC1, .fields us1, slC1⟩)
    (uu1 : us1[11]? = some (.ref PT1))
    (hd1 : PySem.W.codeHdIn K c1 PT1 = true)
    (noP1 : K.lookup PT1 = none)
    (tab1 : h.get? PT1 = some (PySem.W.tabObj #[]))
    {od200 an200 od201 an201 od202 an202 od203 an203 : Option Addr} {sl200 sl201 sl202 sl203 : Array (Option Value)} {oc200 kV200 dc200 pm200 cd200 ct200 oc201 kV201 dc201 pm201 cd201 ct201 oc202 kV202 dc202 pm202 cd202 ct202 oc203 kV203 dc203 pm203 cd203 ct203 : Value}
    {nmDisk qnDisk : Str} {bsDisk : List Value} {hdDisk : Bool} {snDisk : List Str} {sbDisk : List Value} {abDisk : Bool} {coDisk : Option Bool} {ddDisk : Option Addr} {k0Disk k1Disk k2Disk k3Disk k5Disk : Option Value} {niDisk : String}
    {ocNDisk : Value} {odNDisk : Option Addr} {esDisk : Array DictEntry} {epDisk : Nat} {slNDisk : Array (Option Value)}
    {rDisk_of : List Value}
    (aDDisk : PySem.W.nsIn K mainGlobals "Disk" = some (some (.ref f23)))
    (lDDisk : K.lookup f23 = some (excClassObj nmDisk qnDisk f23 nDisk bsDisk [.type "object"] hdDisk snDisk sbDisk abDisk coDisk ddDisk k0Disk k1Disk k2Disk k3Disk k5Disk niDisk))
    (pgDisk : PySem.W.plainGet K f23 Str.empty = true)
    (hxDisk : PySem.W.hasDictIn K f23 = true)
    (poDisk : PySem.W.plainOver K f23 = true)
    (saDisk : PySem.W.findIn K (.ref f23) "__setattr__" = some (some (.builtin "object.__setattr__")))
    (ccDisk : PySem.W.findIn K (.ref f23) "__class__" = some (some (.builtin "object.__class__")))
    (obDisk : PySem.W.mroIn K f23 (.type "object") = some true)
    (tdDisk : PySem.W.typeIn K (.ref f23) = some (.type "type"))
    (mkDisk : PySem.W.makesIn K f23 = true)
    (inDisk : PySem.W.findIn K (.ref f23) "__init__" = some (some (.ref f200)))
    (ifDisk : PySem.W.isFn K (.ref f200) = true)
    (kpDisk : PySem.W.keepIn K (.ref f23) = true)
    (naDisk_many : PySem.W.findIn K (.ref f23) "many" = some none)
    (naDisk_image : PySem.W.findIn K (.ref f23) "image" = some none)
    (naDisk_held : PySem.W.findIn K (.ref f23) "held" = some none)
    (srDisk_of : PySem.W.readsIn K f23 (.type "type") = true)
    (sgDisk_of : PySem.W.specialIn K (.ref f23) "__getattribute__" = some (some (.builtin "type.__getattribute__")))
    (sfDisk_of : PySem.W.findCls K (.ref f23) (.type "type") "of" = some (.get (.builtin "staticmethod.__get__") (.ref pDisk_of) .none (.ref f23)))
    (scDisk_of : PySem.W.recIn K pDisk_of "staticmethod" = some (.ref f201 :: rDisk_of))
    (eqDisk : PySem.W.findIn K (.ref f23) "__eq__" = some (some (.ref f202)))
    (efDisk : PySem.W.isFn K (.ref f202) = true)
    (lNDisk : K.lookup nDisk = some ⟨ocNDisk, odNDisk, .dict esDisk epDisk, slNDisk⟩)
    (oNDisk : (esDisk.toList.all fun e => match e.key with | .str _ _ => true | _ => false) = true)
    (eNDisk : PySem.W.nsIn K nDisk "__eq__" = some (some (.ref f202)))
    (nNDisk : PySem.W.nsIn K nDisk "__ne__" = some none)
    (stDisk_tuple : PySem.W.subIn K (.type "tuple") (.ref f23) = some false)
    (nfDisk_tuple : PySem.W.notFirst K f23 (.type "tuple") = true)
    (mtDisk_block_at : PySem.W.findIn K (.ref f23) "block_at" = some (some (.ref f203)))
    (mfDisk_block_at : PySem.W.isFn K (.ref f203) = true)
    (l200 : K.lookup f200 = some ⟨oc200, od200, .func (PySem.W.fnOf "__init__" "Disk.__init__" (defArgs s_Disk_init) (defBody s_Disk_init) (defScope s_Disk_init) .none kV200 dc200 pm200 an200 cd200 ct200), sl200⟩)
    (w200 : PySem.W.codeIn K cd200 "Disk.__init__" = true)
    (k200 : PySem.W.keepIn K (.ref f200) = true)
    (l201 : K.lookup f201 = some ⟨oc201, od201, .func (PySem.W.fnOf "of" "Disk.of" (defArgs s_Disk_of) (defBody s_Disk_of) (defScope s_Disk_of) .none kV201 dc201 pm201 an201 cd201 ct201), sl201⟩)
    (w201 : PySem.W.codeIn K cd201 "Disk.of" = true)
    (k201 : PySem.W.keepIn K (.ref f201) = true)
    (l202 : K.lookup f202 = some ⟨oc202, od202, .func (PySem.W.fnOf "__eq__" "Disk.__eq__" (defArgs s_Disk_eq) (defBody s_Disk_eq) (defScope s_Disk_eq) .none kV202 dc202 pm202 an202 cd202 ct202), sl202⟩)
    (w202 : PySem.W.codeIn K cd202 "Disk.__eq__" = true)
    (k202 : PySem.W.keepIn K (.ref f202) = true)
    (l203 : K.lookup f203 = some ⟨oc203, od203, .func (PySem.W.fnOf "block_at" "Disk.block_at" (defArgs s_Disk_block_at) (defBody s_Disk_block_at) (defScope s_Disk_block_at) .none kV203 dc203 pm203 an203 cd203 ct203), sl203⟩)
    (w203 : PySem.W.codeIn K cd203 "Disk.block_at" = true)
    (k203 : PySem.W.keepIn K (.ref f203) = true)
    : LawGs l w K 18 63 "script" mg fL h := by
  have e := hfa.symm.trans (PySem.W.mg_of X G a34)
  cases e
  have F0 := fun_mk (st := s__wall) l0 w0 k0
  have F2 := fun_mk (st := s_is_list) l2 w2 k2
  have F3 := fun_mk (st := s_is_integer) l3 w3 k3
  have F4 := fun_mk (st := s_is_within) l4 w4 k4
  have F5 := fun_mk (st := s_is_numbers) l5 w5 k5
  have F9 := fun_mk (st := s_is_block) l9 w9 k9
  have F10 := fun_mk (st := s_are_blocks) l10 w10 k10
  have F17 := fun_mk (st := s_fixed) l17 w17 k17
  have F22 := fun_mk (st := s_image_behind) l22 w22 k22
  have F25 := fun_mk (st := s__law_crib) l25 w25 k25
  have F26 := fun_mk (st := s__law_pluck) l26 w26 k26
  have F27 := fun_mk (st := s__law_one) l27 w27 k27
  have F28 := fun_mk (st := s__law_block) l28 w28 k28
  have F29 := fun_mk (st := s__law_is_block) l29 w29 k29
  have F30 := fun_mk (st := s__law_bent) l30 w30 k30
  have F31 := fun_mk (st := s__law_heard) l31 w31 k31
  have F32 := fun_mk (st := s__law_made_right) l32 w32 k32
  have F33 := fun_mk (st := s__law_refused_right) l33 w33 k33
  have F34 := fun_mk (st := s_law) l34 w34 k34
  have F113 := fun_mk (st := s_BadNumber) l113 w113 k113
  have F114 := fun_mk (st := s_BadBlock) l114 w114 k114
  have F115 := fun_mk (st := s_TooMany) l115 w115 k115
  have E13 := errC_mk (x := "BadNumber") (f := "part") X G A13 L13 sa13 ga13 gg13 nf13 ii13 ti13 kC13 eC13 tC13 hC13 cc13 oo13
  have XC13 : ExcC K f13 := ⟨ga13, gg13, eC13, hC13, cc13, oG, oT, oo13⟩
  have is13 : (PySem.W.clsIn K f13).isSome = true := by unfold PySem.W.clsIn; rw [L13]; rfl
  have E14 := errC_mk (x := "BadBlock") (f := "part") X G A14 L14 sa14 ga14 gg14 nf14 ii14 ti14 kC14 eC14 tC14 hC14 cc14 oo14
  have XC14 : ExcC K f14 := ⟨ga14, gg14, eC14, hC14, cc14, oG, oT, oo14⟩
  have is14 : (PySem.W.clsIn K f14).isSome = true := by unfold PySem.W.clsIn; rw [L14]; rfl
  have E15 := errC_mk (x := "TooMany") (f := "what") X G A15 L15 sa15 ga15 gg15 nf15 ii15 ti15 kC15 eC15 tC15 hC15 cc15 oo15
  have XC15 : ExcC K f15 := ⟨ga15, gg15, eC15, hC15, cc15, oG, oT, oo15⟩
  have is15 : (PySem.W.clsIn K f15).isSome = true := by unfold PySem.W.clsIn; rw [L15]; rfl
  have F200 := fun_mk (st := s_Disk_init) l200 w200 k200
  have F201 := fun_mk (st := s_Disk_of) l201 w201 k201
  have F202 := fun_mk (st := s_Disk_eq) l202 w202 k202
  have F203 := fun_mk (st := s_Disk_block_at) l203 w203 k203
  have T : Txt K mg (fun i => ([f0, 0, f2, f3, f4, f5, 0, 0, 0, f9, f10, 0, fM, f13, f14, f15, 0, f17, 0, 0, 0, 0, f22, f23, 0, f25, f26, f27, f28, f29, f30, f31, f32, f33, fL, 0, 0, 0, 0, 0, 0, 0, 0, 0, 0, 0, 0, 0, 0, 0, 0, 0, 0, 0, 0, 0, 0, 0, 0, 0, 0, 0, 0, 0, 0, 0, 0, 0, 0, 0, 0, 0, 0, 0, 0, 0, 0, 0, 0, 0, 0, 0, 0, 0, 0, 0, 0, 0, 0, 0, 0, 0, 0, 0, 0, 0, 0, 0, 0, 0, 0, 0, 0, 0, 0, 0, 0, 0, 0, 0, 0, 0, 0, f113, f114, f115, 0, 0, 0, 0, 0, 0, 0, 0, 0, 0, 0, 0, 0, 0, 0, 0, 0, 0, 0, 0, 0, 0, 0, 0, 0, 0, 0, 0, 0, 0, 0, 0, 0, 0, 0, 0, 0, 0, 0, 0, 0, 0, 0, 0, 0, 0, 0, 0, 0, 0, 0, 0, 0, 0, 0, 0, 0, 0, 0, 0, 0, 0, 0, 0, 0, 0, 0, 0, 0, 0, 0, 0, 0, 0, 0, 0, 0, 0, 0, 0, 0, 0, 0, 0, f200, f201, f202, f203] : List Addr).getD i 0) (fun i => ([PySem.W.fnOf "_wall" "_wall" (defArgs s__wall) (defBody s__wall) (defScope s__wall) .none kV0 dc0 pm0 an0 cd0 ct0, fd0, PySem.W.fnOf "is_list" "is_list" (defArgs s_is_list) (defBody s_is_list) (defScope s_is_list) .none kV2 dc2 pm2 an2 cd2 ct2, PySem.W.fnOf "is_integer" "is_integer" (defArgs s_is_integer) (defBody s_is_integer) (defScope s_is_integer) .none kV3 dc3 pm3 an3 cd3 ct3, PySem.W.fnOf "is_within" "is_within" (defArgs s_is_within) (defBody s_is_within) (defScope s_is_within) .none kV4 dc4 pm4 an4 cd4 ct4, PySem.W.fnOf "is_numbers" "is_numbers" (defArgs s_is_numbers) (defBody s_is_numbers) (defScope s_is_numbers) .none kV5 dc5 pm5 an5 cd5 ct5, fd0, fd0, fd0, PySem.W.fnOf "is_block" "is_block" (defArgs s_is_block) (defBody s_is_block) (defScope s_is_block) .none kV9 dc9 pm9 an9 cd9 ct9, PySem.W.fnOf "are_blocks" "are_blocks" (defArgs s_are_blocks) (defBody s_are_blocks) (defScope s_are_blocks) .none kV10 dc10 pm10 an10 cd10 ct10, fd0, fd0, fd0, fd0, fd0, fd0, PySem.W.fnOf "fixed" "fixed" (defArgs s_fixed) (defBody s_fixed) (defScope s_fixed) .none kV17 dc17 pm17 an17 cd17 ct17, fd0, fd0, fd0, fd0, PySem.W.fnOf "image_behind" "image_behind" (defArgs s_image_behind) (defBody s_image_behind) (defScope s_image_behind) .none kV22 dc22 pm22 an22 cd22 ct22, fd0, fd0, PySem.W.fnOf "_law_crib" "_law_crib" (defArgs s__law_crib) (defBody s__law_crib) (defScope s__law_crib) .none kV25 dc25 pm25 an25 cd25 ct25, PySem.W.fnOf "_law_pluck" "_law_pluck" (defArgs s__law_pluck) (defBody s__law_pluck) (defScope s__law_pluck) .none kV26 dc26 pm26 an26 cd26 ct26, PySem.W.fnOf "_law_one" "_law_one" (defArgs s__law_one) (defBody s__law_one) (defScope s__law_one) .none kV27 dc27 pm27 an27 cd27 ct27, PySem.W.fnOf "_law_block" "_law_block" (defArgs s__law_block) (defBody s__law_block) (defScope s__law_block) .none kV28 dc28 pm28 an28 cd28 ct28, PySem.W.fnOf "_law_is_block" "_law_is_block" (defArgs s__law_is_block) (defBody s__law_is_block) (defScope s__law_is_block) .none kV29 dc29 pm29 an29 cd29 ct29, PySem.W.fnOf "_law_bent" "_law_bent" (defArgs s__law_bent) (defBody s__law_bent) (defScope s__law_bent) .none kV30 dc30 pm30 an30 cd30 ct30, PySem.W.fnOf "_law_heard" "_law_heard" (defArgs s__law_heard) (defBody s__law_heard) (defScope s__law_heard) .none kV31 dc31 pm31 an31 cd31 ct31, PySem.W.fnOf "_law_made_right" "_law_made_right" (defArgs s__law_made_right) (defBody s__law_made_right) (defScope s__law_made_right) .none kV32 dc32 pm32 an32 cd32 ct32, PySem.W.fnOf "_law_refused_right" "_law_refused_right" (defArgs s__law_refused_right) (defBody s__law_refused_right) (defScope s__law_refused_right) .none kV33 dc33 pm33 an33 (.ref c1) ct33, PySem.W.fnOf "law" "law" (defArgs s_law) (defBody s_law) (defScope s_law) .none kV34 dc34 pm34 an34 cd34 ct34, fd0, fd0, fd0, fd0, fd0, fd0, fd0, fd0, fd0, fd0, fd0, fd0, fd0, fd0, fd0, fd0, fd0, fd0, fd0, fd0, fd0, fd0, fd0, fd0, fd0, fd0, fd0, fd0, fd0, fd0, fd0, fd0, fd0, fd0, fd0, fd0, fd0, fd0, fd0, fd0, fd0, fd0, fd0, fd0, fd0, fd0, fd0, fd0, fd0, fd0, fd0, fd0, fd0, fd0, fd0, fd0, fd0, fd0, fd0, fd0, fd0, fd0, fd0, fd0, fd0, fd0, fd0, fd0, fd0, fd0, fd0, fd0, fd0, fd0, fd0, fd0, fd0, fd0, PySem.W.fnOf "__init__" "BadNumber.__init__" (defArgs s_BadNumber) (defBody s_BadNumber) (defScope s_BadNumber) .none kV113 dc113 pm113 an113 cd113 ct113, PySem.W.fnOf "__init__" "BadBlock.__init__" (defArgs s_BadBlock) (defBody s_BadBlock) (defScope s_BadBlock) .none kV114 dc114 pm114 an114 cd114 ct114, PySem.W.fnOf "__init__" "TooMany.__init__" (defArgs s_TooMany) (defBody s_TooMany) (defScope s_TooMany) .none kV115 dc115 pm115 an115 cd115 ct115, fd0, fd0, fd0, fd0, fd0, fd0, fd0, fd0, fd0, fd0, fd0, fd0, fd0, fd0, fd0, fd0, fd0, fd0, fd0, fd0, fd0, fd0, fd0, fd0, fd0, fd0, fd0, fd0, fd0, fd0, fd0, fd0, fd0, fd0, fd0, fd0, fd0, fd0, fd0, fd0, fd0, fd0, fd0, fd0, fd0, fd0, fd0, fd0, fd0, fd0, fd0, fd0, fd0, fd0, fd0, fd0, fd0, fd0, fd0, fd0, fd0, fd0, fd0, fd0, fd0, fd0, fd0, fd0, fd0, fd0, fd0, fd0, fd0, fd0, fd0, fd0, fd0, fd0, fd0, fd0, fd0, fd0, fd0, fd0, PySem.W.fnOf "__init__" "Disk.__init__" (defArgs s_Disk_init) (defBody s_Disk_init) (defScope s_Disk_init) .none kV200 dc200 pm200 an200 cd200 ct200, PySem.W.fnOf "of" "Disk.of" (defArgs s_Disk_of) (defBody s_Disk_of) (defScope s_Disk_of) .none kV201 dc201 pm201 an201 cd201 ct201, PySem.W.fnOf "__eq__" "Disk.__eq__" (defArgs s_Disk_eq) (defBody s_Disk_eq) (defScope s_Disk_eq) .none kV202 dc202 pm202 an202 cd202 ct202, PySem.W.fnOf "block_at" "Disk.block_at" (defArgs s_Disk_block_at) (defBody s_Disk_block_at) (defScope s_Disk_block_at) .none kV203 dc203 pm203 an203 cd203 ct203] : List FuncData).getD i fd0) := {
    F__wall := F0
    g__wall := PySem.W.mg_of X G a0
    b__wall := F0.binds (ps := ["k"]) fun _ _ _ _ _ _ us hl => match us, hl with | [_], _ => rfl
    F_is_list := F2
    g_is_list := PySem.W.mg_of X G a2
    b_is_list := F2.binds (ps := ["value"]) fun _ _ _ _ _ _ us hl => match us, hl with | [_], _ => rfl
    F_is_integer := F3
    g_is_integer := PySem.W.mg_of X G a3
    b_is_integer := F3.binds (ps := ["value"]) fun _ _ _ _ _ _ us hl => match us, hl with | [_], _ => rfl
    F_is_within := F4
    g_is_within := PySem.W.mg_of X G a4
    b_is_within := F4.binds (ps := ["value", "least", "most"]) fun _ _ _ _ _ _ us hl => match us, hl with | [_, _, _], _ => rfl
    F_is_numbers := F5
    g_is_numbers := PySem.W.mg_of X G a5
    b_is_numbers := F5.binds (ps := ["value", "many", "most"]) fun _ _ _ _ _ _ us hl => match us, hl with | [_, _, _], _ => rfl
    F_is_block := F9
    g_is_block := PySem.W.mg_of X G a9
    b_is_block := F9.binds (ps := ["value"]) fun _ _ _ _ _ _ us hl => match us, hl with | [_], _ => rfl
    F_are_blocks := F10
    g_are_blocks := PySem.W.mg_of X G a10
    b_are_blocks := F10.binds (ps := ["value", "least", "most"]) fun _ _ _ _ _ _ us hl => match us, hl with | [_, _, _], _ => rfl
    F_fixed := F17
    g_fixed := PySem.W.mg_of X G a17
    b_fixed := F17.binds (ps := ["value"]) fun _ _ _ _ _ _ us hl => match us, hl with | [_], _ => rfl
    F_image_behind := F22
    g_image_behind := PySem.W.mg_of X G a22
    b_image_behind := F22.binds (ps := ["image", "writes"]) fun _ _ _ _ _ _ us hl => match us, hl with | [_, _], _ => rfl
    F__law_crib := F25
    g__law_crib := PySem.W.mg_of X G a25
    b__law_crib := F25.binds (ps := ["script"]) fun _ _ _ _ _ _ us hl => match us, hl with | [_], _ => rfl
    F__law_pluck := F26
    g__law_pluck := PySem.W.mg_of X G a26
    b__law_pluck := F26.binds (ps := ["crib", "many"]) fun _ _ _ _ _ _ us hl => match us, hl with | [_, _], _ => rfl
    F__law_one := F27
    g__law_one := PySem.W.mg_of X G a27
    b__law_one := F27.binds (ps := ["crib", "some"]) fun _ _ _ _ _ _ us hl => match us, hl with | [_, _], _ => rfl
    F__law_block := F28
    g__law_block := PySem.W.mg_of X G a28
    b__law_block := F28.binds (ps := ["crib"]) fun _ _ _ _ _ _ us hl => match us, hl with | [_], _ => rfl
    F__law_is_block := F29
    g__law_is_block := PySem.W.mg_of X G a29
    b__law_is_block := F29.binds (ps := ["value"]) fun _ _ _ _ _ _ us hl => match us, hl with | [_], _ => rfl
    F__law_bent := F30
    g__law_bent := PySem.W.mg_of X G a30
    b__law_bent := F30.binds (ps := ["crib", "block"]) fun _ _ _ _ _ _ us hl => match us, hl with | [_, _], _ => rfl
    F__law_heard := F31
    g__law_heard := PySem.W.mg_of X G a31
    b__law_heard := F31.binds (ps := ["ask"]) fun _ _ _ _ _ _ us hl => match us, hl with | [_], _ => rfl
    F__law_made_right := F32
    g__law_made_right := PySem.W.mg_of X G a32
    b__law_made_right := F32.binds (ps := ["crib", "many"]) fun _ _ _ _ _ _ us hl => match us, hl with | [_, _], _ => rfl
    F__law_refused_right := F33
    g__law_refused_right := PySem.W.mg_of X G a33
    b__law_refused_right := F33.binds (ps := ["crib"]) fun _ _ _ _ _ _ us hl => match us, hl with | [_], _ => rfl
    F_law := F34
    g_law := PySem.W.mg_of X G a34
    b_law := F34.binds (ps := ["script"]) fun _ _ _ _ _ _ us hl => match us, hl with | [_], _ => rfl
    kb_is_block_value := MT.Fun.kbn F9 0 ["value"] (fun us ws => g_is_block_value us ws) (fun r1 r2 => grel_is_block_value r1 r2) fun _ _ _ _ _ _ us ws h1 h2 => match us, h1, ws, h2 with | [], _, [_], _ => rfl
    E_BadNumber := E13
    F_BadNumber := F113
    b_BadNumber := F113.binds (ps := ["self", "part"]) fun _ _ _ _ _ _ us hl => match us, hl with | [_, _], _ => rfl
    X_BadNumber := XC13
    exm_BadNumber_MeetError := PySem.W.exm_ref eM hM tM sM13
    kitN_BadNumber := kit_none is13 tC13 sN13
    kit_BadNumber_BadBlock := kit_ref xne13_14 is14 tC14 x13_14
    kit_BadNumber_TooMany := kit_ref xne13_15 is15 tC15 x13_15
    E_BadBlock := E14
    F_BadBlock := F114
    b_BadBlock := F114.binds (ps := ["self", "part"]) fun _ _ _ _ _ _ us hl => match us, hl with | [_, _], _ => rfl
    X_BadBlock := XC14
    exm_BadBlock_MeetError := PySem.W.exm_ref eM hM tM sM14
    kitN_BadBlock := kit_none is14 tC14 sN14
    kit_BadBlock_BadNumber := kit_ref xne14_13 is13 tC13 x14_13
    kit_BadBlock_TooMany := kit_ref xne14_15 is15 tC15 x14_15
    E_TooMany := ⟨E15, nf15b⟩
    F_TooMany := F115
    b_TooMany := F115.binds (ps := ["self", "what", "most"]) fun _ _ _ _ _ _ us hl => match us, hl with | [_, _, _], _ => rfl
    X_TooMany := XC15
    exm_TooMany_MeetError := PySem.W.exm_ref eM hM tM sM15
    kit_TooMany_BadNumber := kit_ref xne15_13 is13 tC13 x15_13
    kit_TooMany_BadBlock := kit_ref xne15_14 is14 tC14 x15_14
    M_MeetError := PySem.W.mg_of X G AM
    n_abs := PySem.W.mg_none_of X G z_abs
    n_all := PySem.W.mg_none_of X G z_all
    n_bool := PySem.W.mg_none_of X G z_bool
    n_int := PySem.W.mg_none_of X G z_int
    n_isinstance := PySem.W.mg_none_of X G z_isinstance
    n_len := PySem.W.mg_none_of X G z_len
    n_list := PySem.W.mg_none_of X G z_list
    n_range := PySem.W.mg_none_of X G z_range
    n_repr := PySem.W.mg_none_of X G z_repr
    n_reversed := PySem.W.mg_none_of X G z_reversed
    n_tuple := PySem.W.mg_none_of X G z_tuple
    c_BLOCK_SIZE := ⟨_, PySem.W.mg_of X G q_BLOCK_SIZE, ⟨_, rfl⟩⟩
    c_MOST_NUMBER := ⟨_, PySem.W.mg_of X G q_MOST_NUMBER, ⟨_, rfl⟩⟩
    c_LEAST_BLOCKS := ⟨_, PySem.W.mg_of X G q_LEAST_BLOCKS, ⟨_, rfl⟩⟩
    c_MOST_BLOCKS := ⟨_, PySem.W.mg_of X G q_MOST_BLOCKS, ⟨_, rfl⟩⟩
    c_MOST_HELD := ⟨_, PySem.W.mg_of X G q_MOST_HELD, ⟨_, rfl⟩⟩
    G_Disk := PySem.W.mg_of X G aDDisk
    O_Disk := ocls_mk lDDisk pgDisk hxDisk poDisk saDisk ccDisk oG oT obDisk
    MK_Disk := ⟨mkDisk, inDisk, ifDisk, kpDisk⟩
    NA_many := naDisk_many
    NA_image := naDisk_image
    NA_held := naDisk_held
    SM_of := ⟨pDisk_of, srDisk_of, sgDisk_of, sfDisk_of, ⟨rDisk_of, scDisk_of⟩, k201⟩
    EQ_Disk := eqDisk
    EF_Disk := efDisk
    NE_Disk := neo_mk lDDisk lNDisk oNDisk eNDisk nNDisk efDisk
    KT_Disk := kit_tyC lDDisk tdDisk stDisk_tuple
    NF_Disk := nfDisk_tuple
    ME_block_at := ⟨mtDisk_block_at, mfDisk_block_at, k203⟩
    F_Disk_init := F200
    b_Disk_init := F200.binds (ps := ["self", "many"]) fun _ _ _ _ _ _ us hl => match us, hl with | [_, _], _ => rfl
    kb_Disk_init := MT.Fun.kbn F200 1 ["many"] (fun us ws => kOne us ws) (fun r1 r2 => r1.append r2) fun _ _ _ _ _ _ us ws h1 h2 => match us, h1, ws, h2 with | [_], _, [_], _ => rfl
    F_Disk_of := F201
    b_Disk_of := F201.binds (ps := ["image"]) fun _ _ _ _ _ _ us hl => match us, hl with | [_], _ => rfl
    kb_Disk_of := MT.Fun.kbn F201 0 ["image"] (fun us ws => kOne us ws) (fun r1 r2 => r1.append r2) fun _ _ _ _ _ _ us ws h1 h2 => match us, h1, ws, h2 with | [], _, [_], _ => rfl
    F_Disk_eq := F202
    b_Disk_eq := F202.binds (ps := ["self", "other"]) fun _ _ _ _ _ _ us hl => match us, hl with | [_, _], _ => rfl
    F_Disk_block_at := F203
    b_Disk_block_at := F203.binds (ps := ["self", "at"]) fun _ _ _ _ _ _ us hl => match us, hl with | [_, _], _ => rfl
    kb_Disk_block_at := MT.Fun.kbn F203 1 ["at"] (fun us ws => kOne us ws) (fun r1 r2 => r1.append r2) fun _ _ _ _ _ _ us ws h1 h2 => match us, h1, ws, h2 with | [_], _, [_], _ => rfl
  }
  refine ⟨PySem.W.fnOf "law" "law" (defArgs s_law) (defBody s_law) (defScope s_law) .none kV34 dc34 pm34 an34 cd34 ct34, spLawT K PT1, [(c1, PT1)], (fun q hq => by
    simp only [List.mem_cons, List.not_mem_nil, or_false] at hq
    rcases hq with rfl
    · exact tab1), (fun q hq => by
    simp only [List.mem_cons, List.not_mem_nil, or_false] at hq
    rcases hq with rfl
    · exact noP1), (fun q hq => by
    simp only [List.mem_cons, List.not_mem_nil, or_false] at hq
    rcases hq with rfl
    · exact PySem.W.codeHd_of_K X hd1), fun s v => .of_eq rfl, fun H a ns hl hP hs => ⟨a, ns, rfl, hs, hl, hP (c1, PT1) List.mem_cons_self, fun _ => rfl⟩, fun base _ _ TB => ok_law T (ok__law_refused_right T (TB (c1, PT1) List.mem_cons_self) l33 w33)⟩
end K04
open PySem PySem.W PyProof.Rows in
set_option maxRecDepth 100000 in
set_option maxHeartbeats 0 in
theorem PySem.Challenge.cw_meettrees_k04_blocks_and_disks_made_holds : PySem.Challenge.rw_meettrees_k04_blocks_and_disks_made.Holds := by
  w_on; o_law; k_head; (case hw => w_witness2)
  k_fill
  refine MT.walkGs (l := PySem.Challenge.rw_meettrees_k04_blocks_and_disks_made) (n := 63) (k := 18) (x := "script") rfl (by decide) rfl ⟨rfl, by decide, by decide⟩ (fun w h Y => PySem.W.km_in_of Y) ?F
  case F =>
    intro w mg fa h Y KX G hmg
    refine' K04.all_mk KX G hmg ?a0 ?l0 ?w0 ?k0 ?a2 ?l2 ?w2 ?k2 ?a3 ?l3 ?w3 ?k3 ?a4 ?l4 ?w4 ?k4 ?a5 ?l5 ?w5 ?k5 ?a9 ?l9 ?w9 ?k9 ?a10 ?l10 ?w10 ?k10 ?a17 ?l17 ?w17 ?k17 ?a22 ?l22 ?w22 ?k22 ?a25 ?l25 ?w25 ?k25 ?a26 ?l26 ?w26 ?k26 ?a27 ?l27 ?w27 ?k27 ?a28 ?l28 ?w28 ?k28 ?a29 ?l29 ?w29 ?k29 ?a30 ?l30 ?w30 ?k30 ?a31 ?l31 ?w31 ?k31 ?a32 ?l32 ?w32 ?k32 ?a33 ?l33 ?w33 ?k33 ?a34 ?l34 ?w34 ?k34 ?A13 ?L13 ?sa13 ?ga13 ?gg13 ?nf13 ?ii13 ?ti13 ?l113 ?w113 ?k113 ?kC13 ?eC13 ?tC13 ?hC13 ?cc13 ?oo13 ?sM13 ?sN13 ?A14 ?L14 ?sa14 ?ga14 ?gg14 ?nf14 ?ii14 ?ti14 ?l114 ?w114 ?k114 ?kC14 ?eC14 ?tC14 ?hC14 ?cc14 ?oo14 ?sM14 ?sN14 ?A15 ?L15 ?sa15 ?ga15 ?gg15 ?nf15 ?nf15b ?ii15 ?ti15 ?l115 ?w115 ?k115 ?kC15 ?eC15 ?tC15 ?hC15 ?cc15 ?oo15 ?sM15 ?oG ?oT ?x13_14 ?xne13_14 ?x13_15 ?xne13_15 ?x14_13 ?xne14_13 ?x14_15 ?xne14_15 ?x15_13 ?xne15_13 ?x15_14 ?xne15_14 ?AM ?eM ?hM ?tM ?z_abs ?z_all ?z_bool ?z_int ?z_isinstance ?z_len ?z_list ?z_range ?z_repr ?z_reversed ?z_tuple ?q_BLOCK_SIZE ?q_MOST_NUMBER ?q_LEAST_BLOCKS ?q_MOST_BLOCKS ?q_MOST_HELD ?lC1 ?uu1 ?hd1 ?noP1 ?tab1 ?aDDisk ?lDDisk ?pgDisk ?hxDisk ?poDisk ?saDisk ?ccDisk ?obDisk ?tdDisk ?mkDisk ?inDisk ?ifDisk ?kpDisk ?naDisk_many ?naDisk_image ?naDisk_held ?srDisk_of ?sgDisk_of ?sfDisk_of ?scDisk_of ?eqDisk ?efDisk ?lNDisk ?oNDisk ?eNDisk ?nNDisk ?stDisk_tuple ?nfDisk_tuple ?mtDisk_block_at ?mfDisk_block_at ?l200 ?w200 ?k200 ?l201 ?w201 ?k201 ?l202 ?w202 ?k202 ?l203 ?w203 ?k203
    (case a0 => k_is)
    (case l0 => k_is)
    (case w0 => k_is)
    (case k0 => k_is)
    (case a2 => k_is)
    (case l2 => k_is)
    (case w2 => k_is)
    (case k2 => k_is)
    (case a3 => k_is)
    (case l3 => k_is)
    (case w3 => k_is)
    (case k3 => k_is)
    (case a4 => k_is)
    (case l4 => k_is)
    (case w4 => k_is)
    (case k4 => k_is)
    (case a5 => k_is)
    (case l5 => k_is)
    (case w5 => k_is)
    (case k5 => k_is)
    (case a9 => k_is)
    (case l9 => k_is)
    (case w9 => k_is)
    (case k9 => k_is)
    (case a10 => k_is)
    (case l10 => k_is)
    (case w10 => k_is)
    (case k10 => k_is)
    (case a17 => k_is)
    (case l17 => k_is)
    (case w17 => k_is)
    (case k17 => k_is)
    (case a22 => k_is)
    (case l22 => k_is)
    (case w22 => k_is)
    (case k22 => k_is)
    (case a25 => k_is)
    (case l25 => k_is)
    (case w25 => k_is)
    (case k25 => k_is)
    (case a26 => k_is)
    (case l26 => k_is)
    (case w26 => k_is)
    (case k26 => k_is)
    (case a27 => k_is)
    (case l27 => k_is)
    (case w27 => k_is)
    (case k27 => k_is)
    (case a28 => k_is)
    (case l28 => k_is)
    (case w28 => k_is)
    (case k28 => k_is)
    (case a29 => k_is)
    (case l29 => k_is)
    (case w29 => k_is)
    (case k29 => k_is)
    (case a30 => k_is)
    (case l30 => k_is)
    (case w30 => k_is)
    (case k30 => k_is)
    (case a31 => k_is)
    (case l31 => k_is)
    (case w31 => k_is)
    (case k31 => k_is)
    (case a32 => k_is)
    (case l32 => k_is)
    (case w32 => k_is)
    (case k32 => k_is)
    (case a33 => k_is)
    (case l33 => k_is)
    (case w33 => k_is)
    (case k33 => k_is)
    (case a34 => k_is)
    (case l34 => k_is)
    (case w34 => k_is)
    (case k34 => k_is)
    (case A13 => k_is)
    (case L13 => k_is)
    (case sa13 => k_is)
    (case ga13 => k_is)
    (case gg13 => k_is)
    (case nf13 => k_is)
    (case ii13 => k_is)
    (case ti13 => k_is)
    (case l113 => k_is)
    (case w113 => k_is)
    (case k113 => k_is)
    (case kC13 => k_is)
    (case eC13 => k_is)
    (case tC13 => k_is)
    (case hC13 => k_is)
    (case cc13 => k_is)
    (case oo13 => k_is)
    (case sM13 => k_is)
    (case sN13 => k_is)
    (case A14 => k_is)
    (case L14 => k_is)
    (case sa14 => k_is)
    (case ga14 => k_is)
    (case gg14 => k_is)
    (case nf14 => k_is)
    (case ii14 => k_is)
    (case ti14 => k_is)
    (case l114 => k_is)
    (case w114 => k_is)
    (case k114 => k_is)
    (case kC14 => k_is)
    (case eC14 => k_is)
    (case tC14 => k_is)
    (case hC14 => k_is)
    (case cc14 => k_is)
    (case oo14 => k_is)
    (case sM14 => k_is)
    (case sN14 => k_is)
    (case A15 => k_is)
    (case L15 => k_is)
    (case sa15 => k_is)
    (case ga15 => k_is)
    (case gg15 => k_is)
    (case nf15 => k_is)
    (case nf15b => k_is)
    (case ii15 => k_is)
    (case ti15 => k_is)
    (case l115 => k_is)
    (case w115 => k_is)
    (case k115 => k_is)
    (case kC15 => k_is)
    (case eC15 => k_is)
    (case tC15 => k_is)
    (case hC15 => k_is)
    (case cc15 => k_is)
    (case oo15 => k_is)
    (case sM15 => k_is)
    (case oG => k_is)
    (case oT => k_is)
    (case x13_14 => k_is)
    (case xne13_14 => decide)
    (case x13_15 => k_is)
    (case xne13_15 => decide)
    (case x14_13 => k_is)
    (case xne14_13 => decide)
    (case x14_15 => k_is)
    (case xne14_15 => decide)
    (case x15_13 => k_is)
    (case xne15_13 => decide)
    (case x15_14 => k_is)
    (case xne15_14 => decide)
    (case AM => k_is)
    (case eM => k_is)
    (case hM => k_is)
    (case tM => k_is)
    (case z_abs => k_is)
    (case z_all => k_is)
    (case z_bool => k_is)
    (case z_int => k_is)
    (case z_isinstance => k_is)
    (case z_len => k_is)
    (case z_list => k_is)
    (case z_range => k_is)
    (case z_repr => k_is)
    (case z_reversed => k_is)
    (case z_tuple => k_is)
    (case q_BLOCK_SIZE => k_is)
    (case q_MOST_NUMBER => k_is)
    (case q_LEAST_BLOCKS => k_is)
    (case q_MOST_BLOCKS => k_is)
    (case q_MOST_HELD => k_is)
    (case lC1 => k_is)
    (case uu1 => first | rfl | k_is)
    (case hd1 => first | rfl | k_is)
    (case noP1 => first | rfl | k_is)
    (case tab1 => exact PySem.W.km_tabs_of Y _ (by simp))
    (case aDDisk => k_is)
    (case lDDisk => k_is)
    (case pgDisk => k_is)
    (case hxDisk => k_is)
    (case poDisk => k_is)
    (case saDisk => k_is)
    (case ccDisk => k_is)
    (case obDisk => k_is)
    (case tdDisk => k_is)
    (case mkDisk => k_is)
    (case inDisk => k_is)
    (case ifDisk => k_is)
    (case kpDisk => k_is)
    (case naDisk_many => k_is)
    (case naDisk_image => k_is)
    (case naDisk_held => k_is)
    (case srDisk_of => k_is)
    (case sgDisk_of => k_is)
    (case sfDisk_of => k_is)
    (case scDisk_of => k_is)
    (case eqDisk => k_is)
    (case efDisk => k_is)
    (case lNDisk => k_is)
    (case oNDisk => first | rfl | decide +kernel)
    (case eNDisk => k_is)
    (case nNDisk => k_is)
    (case stDisk_tuple => k_is)
    (case nfDisk_tuple => k_is)
    (case mtDisk_block_at => k_is)
    (case mfDisk_block_at => k_is)
    (case l200 => k_is)
    (case w200 => k_is)
    (case k200 => k_is)
    (case l201 => k_is)
    (case w201 => k_is)
    (case k201 => k_is)
    (case l202 => k_is)
    (case w202 => k_is)
    (case k202 => k_is)
    (case l203 => k_is)
    (case w203 => k_is)
    (case k203 => k_is)
