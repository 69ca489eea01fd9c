import PyProof.Rows.All
import Wide.All
import OpenK.AllK
import Wide.FinOn
import HandS.WideBits
import HandS.FStr
import HandS.Text
import PyProof.FString3
import KE.KxField
import PyProof.StrLawsIn
import PyProof.ListNew
import HandS.Rev
import HandS.RevRange
import HandS.Flow
import HandS.ForMost
import PySem.Challenge.RW_indentsteps_k08_whole_plain_differences
set_option Elab.async false
set_option linter.all false
set_option maxRecDepth 100000
set_option maxHeartbeats 4000000
namespace Pq
open PySem PySem.Spec PyProof.Rows L2
/-! ### ints as bits -/
def sml (i : Int) : Prop := i.natAbs < 2 ^ 1000
instance {i : Int} : Decidable (sml i) := by unfold sml; infer_instance
def shlR (a b : R) : Option R := match a.d, b.d with
  | .int i, .int j => if 0 ≤ j ∧ j ≤ 1000 ∧ sml i then shR (.int (i * 2 ^ j.toNat)) else none
  | _, _ => none
def shrR (a b : R) : Option R := match a.d, b.d with
  | .int i, .int j => if 0 ≤ j then shR (.int (i / 2 ^ j.toNat)) else none
  | _, _ => none
def bandR (a b : R) : Option R := match a.d, b.d with
  | .int i, .int j => shR (.int (Builtin.bitAnd i j))
  | _, _ => none
def borR (a b : R) : Option R := match a.d, b.d with
  | .int i, .int j => shR (.int (Builtin.bitOr i j))
  | _, _ => none
def bxorR (a b : R) : Option R := match a.d, b.d with
  | .int i, .int j => shR (.int (Builtin.bitXor i j))
  | _, _ => none
section
variable {X : Cx} {a b c e : Expr} {fa fb f : F} {pos : Pos}
theorem od_shl : OpD X (binaryOp .LShift) shlR := OpD.ints (k := fun i j => .int (i * 2 ^ j.toNat)) op_shlW (fun _ _ _ _ => .int _) fun ra rb r e => by
  unfold shlR at e
  split at e
  · rename_i i j h1 h2
    split at e
    · rename_i hc
      refine ⟨i, j, h1, h2, ?_, shR_some e⟩
      obtain ⟨c1, c2, c3⟩ := hc
      have := shl_ok (i := i) (j := j.toNat) (n := 1000) c3 (by omega)
      rwa [Int.toNat_of_nonneg c1] at this
    · cases e
  · cases e
theorem od_shr : OpD X (binaryOp .RShift) shrR := OpD.ints (k := fun i j => .int (i / 2 ^ j.toNat)) op_shr (fun _ _ _ _ => .int _) fun ra rb r e => by
  unfold shrR at e
  split at e
  · split at e
    · exact ⟨_, _, ‹_›, ‹_›, ‹_›, shR_some e⟩
    · cases e
  · cases e
theorem od_band : OpD X (binaryOp .BitAnd) bandR := OpD.ints0 (k := fun i j => .int (Builtin.bitAnd i j)) op_and (fun _ _ _ _ => .int _) fun ra rb r e => by
  unfold bandR at e
  split at e
  · exact ⟨_, _, ‹_›, ‹_›, shR_some e⟩
  · cases e
theorem od_bor : OpD X (binaryOp .BitOr) borR := OpD.ints0 (k := fun i j => .int (Builtin.bitOr i j)) op_or (fun _ _ _ _ => .int _) fun ra rb r e => by
  unfold borR at e
  split at e
  · exact ⟨_, _, ‹_›, ‹_›, shR_some e⟩
  · cases e
theorem od_bxor : OpD X (binaryOp .BitXor) bxorR := OpD.ints0 (k := fun i j => .int (Builtin.bitXor i j)) op_xor (fun _ _ _ _ => .int _) fun ra rb r e => by
  unfold bxorR at e
  split at e
  · exact ⟨_, _, ‹_›, ‹_›, shR_some e⟩
  · cases e
@[simp] def cInv (a : F) : F := fun ρ => (a ρ).bind fun r => (intO r).bind fun i => shR (.int (Builtin.bitNot i))
theorem se_inv (ha : SE X a fa) : SE X (.UnaryOp .Invert a pos) (cInv fa) := .mk fun O ρ σ H r Q E e q => by
  obtain ⟨x, ex, e⟩ := bind_some e
  obtain ⟨i, ei, e⟩ := bind_some e
  cases shR_some e
  exact W.of (pe_un un_inv pe_W) (ha O ρ σ H x _ E ex fun v1 H1 s1 p1 => ⟨i, p1.int (intO_some ei), q _ H1 s1 (Rp.int _)⟩)
/-! x.bit_length() -/
@[simp] def cBits (a : F) : F := fun ρ => (a ρ).bind fun r => (intO r).bind fun i => shR (.int ((Builtin.Int.intBits i : Nat) : Int))
theorem se_bits {apos : Pos} (ha : SE X a fa) (hbase : attributeBase a "bit_length" X.env (eval a X.env) = eval a X.env := by rfl) (hline : (apos.endLine == pos.line) = true := by rfl) : SE X (.Call (.Attribute a "bit_length" apos) [] [] pos) (cBits fa) := .mk fun O ρ σ H r Q E e q => by
  obtain ⟨x, ex, e⟩ := bind_some e
  obtain ⟨i, ei, e⟩ := bind_some e
  cases shR_some e
  exact W.of (pe_bits pe_W hbase hline) (ha O ρ σ H x _ E ex fun v1 H1 s1 p1 => ⟨i, p1.int (intO_some ei), q _ H1 s1 (Rp.int _)⟩)
/-! x ^= e -/
theorem ip_xor : PIp X .BitXor (ipI fun i j => Builtin.bitXor i j) := by
  intro pins s σ H v u v' u' Q I r r' h
  obtain ⟨i, j, rfl, rfl, q⟩ := h
  obtain ⟨t, rfl⟩ := r
  obtain ⟨t', rfl⟩ := r'
  exact ixor_int ⟨.int (Builtin.bitXor i j), H, I.tok _, ⟨_, rfl⟩, q⟩
@[simp] def cXug (i : Nat) (f : F) : Cm := fun ρ => match ρ[i]? with
  | some (some (.sh (.int a))) => runO (f ρ) fun r => runO (intO r) fun b => .nx (ρ.set i (some (.sh (.int (Builtin.bitXor a b)))))
  | _ => .err
theorem ss_xug {i : Nat} {x : Str} {pos' : Pos} (hN : X.N.Nodup) (hi : X.N[i]? = some x) (hx : Loc X.env.scope x) (he : SE X e f) (hf : X.fn x = true ∨ X.env.scope.names.lookup x = some .local := by first | exact .inl rfl | exact .inr rfl | assumption) :
    SS X (.AugAssign (.Name x pos') .BitXor e pos) (cXug i f) := .mk fun O H0 ρ σ H D E B q => by
  unfold cXug at q
  split at q
  · rename_i n hρ
    obtain ⟨r, er, q⟩ := runO_post q
    obtain ⟨m, em, q⟩ := runO_post q
    obtain ⟨v, h1, h2⟩ := E.sh i _ hρ
    cases h2
    refine WS.of (ps_aug hN hi hx pe_W ip_xor hf) ⟨_, h1, he O ρ σ H r _ E er fun v1 H1 s1 p1 => ⟨n, m, rfl, p1.int (intO_some em), ?_⟩⟩
    exact q _ H1 ((E.grow s1).setSh (Rp.int _) (lt_of_get hρ)) (B.grow s1).setSh
  · exact q.elim
end
end Pq

namespace Pq
open PySem PySem.Spec PyProof.Rows L2
/-! ### the digits by two -/
def binL (n : Nat) : List Nat := (Nat.toDigits 2 n).map Char.toNat
def binS (n : Nat) : Str := ⟨(binL n).toArray⟩
theorem digit_two (n : Nat) (h : n < 2) : (Nat.digitChar n).toNat = 48 + n := by
  match n, h with
  | 0, _ => rfl
  | 1, _ => rfl
theorem binL_if (n : Nat) : binL n = if n < 2 then [48 + n] else binL (n / 2) ++ [48 + n % 2] := by
  unfold binL
  rw [Nat.toDigits_eq_if (by decide)]
  split
  · rw [List.map_cons, List.map_nil, digit_two n (by assumption)]
  · rw [List.map_append, List.map_cons, List.map_nil, digit_two _ (Nat.mod_lt _ (by decide))]
theorem binL_len : ∀ (k n : Nat), 1 ≤ k → n < 2 ^ k → (binL n).length ≤ k
  | 0, _, h, _ => absurd h (by decide)
  | k + 1, n, _, hn => by
    rw [binL_if]
    split
    · exact Nat.succ_le_succ (Nat.zero_le _)
    · rename_i h2
      have hk : 1 ≤ k := by
        cases k with
        | zero => exact absurd hn (by omega)
        | succ k => exact Nat.succ_le_succ (Nat.zero_le _)
      have := binL_len k (n / 2) hk (by rw [Nat.pow_succ] at hn; omega)
      rw [List.length_append]
      simp only [List.length_cons, List.length_nil]
      omega
section
variable {prog : Program} {w : World} {A : Around} {E : Value → Shared → Prop} {s : Shared} {a : Int} {t : Tok}
def specB : Str := "b"
theorem ret_textB {M : Model} {A : Around} {E : Value → Shared → Prop} {s : Shared} {X T : Str} {Q : PySem.Fin → Shared → Prop} (e : X = T) (hL : T.length ≤ sizeLine) (h : ∀ t k, Q (.done (.ret (.str T t))) { s with toks := k }) : wpAny M A (retStr X) Q E s := by
  subst e
  exact PySem.W.KXf.ret_text rfl hL h
theorem gives_binF (f : PySem.Builtin.Float.FormatSpec) (hfi : f.fill = 32) (hp : ∀ name, PySem.Builtin.Float.parseFormatSpec specB.cps.toList name 62 = .ok f) (hty : f.type = some 98) (hpr : f.precision = none) (hz0 : f.noNeg0 = false) (hal : f.alt = false) (hw : f.width = none) (hgr : f.grouping = none) (hsg : f.sign = none) (hfl : f.align = 62)
    (a : Int) (t u : Tok) (h0 : 0 ≤ a) (hz : (binS a.toNat).length ≤ sizeLine) : Meets (Builtin.«int.__format__» ⟨[.int a t, .str specB u], []⟩) (fun _ R s => ∀ t' k, R (.ok (.ret (.str (binS a.toNat) t'))) { s with toks := k }) := by
  apply PySem.W.KPc.meets_of
  intro _ _ _ _ _ _ hq
  unfold Builtin.«int.__format__»
  refine wpAny_bind (wpAny_of_eq (a := (_, _)) rfl ?_)
  refine wpAny_bind (wpAny_of_eq (a := _) rfl ?_)
  refine wpAny_ite (PySem.W.KPc.ite_no Bool.false_ne_true ?_)
  refine wpAny_bind (wpAny_typeNameOf (T := "str") (typeIs_str _ _ _) (by decide) fun _ => ?_)
  refine wpAny_bind (wpAny_of_eq (a := some _) rfl ?_)
  refine wpAny_ite (PySem.W.KPc.ite_no (by decide +kernel) ?_)
  refine wpAny_ite (PySem.W.KPc.ite_no (by decide +kernel) ?_)
  refine wpAny_bind (wpAny_typeNameOfCut_int ?_)
  simp only [hp, hty, Option.getD_some]
  rw [if_pos (by decide +kernel)]
  show wpAny _ _ (if _ then _ else _) _ _ _
  rw [if_neg (by simp [hpr])]
  show wpAny _ _ (if _ then _ else _) _ _ _
  rw [if_neg (by simp [hz0])]
  show wpAny _ _ (if _ then _ else _) _ _ _
  rw [if_neg (by decide)]
  show wpAny _ _ (if _ then _ else _) _ _ _
  rw [if_neg (by decide)]
  show wpAny _ _ (if _ then _ else _) _ _ _
  rw [if_neg (by simp [hw])]
  show wpAny _ _ (retStr _) _ _ _
  have ea : a.natAbs = a.toNat := by omega
  have en : decide (a < 0) = false := decide_eq_false (by omega)
  have key3 : (Nat.toDigits 2 a.natAbs).map (fun c => (if ((98 : Nat) == 88) = true then c.toUpper else c).toNat) = binL a.toNat := by
    unfold binL
    rw [ea]
    rfl
  have hne : (binL a.toNat).isEmpty = false := by
    rw [binL_if]
    split
    · rfl
    · simp
  refine ret_textB (T := binS a.toNat) ?_ hz hq
  rw [key3]
  simp only [hal, en, show ((2 : Nat) == 10) = false by decide, Bool.false_eq_true, if_false]
  unfold binS
  revert hne
  generalize binL a.toNat = ds
  intro hne
  conv => lhs; whnf
  simp [hfi, hgr, hsg, hw, hfl, hne]
  have he : (f.align == 60) = false := by rw [hfl]; rfl
  rw [he]
  show List.replicate 0 32 ++ (ds ++ List.replicate 0 32) = ds
  simp
theorem gives_bin (a : Int) (t u : Tok) (h0 : 0 ≤ a) (hz : (binS a.toNat).length ≤ sizeLine) : Meets (Builtin.«int.__format__» ⟨[.int a t, .str specB u], []⟩) (fun _ R s => ∀ t' k, R (.ok (.ret (.str (binS a.toNat) t'))) { s with toks := k }) :=
  gives_binF { align := 62, type := some 98 } rfl (fun _ => rfl) rfl rfl rfl rfl rfl rfl rfl rfl a t u h0 hz
end
end Pq

namespace Pq
open PySem PySem.Spec PyProof.Rows L2
section
variable {X : Cx} {a b c e : Expr} {fa fb f : F} {pos : Pos}
theorem pe_fmtB {te : TE} {k : Nat} {p1 p2 : Pos} (he : PE X e te) : PE X (.FormattedValue e (-1) (some (.JoinedStr [.Constant (.str "b") k p1] p2)) pos) (fun σ H Q => te σ H fun x H1 => ∃ i : Int, x = .int i ∧ 0 ≤ i ∧ (binS i.toNat).length ≤ sizeLine ∧ Q (.str (binS i.toNat)) H1) := by
  refine ⟨fun pins s σ H Q I h => ?_⟩
  refine wpAny_FormattedValue_spec (thn (he.run pins s σ H _ I h) fun v s1 hv => ?_)
  obtain ⟨x, H1, I1, r1, i, rfl, h0, hz, q⟩ := hv
  obtain ⟨t, rfl⟩ := r1
  refine thn ((pe_joined1 pe_str).run pins s1 σ H1 (fun v H2 => v = .str "b" ∧ H2 = H1) I1 ⟨rfl, rfl⟩) fun u s2 hu => ?_
  obtain ⟨y, H2, I2, r2, rfl, rfl⟩ := hu
  obtain ⟨t2, rfl⟩ := r2
  refine ⟨_, _, rfl, ?_⟩
  exact PySem.W.KXf.field_int rfl (by decide +kernel) (by decide +kernel) (fun u => gives_bin i t u h0 hz) fun t' k => ⟨.str _, H2, I2.tok _, ⟨_, rfl⟩, q⟩
@[simp] def cFmtB (f : F) : F := fun ρ => (f ρ).bind fun r => (intO r).bind fun i => if 0 ≤ i ∧ sml i then shR (.str (binS i.toNat)) else none
theorem se_fmtB {k : Nat} {p1 p2 p3 : Pos} (he : SE X e f) : SE X (.JoinedStr [.FormattedValue e (-1) (some (.JoinedStr [.Constant (.str "b") k p1] p2)) p3] pos) (cFmtB f) := .mk fun O ρ σ H r Q E e q => by
  obtain ⟨x, ex, e⟩ := bind_some e
  obtain ⟨i, ei, e⟩ := bind_some e
  split at e
  · rename_i hc
    cases shR_some e
    refine W.of (pe_joined1 (pe_fmtB pe_W)) (he O ρ σ H x _ E ex fun v1 H1 s1 p1 => ⟨i, p1.int (intO_some ei), hc.1, ?_, q _ H1 s1 (Rp.str _)⟩)
    have hl := binL_len 1000 i.toNat (by decide) (by
      have := hc.2
      unfold sml at this
      omega)
    have e1 : (binS i.toNat).length = (binL i.toNat).length := by
      unfold binS
      show (binL i.toNat).toArray.size = _
      simp
    rw [e1]
    exact Nat.le_trans hl (by decide)
  · cases e
def strO (r : R) : Option Str := match r.d with
  | .str x => some x
  | _ => none
theorem strO_some {r : R} {x : Str} (h : strO r = some x) : r.d = .str x := by
  unfold strO at h
  split at h
  · cases h; assumption
  · cases h
theorem RpR.str {K : PySem.W.Frag} {O : Addr → Prop} {H H2 : Hp} {v : V} {r : R} {x : Str} (h : RpR K O H H2 v r) (e : r.d = .str x) : v = .str x := by
  have q := h.full
  rw [e] at q
  cases q
  rfl
@[simp] def cCount (fa fb : F) : F := fun ρ => (fa ρ).bind fun r => (strO r).bind fun x => (fb ρ).bind fun r' => (strO r').bind fun y => shR (.int (Txt.count x y))
theorem se_count {apos : Pos} (ha : SE X a fa) (hb : SE X b fb) (hs : starEach [b] X.env = [(false, eval b X.env)] := by rfl) (hbase : attributeBase a "count" X.env (eval a X.env) = eval a X.env := by rfl) (hline : (apos.endLine == pos.line) = true := by rfl) :
    SE X (.Call (.Attribute a "count" apos) [b] [] pos) (cCount fa fb) := .mk fun O ρ σ H r Q E e q => by
  obtain ⟨x, ex, e⟩ := bind_some e
  obtain ⟨i, ei, e⟩ := bind_some e
  obtain ⟨y, ey, e⟩ := bind_some e
  obtain ⟨j, ej, e⟩ := bind_some e
  cases shR_some e
  refine W.of (pe_m1 PySem.F.slot_str_count PySem.F.type_str_count mt_count pe_W pe_W hs hbase hline) (ha O ρ σ H x _ E ex fun v1 H1 s1 p1 => ?_)
  have e1 := p1.str (strO_some ei)
  subst e1
  refine ⟨⟨_, rfl⟩, hb O ρ σ H1 y _ (E.grow s1) ey fun v2 H2 s2 p2 => ?_⟩
  have e2 := p2.str (strO_some ej)
  subst e2
  exact ⟨_, _, rfl, rfl, q _ H2 (s1.trans s2) (Rp.int _)⟩
end
end Pq

namespace Pq
open PySem PySem.Spec PyProof.Rows L2
open PySem.StrLaws PySem.Builtin.Str in
theorem occ_one (x : Str) (c : Nat) : ∀ (m a : Nat) (st : Array Nat × Nat), st.fst.size ≤ a → st.snd ≤ a → a + m = x.length + 1 →
    (forIn (List.range' a m) st (occBody x ⟨#[c]⟩ x.length (x.length + 1))).run.fst.size = st.fst.size + (x.cps.toList.drop a).count c
  | 0, a, st, _, _, h => by
    have e : x.cps.toList.drop a = [] := List.drop_eq_nil_of_le (by
      have : x.cps.toList.length = x.length := by simp [Str.length]
      omega)
    rw [e]
    rfl
  | m + 1, a, st, h1, h2, h => by
    have e0 : List.range' a (m + 1) = a :: List.range' (a + 1) m := rfl
    rw [e0, List.forIn_cons]
    unfold occBody
    have key := subAt_one x c a
    by_cases hc : x.cps.toList[a]? = some c
    · obtain ⟨k1, k2⟩ := key.mpr hc
      rw [if_pos ⟨⟨⟨by omega, h2⟩, k1⟩, k2⟩]
      have ih := occ_one x c m (a + 1) (st.fst.push a, a + (⟨#[c]⟩ : Str).length) (by show (st.fst.push a).size ≤ a + 1; rw [Array.size_push]; omega) (Nat.le_refl _) (by omega)
      have ed : x.cps.toList.drop a = c :: x.cps.toList.drop (a + 1) := by
        obtain ⟨hlt, hv⟩ := List.getElem?_eq_some_iff.mp hc
        rw [List.drop_eq_getElem_cons hlt, hv]
      rw [ed, List.count_cons_self]
      refine Eq.trans ih ?_
      show (st.fst.push a).size + _ = _
      rw [Array.size_push]
      omega
    · rw [if_neg (fun z => hc (key.mp ⟨z.1.2, z.2⟩))]
      have ih := occ_one x c m (a + 1) st (by omega) (by omega) (by omega)
      have ed : (x.cps.toList.drop a).count c = (x.cps.toList.drop (a + 1)).count c := by
        by_cases hl : a < x.cps.toList.length
        · rw [List.drop_eq_getElem_cons hl, List.count_cons_of_ne]
          intro z
          exact hc (by rw [List.getElem?_eq_getElem hl, z])
        · rw [List.drop_eq_nil_of_le (by omega), List.drop_eq_nil_of_le (by omega)]
      rw [ed]
      exact ih
theorem count_one (l : List Nat) (c : Nat) : Txt.count ⟨l.toArray⟩ ⟨#[c]⟩ = ((l.count c : Nat) : Int) := by
  have h := occ_one ⟨l.toArray⟩ c ((⟨l.toArray⟩ : Str).length + 1) 0 (#[], 0) (Nat.le_refl _) (Nat.le_refl _) (by omega)
  have e : Txt.count ⟨l.toArray⟩ ⟨#[c]⟩ = ((PySem.Builtin.Str.occurrences ⟨l.toArray⟩ ⟨#[c]⟩ 0 (⟨l.toArray⟩ : Str).length ((⟨l.toArray⟩ : Str).length + 1)).length : Int) := rfl
  rw [e, PySem.StrLaws.occ_eq]
  have e2 : ∀ xs : Array Nat, xs.toList.length = xs.size := fun xs => Array.length_toList
  rw [e2, Nat.sub_zero, h]
  simp
/-- how many bits are set -/
def pop (n : Nat) : Nat := (binL n).count 49
theorem pop_if (n : Nat) : pop n = if n < 2 then n else pop (n / 2) + n % 2 := by
  unfold pop
  rw [binL_if]
  have h01 : ∀ k, k < 2 → List.count 49 [48 + k] = k := fun k hk => by
    match k, hk with
    | 0, _ => rfl
    | 1, _ => rfl
  split
  · exact h01 n (by assumption)
  · rw [List.count_append, h01 _ (Nat.mod_lt _ (by decide))]
theorem pop_half (n : Nat) : pop n = pop (n / 2) + n % 2 := by
  have h0 : pop 0 = 0 := by rw [pop_if]; rfl
  rw [pop_if]
  split
  · rename_i h
    have e1 : n / 2 = 0 := by omega
    have e2 : n % 2 = n := by omega
    rw [e1, e2, h0, Nat.zero_add]
  · rfl
theorem count_bin (n : Nat) : Txt.count (binS n) "1" = ((pop n : Nat) : Int) := by
  have e : ("1" : Str) = ⟨#[49]⟩ := by decide +kernel
  rw [e]
  exact count_one (binL n) 49
end Pq

/-! list(zip(a, b)) -/
namespace PySem
theorem pq_nolen_zip : typeLookup (.type "zip") "__len__" = pure none := by rw [typeLookup_type, builtinLookup_eq_fast]; kernel_rfl
theorem pq_nohint_zip : typeLookup (.type "zip") "__length_hint__" = pure none := by rw [typeLookup_type, builtinLookup_eq_fast]; kernel_rfl
section
variable {prog : Program} {w : World} {A : Around} {E : Value → Shared → Prop} {s : Shared} {z TI TO i1 i2 : Addr} {fp1 fp2 : List Addr} {n1 n2 i : Nat} {P1 P2 : Nat → Value → Prop} {St1 St2 : Nat → Heap → Prop} {a1 a2 : Value} {b : Bool}
theorem zip_nextItem {own : Value} {Q : Option Value → Shared → Prop} (S : ZipSep2 z TI TO i1 i2 fp1 fp2) (D1 : Draws prog w A.in1 i1 fp1 n1 P1 St1) (D2 : Draws prog w A.in1 i2 fp2 n2 P2 St2) (ho : own = .none ∨ ∃ T : Addr, own = rawInt T)
    (hz : ZipAny s.heap z TI TO own b) (hTI : IsTupOf2 s.heap TI (.ref i1) (.ref i2)) (hTO : IsTupOf2 s.heap TO a1 a2) (st1 : St1 i s.heap) (st2 : St2 i s.heap) (hlt1 : i < n1) (hlt2 : i < n2)
    (hQ : ∀ x1 x2 h' tk own' b', P1 i x1 → P2 i x2 → (own' = .none ∨ ∃ T : Addr, own' = rawInt T) → ZipAny h' z TI TO own' b' → (∃ y1 y2, IsTupOf2 h' TO y1 y2) → St1 (i + 1) h' → St2 (i + 1) h' → IsTupOf2 h' s.heap.objs.size x1 x2 → h'.objs.size = s.heap.objs.size + 1 →
      (∀ c o, c ≠ z → c ≠ TO → c ≠ i1 → c ≠ i2 → s.heap.get? c = some o → h'.get? c = some o) → Q (some (.ref s.heap.objs.size)) { s with heap := h', toks := tk }) :
    wpAny (model prog w) A (pyNext (.ref z)) Q E s := by
  have hT : s.TypeIs (.ref z) "zip" := ⟨_, hz, rfl⟩
  unfold pyNext
  exact wpAny_bind (wpAny_attempt (wpAny_callSpecial?_slot (name := Str.ofString "__next__") hT F.slot_zip_next
    (wpAny_call_entry F.slot_zip_next hT F.entry_zip_next (zip_item S D1 D2 ho hz hTI hTO st1 st2 hlt1 hlt2 fun x1 x2 h' tk own' b' g1 g2 g3 g4 g5 g6 g7 g8 g9 g10 => wpAny_pure (hQ x1 x2 h' tk own' b' g1 g2 g3 g4 g5 g6 g7 g8 g9 g10)) (F.args_zip_next_1 _))))
theorem zip_nextEnd {own : Value} {Q : Option Value → Shared → Prop} (S : ZipSep2 z TI TO i1 i2 fp1 fp2) (D1 : Draws prog w A.in1 i1 fp1 n1 P1 St1) (D2 : Draws prog w A.in1 i2 fp2 n2 P2 St2) (ho : own = .none ∨ ∃ T : Addr, own = rawInt T)
    (hz : ZipAny s.heap z TI TO own b) (hTI : IsTupOf2 s.heap TI (.ref i1) (.ref i2)) (hTO : IsTupOf2 s.heap TO a1 a2) (st1 : St1 i s.heap) (st2 : St2 i s.heap) (hle1 : i ≤ n1) (hle2 : i ≤ n2) (hend : i = n1 ∨ i = n2)
    (hQ : ∀ h' tk, (∀ c o, c ≠ z → c ≠ TO → c ≠ i1 → c ≠ i2 → s.heap.get? c = some o → h'.get? c = some o) → Q none { s with heap := h', toks := tk }) :
    wpAny (model prog w) A (pyNext (.ref z)) Q E s := by
  have hT : s.TypeIs (.ref z) "zip" := ⟨_, hz, rfl⟩
  unfold pyNext
  refine wpAny_bind (wpAny_attempt (wpAny_callSpecial?_slot (name := Str.ofString "__next__") hT F.slot_zip_next
    (wpAny_call_entry F.slot_zip_next hT F.entry_zip_next (zip_end S D1 D2 ho hz hTI hTO st1 st2 hle1 hle2 hend fun h' tk e hk he => ?_) (F.args_zip_next_1 _))))
  obtain ⟨o, ho', hc⟩ := he
  exact wpAny_bind (wpAny_isInstance (T := "StopIteration") (b := true) ⟨o, ho', hc⟩ isSubtype_stop (wpAny_pure (hQ _ _ hk)))
end
end PySem
namespace Pq
open PySem PySem.Spec PyProof.Rows L2
section
variable {X : Cx} {pins : List (Addr × Obj)} {σ : L2.St} {s : Shared} {H H0 : Hp} {z TI TO i1 i2 a b q : Addr} {ka kb : Bool} {xs ys : List V} {A1 : Around}
def ZSt (h : Heap) (z TI TO i1 i2 a b : Addr) (ka kb : Bool) (i : Nat) : Prop := ∃ (own : Value) (f : Bool), (own = .none ∨ ∃ T : Addr, own = rawInt T) ∧ ZipAny h z TI TO own f ∧ IsTupOf2 h TI (.ref i1) (.ref i2) ∧ (∃ x y, IsTupOf2 h TO x y) ∧ kIt ka h i1 a i ∧ kIt kb h i2 b i
theorem ZSt.keep {h h' : Heap} {i : Nat} (st : ZSt h z TI TO i1 i2 a b ka kb i) (k : ∀ c ∈ [z, TI, TO, i1, i2], ∀ o, h.get? c = some o → h'.get? c = some o) : ZSt h' z TI TO i1 i2 a b ka kb i := by
  obtain ⟨own, f, ho, hz, hTI, ⟨x, y, hTO⟩, h1, h2⟩ := st
  exact ⟨own, f, ho, k z (by simp) _ hz, k TI (by simp) _ hTI, ⟨x, y, k TO (by simp) _ hTO⟩, kIt_at h1 fun o q => k i1 (by simp) o q, kIt_at h2 fun o q => k i2 (by simp) o q⟩
theorem ZSt.obj {h : Heap} {i : Nat} (st : ZSt h z TI TO i1 i2 a b ka kb i) : ∀ c ∈ [z, TI, TO, i1, i2], c < h.objs.size := fun c hc => by
  obtain ⟨own, f, ho, hz, hTI, ⟨x, y, hTO⟩, h1, h2⟩ := st
  have e' : c = z ∨ c = TI ∨ c = TO ∨ c = i1 ∨ c = i2 := by simpa using hc
  rcases e' with q | q | q | q | q
  · rw [q]; exact Heap.lt_size hz
  · rw [q]; exact Heap.lt_size hTI
  · rw [q]; exact Heap.lt_size hTO
  · rw [q]; obtain ⟨_, e1, _⟩ := kIt_obj h1; exact Heap.lt_size e1
  · rw [q]; obtain ⟨_, e2, _⟩ := kIt_obj h2; exact Heap.lt_size e2
/-- the pairs so far -/
def Prs (H : Hp) (xs ys acc : List V) (i : Nat) : Prop := acc.length = i ∧ ∀ (j : Nat) (x y : V), j < i → xs[j]? = some x → ys[j]? = some y → ∃ T, acc[j]? = some (.ref T) ∧ H T = some (.tup [x, y])
theorem zl_loop (D : ZipApart z TI TO i1 i2 a b) (hh : A1.handled = none) {n : Nat} (hn : n = min xs.length ys.length) (hnl : n ≤ LIM) (hqx : kSeq ka X.K H0 a xs) (hqy : kSeq kb X.K H0 b ys) {Rs : Result → Shared → Prop}
    (hdone : ∀ acc H s, Inv X pins σ H s → Same H0 H → H q = some (.lst acc) → Prs H xs ys acc n → Rs (.ok (.ret .none)) s) :
    ∀ (k i : Nat) (acc : List V) (H : Hp) (s : Shared), n - i = k → i ≤ n → Inv X pins σ H s → Same H0 H → H0 q = none → H q = some (.lst acc) → (∀ c ∈ [z, TI, TO, i1, i2], FpOk X pins H c) → ZSt s.heap z TI TO i1 i2 a b ka kb i → Prs H xs ys acc i →
      codeAny (model X.prog X.w) A1 (.builtin "list.extend.loop" ⟨[.ref q, .ref z, .none], []⟩) Rs s := by
  intro k
  induction k with
  | zero =>
    intro i acc H s hk hi I sm hq0 hq hf st pr
    have ei : i = n := by omega
    subst ei
    obtain ⟨own, f, ho, hz, hTI, ⟨x0, y0, hTO⟩, h1, h2⟩ := st
    obtain ⟨its, rv, p⟩ := kInv I (kSeq_same sm hqx)
    obtain ⟨its2, rv2, p2⟩ := kInv I (kSeq_same sm hqy)
    have l1 := rv.length
    have l2 := rv2.length
    have z1 : its.toArray.size = its.length := List.size_toArray ..
    have z2 : its2.toArray.size = its2.length := List.size_toArray ..
    refine codeAny_builtin PySem.F.entry_extend_loop ?_
    rw [Around.under_plainId PySem.F.plain_extend_loop _]
    show wpAny _ A1.in1 (pyNext (.ref z) >>= _) _ _ s
    refine wpAny_bind (zip_nextEnd (zipSep D) (kDraws (prog := X.prog) (w := X.w) (A := A1.in1.in1) ka hh i1 a D.l1i1 its.toArray) (kDraws (prog := X.prog) (w := X.w) (A := A1.in1.in1) kb hh i2 b D.l2i2 its2.toArray) ho hz hTI hTO ⟨h1, p⟩ ⟨h2, p2⟩ (by omega) (by omega) (by omega) fun h' tk hk' => ?_)
    have I1 : Inv X pins σ H { s with heap := h', toks := tk } := I.turnedL (t' := tk) (ch := [z, TI, TO, i1, i2]) (fun c o hb u => hk' c o (fun q' => hb (by simp [q'])) (fun q' => hb (by simp [q'])) (fun q' => hb (by simp [q'])) (fun q' => hb (by simp [q'])) u) hf
    exact wpAny_pure (hdone acc H _ I1 sm hq pr)
  | succ k ih =>
    intro i acc H s hk hi I sm hq0 hq hf st pr
    have hlt : i < n := by omega
    have stl := st.obj
    obtain ⟨own, f, ho, hz, hTI, ⟨x0, y0, hTO⟩, h1, h2⟩ := st
    obtain ⟨its, rv, p⟩ := kInv I (kSeq_same sm hqx)
    obtain ⟨its2, rv2, p2⟩ := kInv I (kSeq_same sm hqy)
    have l1 := rv.length
    have l2 := rv2.length
    have z1 : its.toArray.size = its.length := List.size_toArray ..
    have z2 : its2.toArray.size = its2.length := List.size_toArray ..
    have hix : i < xs.length := by omega
    have hiy : i < ys.length := by omega
    obtain ⟨u, hu, ru⟩ := rv.get (List.getElem?_eq_getElem hix)
    obtain ⟨u2, hu2, ru2⟩ := rv2.get (List.getElem?_eq_getElem hiy)
    refine codeAny_builtin PySem.F.entry_extend_loop ?_
    rw [Around.under_plainId PySem.F.plain_extend_loop _]
    show wpAny _ A1.in1 (pyNext (.ref z) >>= _) _ _ s
    refine wpAny_bind (zip_nextItem (zipSep D) (kDraws (prog := X.prog) (w := X.w) (A := A1.in1.in1) ka hh i1 a D.l1i1 its.toArray) (kDraws (prog := X.prog) (w := X.w) (A := A1.in1.in1) kb hh i2 b D.l2i2 its2.toArray) ho hz hTI hTO ⟨h1, p⟩ ⟨h2, p2⟩ (by omega) (by omega) fun x1 x2 h' tk own' b' e1 e2 ho' z' TO' st1 st2 hT hsz hk' => ?_)
    have f1 : x1 = u := by
      have q : its.toArray[i]? = some x1 := e1
      rw [List.getElem?_toArray, hu] at q
      exact (Option.some.inj q).symm
    have f2 : x2 = u2 := by
      have q : its2.toArray[i]? = some x2 := e2
      rw [List.getElem?_toArray, hu2] at q
      exact (Option.some.inj q).symm
    subst f1 f2
    have hTn : H s.heap.objs.size = none := I.hok.fresh (Nat.le_refl _)
    have new : ObjOk X.prog X.w (upd H s.heap.objs.size (.tup [xs[i], ys[i]])) h' s.heap.objs.size (.tup [xs[i], ys[i]]) :=
      ⟨by show 2 ≤ sizeLine; decide, [x1, x2], .cons ru (.cons ru2 .nil), ⟨_, hT, rfl, _, rfl⟩⟩
    have I1 : Inv X pins σ (upd H s.heap.objs.size (.tup [xs[i], ys[i]])) { s with heap := h', toks := tk } :=
      I.turnedNew (t' := tk) (ch := [z, TI, TO, i1, i2]) (fun c o hb q => hk' c o (fun q' => hb (by simp [q'])) (fun q' => hb (by simp [q'])) (fun q' => hb (by simp [q'])) (fun q' => hb (by simp [q'])) q) hf (Nat.le_refl _) new
    have hqT : q ≠ s.heap.objs.size := fun e => by rw [e, hTn] at hq; cases hq
    have hq1 : upd H s.heap.objs.size (.tup [xs[i], ys[i]]) q = some (.lst acc) := by rw [upd_ne hqT]; exact hq
    show wpAny _ A1.in1 (updateSeq q (·.push (.ref s.heap.objs.size)) >>= _) _ _ _
    obtain ⟨zl, itsq, kq, rq, hlq, eq⟩ := I1.lstM hq1
    have hal := pr.1
    have hLs : LIM ≤ sizeLine := by decide
    refine wpAny_bind (wpAny_updateSeq eq rfl (wpAny_pure ⟨plainId_quiet PySem.F.plain_extend_loop _, ?_⟩) (by rw [List.size_toArray]; omega) (by show (itsq.toArray.push _).size ≤ sizeLine + 1; rw [Array.size_push, List.size_toArray]; omega))
    have I2 := I1.lset (f := (·.push (.ref s.heap.objs.size))) (its' := itsq ++ [.ref s.heap.objs.size]) (ys := acc ++ [.ref s.heap.objs.size]) (t' := tk) hq1 eq (by simp) (rq.append (show Vals [V.ref s.heap.objs.size] [Value.ref s.heap.objs.size] from .cons rfl .nil)) (by rw [List.length_append, List.length_singleton]; omega)
    have hfq : ∀ c ∈ [z, TI, TO, i1, i2], c ≠ q := fun c hc e => by
      have := (hf c hc).1
      rw [e, hq] at this
      cases this
    have hfT : ∀ c ∈ [z, TI, TO, i1, i2], c ≠ s.heap.objs.size := fun c hc => Nat.ne_of_lt (stl c hc)
    refine ih (i + 1) (acc ++ [.ref s.heap.objs.size]) _ _ (by omega) (by omega) I2 ?_ hq0 upd_same (fun c hc => ?_) ?_ ?_
    · exact Same.mut (sm.trans (Same.new hTn)) hq0
    · exact ⟨by rw [upd_ne (hfq c hc), upd_ne (hfT c hc)]; exact (hf c hc).1, (hf c hc).2⟩
    · refine ZSt.keep (h := h') ⟨own', b', ho', z', ?_, TO', st1.1, st2.1⟩ fun c hc o e => (Heap.get?_update_other _ _ (Ne.symm (hfq c hc))).trans e
      exact hk' _ _ D.TIz D.TITO D.TIi1 D.TIi2 hTI
    · refine ⟨by rw [List.length_append, List.length_singleton, hal], fun j x y hj hx hy => ?_⟩
      by_cases hji : j < i
      · obtain ⟨T, t1, t2⟩ := pr.2 j x y hji hx hy
        refine ⟨T, by rw [List.getElem?_append_left (by omega)]; exact t1, ?_⟩
        have n1 : T ≠ q := fun e => by rw [e, hq] at t2; cases t2
        have n2 : T ≠ s.heap.objs.size := fun e => by rw [e, hTn] at t2; cases t2
        rw [upd_ne n1, upd_ne n2]
        exact t2
      · have ej : j = i := by omega
        subst ej
        refine ⟨s.heap.objs.size, by rw [List.getElem?_append_right (by omega), hal, Nat.sub_self]; rfl, ?_⟩
        rw [upd_ne (Ne.symm hqT), upd_same]
        rw [List.getElem?_eq_getElem hix] at hx
        rw [List.getElem?_eq_getElem hiy] at hy
        cases hx
        cases hy
        rfl
end
end Pq

namespace Pq
open PySem PySem.Spec PyProof.Rows L2
section
variable {X : Cx} {tg a b e e2 : Expr} {fa fb f : F} {p pos : Pos}
/-- list(zip(a, b)): what comes -/
def tLZ (K : PySem.W.Frag) (ta : TA) : TE := fun σ H Q => ta σ H fun vs H1 => ∃ a b xs ys ka kb, vs = [.ref a, .ref b] ∧ kSeq ka K H1 a xs ∧ kSeq kb K H1 b ys ∧ min xs.length ys.length ≤ LIM ∧
  ∀ q acc H2, H1 q = none → Same H1 H2 → H2 q = some (.lst acc) → Prs H2 xs ys acc (min xs.length ys.length) → Q (.ref q) H2
theorem pe_listZip {ta : TA} {p2 pos2 : Pos} (hc : X.calm = true) (hg0 : Gl X "list") (hm0 : X.mg "list" = none) (hg : Gl X "zip") (hm : X.mg "zip" = none) (ha : PA X [e, e2] ta)
    (hs : starEach [e, e2] X.env = (false, eval e X.env) :: starEach [e2] X.env := by rfl) (hpl : (backTo pos2 (starEach [e2] X.env)).any (·.1) = false := by rfl)
    (hs0 : starEach [.Call (.Name "zip" p2) [e, e2] [] pos2] X.env = (false, eval (.Call (.Name "zip" p2) [e, e2] [] pos2) X.env) :: starEach [] X.env := by rfl) :
    PE X (.Call (.Name "list" p) [.Call (.Name "zip" p2) [e, e2] [] pos2] [] pos) (tLZ X.K ta) := by
  refine ⟨fun pins s σ H Q I h => ?_⟩
  refine Call_ (ld_blt I hg0 hm0 boot_list (PyProof.Rows.callWith_type1 ?_ hs0 rfl))
  rw [hs0]
  show wpAny _ _ (spliced ((false, eval (.Call (.Name "zip" p2) [e, e2] [] pos2) X.env) :: backTo pos (starEach [] X.env))) _ _ s
  refine Calls.spliced_cons ?_
  refine Call_ (ld_blt I hg hm PyProof.Rows.boot_zip (PyProof.Rows.callWith_type1 (thn (ha.run pos2 pins s σ H _ I h) fun us s1 ⟨vs, H1, I1, r1, q1⟩ => ?_) hs hpl))
  obtain ⟨a, b, xs, ys, ka, kb, ex, hqx, hqy, hnl, q⟩ := q1
  subst ex
  cases r1 with
  | cons r rr =>
    cases rr with
    | cons r' rr =>
      cases rr
      cases r
      cases r'
      obtain ⟨its, rv, p1⟩ := kInv I1 hqx
      obtain ⟨its2, rv2, p2'⟩ := kInv I1 hqy
      refine zip_begins2 (kBegins ka a its.toArray) (kBegins kb b its2.toArray) p1 p2' fun h' hz hTI hTO h1 h2 hsz hk => PyProof.Rows.args_nil ?_
      have D := PySem.W.ktu_apart s1.heap.objs.size a b (kAt_lt p1) (kAt_lt p2')
      have I2 : Inv X pins σ H1 { s1 with heap := h' } := I1.kept (t' := s1.toks) hk
      have st : ZSt h' (s1.heap.objs.size + 4) (s1.heap.objs.size + 2) (s1.heap.objs.size + 3) s1.heap.objs.size (s1.heap.objs.size + 1) a b ka kb 0 := ⟨.none, false, .inl rfl, hz, hTI, ⟨_, _, hTO⟩, kIt_new h1, kIt_new h2⟩
      have hfp : ∀ c ∈ [s1.heap.objs.size + 4, s1.heap.objs.size + 2, s1.heap.objs.size + 3, s1.heap.objs.size, s1.heap.objs.size + 1], FpOk X pins H1 c := fun c hcm => by
        have e' : c = s1.heap.objs.size + 4 ∨ c = s1.heap.objs.size + 2 ∨ c = s1.heap.objs.size + 3 ∨ c = s1.heap.objs.size ∨ c = s1.heap.objs.size + 1 := by simpa using hcm
        have hle : s1.heap.objs.size ≤ c := by
          rcases e' with z | z | z | z | z <;> rw [z]
          · exact Nat.le_add_right _ _
          · exact Nat.le_add_right _ _
          · exact Nat.le_add_right _ _
          · exact Nat.le_refl _
          · exact Nat.le_add_right _ _
        exact I1.fpOk hle (I1.hok.fresh hle)
      generalize hqd : h'.objs.size = qa
      have hsz' : qa = s1.heap.objs.size + 5 := by rw [← hqd]; exact hsz
      have fr : H1 qa = none := I2.hok.fresh (Nat.le_of_eq hqd)
      refine callType_codes (Q₁ := fun obj s₁ => obj = .ref qa ∧ s₁ = { s1 with heap := h'.push { cls := .type "list", data := .seq #[] } }) PySem.F.called_list (PySem.F.typeCall_list_1 _) PySem.F.entry_list_init
        (code_list_new _ ⟨congrArg Value.ref hqd, rfl⟩) fun obj s₁ h₁ => ?_
      obtain ⟨rfl, rfl⟩ := h₁
      have hS : (h'.push { cls := .type "list", data := .seq #[] }).get? qa = some { cls := .type "list", data := .seq #[] } := by rw [← hqd]; exact Heap.get?_push_size _ rfl
      refine ⟨⟨_, hS, rfl⟩, PySem.F.args_list_init_2 _ _, ?_⟩
      have I3 : Inv X pins σ (upd H1 qa (.lst [])) { s1 with heap := h'.push { cls := .type "list", data := .seq #[] } } := by
        have := I2.lnew (its := []) (ys := []) (t' := s1.toks) .nil (Nat.zero_le _)
        rw [show ({ s1 with heap := h' } : Shared).heap.objs.size = qa from hqd] at this
        exact this
      show wpAny _ _ (do let old ← Builtin.List.listItems (.ref qa); Builtin.List.listUpdate (.ref qa) (fun _ => #[]); letGo old.toList.reverse; Builtin.List.listExtendWith (.ref qa) (.ref (s1.heap.objs.size + 4)) .none) _ _ _
      refine wpAny_bind ?_
      unfold Builtin.List.listItems
      refine wpAny_bind (wpAny_seqItems hS rfl (wpAny_pure ?_))
      show wpAny _ _ (updateSeq qa (fun _ => #[]) >>= fun _ => letGo (#[] : Array Value).toList.reverse >>= fun _ => Builtin.List.listExtendWith (.ref qa) (.ref (s1.heap.objs.size + 4)) .none) _ _ _
      refine wpAny_bind (wpAny_updateSeq hS rfl ?_)
      have I4 := I3.lset (f := fun _ => #[]) (its := []) (its' := []) (ys := []) (t' := s1.toks) upd_same hS rfl .nil (Nat.zero_le _)
      rw [upd_upd] at I4
      refine wpAny_bind (wpAny_letGo ?_)
      have oth0 : ∀ c o, h'.get? c = some o → (h'.push { cls := .type "list", data := .seq #[] }).get? c = some o := fun c o e => Heap.get?_push_of_some _ e
      have neq : ∀ c ∈ [s1.heap.objs.size + 4, s1.heap.objs.size + 2, s1.heap.objs.size + 3, s1.heap.objs.size, s1.heap.objs.size + 1], c ≠ qa := fun c hcm e => by
        have := st.obj c hcm
        rw [e, hqd] at this
        exact Nat.lt_irrefl _ this
      have st4 := st.keep (h' := (h'.push { cls := .type "list", data := .seq #[] }).update qa (Obj.mapSeq fun _ => #[])) fun c hcm o e => (Heap.get?_update_other _ _ (Ne.symm (neq c hcm))).trans (oth0 c o e)
      obtain ⟨own4, f4, ho4, hz4, rest4⟩ := id st4
      have hzT : ∀ h2 : Heap, (∀ o, ((h'.push { cls := .type "list", data := .seq #[] }).update qa (Obj.mapSeq fun _ => #[])).get? (s1.heap.objs.size + 4) = some o → h2.get? (s1.heap.objs.size + 4) = some o) → ({ s1 with heap := h2 } : Shared).TypeIs (.ref (s1.heap.objs.size + 4)) "zip" := fun h2 k => ⟨_, k _ hz4, rfl⟩
      unfold Builtin.List.listExtendWith
      refine wpAny_bind (wpAny_typeOf (hzT _ fun _ e => e) ?_)
      have hneq : qa ≠ s1.heap.objs.size + 4 := Ne.symm (neq _ (by simp))
      have e1 : Builtin.List.listSameRef (.ref qa) (.ref (s1.heap.objs.size + 4)) = false := by simp [Builtin.List.listSameRef, hneq]
      have e2 : (Value.type "zip" == Value.type "list") = false := by decide
      have e3 : (Value.type "zip" == Value.type "tuple") = false := by decide
      simp only [e1, e2, e3, Bool.or_false, Bool.false_eq_true, if_false]
      refine wpAny_bind (pyIter_zipAny hz4 ?_)
      refine wpAny_bind (wpAny_holding ?_)
      unfold Builtin.List.listLengthHint
      refine wpAny_bind (wpAny_specialOf (hzT _ fun _ e => e) pq_nolen_zip ?_)
      show wpAny _ _ (specialOf (Value.ref (s1.heap.objs.size + 4)) (Str.ofString "__length_hint__") >>= _) _ _ _
      refine wpAny_bind (wpAny_specialOf (hzT _ fun _ e => e) pq_nohint_zip ?_)
      refine wpAny_pure ?_
      show wpAny _ _ (rule "list.extend.makes-room" >>= fun _ => Builtin.List.listTouch (.ref qa) >>= fun _ => again (.builtin "list.extend.loop" ⟨[.ref qa, .ref (s1.heap.objs.size + 4), .none], []⟩)) _ _ _
      refine wpAny_bind (wpAny_rule ?_)
      refine wpAny_bind ?_
      show wpAny _ _ (updateSeq qa (·.push .none) >>= fun _ => updateSeq qa (·.pop)) _ _ _
      obtain ⟨zl5, its5, k5, r5, hl5, e5⟩ := I4.lstM upd_same
      cases r5
      refine wpAny_bind (wpAny_updateSeq e5 rfl ?_)
      have I5 := I4.lset (f := (·.push Value.none)) (its' := [Value.none]) (ys := [.non]) (t' := s1.toks) upd_same e5 (by simp) (.cons rfl .nil) (by rw [List.length_singleton, sizeLine_eq]; decide)
      rw [upd_upd] at I5
      obtain ⟨zl6, its6, k6, r6, hl6, e6⟩ := I5.lstM upd_same
      obtain ⟨u6, rfl, ru6⟩ := r6.one
      refine wpAny_updateSeq e6 rfl ?_ (by show 1 ≤ sizeLine; rw [sizeLine_eq]; decide) (by show 0 ≤ sizeLine + 1; exact Nat.zero_le _)
      have I6 := I5.lset (f := (·.pop)) (its := [u6]) (its' := []) (ys := []) (t' := s1.toks) upd_same e6 (by rfl) .nil (Nat.zero_le _)
      rw [upd_upd] at I6
      refine wpAny_pure ⟨plainId_quiet PySem.F.plain_extend_loop _, zl_loop (A1 := X.A.in1) (H0 := H1) (q := qa) D (I.ok.hd hc) rfl hnl hqx hqy (Rs := wants (fun r s₂ => r = .none ∧ EP X pins σ Q (.ref qa) s₂) X.xe) (fun acc H s I sm hq pr => ⟨rfl, .ref qa, H, I, rfl, q qa acc H fr sm hq pr⟩) _ 0 [] _ _ rfl (Nat.zero_le _) I6 (Same.new fr) fr upd_same (fun c hcm => ?_) ?_ ⟨rfl, fun j x y hj => absurd hj (Nat.not_lt_zero _)⟩⟩
      · exact ⟨by rw [upd_ne (neq c hcm)]; exact (hfp c hcm).1, (hfp c hcm).2⟩
      · exact st4.keep fun c hcm o e => (Heap.get?_update_other _ _ (Ne.symm (neq c hcm))).trans ((Heap.get?_update_other _ _ (Ne.symm (neq c hcm))).trans e)
end
end Pq

namespace Pq
open PySem PySem.Spec PyProof.Rows L2 RT
section
variable {X : Cx} {tg a b c e e2 : Expr} {fa fb fc f : F} {p pos : Pos}
def cLZ (fa fb : F) : F := fun ρ => (cIter fa ρ).bind fun ds => (cIter fb ρ).bind fun es => if (zipD ds es).length ≤ LIM then frR (zipD ds es) else none
theorem se_listZip {p2 pos2 : Pos} (hc : X.calm = true) (hg0 : Gl X "list") (hm0 : X.mg "list" = none) (hg : Gl X "zip") (hm : X.mg "zip" = none) (ha : SE X a fa) (hb : SE X b fb)
    (hs : starEach [a, b] X.env = (false, eval a X.env) :: starEach [b] X.env := by rfl) (hs2 : starEach [b] X.env = (false, eval b X.env) :: starEach [] X.env := by rfl) (hpl : (backTo pos2 (starEach [b] X.env)).any (·.1) = false := by rfl)
    (hs0 : starEach [.Call (.Name "zip" p2) [a, b] [] pos2] X.env = (false, eval (.Call (.Name "zip" p2) [a, b] [] pos2) X.env) :: starEach [] X.env := by rfl) :
    SE X (.Call (.Name "list" p) [.Call (.Name "zip" p2) [a, b] [] pos2] [] pos) (cLZ fa fb) := .mk fun O ρ σ H r0 Q E e q => by
  unfold cLZ at e
  obtain ⟨xs, ex, e⟩ := bind_some e
  obtain ⟨ys, ey, e⟩ := bind_some e
  split at e
  rotate_left
  · cases e
  rename_i hlen
  cases frR_some e
  obtain ⟨r, er, hk, e1⟩ := cIter_some ex
  obtain ⟨r', er', hk', e2⟩ := cIter_some ey
  refine W.of (pe_listZip hc hg0 hm0 hg hm (pa_cons pe_W (pa_cons pe_W pa_nil hs2) hs) hs hpl hs0) (ha O ρ σ H r _ E er fun v1 H1 s1 p1 => ?_)
  refine hb O ρ σ H1 r' _ (E.grow s1) er' fun v2 H2 s2 p2 => ?_
  have q1 := (p1.settle hk (fun a h => E.offd h)).same (hide_mono s2 fun _ _ _ z => z)
  have q2 := p2.settle hk' (fun a h => (E.grow s1).offd h)
  obtain ⟨ka, a', vs, rfl, g1, t1⟩ := kSeq_of q1 e1
  obtain ⟨kb, b', ws, rfl, g2, t2⟩ := kSeq_of q2 e2
  have hl : (zipD xs ys).length = min vs.length ws.length := by
    unfold zipD
    rw [List.length_zipWith, t1.length, t2.length]
  have E2 := (E.grow s1).grow s2
  refine ⟨a', b', vs, ws, ka, kb, rfl, kSeq_same hide_le g1, kSeq_same hide_le g2, by omega, fun qa acc H3 hn sm hq pr => ?_⟩
  have s13 := s1.trans s2
  refine q _ H3 (s13.trans sm) ⟨qa, .lst (zipD xs ys), rfl, rfl, s13.free hn, acc, hq, ?_⟩
  have mono : Same (hide (Off O ρ σ) H2) (hide (fun b => Off O ρ σ b ∨ b = qa) H3) := fun b o qb => by
    obtain ⟨n, qb⟩ := hide_some.mp qb
    exact hide_some.mpr ⟨fun z => z.elim n (ne_of_none qb hn), sm b o qb⟩
  have build : ∀ (acc : List V) (ds : List PyData), acc.length = ds.length → (∀ (j : Nat) (v : V) (d : PyData), acc[j]? = some v → ds[j]? = some d → Rp X.K (hide (fun b => Off O ρ σ b ∨ b = qa) H3) v d) → RpAll X.K (hide (fun b => Off O ρ σ b ∨ b = qa) H3) acc ds := by
    intro acc
    induction acc with
    | nil =>
      intro ds hl _
      cases ds with
      | nil => exact .nil
      | cons d ds => cases hl
    | cons v acc ih =>
      intro ds hl hj
      cases ds with
      | nil => cases hl
      | cons d ds => exact .cons (hj 0 v d rfl rfl) (ih ds (Nat.succ.inj hl) fun j v d h1 h2 => hj (j + 1) v d h1 h2)
  refine build acc _ (by rw [pr.1, hl]) fun j v d hv hd => ?_
  have hj : j < (zipD xs ys).length := (List.getElem?_eq_some_iff.mp hd).1
  have l1 := t1.length
  have l2 := t2.length
  have hj1 : j < vs.length := by omega
  have hj2 : j < ws.length := by omega
  obtain ⟨T, hT1, hT2⟩ := pr.2 j vs[j] ws[j] (by omega) (List.getElem?_eq_getElem hj1) (List.getElem?_eq_getElem hj2)
  rw [hv] at hT1
  cases hT1
  obtain ⟨d1, ed1, pd1⟩ := t1.getV (List.getElem?_eq_getElem hj1)
  obtain ⟨d2, ed2, pd2⟩ := t2.getV (List.getElem?_eq_getElem hj2)
  have ed : d = .tuple [d1, d2] := by
    unfold zipD at hd
    rw [List.getElem?_zipWith, ed1, ed2] at hd
    exact (Option.some.inj hd).symm
  subst ed
  refine Rp.tup (hide_some.mpr ⟨fun z => ?_, hT2⟩) (.cons (pd1.same mono) (.cons (pd2.same mono) .nil))
  rcases z with z | z
  · obtain ⟨o, ho, hnt⟩ := E2.offd z
    have := sm _ _ ho
    rw [hT2] at this
    cases this
    exact hnt _ rfl
  · rw [z, hq] at hT2
    cases hT2
/-! reversed(x) -/
@[simp] def cRevI (a : F) : Sl → Option (List PyData) := fun ρ => (cIter a ρ).bind fun ds => some ds.reverse
theorem wk_rev {K : PySem.W.Frag} {F : Hp} {a : Addr} {vs : List V} {ds : List PyData} (h : SqL K F a vs) (p : RpAll K F vs ds) : Wk K F ds.reverse (Itv K a vs.length) := by
  have hl := p.length
  refine ⟨_, _, by rw [List.length_reverse, ← p.length]; exact walk_rev (xs := vs), fun H s => Same.seq s h, fun i H v H' hi y s => ?_⟩
  obtain ⟨e1, e2⟩ := y
  subst e1
  rw [List.length_reverse] at hi
  refine ⟨Same.refl _, fun O _ sO => ?_⟩
  obtain ⟨d, ed, pd⟩ := p.getV e2
  refine ⟨d, ?_, pd.same sO⟩
  rw [List.getElem?_reverse (by omega), ← hl]
  exact ed
theorem wk_revT {K : PySem.W.Frag} {F : Hp} {a : Addr} {vs : List V} {ds : List PyData} (h : SqT K F a vs) (p : RpAll K F vs ds) : Wk K F ds.reverse (ItvT K a vs.length) := by
  have hl := p.length
  refine ⟨_, _, by
    rw [List.length_reverse, ← p.length]
    exact (⟨fun i _ hi q => ⟨hi, vs, vs[vs.length - 1 - i]'(by omega), q, by simp [show vs.length - 1 - i < vs.length by omega]⟩, fun _ _ => Nat.le_refl _, fun _ _ _ _ _ q y => ⟨y.1, y.2 vs q⟩⟩ : Walk (ItvT K a vs.length) vs.length (fun H => SqT K H a vs) (fun i H x H' => H' = H ∧ vs[vs.length - 1 - i]? = some x)), fun H s => same_tup s h, fun i H v H' hi y s => ?_⟩
  obtain ⟨e1, e2⟩ := y
  subst e1
  rw [List.length_reverse] at hi
  refine ⟨Same.refl _, fun O _ sO => ?_⟩
  obtain ⟨d, ed, pd⟩ := p.getV e2
  refine ⟨d, ?_, pd.same sO⟩
  rw [List.getElem?_reverse (by omega), ← hl]
  exact ed
theorem si_rev (hg : Gl X "reversed") (hm : X.mg "reversed" = none) (ha : SE X a fa) (hs : starEach [a] X.env = (false, eval a X.env) :: starEach [] X.env := by rfl) : SI X tg (.Call (.Name "reversed" p) [a] [] pos) (cRevI fa) := .mk fun O ρ σ H ds T E e q => by
  obtain ⟨xs, ex, e⟩ := bind_some e
  cases e
  obtain ⟨r, er, hk, e1⟩ := cIter_some ex
  refine WI.of (pi_revA hg hm pe_W hs) (ha O ρ σ H r _ E er fun v1 H1 s1 p1 => ?_)
  have q1 := p1.settle hk (fun a h => E.offd h)
  obtain ⟨ka, a', vs, rfl, g1, t1⟩ := kSeq_of q1 e1
  cases ka with
  | true => exact ⟨a', vs, rfl, .inl ⟨Same.seq hide_le g1, q _ H1 s1 (wk_rev g1 t1)⟩⟩
  | false => exact ⟨a', vs, rfl, .inr ⟨same_tup hide_le g1, q _ H1 s1 (wk_revT g1 t1)⟩⟩
/-! reversed(range(n)) -/
@[simp] def cRevRg1 (a : F) : Sl → Option (List PyData) := fun ρ => (a ρ).bind fun r => (intO r).bind fun i => if small62 i then some (rangeD 0 i).reverse else none
theorem wk_revR {K : PySem.W.Frag} {F : Hp} {lo hi : Int} : Wk K F (rangeD lo hi).reverse (Itc (lo + (((hi - lo).toNat : Nat) : Int) - 1) (-1) (hi - lo).toNat) := by
  refine ⟨_, _, by rw [List.length_reverse, rangeD_len]; exact walk_rangeC, fun _ _ => trivial, fun i H v H' hi' y s => ?_⟩
  obtain ⟨e1, e2⟩ := y
  subst e1 e2
  rw [List.length_reverse, rangeD_len] at hi'
  refine ⟨Same.refl _, fun O _ _ => ⟨.int (lo + (((hi - lo).toNat : Nat) : Int) - 1 + (i : Nat) * (-1)), ?_, Rp.int _⟩⟩
  rw [List.getElem?_reverse (by rw [rangeD_len]; exact hi'), rangeD_len]
  unfold rangeD
  rw [List.getElem?_map, List.getElem?_range (by omega)]
  show some (PyData.int _) = some (PyData.int _)
  congr 2
  omega
theorem si_revRg1 {p2 pos2 : Pos} (hg : Gl X "reversed") (hm : X.mg "reversed" = none) (hg2 : Gl X "range") (hm2 : X.mg "range" = none) (ha : SE X a fa)
    (hs : starEach [.Call (.Name "range" p2) [a] [] pos2] X.env = (false, eval (.Call (.Name "range" p2) [a] [] pos2) X.env) :: starEach [] X.env := by rfl) (hs2 : starEach [a] X.env = (false, eval a X.env) :: starEach [] X.env := by rfl) :
    SI X tg (.Call (.Name "reversed" p) [.Call (.Name "range" p2) [a] [] pos2] [] pos) (cRevRg1 fa) := .mk fun O ρ σ H ds T E e q => by
  obtain ⟨r, er, e⟩ := bind_some e
  obtain ⟨i, ei, e⟩ := bind_some e
  split at e
  · rename_i hc
    cases e
    refine WI.of (pi_revR hg hm (prg_1 hg2 hm2 pe_W hs2) hs) (ha O ρ σ H r _ E er fun v H1 s1 p1 => ?_)
    refine ⟨i, p1.int (intO_some ei), by decide, by decide, hc.1, hc.2, q _ H1 s1 wk_revR⟩
  · cases e
/-! a tuple of the module is unpacked, too -/
@[simp] def tTupK (n : Nat) (ts : List PyData → Sl → Option Sl) : PyData → Sl → Option Sl := fun d ρ => match d with
  | .tuple ds => if ds.length = n then ts ds ρ else none
  | .dict [(.none, .tuple ds)] => if ds.length = n then ts ds ρ else none
  | _ => none
theorem sg_tupK {tgs : List Expr} {kk : Nat} {js : List Nat} {ts} {n : Nat} (hc : X.calm = true) (h : SGs X tgs js ts) (hn : (assignEach tgs X.env).length = n := by rfl) (hst : (assignEach tgs X.env).findIdx? (·.1) = none := by rfl) : SG X (.Tuple tgs kk pos) js (tTupK n ts) := .mk fun O ρ ρ' σ H v d Q E p e q => by
  obtain ⟨g, pg, h⟩ := h
  unfold tTupK at e
  split at e
  · split at e
    · rename_i hl
      cases p with
      | tup hq ps => exact WG.of (pg_tup hc pg hn hst) ⟨_, _, rfl, .inl (.inl (hide_le _ _ hq)), by rw [ps.length]; exact hl, h O ρ ρ' σ H _ _ Q E ps e q⟩
    · cases e
  · split at e
    · rename_i hl
      cases p with
      | ktup hq ps => exact WG.of (pg_tup hc pg hn hst) ⟨_, _, rfl, same_tup hide_le hq, by rw [ps.length]; exact hl, h O ρ ρ' σ H _ _ Q E ps e q⟩
      | dct q' _ _ => cases q'
    · cases e
  · cases e
/-! x = y = e -/
@[simp] def cSet2 (t1 t2 : PyData → Sl → Option Sl) (f : F) : Cm := fun ρ => runO (f ρ) fun r => if r.k = .sh then runO ((t1 r.d ρ).bind (t2 r.d)) .nx else .err
/-! x, y = g(e, e2, ys.pop()) -/
def cSetTPop (t : PyData → Sl → Option Sl) (g : List PyData → Option R) (j : Nat) (f1 f2 : F) : Cm := fun ρ => runO (f1 ρ) fun r1 => runO (f2 ρ) fun r2 => match ρ[j]? with
  | some (some (.own (.lst es))) => runO es[es.length - 1]? fun d => if r1.k = .sh ∧ r2.k = .sh then runO (g [r1.d, r2.d, d]) fun r => if r.k = .raw then .err else runO (t r.d (ρ.set j (some (.own (.lst es.dropLast))))) .nx else .err
  | _ => .err
theorem ss_set2 {t1 t2 : Expr} {js ks : List Nat} {g1 g2} (he : SE X e f) (h1 : SG X t1 js g1) (h2 : SG X t2 ks g2) (ha : (assignEach [t1, t2] X.env).map (·.2) = [assign t1 X.env, assign t2 X.env] := by rfl) (hw : swappedStores [t1, t2] e X.env = pure none := by rfl) :
    SS X (.Assign [t1, t2] e pos) (cSet2 g1 g2 f) := .mk fun O H0 ρ σ H D E B q => by
  obtain ⟨r, er, q⟩ := runO_post q
  split at q
  · rename_i hk
    obtain ⟨ρ2, et, q⟩ := runO_post q
    obtain ⟨ρ1, et1, et2⟩ := bind_some et
    refine WS.of (ps_asg2 pe_W pg_W pg_W ha hw) (he O ρ σ H r _ E er fun v H1 s1 p1 => ?_)
    have E1 := E.grow s1
    have B1 := B.grow s1
    have p := p1.still hk
    refine h1 O ρ ρ1 σ H1 v r.d _ E1 p et1 fun σ1 E2 o1 _ => ?_
    have mono : Same (hide (Off O ρ σ) H1) (hide (Off O ρ1 σ1) H1) := hide_mono (Same.refl H1) fun a _ _ h => h.imp id (o1 a)
    refine h2 O ρ1 ρ2 σ1 H1 v r.d _ E2 (p.same mono) et2 fun σ2 E3 o2 _ => q σ2 H1 E3 ⟨B1.1, fun a h => B1.2 a (o1 a (o2 a h))⟩
  · exact q.elim
theorem ss_setTPop {tg e1 e2 : Expr} {f1 f2 : F} {js : List Nat} {t} {x y : Str} {g : List PyData → Option R} (j : Nat) {p1 p3 apos2 cpos cpos2 : Pos} (Fg : Fn X x 3 g) (hgx : Gl X x) (h1 : SE X e1 f1) (h2 : SE X e2 f2) (ht : SG X tg js t) (pl1 : Plain e1) (pl2 : Plain e2) (hN2 : X.N[j]? = some y := by rfl)
    (hv2 : Vis X.env.scope y := by first | exact Or.inl rfl | exact Or.inr (Or.inl rfl) | exact Or.inr (Or.inr rfl)) (hdb : (x == ("__debug__" : Str)) = false := by decide) (hd2 : (y == ("__debug__" : Str)) = false := by decide) (hcd2 : (y == ("__classdict__" : Str)) = false := by decide)
    (hbase2 : attributeBase (.Name y p3) "pop" X.env (eval (.Name y p3) X.env) = eval (.Name y p3) X.env := by rfl) (hline2 : (apos2.endLine == cpos2.line) = true := by rfl)
    (hpl : (backTo cpos (starEach [e2, .Call (.Attribute (.Name y p3) "pop" apos2) [] [] cpos2] X.env)).any (·.1) = false := by rfl)
    (hs : swapsWithSole [tg] (.Call (.Name x p1) [e1, e2, .Call (.Attribute (.Name y p3) "pop" apos2) [] [] cpos2] [] cpos) pos.line X.env = pure false := by rfl) (hw : swappedStores [tg] (.Call (.Name x p1) [e1, e2, .Call (.Attribute (.Name y p3) "pop" apos2) [] [] cpos2] [] cpos) X.env = pure none := by rfl)
    (ha1 : (assignEach [tg] X.env).map (·.2) = [assign tg X.env] := by rfl) :
    SS X (.Assign [tg] (.Call (.Name x p1) [e1, e2, .Call (.Attribute (.Name y p3) "pop" apos2) [] [] cpos2] [] cpos) pos) (cSetTPop t g j f1 f2) := .mk fun O H0 ρ σ H D E B q => by
  unfold cSetTPop at q
  obtain ⟨r1, er1, q⟩ := runO_post q
  obtain ⟨r2, er2, q⟩ := runO_post q
  split at q
  · rename_i es hρj
    obtain ⟨d, ed, q⟩ := runO_post q
    split at q
    · rename_i hc
      obtain ⟨k1, k2⟩ := hc
      obtain ⟨r, er, q⟩ := runO_post q
      split at q
      · exact q.elim
      · rename_i hk
        obtain ⟨ρ2, et, q⟩ := runO_post q
        obtain ⟨fa, fd, k, ps, F, hr, hm, hkk, hb, hl⟩ := Fg
        obtain ⟨aj, hσj, _, vj, hHj, pj⟩ := E.ow j _ hρj
        have plc : Plain (.Call (.Attribute (.Name y p3) "pop" apos2) [] [] cpos2) := plain_call
        refine WS.of (ps_asg (pe_call F hr hgx hm hkk hb .nil pass0 (pa_cons pe_W (pa_cons pe_W (pa_cons (pe_bm0 PySem.F.plainAttrs_list PySem.F.slot_list_pop PySem.F.type_list_pop mt_pop (pe_var hN2 hv2 hd2 hcd2) hbase2 hline2) pa_nil (plc [] X.env)) (pl2 _ X.env)) (pl1 _ X.env)) hdb (pl1 _ X.env) hpl) pg_W hs hw ha1) ?_
        refine h1 O ρ σ H r1 _ E er1 fun v1 H1 s1 q1 => ?_
        refine h2 O ρ σ H1 r2 _ (E.grow s1) er2 fun v2 H2 s2 q2 => ?_
        have s12 := s1.trans s2
        have hHj2 := s12 _ _ hHj
        have hlj := pj.length
        obtain ⟨yv, hyv, py⟩ := pj.get (i := es.length - 1) ed
        refine ⟨_, hσj, .inl ⟨rfl, _, SqL.of hHj2⟩, aj, vj, yv, rfl, rfl, hHj2, by rw [hlj]; exact hyv, ?_⟩
        have m1 : Same (hide (Off O ρ σ) H) (hide (Off O ρ σ) H2) := hide_mono s12 fun _ _ _ z => z
        have E1 := (E.grow s1).grow s2
        have B1 := (B.grow s1).grow s2
        have m2 := change_still (O := O) (H := H2) (ob := .lst vj.dropLast) (es := .lst es.dropLast) (K := X.K) hρj hσj
        have E2 : EnvOk X.K O (ρ.set j (some (.own (.lst es.dropLast)))) σ (upd H2 aj (.lst vj.dropLast)) := E1.change (ds := .lst es) (es := .lst es.dropLast) hρj hσj ⟨_, upd_same, (pj.same m1).dropLast⟩
        have B2 : Bas H0 (ρ.set j (some (.own (.lst es.dropLast)))) σ (upd H2 aj (.lst vj.dropLast)) := B1.change (ds := .lst es) (es := .lst es.dropLast) hρj hσj
        have x1 := ((q1.still k1).same (hide_mono s2 fun _ _ _ z => z)).same m2
        have x2 := (q2.still k2).same m2
        have x3 := (py.same m1).same m2
        refine ⟨rfl, Off O (ρ.set j (some (.own (.lst es.dropLast)))) σ, [r1.d, r2.d, d], r, fun a h => E2.offd h, .cons x1 (.cons x2 (.cons x3 .nil)), er, hk, fun v H3 s3 p3 => ?_⟩
        have E3 := E2.grow s3
        have B3 := B2.grow s3
        exact ht O _ ρ2 σ H3 v r.d _ E3 (p3.settle hk (fun a h => E2.offd h)) et fun σ' E' o' _ => q σ' H3 E' ⟨B3.1, fun a h => B3.2 a (o' a h)⟩
    · exact q.elim
  · exact q.elim
end
end Pq

namespace Lw
open PySem PySem.Spec PyProof.Rows L2 Pq
def topS (i : Nat) : Stmt := PySem.Challenge.pw_indentsteps_k08_whole_plain_differences.main.body.getD i (.Pass ⟨0, 0, 0, 0⟩)
abbrev s__law_cell : Stmt := topS 13
abbrev N__law_cell : List Str := ["script", "index"]
theorem sc__law_cell : FnScope N__law_cell ["script", "index"] (defScope s__law_cell) := ⟨rfl, rfl, rfl, by decide +kernel, rfl, by decide +kernel, by decide +kernel⟩
abbrev s__law_digits : Stmt := topS 14
abbrev N__law_digits : List Str := ["script", "index", "count", "base", "primes", "cell", "rest", "digits", "k", "mixed"]
theorem sc__law_digits : FnScope N__law_digits ["script", "index", "count", "base"] (defScope s__law_digits) := ⟨rfl, rfl, rfl, by decide +kernel, rfl, by decide +kernel, by decide +kernel⟩
abbrev s__law_changed : Stmt := topS 15
abbrev N__law_changed : List Str := ["text", "command", "name", "start", "end", "depths", "line"]
theorem sc__law_changed : FnScope N__law_changed ["text", "command"] (defScope s__law_changed) := ⟨rfl, rfl, rfl, by decide +kernel, rfl, by decide +kernel, by decide +kernel⟩
abbrev s__law_command : Stmt := topS 18
abbrev N__law_command : List Str := ["digits", "length", "start"]
theorem sc__law_command : FnScope N__law_command ["digits", "length"] (defScope s__law_command) := ⟨rfl, rfl, rfl, by decide +kernel, rfl, by decide +kernel, by decide +kernel⟩
abbrev s__law_near : Stmt := topS 17
abbrev N__law_near : List Str := ["digits", "text", "top", "digit", "k", "depth"]
theorem sc__law_near : FnScope N__law_near ["digits", "text", "top"] (defScope s__law_near) := ⟨rfl, rfl, rfl, by decide +kernel, rfl, by decide +kernel, by decide +kernel⟩
abbrev s__law_rises : Stmt := topS 19
abbrev N__law_rises : List Str := ["counts", "total", "last", "count"]
theorem sc__law_rises : FnScope N__law_rises ["counts"] (defScope s__law_rises) := ⟨rfl, rfl, rfl, by decide +kernel, rfl, by decide +kernel, by decide +kernel⟩
abbrev s__law_text : Stmt := topS 16
abbrev N__law_text : List Str := ["digits", "size", "top", "text", "digit", "depth"]
theorem sc__law_text : FnScope N__law_text ["digits", "size", "top"] (defScope s__law_text) := ⟨rfl, rfl, rfl, by decide +kernel, rfl, by decide +kernel, by decide +kernel⟩
abbrev s_bent : Stmt := topS 7
abbrev N_bent : List Str := ["twos", "noughts", "bend", "depth", "between"]
theorem sc_bent : FnScope N_bent ["twos", "noughts", "bend", "depth"] (defScope s_bent) := ⟨rfl, rfl, rfl, by decide +kernel, rfl, by decide +kernel, by decide +kernel⟩
abbrev s_cancelled : Stmt := topS 2
abbrev N_cancelled : List Str := ["twos", "noughts", "most", "by", "met"]
theorem sc_cancelled : FnScope N_cancelled ["twos", "noughts", "most"] (defScope s_cancelled) := ⟨rfl, rfl, rfl, by decide +kernel, rfl, by decide +kernel, by decide +kernel⟩
abbrev s_lowered : Stmt := topS 4
abbrev N_lowered : List Str := ["twos", "noughts", "bend", "high", "_", "left"]
theorem sc_lowered : FnScope N_lowered ["twos", "noughts", "bend"] (defScope s_lowered) := ⟨rfl, rfl, rfl, by decide +kernel, rfl, by decide +kernel, by decide +kernel⟩
abbrev s_paid_steps : Stmt := topS 3
abbrev N_paid_steps : List Str := ["many", "noughts", "steps", "shown"]
theorem sc_paid_steps : FnScope N_paid_steps ["many", "noughts"] (defScope s_paid_steps) := ⟨rfl, rfl, rfl, by decide +kernel, rfl, by decide +kernel, by decide +kernel⟩
abbrev s_with_fewer_ins : Stmt := topS 5
abbrev N_with_fewer_ins : List Str := ["cost", "twos", "noughts", "by", "fewest"]
theorem sc_with_fewer_ins : FnScope N_with_fewer_ins ["cost", "twos", "noughts", "by", "fewest"] (defScope s_with_fewer_ins) := ⟨rfl, rfl, rfl, by decide +kernel, rfl, by decide +kernel, by decide +kernel⟩
abbrev s_with_more_ins : Stmt := topS 6
abbrev N_with_more_ins : List Str := ["cost", "twos", "noughts", "by", "bend", "level", "slope"]
theorem sc_with_more_ins : FnScope N_with_more_ins ["cost", "twos", "noughts", "by", "bend"] (defScope s_with_more_ins) := ⟨rfl, rfl, rfl, by decide +kernel, rfl, by decide +kernel, by decide +kernel⟩
abbrev s_line_prices : Stmt := topS 8
abbrev N_line_prices : List Str := ["below", "depth", "wished", "cost", "twos", "noughts", "shift", "height", "now", "bend"]
theorem sc_line_prices : FnScope N_line_prices ["below", "depth", "wished"] (defScope s_line_prices) := ⟨rfl, rfl, rfl, by decide +kernel, rfl, by decide +kernel, by decide +kernel⟩
abbrev s_all_prices : Stmt := topS 9
abbrev N_all_prices : List Str := ["text", "wish", "prices", "found", "lines", "depth", "wished"]
theorem sc_all_prices : FnScope N_all_prices ["text", "wish"] (defScope s_all_prices) := ⟨rfl, rfl, rfl, by decide +kernel, rfl, by decide +kernel, by decide +kernel⟩
abbrev s_distance : Stmt := topS 11
abbrev N_distance : List Str := ["text", "wish"]
theorem sc_distance : FnScope N_distance ["text", "wish"] (defScope s_distance) := ⟨rfl, rfl, rfl, by decide +kernel, rfl, by decide +kernel, by decide +kernel⟩
abbrev s_law : Stmt := topS 20
abbrev N_law : List Str := ["script", "index", "digits", "text", "size", "target", "left", "depth", "wished", "right", "level"]
theorem sc_law : FnScope N_law ["script"] (defScope s_law) := ⟨rfl, rfl, rfl, by decide +kernel, rfl, by decide +kernel, by decide +kernel⟩
/-! the functions -/
def c__law_cell : Cm := (cSeq (cIfS (cTest (cBin ltR (cVar 1) (cApp lenR (cCons (cVar 0) cNil)))) (cRet (cBin ixR (cVar 0) (cVar 1))) cSkip)
    (cSeq (cIfS (cTest (cBin eqR (cApp lenR (cCons (cVar 0) cNil)) (cK (.int 0)))) (cRet (cBin addR (cBin mulR (cK (.int 7919)) (cVar 1)) (cK (.int 101)))) cSkip)
    (cRet (cBin addR (cBin modR (cBin ixR (cVar 0) (cBin modR (cVar 1) (cApp lenR (cCons (cVar 0) cNil)))) (cK (.int 1000003))) (cBin mulR (cK (.int 7919)) (cVar 1))))))
def f__law_cell : List PyData → Option R := callB 2 2 c__law_cell
def c__law_digits : Cm := (cSeq (cSet 4 (cApp tupR (cCons (cK (.int 2147483647)) (cCons (cK (.int 2147483629)) (cCons (cK (.int 2147483587)) (cCons (cK (.int 2147483579)) (cCons (cK (.int 2147483563)) (cCons (cK (.int 2147483549)) (cCons (cK (.int 2147483543)) (cCons (cK (.int 2147483497)) cNil))))))))))
    (cSeq (cSet 5 (cCall f__law_cell 2 (cCons (cVar 0) (cCons (cVar 1) cNil))))
    (cSeq (cFrz [5] (cSet 6 (cIf (cTest (cBin geR (cVar 5) (cBin powR (cK (.int 10)) (cK (.int 18))))) (cVar 5) (cK (.int 0)))))
    (cSeq (cSet 7 (cApp lstR cNil))
    (cSeq (cFor (cRange1 (cVar 2)) (tName 8) (cSeq (cSet 9 (cBin mulR (cBin modR (cVar 5) (cBin ixR (cVar 4) (cBin modR (cVar 8) (cK (.int 8))))) (cBin addR (cK (.int 48271)) (cBin mulR (cBin mulR (cK (.int 2)) (cVar 8)) (cVar 8)))))
    (cSeq (cSet 9 (cBin addR (cBin addR (cVar 9) (cBin mulR (cBin mulR (cK (.int 7919)) (cBin addR (cVar 8) (cK (.int 1)))) (cBin addR (cVar 8) (cK (.int 1))))) (cBin mulR (cK (.int 104729)) (cVar 1))))
    (cSeq (cSet 9 (cBin modR (cVar 9) (cBin ixR (cVar 4) (cBin modR (cBin addR (cBin mulR (cK (.int 3)) (cVar 8)) (cVar 1)) (cK (.int 8))))))
    (cSeq (cSet 9 (cBin modR (cBin mulR (cBin mulR (cVar 9) (cVar 9)) (cVar 9)) (cBin ixR (cVar 4) (cBin modR (cBin addR (cVar 8) (cK (.int 5))) (cK (.int 8))))))
    (cSeq (cIfS (cTest (cBin gtR (cVar 6) (cK (.int 0)))) (cSet 9 (cVar 6)) cSkip)
    (cSeq (cAppend 7 (cBin modR (cVar 9) (cVar 3)))
    (cSet 6 (cBin fdivR (cVar 6) (cVar 3))))))))))
    (cRetV 7))))))
def f__law_digits : List PyData → Option R := callB 10 4 c__law_digits
def c__law_changed : Cm := (cSeq (cSetT (tTup 3 (tCons (tName 2) (tCons (tName 3) (tCons (tName 4) tNil)))) (cVar 1))
    (cSeq (cSet 5 (cApp listR (cCons (cVar 0) cNil)))
    (cSeq (cFor (cRange2 (cVar 3) (cVar 4)) (tName 6) (cIfS (cTest (cBin eqR (cVar 2) (cK (.str "in")))) (cSetIx 5 (cVar 6) (cBin addR (cBin ixR (cVar 5) (cVar 6)) (cK (.int 1)))) (cIfS (cTest (cBin gtR (cBin ixR (cVar 5) (cVar 6)) (cK (.int 0)))) (cSetIx 5 (cVar 6) (cBin subR (cBin ixR (cVar 5) (cVar 6)) (cK (.int 1)))) cSkip)))
    (cRet (cApp tupleR (cCons (cVar 5) cNil))))))
def f__law_changed : List PyData → Option R := callB 7 2 c__law_changed
def c__law_command : Cm := (cSeq (cSet 2 (cBin modR (cBin ixR (cVar 0) (cK (.int 1))) (cVar 1)))
    (cRet (cApp tupR (cCons (cBin ixR (cApp lstR (cCons (cK (.str "in")) (cCons (cK (.str "out")) cNil))) (cBin modR (cBin ixR (cVar 0) (cK (.int 0))) (cK (.int 2)))) (cCons (cVar 2) (cCons (cBin addR (cBin addR (cVar 2) (cK (.int 1))) (cBin modR (cBin ixR (cVar 0) (cK (.int 2))) (cBin subR (cVar 1) (cVar 2)))) cNil))))))
def f__law_command : List PyData → Option R := callB 3 2 c__law_command
def c__law_near : Cm := (cSeq (cIfS (cTest (cBin eqR (cBin modR (cBin ixR (cVar 0) (cK (.int 0))) (cK (.int 3))) (cK (.int 0)))) (cRet (cApp tupleR (cCons (cComp [3] (cIter (cSlice (cVar 0) (cPart (cK (.int 1))) (cPart (cBin addR (cK (.int 1)) (cApp lenR (cCons (cVar 1) cNil)))))) (tName 3) cYes (cBin modR (cVar 3) (cBin addR (cVar 2) (cK (.int 1))))) cNil))) cSkip)
    (cSeq (cFor (cRange1 (cBin modR (cBin ixR (cVar 0) (cK (.int 1))) (cK (.int 6)))) (tName 4) (cFrz [1] (cSet 1 (cCall f__law_changed 2 (cCons (cVar 1) (cCons (cCall f__law_command 2 (cCons (cSlice (cVar 0) (cPart (cBin addR (cK (.int 2)) (cBin mulR (cK (.int 3)) (cVar 4)))) (cPart (cBin addR (cK (.int 5)) (cBin mulR (cK (.int 3)) (cVar 4))))) (cCons (cApp lenR (cCons (cVar 1) cNil)) cNil))) cNil))))))
    (cFrz [1] (cRet (cApp tupleR (cCons (cComp [5] (cIter (cVar 1)) (tName 5) cYes (cApp minR (cCons (cVar 2) (cCons (cVar 5) cNil)))) cNil))))))
def f__law_near : List PyData → Option R := callB 6 3 c__law_near
def c__law_rises : Cm := (cSeq (cSetT (tTup 2 (tCons (tName 1) (tCons (tName 2) tNil))) (cApp tupR (cCons (cK (.int 0)) (cCons (cK (.int 0)) cNil))))
    (cSeq (cFor (cIter (cVar 0)) (tName 3) (cSeq (cSet 1 (cBin addR (cVar 1) (cApp maxR (cCons (cK (.int 0)) (cCons (cBin subR (cVar 3) (cVar 2)) cNil)))))
    (cSet 2 (cVar 3))))
    (cRetV 1)))
def f__law_rises : List PyData → Option R := callB 4 1 c__law_rises
def c__law_text : Cm := (cSeq (cSet 3 (cApp tupR cNil))
    (cSeq (cFor (cIter (cSlice (cVar 0) (cPart (cK (.int 2))) (cPart (cBin addR (cK (.int 3)) (cBin modR (cBin ixR (cVar 0) (cK (.int 0))) (cVar 1)))))) (tName 4) (cSeq (cIfS (cAnd (cTest (cBin neR (cVar 3) (cApp tupR cNil))) (cTest (cBin eqR (cBin modR (cBin fdivR (cVar 4) (cK (.int 21))) (cK (.int 3))) (cK (.int 0))))) (cSet 5 (cBin ixR (cVar 3) (cNeg (cK (.int 1))))) (cIfS (cAnd (cTest (cBin eqR (cBin modR (cBin fdivR (cVar 4) (cK (.int 21))) (cK (.int 3))) (cK (.int 1)))) (cTest (cBin eqR (cBin modR (cBin ixR (cVar 0) (cK (.int 1))) (cK (.int 2))) (cK (.int 0))))) (cSet 5 (cK (.int 0))) (cSet 5 (cBin modR (cVar 4) (cBin addR (cVar 2) (cK (.int 1)))))))
    (cSet 3 (cBin addR (cVar 3) (cApp tupR (cCons (cVar 5) cNil))))))
    (cRetV 3)))
def f__law_text : List PyData → Option R := callB 6 3 c__law_text
def c_bent : Cm := (cSeq (cIfS (cTest (cBin ltR (cVar 2) (cVar 3))) (cSeq (cSet 4 (cBin subR (cBin shlR (cK (.int 1)) (cVar 3)) (cBin shlR (cK (.int 1)) (cVar 2))))
    (cRet (cApp tupR (cCons (cBin borR (cVar 0) (cBin bandR (cVar 4) (cInv (cVar 1)))) (cCons (cBin bandR (cVar 1) (cInv (cVar 4))) cNil))))) cSkip)
    (cSeq (cSet 4 (cBin subR (cBin shlR (cK (.int 1)) (cVar 2)) (cBin shlR (cK (.int 1)) (cVar 3))))
    (cRet (cApp tupR (cCons (cBin bandR (cVar 0) (cInv (cVar 4))) (cCons (cBin borR (cVar 1) (cBin bandR (cVar 4) (cInv (cVar 0)))) cNil))))))
def f_bent : List PyData → Option R := callB 5 4 c_bent
def c_cancelled : Cm := (cSeq (cIfS (cTest (cChain ltR ltR (cK (.int 0)) (cBin bandR (cVar 0) (cNeg (cVar 0))) (cVar 1))) (cFor (cRange2 (cK (.int 1)) (cBin addR (cVar 2) (cK (.int 1)))) (tName 3) (cSeq (cSet 4 (cBin bandR (cBin shlR (cVar 0) (cVar 3)) (cVar 1)))
    (cSeq (cXug 0 (cBin shrR (cVar 4) (cVar 3)))
    (cXug 1 (cVar 4))))) cSkip)
    (cRet (cApp tupR (cCons (cVar 0) (cCons (cVar 1) cNil)))))
def f_cancelled : List PyData → Option R := callB 5 3 c_cancelled
def c_lowered : Cm := (cSeq (cSet 3 (cBin shlR (cBin shrR (cVar 0) (cVar 2)) (cVar 2)))
    (cSeq (cSetT (tTup 2 (tCons (tName 4) (tCons (tName 5) tNil))) (cCall f_cancelled 3 (cCons (cVar 3) (cCons (cVar 1) (cCons (cBits (cVar 1)) cNil)))))
    (cRet (cApp tupR (cCons (cBin bxorR (cVar 0) (cVar 3)) (cCons (cVar 5) cNil))))))
def f_lowered : List PyData → Option R := callB 6 3 c_lowered
def c_paid_steps : Cm := (cSeq (cSet 2 (cBin bandR (cBin subR (cBin shlR (cK (.int 1)) (cVar 0)) (cK (.int 1))) (cInv (cVar 1))))
    (cSeq (cSet 3 (cFmtB (cVar 2)))
    (cRet (cCount (cVar 3) (cK (.str "1"))))))
def f_paid_steps : List PyData → Option R := callB 4 2 c_paid_steps
def c_with_fewer_ins : Cm := (cSeq (cSetT (tTup 2 (tCons (tName 1) (tCons (tName 2) tNil))) (cCall f_cancelled 3 (cCons (cVar 1) (cCons (cVar 2) (cCons (cVar 3) cNil)))))
    (cRet (cApp tupR (cCons (cBin addR (cVar 0) (cCall f_paid_steps 2 (cCons (cVar 4) (cCons (cVar 2) cNil)))) (cCons (cBin shlR (cVar 1) (cVar 3)) (cCons (cBin borR (cVar 2) (cBin subR (cBin shlR (cK (.int 1)) (cVar 4)) (cK (.int 1)))) cNil))))))
def f_with_fewer_ins : List PyData → Option R := callB 5 5 c_with_fewer_ins
def c_with_more_ins : Cm := (cSeq (cSet 5 (cBin shlR (cBin shrR (cVar 2) (cVar 4)) (cVar 4)))
    (cSeq (cSetT (tTup 2 (tCons (tName 1) (tCons (tName 6) tNil))) (cCall f_cancelled 3 (cCons (cVar 1) (cCons (cBin bxorR (cVar 2) (cVar 5)) (cCons (cVar 3) cNil)))))
    (cRet (cApp tupR (cCons (cBin addR (cVar 0) (cCall f_paid_steps 2 (cCons (cVar 3) (cCons (cVar 6) cNil)))) (cCons (cVar 1) (cCons (cBin borR (cVar 5) (cBin shrR (cVar 6) (cVar 3))) cNil)))))))
def f_with_more_ins : List PyData → Option R := callB 7 5 c_with_more_ins
def c_line_prices : Cm := (cSeq (cSetT (tTupK 5 (tCons (tName 3) (tCons (tName 4) (tCons (tName 5) (tCons (tName 6) (tCons (tName 7) tNil)))))) (cVar 0))
    (cSeq (cSet 8 (cBin subR (cVar 2) (cVar 1)))
    (cSeq (cIfS (cTest (cBin ltR (cVar 2) (cVar 7))) (cSeq (cSet 7 (cVar 2))
    (cSetT (tTup 2 (tCons (tName 4) (tCons (tName 5) tNil))) (cCall f_lowered 3 (cCons (cVar 4) (cCons (cVar 5) (cCons (cApp maxR (cCons (cK (.int 0)) (cCons (cBin subR (cVar 7) (cVar 6)) cNil))) cNil)))))) cSkip)
    (cSeq (cIfS (cTest (cBin ltR (cVar 8) (cVar 6))) (cSeq (cSet 9 (cBin subR (cVar 7) (cVar 8)))
    (cSetT (tTup 3 (tCons (tName 3) (tCons (tName 4) (tCons (tName 5) tNil)))) (cCall f_with_fewer_ins 5 (cCons (cVar 3) (cCons (cVar 4) (cCons (cVar 5) (cCons (cBin subR (cVar 6) (cVar 8)) (cCons (cApp maxR (cCons (cK (.int 0)) (cCons (cNeg (cVar 8)) cNil))) cNil)))))))) (cSeq (cSet 9 (cBin subR (cVar 7) (cVar 6)))
    (cSetT (tTup 3 (tCons (tName 3) (tCons (tName 4) (tCons (tName 5) tNil)))) (cCall f_with_more_ins 5 (cCons (cVar 3) (cCons (cVar 4) (cCons (cVar 5) (cCons (cBin subR (cVar 8) (cVar 6)) (cCons (cVar 9) cNil)))))))))
    (cSeq (cSetT (tTup 2 (tCons (tName 4) (tCons (tName 5) tNil))) (cCall f_bent 4 (cCons (cVar 4) (cCons (cVar 5) (cCons (cVar 9) (cCons (cVar 1) cNil))))))
    (cRet (cApp tupR (cCons (cVar 3) (cCons (cVar 4) (cCons (cVar 5) (cCons (cVar 8) (cCons (cVar 2) cNil))))))))))))
def f_line_prices : List PyData → Option R := callB 10 3 c_line_prices
def c_all_prices : Cm := (cSeq (cSet 2 (cK (.dict [(.none, .tuple [(.int 0), (.int 0), (.int 0), (.int 0), (.int 0)])])))
    (cSeq (cFrz [2] (cSet 3 (cApp lstR (cCons (cVar 2) cNil))))
    (cSeq (cSet 4 (cLZ (cVar 0) (cVar 1)))
    (cSeq (cFrz [4] (cFor (cRevI (cVar 4)) (tTup 2 (tCons (tName 5) (tCons (tName 6) tNil))) (cIfS (cTest (cBin isNotR (cVar 6) (cK .none))) (cSeq (cFrz [2] (cSet 2 (cCall f_line_prices 3 (cCons (cVar 2) (cCons (cApp maxR (cCons (cK (.int 0)) (cCons (cVar 5) cNil))) (cCons (cApp maxR (cCons (cK (.int 0)) (cCons (cVar 6) cNil))) cNil))))))
    (cFrz [2] (cAppend 3 (cVar 2)))) cSkip)))
    (cRetV 3)))))
def f_all_prices : List PyData → Option R := callB 7 2 c_all_prices
def c_distance : Cm := (cRet (cBin ixR (cBin ixR (cCall f_all_prices 2 (cCons (cVar 0) (cCons (cVar 1) cNil))) (cNeg (cK (.int 1)))) (cK (.int 0))))
def f_distance : List PyData → Option R := callB 2 2 c_distance
def c_law : Cm := (cSeq (cFor (cRange1 (cK (.int 10))) (tName 1) (cSeq (cSet 2 (cCall f__law_digits 4 (cCons (cVar 0) (cCons (cVar 1) (cCons (cK (.int 130)) (cCons (cK (.int 27720)) cNil))))))
    (cSeq (cFrz [2] (cSet 3 (cCall f__law_text 3 (cCons (cVar 2) (cCons (cK (.int 20)) (cCons (cK (.int 20)) cNil))))))
    (cSeq (cSet 4 (cApp lenR (cCons (cVar 3) cNil)))
    (cSeq (cFrz [3] (cFor (cIter (cApp tupR (cCons (cCall f__law_near 3 (cCons (cSlice (cVar 2) (cPart (cK (.int 25))) cNoPart) (cCons (cVar 3) (cCons (cK (.int 20)) cNil)))) (cCons (cCall f__law_near 3 (cCons (cSlice (cVar 2) (cPart (cK (.int 50))) cNoPart) (cCons (cVar 3) (cCons (cK (.int 20)) cNil)))) cNil)))) (tName 5) (cSeq (cFrz [3] (cSet 6 (cComp [7, 8] (cZip (cVar 3) (cVar 5)) (tTup 2 (tCons (tName 7) (tCons (tName 8) tNil))) cYes (cApp maxR (cCons (cK (.int 0)) (cCons (cBin subR (cVar 7) (cVar 8)) cNil))))))
    (cSeq (cFrz [3] (cSet 9 (cComp [7, 8] (cZip (cVar 3) (cVar 5)) (tTup 2 (tCons (tName 7) (tCons (tName 8) tNil))) cYes (cApp maxR (cCons (cK (.int 0)) (cCons (cBin subR (cVar 8) (cVar 7)) cNil))))))
    (cSeq (cFrz [3, 6, 9] (cIfS (cTest (cBin gtR (cCall f_distance 2 (cCons (cVar 3) (cCons (cVar 5) cNil))) (cBin addR (cCall f__law_rises 1 (cCons (cVar 6) cNil)) (cCall f__law_rises 1 (cCons (cVar 9) cNil))))) (cRet (cK (.bool false))) cSkip))
    (cSeq (cIfS (cOr (cTest (cBin neR (cCall f_distance 2 (cCons (cBin mulR (cApp tupR (cCons (cK (.int 0)) cNil)) (cVar 4)) (cCons (cVar 5) cNil))) (cCall f__law_rises 1 (cCons (cVar 5) cNil)))) (cTest (cBin neR (cCall f_distance 2 (cCons (cVar 5) (cCons (cBin mulR (cApp tupR (cCons (cK (.int 0)) cNil)) (cVar 4)) cNil))) (cApp maxA (cCons (cVar 5) cNil))))) (cRet (cK (.bool false))) cSkip)
    (cFrz [3] (cIfS (cTest (cBin gtR (cCall f_distance 2 (cCons (cVar 3) (cCons (cVar 5) cNil))) (cBin addR (cApp maxA (cCons (cVar 3) cNil)) (cCall f__law_rises 1 (cCons (cVar 5) cNil))))) (cRet (cK (.bool false))) cSkip))))))))
    (cSeq (cSet 10 (cBin modR (cBin ixR (cVar 2) (cK (.int 80))) (cK (.int 21))))
    (cIfS (cOr (cTest (cBin neR (cCall f_distance 2 (cCons (cBin mulR (cApp tupR (cCons (cVar 10) cNil)) (cVar 4)) (cCons (cBin mulR (cApp tupR (cCons (cK (.int 0)) cNil)) (cVar 4)) cNil))) (cVar 10))) (cTest (cBin neR (cCall f_distance 2 (cCons (cBin mulR (cApp tupR (cCons (cK (.int 0)) cNil)) (cVar 4)) (cCons (cBin mulR (cApp tupR (cCons (cVar 10) cNil)) (cVar 4)) cNil))) (cVar 10)))) (cRet (cK (.bool false))) cSkip)))))))
    (cRet (cAndV (cBin eqR (cCall f_distance 2 (cCons (cApp tupR (cCons (cK (.int 0)) (cCons (cK (.int 3)) (cCons (cK (.int 0)) (cCons (cK (.int 3)) (cCons (cK (.int 0)) cNil)))))) (cCons (cApp tupR (cCons (cK (.int 0)) (cCons (cK (.int 0)) (cCons (cK (.int 0)) (cCons (cK (.int 0)) (cCons (cK (.int 0)) cNil)))))) cNil))) (cK (.int 3))) (cBin eqR (cCall f_distance 2 (cCons (cApp tupR (cCons (cK (.int 0)) cNil)) (cCons (cApp tupR (cCons (cK (.int 20)) cNil)) cNil))) (cK (.int 20))))))
def f_law : List PyData → Option R := callB 11 1 c_law
section
variable {P : Program} {w : World} {K : PySem.W.Frag} {mg : Str → Option Value} {base : Heap}
theorem o__law_cell {f : Addr} {fd : FuncData} (Fu : Fun K "_law_cell" "_law_cell" s__law_cell f fd) (m_len : mg "len" = none) : FnOk P w K mg base CX0 1 f fd ["script", "index"] (spI K 2 f__law_cell) := by
  have hb : ∀ (cdv : Value) (A : Around) (outer : List PySem.Env) (s : Shared) (H : Hp) (E : XK), Room 0 (A.deeper (envOfC "_law_cell" (defScope s__law_cell) s.heap.objs.size f cdv)) → SB (cxOf CX0 P w K mg base N__law_cell "_law_cell" (defScope s__law_cell) f cdv A outer s H E).nox (defBody s__law_cell) c__law_cell := by
    intro cdv A outer s H E hr
    have hu := hr.units
    have nd := sc__law_cell.nd
    exact (sb_cons (ss_if (st_cmp od_lt (se_var 1) (se_callB cd_len (by rfl) m_len (by decide +kernel) (sa_cons' plain_name (se_var 0) sa_nil))) (sb_one (ss_ret (se_ix (se_var 0) (se_var 1)))) sb_nil)
      (sb_cons (ss_if (st_cmp (od_eq hu) (se_callB cd_len (by rfl) m_len (by decide +kernel) (sa_cons' plain_name (se_var 0) sa_nil)) se_int) (sb_one (ss_ret (se_bin od_add (se_bin od_mul se_int (se_var 1)) se_int))) sb_nil)
      (sb_one (ss_ret (se_bin od_add (se_bin od_mod (se_ix (se_var 0) (se_bin od_mod (se_var 1) (se_callB cd_len (by rfl) m_len (by decide +kernel) (sa_cons' plain_name (se_var 0) sa_nil)))) se_int) (se_bin od_mul se_int (se_var 1)))))))
  exact fn_ok' (c := c__law_cell) Fu sc__law_cell rfl rfl hb
theorem o__law_digits {f : Addr} {fd : FuncData} (Fu : Fun K "_law_digits" "_law_digits" s__law_digits f fd) (m_range : mg "range" = none) (G__law_cell : DefOk P w K mg base 1 "_law_cell" 2 f__law_cell) : FnOk P w K mg base CX0 2 f fd ["script", "index", "count", "base"] (spI K 4 f__law_digits) := by
  have hb : ∀ (cdv : Value) (A : Around) (outer : List PySem.Env) (s : Shared) (H : Hp) (E : XK), Room 1 (A.deeper (envOfC "_law_digits" (defScope s__law_digits) s.heap.objs.size f cdv)) → SB (cxOf CX0 P w K mg base N__law_digits "_law_digits" (defScope s__law_digits) f cdv A outer s H E).nox (defBody s__law_digits) c__law_digits := by
    intro cdv A outer s H E hr
    have hu := hr.units
    have nd := sc__law_digits.nd
    exact (sb_cons (ss_set nd rfl (by first | exact Or.inl rfl | exact Or.inr rfl) (se_tup (sa_cons' plain_const se_int (sa_cons' plain_const se_int (sa_cons' plain_const se_int (sa_cons' plain_const se_int (sa_cons' plain_const se_int (sa_cons' plain_const se_int (sa_cons' plain_const se_int (sa_cons' plain_const se_int sa_nil))))))))))
      (sb_cons (ss_set nd rfl (by first | exact Or.inl rfl | exact Or.inr rfl) (se_call (G__law_cell.fn (by decide) hr) (by rfl) (sa_cons' plain_name (se_var 0) (sa_cons' plain_name (se_var 1) sa_nil))))
      (sb_cons (ss_frz [5] (ss_set nd rfl (by first | exact Or.inl rfl | exact Or.inr rfl) (se_if (st_cmp od_ge (se_var 5) (se_bin od_pow se_int se_int)) (se_var 5) se_int)))
      (sb_cons (ss_set nd rfl (by first | exact Or.inl rfl | exact Or.inr rfl) (se_lst sa_nil))
      (sb_cons (ss_for PassesOwn.never rfl (si_range1 (by rfl) m_range (se_var 2)) (sg_name 8 nd rfl (by first | exact Or.inl rfl | exact Or.inr rfl)) (sb_cons (ss_set nd rfl (by first | exact Or.inl rfl | exact Or.inr rfl) (se_bin od_mul (se_bin od_mod (se_var 5) (se_ix (se_var 4) (se_bin od_mod (se_var 8) se_int))) (se_bin od_add se_int (se_bin od_mul (se_bin od_mul se_int (se_var 8)) (se_var 8)))))
      (sb_cons (ss_set nd rfl (by first | exact Or.inl rfl | exact Or.inr rfl) (se_bin od_add (se_bin od_add (se_var 9) (se_bin od_mul (se_bin od_mul se_int (se_bin od_add (se_var 8) se_int)) (se_bin od_add (se_var 8) se_int))) (se_bin od_mul se_int (se_var 1))))
      (sb_cons (ss_set nd rfl (by first | exact Or.inl rfl | exact Or.inr rfl) (se_bin od_mod (se_var 9) (se_ix (se_var 4) (se_bin od_mod (se_bin od_add (se_bin od_mul se_int (se_var 8)) (se_var 1)) se_int))))
      (sb_cons (ss_set nd rfl (by first | exact Or.inl rfl | exact Or.inr rfl) (se_bin od_mod (se_bin od_mul (se_bin od_mul (se_var 9) (se_var 9)) (se_var 9)) (se_ix (se_var 4) (se_bin od_mod (se_bin od_add (se_var 8) se_int) se_int))))
      (sb_cons (ss_if (st_cmp od_gt (se_var 6) se_int) (sb_one (ss_set nd rfl (by first | exact Or.inl rfl | exact Or.inr rfl) (se_var 6))) sb_nil)
      (sb_cons (ss_append 7 (se_bin od_mod (se_var 9) (se_var 3)))
      (sb_one (ss_set nd rfl (by first | exact Or.inl rfl | exact Or.inr rfl) (se_bin od_fdiv (se_var 6) (se_var 3)))))))))))
      (sb_one (ss_retV 7)))))))
  exact fn_ok' (c := c__law_digits) Fu sc__law_digits rfl rfl hb
theorem o__law_changed {f : Addr} {fd : FuncData} (Fu : Fun K "_law_changed" "_law_changed" s__law_changed f fd) (m_list : mg "list" = none) (m_range : mg "range" = none) (m_tuple : mg "tuple" = none) : FnOk P w K mg base CX0 1 f fd ["text", "command"] (spI K 2 f__law_changed) := by
  have hb : ∀ (cdv : Value) (A : Around) (outer : List PySem.Env) (s : Shared) (H : Hp) (E : XK), Room 0 (A.deeper (envOfC "_law_changed" (defScope s__law_changed) s.heap.objs.size f cdv)) → SB (cxOf CX0 P w K mg base N__law_changed "_law_changed" (defScope s__law_changed) f cdv A outer s H E).nox (defBody s__law_changed) c__law_changed := by
    intro cdv A outer s H E hr
    have hu := hr.units
    have nd := sc__law_changed.nd
    exact (sb_cons (ss_setT (se_var 1) (sg_tup rfl (sgs_cons (sg_name 2 nd rfl (by first | exact Or.inl rfl | exact Or.inr rfl)) (sgs_cons (sg_name 3 nd rfl (by first | exact Or.inl rfl | exact Or.inr rfl)) (sgs_cons (sg_name 4 nd rfl (by first | exact Or.inl rfl | exact Or.inr rfl)) sgs_nil)))))
      (sb_cons (ss_set nd rfl (by first | exact Or.inl rfl | exact Or.inr rfl) (se_callTy cd_list (by rfl) m_list (by decide +kernel) (sa_cons' plain_name (se_var 0) sa_nil)))
      (sb_cons (ss_for PassesOwn.never rfl (si_range2 (by rfl) m_range (se_var 3) (se_var 4)) (sg_name 6 nd rfl (by first | exact Or.inl rfl | exact Or.inr rfl)) (sb_one (ss_if (st_cmp (od_eq hu) (se_var 2) se_str) (sb_one (ss_setix 5 (se_var 6) (se_bin od_add (se_ix (se_var 5) (se_var 6)) se_int))) (sb_one (ss_if (st_cmp od_gt (se_ix (se_var 5) (se_var 6)) se_int) (sb_one (ss_setix 5 (se_var 6) (se_bin od_sub (se_ix (se_var 5) (se_var 6)) se_int))) sb_nil)))))
      (sb_one (ss_ret (se_callTy cd_tuple (by rfl) m_tuple (by decide +kernel) (sa_cons' plain_name (se_var 5) sa_nil)))))))
  exact fn_ok' (c := c__law_changed) Fu sc__law_changed rfl rfl hb
theorem o__law_command {f : Addr} {fd : FuncData} (Fu : Fun K "_law_command" "_law_command" s__law_command f fd) : FnOk P w K mg base CX0 1 f fd ["digits", "length"] (spI K 2 f__law_command) := by
  have hb : ∀ (cdv : Value) (A : Around) (outer : List PySem.Env) (s : Shared) (H : Hp) (E : XK), Room 0 (A.deeper (envOfC "_law_command" (defScope s__law_command) s.heap.objs.size f cdv)) → SB (cxOf CX0 P w K mg base N__law_command "_law_command" (defScope s__law_command) f cdv A outer s H E).nox (defBody s__law_command) c__law_command := by
    intro cdv A outer s H E hr
    have hu := hr.units
    have nd := sc__law_command.nd
    exact (sb_cons (ss_set nd rfl (by first | exact Or.inl rfl | exact Or.inr rfl) (se_bin od_mod (se_ix (se_var 0) se_int) (se_var 1)))
      (sb_one (ss_ret (se_tup (sa_cons' plain_sub (se_ix (se_lst (sa_cons' plain_const se_str (sa_cons' plain_const se_str sa_nil))) (se_bin od_mod (se_ix (se_var 0) se_int) se_int)) (sa_cons' plain_name (se_var 2) (sa_cons' plain_bin (se_bin od_add (se_bin od_add (se_var 2) se_int) (se_bin od_mod (se_ix (se_var 0) se_int) (se_bin od_sub (se_var 1) (se_var 2)))) sa_nil)))))))
  exact fn_ok' (c := c__law_command) Fu sc__law_command rfl rfl hb
theorem o__law_near {f : Addr} {fd : FuncData} (Fu : Fun K "_law_near" "_law_near" s__law_near f fd) (m_len : mg "len" = none) (m_min : mg "min" = none) (m_range : mg "range" = none) (m_tuple : mg "tuple" = none) (G__law_changed : DefOk P w K mg base 1 "_law_changed" 2 f__law_changed) (G__law_command : DefOk P w K mg base 1 "_law_command" 2 f__law_command) : FnOk P w K mg base CX0 2 f fd ["digits", "text", "top"] (spI K 3 f__law_near) := by
  have hb : ∀ (cdv : Value) (A : Around) (outer : List PySem.Env) (s : Shared) (H : Hp) (E : XK), Room 1 (A.deeper (envOfC "_law_near" (defScope s__law_near) s.heap.objs.size f cdv)) → SB (cxOf CX0 P w K mg base N__law_near "_law_near" (defScope s__law_near) f cdv A outer s H E).nox (defBody s__law_near) c__law_near := by
    intro cdv A outer s H E hr
    have hu := hr.units
    have nd := sc__law_near.nd
    exact (sb_cons (ss_if (st_cmp (od_eq hu) (se_bin od_mod (se_ix (se_var 0) se_int) se_int) se_int) (sb_one (ss_ret (se_callTy cd_tuple (by rfl) m_tuple (by decide +kernel) (sa_cons' plain_comp (se_comp [("digit", 3)] rfl nd (SI.c (si_seq (se_slice (se_var 0) (so_some se_int) (so_some (se_bin od_add se_int (se_callB cd_len (by rfl) m_len (by decide +kernel) (sa_cons' plain_name (se_var 1) sa_nil))))))) (blkOk_by (N := N__law_near) (sc := defScope s__law_near) (by decide +kernel)) (fun _ _ _ _ _ => (sg_name 3 nd rfl (by first | exact Or.inl rfl | exact Or.inr rfl))) (fun _ _ _ _ _ => sts_nil) (fun _ _ _ _ _ => (se_bin od_mod (se_var 3) (se_bin od_add (se_var 2) se_int)))) sa_nil)))) sb_nil)
      (sb_cons (ss_for PassesOwn.never rfl (si_range1 (by rfl) m_range (se_bin od_mod (se_ix (se_var 0) se_int) se_int)) (sg_name 4 nd rfl (by first | exact Or.inl rfl | exact Or.inr rfl)) (sb_one (ss_frz [1] (ss_set nd rfl (by first | exact Or.inl rfl | exact Or.inr rfl) (se_call (G__law_changed.fn (by decide) hr) (by rfl) (sa_cons' plain_name (se_var 1) (sa_cons' plain_call (se_call (G__law_command.fn (by decide) hr) (by rfl) (sa_cons' plain_sub (se_slice (se_var 0) (so_some (se_bin od_add se_int (se_bin od_mul se_int (se_var 4)))) (so_some (se_bin od_add se_int (se_bin od_mul se_int (se_var 4))))) (sa_cons' plain_call (se_callB cd_len (by rfl) m_len (by decide +kernel) (sa_cons' plain_name (se_var 1) sa_nil)) sa_nil))) sa_nil)))))))
      (sb_one (ss_frz [1] (ss_ret (se_callTy cd_tuple (by rfl) m_tuple (by decide +kernel) (sa_cons' plain_comp (se_comp [("depth", 5)] rfl nd (SI.c (si_seq (se_var 1))) (blkOk_by (N := N__law_near) (sc := defScope s__law_near) (by decide +kernel)) (fun _ _ _ _ _ => (sg_name 5 nd rfl (by first | exact Or.inl rfl | exact Or.inr rfl))) (fun _ _ _ _ _ => sts_nil) (fun _ _ _ _ _ => (se_callB (cd_min rfl) (by rfl) m_min (by decide +kernel) (sa_cons' plain_name (se_var 2) (sa_cons' plain_name (se_var 5) sa_nil))))) sa_nil)))))))
  exact fn_ok' (c := c__law_near) Fu sc__law_near rfl rfl hb
theorem o__law_rises {f : Addr} {fd : FuncData} (Fu : Fun K "_law_rises" "_law_rises" s__law_rises f fd) (m_max : mg "max" = none) : FnOk P w K mg base CX0 1 f fd ["counts"] (spI K 1 f__law_rises) := by
  have hb : ∀ (cdv : Value) (A : Around) (outer : List PySem.Env) (s : Shared) (H : Hp) (E : XK), Room 0 (A.deeper (envOfC "_law_rises" (defScope s__law_rises) s.heap.objs.size f cdv)) → SB (cxOf CX0 P w K mg base N__law_rises "_law_rises" (defScope s__law_rises) f cdv A outer s H E).nox (defBody s__law_rises) c__law_rises := by
    intro cdv A outer s H E hr
    have hu := hr.units
    have nd := sc__law_rises.nd
    exact (sb_cons (ss_setT (se_tup (sa_cons' plain_const se_int (sa_cons' plain_const se_int sa_nil))) (sg_tup rfl (sgs_cons (sg_name 1 nd rfl (by first | exact Or.inl rfl | exact Or.inr rfl)) (sgs_cons (sg_name 2 nd rfl (by first | exact Or.inl rfl | exact Or.inr rfl)) sgs_nil))))
      (sb_cons (ss_for PassesOwn.never rfl (si_seq (se_var 0)) (sg_name 3 nd rfl (by first | exact Or.inl rfl | exact Or.inr rfl)) (sb_cons (ss_set nd rfl (by first | exact Or.inl rfl | exact Or.inr rfl) (se_bin od_add (se_var 1) (se_callB (cd_max rfl) (by rfl) m_max (by decide +kernel) (sa_cons' plain_const se_int (sa_cons' plain_bin (se_bin od_sub (se_var 3) (se_var 2)) sa_nil)))))
      (sb_one (ss_set nd rfl (by first | exact Or.inl rfl | exact Or.inr rfl) (se_var 3)))))
      (sb_one (ss_retV 1))))
  exact fn_ok' (c := c__law_rises) Fu sc__law_rises rfl rfl hb
theorem o__law_text {f : Addr} {fd : FuncData} (Fu : Fun K "_law_text" "_law_text" s__law_text f fd) : FnOk P w K mg base CX0 1 f fd ["digits", "size", "top"] (spI K 3 f__law_text) := by
  have hb : ∀ (cdv : Value) (A : Around) (outer : List PySem.Env) (s : Shared) (H : Hp) (E : XK), Room 0 (A.deeper (envOfC "_law_text" (defScope s__law_text) s.heap.objs.size f cdv)) → SB (cxOf CX0 P w K mg base N__law_text "_law_text" (defScope s__law_text) f cdv A outer s H E).nox (defBody s__law_text) c__law_text := by
    intro cdv A outer s H E hr
    have hu := hr.units
    have nd := sc__law_text.nd
    exact (sb_cons (ss_set nd rfl (by first | exact Or.inl rfl | exact Or.inr rfl) (se_tup sa_nil))
      (sb_cons (ss_for PassesOwn.never rfl (si_seq (se_slice (se_var 0) (so_some se_int) (so_some (se_bin od_add se_int (se_bin od_mod (se_ix (se_var 0) se_int) (se_var 1)))))) (sg_name 4 nd rfl (by first | exact Or.inl rfl | exact Or.inr rfl)) (sb_cons (ss_if (ST.as (sw_and (st_cmp (od_ne hu) (se_var 3) (se_tup sa_nil)) (sw_and1 (st_cmp (od_eq hu) (se_bin od_mod (se_bin od_fdiv (se_var 4) se_int) se_int) se_int)))) (sb_one (ss_set nd rfl (by first | exact Or.inl rfl | exact Or.inr rfl) (se_ix (se_var 3) (se_neg se_int)))) (sb_one (ss_if (ST.as (sw_and (st_cmp (od_eq hu) (se_bin od_mod (se_bin od_fdiv (se_var 4) se_int) se_int) se_int) (sw_and1 (st_cmp (od_eq hu) (se_bin od_mod (se_ix (se_var 0) se_int) se_int) se_int)))) (sb_one (ss_set nd rfl (by first | exact Or.inl rfl | exact Or.inr rfl) se_int)) (sb_one (ss_set nd rfl (by first | exact Or.inl rfl | exact Or.inr rfl) (se_bin od_mod (se_var 4) (se_bin od_add (se_var 2) se_int)))))))
      (sb_one (ss_set nd rfl (by first | exact Or.inl rfl | exact Or.inr rfl) (se_bin od_add (se_var 3) (se_tup (sa_cons' plain_name (se_var 5) sa_nil)))))))
      (sb_one (ss_retV 3))))
  exact fn_ok' (c := c__law_text) Fu sc__law_text rfl rfl hb
theorem o_bent {f : Addr} {fd : FuncData} (Fu : Fun K "bent" "bent" s_bent f fd) : FnOk P w K mg base CX0 1 f fd ["twos", "noughts", "bend", "depth"] (spI K 4 f_bent) := by
  have hb : ∀ (cdv : Value) (A : Around) (outer : List PySem.Env) (s : Shared) (H : Hp) (E : XK), Room 0 (A.deeper (envOfC "bent" (defScope s_bent) s.heap.objs.size f cdv)) → SB (cxOf CX0 P w K mg base N_bent "bent" (defScope s_bent) f cdv A outer s H E).nox (defBody s_bent) c_bent := by
    intro cdv A outer s H E hr
    have hu := hr.units
    have nd := sc_bent.nd
    exact (sb_cons (ss_if (st_cmp od_lt (se_var 2) (se_var 3)) (sb_cons (ss_set nd rfl (by first | exact Or.inl rfl | exact Or.inr rfl) (se_bin od_sub (se_bin od_shl se_int (se_var 3)) (se_bin od_shl se_int (se_var 2))))
      (sb_one (ss_ret (se_tup (sa_cons' plain_bin (se_bin od_bor (se_var 0) (se_bin od_band (se_var 4) (se_inv (se_var 1)))) (sa_cons' plain_bin (se_bin od_band (se_var 1) (se_inv (se_var 4))) sa_nil)))))) sb_nil)
      (sb_cons (ss_set nd rfl (by first | exact Or.inl rfl | exact Or.inr rfl) (se_bin od_sub (se_bin od_shl se_int (se_var 2)) (se_bin od_shl se_int (se_var 3))))
      (sb_one (ss_ret (se_tup (sa_cons' plain_bin (se_bin od_band (se_var 0) (se_inv (se_var 4))) (sa_cons' plain_bin (se_bin od_bor (se_var 1) (se_bin od_band (se_var 4) (se_inv (se_var 0)))) sa_nil)))))))
  exact fn_ok' (c := c_bent) Fu sc_bent rfl rfl hb
theorem o_cancelled {f : Addr} {fd : FuncData} (Fu : Fun K "cancelled" "cancelled" s_cancelled f fd) (m_range : mg "range" = none) : FnOk P w K mg base CX0 1 f fd ["twos", "noughts", "most"] (spI K 3 f_cancelled) := by
  have hb : ∀ (cdv : Value) (A : Around) (outer : List PySem.Env) (s : Shared) (H : Hp) (E : XK), Room 0 (A.deeper (envOfC "cancelled" (defScope s_cancelled) s.heap.objs.size f cdv)) → SB (cxOf CX0 P w K mg base N_cancelled "cancelled" (defScope s_cancelled) f cdv A outer s H E).nox (defBody s_cancelled) c_cancelled := by
    intro cdv A outer s H E hr
    have hu := hr.units
    have nd := sc_cancelled.nd
    exact (sb_cons (ss_if (st_chain od_lt od_lt se_int (se_bin od_band (se_var 0) (se_neg (se_var 0))) (se_var 1)) (sb_one (ss_for PassesOwn.never rfl (si_range2 (by rfl) m_range se_int (se_bin od_add (se_var 2) se_int)) (sg_name 3 nd rfl (by first | exact Or.inl rfl | exact Or.inr rfl)) (sb_cons (ss_set nd rfl (by first | exact Or.inl rfl | exact Or.inr rfl) (se_bin od_band (se_bin od_shl (se_var 0) (se_var 3)) (se_var 1)))
      (sb_cons (ss_xug (i := 0) nd rfl (by first | exact Or.inl rfl | exact Or.inr rfl) (se_bin od_shr (se_var 4) (se_var 3)))
      (sb_one (ss_xug (i := 1) nd rfl (by first | exact Or.inl rfl | exact Or.inr rfl) (se_var 4))))))) sb_nil)
      (sb_one (ss_ret (se_tup (sa_cons' plain_name (se_var 0) (sa_cons' plain_name (se_var 1) sa_nil))))))
  exact fn_ok' (c := c_cancelled) Fu sc_cancelled rfl rfl hb
theorem o_lowered {f : Addr} {fd : FuncData} (Fu : Fun K "lowered" "lowered" s_lowered f fd) (G_cancelled : DefOk P w K mg base 1 "cancelled" 3 f_cancelled) : FnOk P w K mg base CX0 2 f fd ["twos", "noughts", "bend"] (spI K 3 f_lowered) := by
  have hb : ∀ (cdv : Value) (A : Around) (outer : List PySem.Env) (s : Shared) (H : Hp) (E : XK), Room 1 (A.deeper (envOfC "lowered" (defScope s_lowered) s.heap.objs.size f cdv)) → SB (cxOf CX0 P w K mg base N_lowered "lowered" (defScope s_lowered) f cdv A outer s H E).nox (defBody s_lowered) c_lowered := by
    intro cdv A outer s H E hr
    have hu := hr.units
    have nd := sc_lowered.nd
    exact (sb_cons (ss_set nd rfl (by first | exact Or.inl rfl | exact Or.inr rfl) (se_bin od_shl (se_bin od_shr (se_var 0) (se_var 2)) (se_var 2)))
      (sb_cons (ss_setT (se_call (G_cancelled.fn (by decide) hr) (by rfl) (sa_cons' plain_name (se_var 3) (sa_cons' plain_name (se_var 1) (sa_cons' plain_call (se_bits (se_var 1)) sa_nil)))) (sg_tup rfl (sgs_cons (sg_name 4 nd rfl (by first | exact Or.inl rfl | exact Or.inr rfl)) (sgs_cons (sg_name 5 nd rfl (by first | exact Or.inl rfl | exact Or.inr rfl)) sgs_nil))))
      (sb_one (ss_ret (se_tup (sa_cons' plain_bin (se_bin od_bxor (se_var 0) (se_var 3)) (sa_cons' plain_name (se_var 5) sa_nil)))))))
  exact fn_ok' (c := c_lowered) Fu sc_lowered rfl rfl hb
theorem o_paid_steps {f : Addr} {fd : FuncData} (Fu : Fun K "paid_steps" "paid_steps" s_paid_steps f fd) : FnOk P w K mg base CX0 1 f fd ["many", "noughts"] (spI K 2 f_paid_steps) := by
  have hb : ∀ (cdv : Value) (A : Around) (outer : List PySem.Env) (s : Shared) (H : Hp) (E : XK), Room 0 (A.deeper (envOfC "paid_steps" (defScope s_paid_steps) s.heap.objs.size f cdv)) → SB (cxOf CX0 P w K mg base N_paid_steps "paid_steps" (defScope s_paid_steps) f cdv A outer s H E).nox (defBody s_paid_steps) c_paid_steps := by
    intro cdv A outer s H E hr
    have hu := hr.units
    have nd := sc_paid_steps.nd
    exact (sb_cons (ss_set nd rfl (by first | exact Or.inl rfl | exact Or.inr rfl) (se_bin od_band (se_bin od_sub (se_bin od_shl se_int (se_var 0)) se_int) (se_inv (se_var 1))))
      (sb_cons (ss_set nd rfl (by first | exact Or.inl rfl | exact Or.inr rfl) (se_fmtB (se_var 2)))
      (sb_one (ss_ret (se_count (se_var 3) se_str)))))
  exact fn_ok' (c := c_paid_steps) Fu sc_paid_steps rfl rfl hb
theorem o_with_fewer_ins {f : Addr} {fd : FuncData} (Fu : Fun K "with_fewer_ins" "with_fewer_ins" s_with_fewer_ins f fd) (G_cancelled : DefOk P w K mg base 1 "cancelled" 3 f_cancelled) (G_paid_steps : DefOk P w K mg base 1 "paid_steps" 2 f_paid_steps) : FnOk P w K mg base CX0 2 f fd ["cost", "twos", "noughts", "by", "fewest"] (spI K 5 f_with_fewer_ins) := by
  have hb : ∀ (cdv : Value) (A : Around) (outer : List PySem.Env) (s : Shared) (H : Hp) (E : XK), Room 1 (A.deeper (envOfC "with_fewer_ins" (defScope s_with_fewer_ins) s.heap.objs.size f cdv)) → SB (cxOf CX0 P w K mg base N_with_fewer_ins "with_fewer_ins" (defScope s_with_fewer_ins) f cdv A outer s H E).nox (defBody s_with_fewer_ins) c_with_fewer_ins := by
    intro cdv A outer s H E hr
    have hu := hr.units
    have nd := sc_with_fewer_ins.nd
    exact (sb_cons (ss_setT (se_call (G_cancelled.fn (by decide) hr) (by rfl) (sa_cons' plain_name (se_var 1) (sa_cons' plain_name (se_var 2) (sa_cons' plain_name (se_var 3) sa_nil)))) (sg_tup rfl (sgs_cons (sg_name 1 nd rfl (by first | exact Or.inl rfl | exact Or.inr rfl)) (sgs_cons (sg_name 2 nd rfl (by first | exact Or.inl rfl | exact Or.inr rfl)) sgs_nil))))
      (sb_one (ss_ret (se_tup (sa_cons' plain_bin (se_bin od_add (se_var 0) (se_call (G_paid_steps.fn (by decide) hr) (by rfl) (sa_cons' plain_name (se_var 4) (sa_cons' plain_name (se_var 2) sa_nil)))) (sa_cons' plain_bin (se_bin od_shl (se_var 1) (se_var 3)) (sa_cons' plain_bin (se_bin od_bor (se_var 2) (se_bin od_sub (se_bin od_shl se_int (se_var 4)) se_int)) sa_nil)))))))
  exact fn_ok' (c := c_with_fewer_ins) Fu sc_with_fewer_ins rfl rfl hb
theorem o_with_more_ins {f : Addr} {fd : FuncData} (Fu : Fun K "with_more_ins" "with_more_ins" s_with_more_ins f fd) (G_cancelled : DefOk P w K mg base 1 "cancelled" 3 f_cancelled) (G_paid_steps : DefOk P w K mg base 1 "paid_steps" 2 f_paid_steps) : FnOk P w K mg base CX0 2 f fd ["cost", "twos", "noughts", "by", "bend"] (spI K 5 f_with_more_ins) := by
  have hb : ∀ (cdv : Value) (A : Around) (outer : List PySem.Env) (s : Shared) (H : Hp) (E : XK), Room 1 (A.deeper (envOfC "with_more_ins" (defScope s_with_more_ins) s.heap.objs.size f cdv)) → SB (cxOf CX0 P w K mg base N_with_more_ins "with_more_ins" (defScope s_with_more_ins) f cdv A outer s H E).nox (defBody s_with_more_ins) c_with_more_ins := by
    intro cdv A outer s H E hr
    have hu := hr.units
    have nd := sc_with_more_ins.nd
    exact (sb_cons (ss_set nd rfl (by first | exact Or.inl rfl | exact Or.inr rfl) (se_bin od_shl (se_bin od_shr (se_var 2) (se_var 4)) (se_var 4)))
      (sb_cons (ss_setT (se_call (G_cancelled.fn (by decide) hr) (by rfl) (sa_cons' plain_name (se_var 1) (sa_cons' plain_bin (se_bin od_bxor (se_var 2) (se_var 5)) (sa_cons' plain_name (se_var 3) sa_nil)))) (sg_tup rfl (sgs_cons (sg_name 1 nd rfl (by first | exact Or.inl rfl | exact Or.inr rfl)) (sgs_cons (sg_name 6 nd rfl (by first | exact Or.inl rfl | exact Or.inr rfl)) sgs_nil))))
      (sb_one (ss_ret (se_tup (sa_cons' plain_bin (se_bin od_add (se_var 0) (se_call (G_paid_steps.fn (by decide) hr) (by rfl) (sa_cons' plain_name (se_var 3) (sa_cons' plain_name (se_var 6) sa_nil)))) (sa_cons' plain_name (se_var 1) (sa_cons' plain_bin (se_bin od_bor (se_var 5) (se_bin od_shr (se_var 6) (se_var 3))) sa_nil))))))))
  exact fn_ok' (c := c_with_more_ins) Fu sc_with_more_ins rfl rfl hb
theorem o_line_prices {f : Addr} {fd : FuncData} (Fu : Fun K "line_prices" "line_prices" s_line_prices f fd) (m_max : mg "max" = none) (G_bent : DefOk P w K mg base 1 "bent" 4 f_bent) (G_lowered : DefOk P w K mg base 2 "lowered" 3 f_lowered) (G_with_fewer_ins : DefOk P w K mg base 2 "with_fewer_ins" 5 f_with_fewer_ins) (G_with_more_ins : DefOk P w K mg base 2 "with_more_ins" 5 f_with_more_ins) : FnOk P w K mg base CX0 3 f fd ["below", "depth", "wished"] (spI K 3 f_line_prices) := by
  have hb : ∀ (cdv : Value) (A : Around) (outer : List PySem.Env) (s : Shared) (H : Hp) (E : XK), Room 2 (A.deeper (envOfC "line_prices" (defScope s_line_prices) s.heap.objs.size f cdv)) → SB (cxOf CX0 P w K mg base N_line_prices "line_prices" (defScope s_line_prices) f cdv A outer s H E).nox (defBody s_line_prices) c_line_prices := by
    intro cdv A outer s H E hr
    have hu := hr.units
    have nd := sc_line_prices.nd
    exact (sb_cons (ss_setT (se_var 0) (sg_tupK rfl (sgs_cons (sg_name 3 nd rfl (by first | exact Or.inl rfl | exact Or.inr rfl)) (sgs_cons (sg_name 4 nd rfl (by first | exact Or.inl rfl | exact Or.inr rfl)) (sgs_cons (sg_name 5 nd rfl (by first | exact Or.inl rfl | exact Or.inr rfl)) (sgs_cons (sg_name 6 nd rfl (by first | exact Or.inl rfl | exact Or.inr rfl)) (sgs_cons (sg_name 7 nd rfl (by first | exact Or.inl rfl | exact Or.inr rfl)) sgs_nil)))))))
      (sb_cons (ss_set nd rfl (by first | exact Or.inl rfl | exact Or.inr rfl) (se_bin od_sub (se_var 2) (se_var 1)))
      (sb_cons (ss_if (st_cmp od_lt (se_var 2) (se_var 7)) (sb_cons (ss_set nd rfl (by first | exact Or.inl rfl | exact Or.inr rfl) (se_var 2))
      (sb_one (ss_setT (se_call (G_lowered.fn (by decide) hr) (by rfl) (sa_cons' plain_name (se_var 4) (sa_cons' plain_name (se_var 5) (sa_cons' plain_call (se_callB (cd_max rfl) (by rfl) m_max (by decide +kernel) (sa_cons' plain_const se_int (sa_cons' plain_bin (se_bin od_sub (se_var 7) (se_var 6)) sa_nil))) sa_nil)))) (sg_tup rfl (sgs_cons (sg_name 4 nd rfl (by first | exact Or.inl rfl | exact Or.inr rfl)) (sgs_cons (sg_name 5 nd rfl (by first | exact Or.inl rfl | exact Or.inr rfl)) sgs_nil)))))) sb_nil)
      (sb_cons (ss_if (st_cmp od_lt (se_var 8) (se_var 6)) (sb_cons (ss_set nd rfl (by first | exact Or.inl rfl | exact Or.inr rfl) (se_bin od_sub (se_var 7) (se_var 8)))
      (sb_one (ss_setT (se_call (G_with_fewer_ins.fn (by decide) hr) (by rfl) (sa_cons' plain_name (se_var 3) (sa_cons' plain_name (se_var 4) (sa_cons' plain_name (se_var 5) (sa_cons' plain_bin (se_bin od_sub (se_var 6) (se_var 8)) (sa_cons' plain_call (se_callB (cd_max rfl) (by rfl) m_max (by decide +kernel) (sa_cons' plain_const se_int (sa_cons' plain_un (se_neg (se_var 8)) sa_nil))) sa_nil)))))) (sg_tup rfl (sgs_cons (sg_name 3 nd rfl (by first | exact Or.inl rfl | exact Or.inr rfl)) (sgs_cons (sg_name 4 nd rfl (by first | exact Or.inl rfl | exact Or.inr rfl)) (sgs_cons (sg_name 5 nd rfl (by first | exact Or.inl rfl | exact Or.inr rfl)) sgs_nil))))))) (sb_cons (ss_set nd rfl (by first | exact Or.inl rfl | exact Or.inr rfl) (se_bin od_sub (se_var 7) (se_var 6)))
      (sb_one (ss_setT (se_call (G_with_more_ins.fn (by decide) hr) (by rfl) (sa_cons' plain_name (se_var 3) (sa_cons' plain_name (se_var 4) (sa_cons' plain_name (se_var 5) (sa_cons' plain_bin (se_bin od_sub (se_var 8) (se_var 6)) (sa_cons' plain_name (se_var 9) sa_nil)))))) (sg_tup rfl (sgs_cons (sg_name 3 nd rfl (by first | exact Or.inl rfl | exact Or.inr rfl)) (sgs_cons (sg_name 4 nd rfl (by first | exact Or.inl rfl | exact Or.inr rfl)) (sgs_cons (sg_name 5 nd rfl (by first | exact Or.inl rfl | exact Or.inr rfl)) sgs_nil))))))))
      (sb_cons (ss_setT (se_call (G_bent.fn (by decide) hr) (by rfl) (sa_cons' plain_name (se_var 4) (sa_cons' plain_name (se_var 5) (sa_cons' plain_name (se_var 9) (sa_cons' plain_name (se_var 1) sa_nil))))) (sg_tup rfl (sgs_cons (sg_name 4 nd rfl (by first | exact Or.inl rfl | exact Or.inr rfl)) (sgs_cons (sg_name 5 nd rfl (by first | exact Or.inl rfl | exact Or.inr rfl)) sgs_nil))))
      (sb_one (ss_ret (se_tup (sa_cons' plain_name (se_var 3) (sa_cons' plain_name (se_var 4) (sa_cons' plain_name (se_var 5) (sa_cons' plain_name (se_var 8) (sa_cons' plain_name (se_var 2) sa_nil)))))))))))))
  exact fn_ok' (c := c_line_prices) Fu sc_line_prices rfl rfl hb
theorem o_all_prices {f : Addr} {fd : FuncData} (Fu : Fun K "all_prices" "all_prices" s_all_prices f fd) (m_list : mg "list" = none) (m_max : mg "max" = none) (m_reversed : mg "reversed" = none) (m_zip : mg "zip" = none) (Q_NOTHING : GlobD K mg "NOTHING" (.dict [(.none, .tuple [(.int 0), (.int 0), (.int 0), (.int 0), (.int 0)])])) (G_line_prices : DefOk P w K mg base 3 "line_prices" 3 f_line_prices) : FnOk P w K mg base CX0 4 f fd ["text", "wish"] (spI K 2 f_all_prices) := by
  have hb : ∀ (cdv : Value) (A : Around) (outer : List PySem.Env) (s : Shared) (H : Hp) (E : XK), Room 3 (A.deeper (envOfC "all_prices" (defScope s_all_prices) s.heap.objs.size f cdv)) → SB (cxOf CX0 P w K mg base N_all_prices "all_prices" (defScope s_all_prices) f cdv A outer s H E).nox (defBody s_all_prices) c_all_prices := by
    intro cdv A outer s H E hr
    have hu := hr.units
    have nd := sc_all_prices.nd
    exact (sb_cons (ss_set nd rfl (by first | exact Or.inl rfl | exact Or.inr rfl) (se_glob Q_NOTHING (by rfl)))
      (sb_cons (ss_frz [2] (ss_set nd rfl (by first | exact Or.inl rfl | exact Or.inr rfl) (se_lst (sa_cons' plain_name (se_var 2) sa_nil))))
      (sb_cons (ss_set nd rfl (by first | exact Or.inl rfl | exact Or.inr rfl) (se_listZip rfl (by rfl) m_list (by rfl) m_zip (se_var 0) (se_var 1)))
      (sb_cons (ss_frz [4] (ss_for PassesOwn.never rfl (si_rev (by rfl) m_reversed (se_var 4)) (sg_tup rfl (sgs_cons (sg_name 5 nd rfl (by first | exact Or.inl rfl | exact Or.inr rfl)) (sgs_cons (sg_name 6 nd rfl (by first | exact Or.inl rfl | exact Or.inr rfl)) sgs_nil))) (sb_one (ss_if (st_cmp od_isNot (se_var 6) se_none) (sb_cons (ss_frz [2] (ss_set nd rfl (by first | exact Or.inl rfl | exact Or.inr rfl) (se_call (G_line_prices.fn (by decide) hr) (by rfl) (sa_cons' plain_name (se_var 2) (sa_cons' plain_call (se_callB (cd_max rfl) (by rfl) m_max (by decide +kernel) (sa_cons' plain_const se_int (sa_cons' plain_name (se_var 5) sa_nil))) (sa_cons' plain_call (se_callB (cd_max rfl) (by rfl) m_max (by decide +kernel) (sa_cons' plain_const se_int (sa_cons' plain_name (se_var 6) sa_nil))) sa_nil))))))
      (sb_one (ss_frz [2] (ss_append 3 (se_var 2))))) sb_nil))))
      (sb_one (ss_retV 3))))))
  exact fn_ok' (c := c_all_prices) Fu sc_all_prices rfl rfl hb
theorem o_distance {f : Addr} {fd : FuncData} (Fu : Fun K "distance" "distance" s_distance f fd) (G_all_prices : DefOk P w K mg base 4 "all_prices" 2 f_all_prices) : FnOk P w K mg base CX0 5 f fd ["text", "wish"] (spI K 2 f_distance) := by
  have hb : ∀ (cdv : Value) (A : Around) (outer : List PySem.Env) (s : Shared) (H : Hp) (E : XK), Room 4 (A.deeper (envOfC "distance" (defScope s_distance) s.heap.objs.size f cdv)) → SB (cxOf CX0 P w K mg base N_distance "distance" (defScope s_distance) f cdv A outer s H E).nox (defBody s_distance) c_distance := by
    intro cdv A outer s H E hr
    have hu := hr.units
    have nd := sc_distance.nd
    exact (sb_one (ss_ret (se_ix (se_ix (se_call (G_all_prices.fn (by decide) hr) (by rfl) (sa_cons' plain_name (se_var 0) (sa_cons' plain_name (se_var 1) sa_nil))) (se_neg se_int)) se_int)))
  exact fn_ok' (c := c_distance) Fu sc_distance rfl rfl hb
theorem o_law {f : Addr} {fd : FuncData} (Fu : Fun K "law" "law" s_law f fd) (m_len : mg "len" = none) (m_max : mg "max" = none) (m_range : mg "range" = none) (m_zip : mg "zip" = none) (G__law_digits : DefOk P w K mg base 2 "_law_digits" 4 f__law_digits) (G__law_near : DefOk P w K mg base 2 "_law_near" 3 f__law_near) (G__law_rises : DefOk P w K mg base 1 "_law_rises" 1 f__law_rises) (G__law_text : DefOk P w K mg base 1 "_law_text" 3 f__law_text) (G_distance : DefOk P w K mg base 5 "distance" 2 f_distance) : FnOk P w K mg base CX0 6 f fd ["script"] (spI K 1 f_law) := by
  have hb : ∀ (cdv : Value) (A : Around) (outer : List PySem.Env) (s : Shared) (H : Hp) (E : XK), Room 5 (A.deeper (envOfC "law" (defScope s_law) s.heap.objs.size f cdv)) → SB (cxOf CX0 P w K mg base N_law "law" (defScope s_law) f cdv A outer s H E).nox (defBody s_law) c_law := by
    intro cdv A outer s H E hr
    have hu := hr.units
    have nd := sc_law.nd
    exact (sb_cons (ss_for PassesOwn.never rfl (si_range1 (by rfl) m_range se_int) (sg_name 1 nd rfl (by first | exact Or.inl rfl | exact Or.inr rfl)) (sb_cons (ss_set nd rfl (by first | exact Or.inl rfl | exact Or.inr rfl) (se_call (G__law_digits.fn (by decide) hr) (by rfl) (sa_cons' plain_name (se_var 0) (sa_cons' plain_name (se_var 1) (sa_cons' plain_const se_int (sa_cons' plain_const se_int sa_nil))))))
      (sb_cons (ss_frz [2] (ss_set nd rfl (by first | exact Or.inl rfl | exact Or.inr rfl) (se_call (G__law_text.fn (by decide) hr) (by rfl) (sa_cons' plain_name (se_var 2) (sa_cons' plain_const se_int (sa_cons' plain_const se_int sa_nil))))))
      (sb_cons (ss_set nd rfl (by first | exact Or.inl rfl | exact Or.inr rfl) (se_callB cd_len (by rfl) m_len (by decide +kernel) (sa_cons' plain_name (se_var 3) sa_nil)))
      (sb_cons (ss_frz [3] (ss_for PassesOwn.never rfl (si_seq (se_tup (sa_cons' plain_call (se_call (G__law_near.fn (by decide) hr) (by rfl) (sa_cons' plain_sub (se_slice (se_var 2) (so_some se_int) so_none) (sa_cons' plain_name (se_var 3) (sa_cons' plain_const se_int sa_nil)))) (sa_cons' plain_call (se_call (G__law_near.fn (by decide) hr) (by rfl) (sa_cons' plain_sub (se_slice (se_var 2) (so_some se_int) so_none) (sa_cons' plain_name (se_var 3) (sa_cons' plain_const se_int sa_nil)))) sa_nil)))) (sg_name 5 nd rfl (by first | exact Or.inl rfl | exact Or.inr rfl)) (sb_cons (ss_frz [3] (ss_setLc (own := [("depth", 7), ("wished", 8)]) 6 nd rfl rfl (sw_true rfl rfl rfl (by decide +kernel)) rfl (SI.c (si_zip (by rfl) m_zip (se_var 3) (se_var 5))) (blkOk_by (N := N_law) (sc := defScope s_law) (by decide +kernel)) (fun _ _ _ _ _ => (sg_tup rfl (sgs_cons (sg_name 7 nd rfl (by first | exact Or.inl rfl | exact Or.inr rfl)) (sgs_cons (sg_name 8 nd rfl (by first | exact Or.inl rfl | exact Or.inr rfl)) sgs_nil)))) (fun _ _ _ _ _ => sts_nil) (fun _ _ _ _ _ => (se_callB (cd_max rfl) (by rfl) m_max (by decide +kernel) (sa_cons' plain_const se_int (sa_cons' plain_bin (se_bin od_sub (se_var 7) (se_var 8)) sa_nil))))))
      (sb_cons (ss_frz [3] (ss_setLc (own := [("depth", 7), ("wished", 8)]) 9 nd rfl rfl (sw_true rfl rfl rfl (by decide +kernel)) rfl (SI.c (si_zip (by rfl) m_zip (se_var 3) (se_var 5))) (blkOk_by (N := N_law) (sc := defScope s_law) (by decide +kernel)) (fun _ _ _ _ _ => (sg_tup rfl (sgs_cons (sg_name 7 nd rfl (by first | exact Or.inl rfl | exact Or.inr rfl)) (sgs_cons (sg_name 8 nd rfl (by first | exact Or.inl rfl | exact Or.inr rfl)) sgs_nil)))) (fun _ _ _ _ _ => sts_nil) (fun _ _ _ _ _ => (se_callB (cd_max rfl) (by rfl) m_max (by decide +kernel) (sa_cons' plain_const se_int (sa_cons' plain_bin (se_bin od_sub (se_var 8) (se_var 7)) sa_nil))))))
      (sb_cons (ss_frz [3, 6, 9] (ss_if (st_cmp od_gt (se_call (G_distance.fn (by decide) hr) (by rfl) (sa_cons' plain_name (se_var 3) (sa_cons' plain_name (se_var 5) sa_nil))) (se_bin od_add (se_call (G__law_rises.fn (by decide) hr) (by rfl) (sa_cons' plain_name (se_var 6) sa_nil)) (se_call (G__law_rises.fn (by decide) hr) (by rfl) (sa_cons' plain_name (se_var 9) sa_nil)))) (sb_one (ss_ret se_bool)) sb_nil))
      (sb_cons (ss_if (ST.as (sw_or (st_cmp (od_ne hu) (se_call (G_distance.fn (by decide) hr) (by rfl) (sa_cons' plain_bin (se_bin od_mul (se_tup (sa_cons' plain_const se_int sa_nil)) (se_var 4)) (sa_cons' plain_name (se_var 5) sa_nil))) (se_call (G__law_rises.fn (by decide) hr) (by rfl) (sa_cons' plain_name (se_var 5) sa_nil))) (sw_or1 (st_cmp (od_ne hu) (se_call (G_distance.fn (by decide) hr) (by rfl) (sa_cons' plain_name (se_var 5) (sa_cons' plain_bin (se_bin od_mul (se_tup (sa_cons' plain_const se_int sa_nil)) (se_var 4)) sa_nil))) (se_callB (cd_maxA rfl) (by rfl) m_max (by decide +kernel) (sa_cons' plain_name (se_var 5) sa_nil)))))) (sb_one (ss_ret se_bool)) sb_nil)
      (sb_one (ss_frz [3] (ss_if (st_cmp od_gt (se_call (G_distance.fn (by decide) hr) (by rfl) (sa_cons' plain_name (se_var 3) (sa_cons' plain_name (se_var 5) sa_nil))) (se_bin od_add (se_callB (cd_maxA rfl) (by rfl) m_max (by decide +kernel) (sa_cons' plain_name (se_var 3) sa_nil)) (se_call (G__law_rises.fn (by decide) hr) (by rfl) (sa_cons' plain_name (se_var 5) sa_nil)))) (sb_one (ss_ret se_bool)) sb_nil)))))))))
      (sb_cons (ss_set nd rfl (by first | exact Or.inl rfl | exact Or.inr rfl) (se_bin od_mod (se_ix (se_var 2) se_int) se_int))
      (sb_one (ss_if (ST.as (sw_or (st_cmp (od_ne hu) (se_call (G_distance.fn (by decide) hr) (by rfl) (sa_cons' plain_bin (se_bin od_mul (se_tup (sa_cons' plain_name (se_var 10) sa_nil)) (se_var 4)) (sa_cons' plain_bin (se_bin od_mul (se_tup (sa_cons' plain_const se_int sa_nil)) (se_var 4)) sa_nil))) (se_var 10)) (sw_or1 (st_cmp (od_ne hu) (se_call (G_distance.fn (by decide) hr) (by rfl) (sa_cons' plain_bin (se_bin od_mul (se_tup (sa_cons' plain_const se_int sa_nil)) (se_var 4)) (sa_cons' plain_bin (se_bin od_mul (se_tup (sa_cons' plain_name (se_var 10) sa_nil)) (se_var 4)) sa_nil))) (se_var 10))))) (sb_one (ss_ret se_bool)) sb_nil))))))))
      (sb_one (ss_ret (se_and (se_cmp (od_eq hu) (se_call (G_distance.fn (by decide) hr) (by rfl) (sa_cons' plain_tup (se_tup (sa_cons' plain_const se_int (sa_cons' plain_const se_int (sa_cons' plain_const se_int (sa_cons' plain_const se_int (sa_cons' plain_const se_int sa_nil)))))) (sa_cons' plain_tup (se_tup (sa_cons' plain_const se_int (sa_cons' plain_const se_int (sa_cons' plain_const se_int (sa_cons' plain_const se_int (sa_cons' plain_const se_int sa_nil)))))) sa_nil))) se_int) (se_one (se_cmp (od_eq hu) (se_call (G_distance.fn (by decide) hr) (by rfl) (sa_cons' plain_tup (se_tup (sa_cons' plain_const se_int sa_nil)) (sa_cons' plain_tup (se_tup (sa_cons' plain_const se_int sa_nil)) sa_nil))) se_int))))))
  exact fn_ok' (c := c_law) Fu sc_law rfl rfl hb
end
/-! what the top has written -/
theorem all_mk {l : PySem.W.OpenLaw} {w : World} {K : PySem.W.Frag} {h : Heap} {mg : Str → Option Value} {fa : Addr} (X : K.In h) (G : h.Ns mainGlobals mg) (hfa : mg "law" = some (.ref fa))
    {f__law_cell0 : Addr} {od_law_cell an_law_cell : Option Addr} {sl_law_cell : Array (Option Value)} {oc_law_cell kV_law_cell dc_law_cell pm_law_cell cd_law_cell ct_law_cell : Value}
    {f__law_digits0 : Addr} {od_law_digits an_law_digits : Option Addr} {sl_law_digits : Array (Option Value)} {oc_law_digits kV_law_digits dc_law_digits pm_law_digits cd_law_digits ct_law_digits : Value}
    {f__law_changed0 : Addr} {od_law_changed an_law_changed : Option Addr} {sl_law_changed : Array (Option Value)} {oc_law_changed kV_law_changed dc_law_changed pm_law_changed cd_law_changed ct_law_changed : Value}
    {f__law_command0 : Addr} {od_law_command an_law_command : Option Addr} {sl_law_command : Array (Option Value)} {oc_law_command kV_law_command dc_law_command pm_law_command cd_law_command ct_law_command : Value}
    {f__law_near0 : Addr} {od_law_near an_law_near : Option Addr} {sl_law_near : Array (Option Value)} {oc_law_near kV_law_near dc_law_near pm_law_near cd_law_near ct_law_near : Value}
    {f__law_rises0 : Addr} {od_law_rises an_law_rises : Option Addr} {sl_law_rises : Array (Option Value)} {oc_law_rises kV_law_rises dc_law_rises pm_law_rises cd_law_rises ct_law_rises : Value}
    {f__law_text0 : Addr} {od_law_text an_law_text : Option Addr} {sl_law_text : Array (Option Value)} {oc_law_text kV_law_text dc_law_text pm_law_text cd_law_text ct_law_text : Value}
    {f_bent0 : Addr} {odbent anbent : Option Addr} {slbent : Array (Option Value)} {ocbent kVbent dcbent pmbent cdbent ctbent : Value}
    {f_cancelled0 : Addr} {odcancelled ancancelled : Option Addr} {slcancelled : Array (Option Value)} {occancelled kVcancelled dccancelled pmcancelled cdcancelled ctcancelled : Value}
    {f_lowered0 : Addr} {odlowered anlowered : Option Addr} {sllowered : Array (Option Value)} {oclowered kVlowered dclowered pmlowered cdlowered ctlowered : Value}
    {f_paid_steps0 : Addr} {odpaid_steps anpaid_steps : Option Addr} {slpaid_steps : Array (Option Value)} {ocpaid_steps kVpaid_steps dcpaid_steps pmpaid_steps cdpaid_steps ctpaid_steps : Value}
    {f_with_fewer_ins0 : Addr} {odwith_fewer_ins anwith_fewer_ins : Option Addr} {slwith_fewer_ins : Array (Option Value)} {ocwith_fewer_ins kVwith_fewer_ins dcwith_fewer_ins pmwith_fewer_ins cdwith_fewer_ins ctwith_fewer_ins : Value}
    {f_with_more_ins0 : Addr} {odwith_more_ins anwith_more_ins : Option Addr} {slwith_more_ins : Array (Option Value)} {ocwith_more_ins kVwith_more_ins dcwith_more_ins pmwith_more_ins cdwith_more_ins ctwith_more_ins : Value}
    {f_line_prices0 : Addr} {odline_prices anline_prices : Option Addr} {slline_prices : Array (Option Value)} {ocline_prices kVline_prices dcline_prices pmline_prices cdline_prices ctline_prices : Value}
    {f_all_prices0 : Addr} {odall_prices anall_prices : Option Addr} {slall_prices : Array (Option Value)} {ocall_prices kVall_prices dcall_prices pmall_prices cdall_prices ctall_prices : Value}
    {f_distance0 : Addr} {oddistance andistance : Option Addr} {sldistance : Array (Option Value)} {ocdistance kVdistance dcdistance pmdistance cddistance ctdistance : Value}
    {f_law0 : Addr} {odlaw anlaw : Option Addr} {sllaw : Array (Option Value)} {oclaw kVlaw dclaw pmlaw cdlaw ctlaw : Value}
    (a_law_cell : PySem.W.nsIn K mainGlobals "_law_cell" = some (some (.ref f__law_cell0))) (l_law_cell : K.lookup f__law_cell0 = some ⟨oc_law_cell, od_law_cell, .func (PySem.W.fnOf "_law_cell" "_law_cell" (defArgs s__law_cell) (defBody s__law_cell) (defScope s__law_cell) .none kV_law_cell dc_law_cell pm_law_cell an_law_cell cd_law_cell ct_law_cell), sl_law_cell⟩) (c_law_cell : PySem.W.codeIn K cd_law_cell "_law_cell" = true) (k_law_cell : PySem.W.keepIn K (.ref f__law_cell0) = true)
    (a_law_digits : PySem.W.nsIn K mainGlobals "_law_digits" = some (some (.ref f__law_digits0))) (l_law_digits : K.lookup f__law_digits0 = some ⟨oc_law_digits, od_law_digits, .func (PySem.W.fnOf "_law_digits" "_law_digits" (defArgs s__law_digits) (defBody s__law_digits) (defScope s__law_digits) .none kV_law_digits dc_law_digits pm_law_digits an_law_digits cd_law_digits ct_law_digits), sl_law_digits⟩) (c_law_digits : PySem.W.codeIn K cd_law_digits "_law_digits" = true) (k_law_digits : PySem.W.keepIn K (.ref f__law_digits0) = true)
    (a_law_changed : PySem.W.nsIn K mainGlobals "_law_changed" = some (some (.ref f__law_changed0))) (l_law_changed : K.lookup f__law_changed0 = some ⟨oc_law_changed, od_law_changed, .func (PySem.W.fnOf "_law_changed" "_law_changed" (defArgs s__law_changed) (defBody s__law_changed) (defScope s__law_changed) .none kV_law_changed dc_law_changed pm_law_changed an_law_changed cd_law_changed ct_law_changed), sl_law_changed⟩) (c_law_changed : PySem.W.codeIn K cd_law_changed "_law_changed" = true) (k_law_changed : PySem.W.keepIn K (.ref f__law_changed0) = true)
    (a_law_command : PySem.W.nsIn K mainGlobals "_law_command" = some (some (.ref f__law_command0))) (l_law_command : K.lookup f__law_command0 = some ⟨oc_law_command, od_law_command, .func (PySem.W.fnOf "_law_command" "_law_command" (defArgs s__law_command) (defBody s__law_command) (defScope s__law_command) .none kV_law_command dc_law_command pm_law_command an_law_command cd_law_command ct_law_command), sl_law_command⟩) (c_law_command : PySem.W.codeIn K cd_law_command "_law_command" = true) (k_law_command : PySem.W.keepIn K (.ref f__law_command0) = true)
    (a_law_near : PySem.W.nsIn K mainGlobals "_law_near" = some (some (.ref f__law_near0))) (l_law_near : K.lookup f__law_near0 = some ⟨oc_law_near, od_law_near, .func (PySem.W.fnOf "_law_near" "_law_near" (defArgs s__law_near) (defBody s__law_near) (defScope s__law_near) .none kV_law_near dc_law_near pm_law_near an_law_near cd_law_near ct_law_near), sl_law_near⟩) (c_law_near : PySem.W.codeIn K cd_law_near "_law_near" = true) (k_law_near : PySem.W.keepIn K (.ref f__law_near0) = true)
    (a_law_rises : PySem.W.nsIn K mainGlobals "_law_rises" = some (some (.ref f__law_rises0))) (l_law_rises : K.lookup f__law_rises0 = some ⟨oc_law_rises, od_law_rises, .func (PySem.W.fnOf "_law_rises" "_law_rises" (defArgs s__law_rises) (defBody s__law_rises) (defScope s__law_rises) .none kV_law_rises dc_law_rises pm_law_rises an_law_rises cd_law_rises ct_law_rises), sl_law_rises⟩) (c_law_rises : PySem.W.codeIn K cd_law_rises "_law_rises" = true) (k_law_rises : PySem.W.keepIn K (.ref f__law_rises0) = true)
    (a_law_text : PySem.W.nsIn K mainGlobals "_law_text" = some (some (.ref f__law_text0))) (l_law_text : K.lookup f__law_text0 = some ⟨oc_law_text, od_law_text, .func (PySem.W.fnOf "_law_text" "_law_text" (defArgs s__law_text) (defBody s__law_text) (defScope s__law_text) .none kV_law_text dc_law_text pm_law_text an_law_text cd_law_text ct_law_text), sl_law_text⟩) (c_law_text : PySem.W.codeIn K cd_law_text "_law_text" = true) (k_law_text : PySem.W.keepIn K (.ref f__law_text0) = true)
    (abent : PySem.W.nsIn K mainGlobals "bent" = some (some (.ref f_bent0))) (lbent : K.lookup f_bent0 = some ⟨ocbent, odbent, .func (PySem.W.fnOf "bent" "bent" (defArgs s_bent) (defBody s_bent) (defScope s_bent) .none kVbent dcbent pmbent anbent cdbent ctbent), slbent⟩) (cbent : PySem.W.codeIn K cdbent "bent" = true) (kbent : PySem.W.keepIn K (.ref f_bent0) = true)
    (acancelled : PySem.W.nsIn K mainGlobals "cancelled" = some (some (.ref f_cancelled0))) (lcancelled : K.lookup f_cancelled0 = some ⟨occancelled, odcancelled, .func (PySem.W.fnOf "cancelled" "cancelled" (defArgs s_cancelled) (defBody s_cancelled) (defScope s_cancelled) .none kVcancelled dccancelled pmcancelled ancancelled cdcancelled ctcancelled), slcancelled⟩) (ccancelled : PySem.W.codeIn K cdcancelled "cancelled" = true) (kcancelled : PySem.W.keepIn K (.ref f_cancelled0) = true)
    (alowered : PySem.W.nsIn K mainGlobals "lowered" = some (some (.ref f_lowered0))) (llowered : K.lookup f_lowered0 = some ⟨oclowered, odlowered, .func (PySem.W.fnOf "lowered" "lowered" (defArgs s_lowered) (defBody s_lowered) (defScope s_lowered) .none kVlowered dclowered pmlowered anlowered cdlowered ctlowered), sllowered⟩) (clowered : PySem.W.codeIn K cdlowered "lowered" = true) (klowered : PySem.W.keepIn K (.ref f_lowered0) = true)
    (apaid_steps : PySem.W.nsIn K mainGlobals "paid_steps" = some (some (.ref f_paid_steps0))) (lpaid_steps : K.lookup f_paid_steps0 = some ⟨ocpaid_steps, odpaid_steps, .func (PySem.W.fnOf "paid_steps" "paid_steps" (defArgs s_paid_steps) (defBody s_paid_steps) (defScope s_paid_steps) .none kVpaid_steps dcpaid_steps pmpaid_steps anpaid_steps cdpaid_steps ctpaid_steps), slpaid_steps⟩) (cpaid_steps : PySem.W.codeIn K cdpaid_steps "paid_steps" = true) (kpaid_steps : PySem.W.keepIn K (.ref f_paid_steps0) = true)
    (awith_fewer_ins : PySem.W.nsIn K mainGlobals "with_fewer_ins" = some (some (.ref f_with_fewer_ins0))) (lwith_fewer_ins : K.lookup f_with_fewer_ins0 = some ⟨ocwith_fewer_ins, odwith_fewer_ins, .func (PySem.W.fnOf "with_fewer_ins" "with_fewer_ins" (defArgs s_with_fewer_ins) (defBody s_with_fewer_ins) (defScope s_with_fewer_ins) .none kVwith_fewer_ins dcwith_fewer_ins pmwith_fewer_ins anwith_fewer_ins cdwith_fewer_ins ctwith_fewer_ins), slwith_fewer_ins⟩) (cwith_fewer_ins : PySem.W.codeIn K cdwith_fewer_ins "with_fewer_ins" = true) (kwith_fewer_ins : PySem.W.keepIn K (.ref f_with_fewer_ins0) = true)
    (awith_more_ins : PySem.W.nsIn K mainGlobals "with_more_ins" = some (some (.ref f_with_more_ins0))) (lwith_more_ins : K.lookup f_with_more_ins0 = some ⟨ocwith_more_ins, odwith_more_ins, .func (PySem.W.fnOf "with_more_ins" "with_more_ins" (defArgs s_with_more_ins) (defBody s_with_more_ins) (defScope s_with_more_ins) .none kVwith_more_ins dcwith_more_ins pmwith_more_ins anwith_more_ins cdwith_more_ins ctwith_more_ins), slwith_more_ins⟩) (cwith_more_ins : PySem.W.codeIn K cdwith_more_ins "with_more_ins" = true) (kwith_more_ins : PySem.W.keepIn K (.ref f_with_more_ins0) = true)
    (aline_prices : PySem.W.nsIn K mainGlobals "line_prices" = some (some (.ref f_line_prices0))) (lline_prices : K.lookup f_line_prices0 = some ⟨ocline_prices, odline_prices, .func (PySem.W.fnOf "line_prices" "line_prices" (defArgs s_line_prices) (defBody s_line_prices) (defScope s_line_prices) .none kVline_prices dcline_prices pmline_prices anline_prices cdline_prices ctline_prices), slline_prices⟩) (cline_prices : PySem.W.codeIn K cdline_prices "line_prices" = true) (kline_prices : PySem.W.keepIn K (.ref f_line_prices0) = true)
    (aall_prices : PySem.W.nsIn K mainGlobals "all_prices" = some (some (.ref f_all_prices0))) (lall_prices : K.lookup f_all_prices0 = some ⟨ocall_prices, odall_prices, .func (PySem.W.fnOf "all_prices" "all_prices" (defArgs s_all_prices) (defBody s_all_prices) (defScope s_all_prices) .none kVall_prices dcall_prices pmall_prices anall_prices cdall_prices ctall_prices), slall_prices⟩) (call_prices : PySem.W.codeIn K cdall_prices "all_prices" = true) (kall_prices : PySem.W.keepIn K (.ref f_all_prices0) = true)
    (adistance : PySem.W.nsIn K mainGlobals "distance" = some (some (.ref f_distance0))) (ldistance : K.lookup f_distance0 = some ⟨ocdistance, oddistance, .func (PySem.W.fnOf "distance" "distance" (defArgs s_distance) (defBody s_distance) (defScope s_distance) .none kVdistance dcdistance pmdistance andistance cddistance ctdistance), sldistance⟩) (cdistance : PySem.W.codeIn K cddistance "distance" = true) (kdistance : PySem.W.keepIn K (.ref f_distance0) = true)
    (alaw : PySem.W.nsIn K mainGlobals "law" = some (some (.ref f_law0))) (llaw : K.lookup f_law0 = some ⟨oclaw, odlaw, .func (PySem.W.fnOf "law" "law" (defArgs s_law) (defBody s_law) (defScope s_law) .none kVlaw dclaw pmlaw anlaw cdlaw ctlaw), sllaw⟩) (claw : PySem.W.codeIn K cdlaw "law" = true) (klaw : PySem.W.keepIn K (.ref f_law0) = true)
    (zlen : PySem.W.nsIn K mainGlobals "len" = some none)
    (zlist : PySem.W.nsIn K mainGlobals "list" = some none)
    (zmax : PySem.W.nsIn K mainGlobals "max" = some none)
    (zmin : PySem.W.nsIn K mainGlobals "min" = some none)
    (zrange : PySem.W.nsIn K mainGlobals "range" = some none)
    (zreversed : PySem.W.nsIn K mainGlobals "reversed" = some none)
    (ztuple : PySem.W.nsIn K mainGlobals "tuple" = some none)
    (zzip : PySem.W.nsIn K mainGlobals "zip" = some none)
    {gpNOTHING : Addr} {gdNOTHING : Option Addr} {gnNOTHING : Nat} {gsNOTHING : Array (Option Value)} {gtNOTHING0 : Tok} {gtNOTHING1 : Tok} {gtNOTHING2 : Tok} {gtNOTHING3 : Tok} {gtNOTHING4 : Tok}
    (gaNOTHING : PySem.W.nsIn K mainGlobals "NOTHING" = some (some (.ref gpNOTHING))) (glNOTHING : K.lookup gpNOTHING = some ⟨.type "tuple", gdNOTHING, .seq #[.int 0 gtNOTHING0, .int 0 gtNOTHING1, .int 0 gtNOTHING2, .int 0 gtNOTHING3, .int 0 gtNOTHING4] gnNOTHING, gsNOTHING⟩)
    : ∃ fd : FuncData, (∀ (s : Shared) (v : Value), BindsTo s fd ⟨[v], []⟩ [("script", v)]) ∧ ∀ base : Heap, K.In base → base.Ns mainGlobals mg → FnOk l.prog w K mg base CX0 6 fa fd ["script"] (spI K 1 f_law) := by
  have e := hfa.symm.trans (PySem.W.mg_of X G alaw)
  cases e
  have m_len := PySem.W.mg_none_of X G zlen
  have m_list := PySem.W.mg_none_of X G zlist
  have m_max := PySem.W.mg_none_of X G zmax
  have m_min := PySem.W.mg_none_of X G zmin
  have m_range := PySem.W.mg_none_of X G zrange
  have m_reversed := PySem.W.mg_none_of X G zreversed
  have m_tuple := PySem.W.mg_none_of X G ztuple
  have m_zip := PySem.W.mg_none_of X G zzip
  have Q_NOTHING : GlobD K mg "NOTHING" (.dict [(.none, .tuple [(.int 0), (.int 0), (.int 0), (.int 0), (.int 0)])]) := ⟨.ref gpNOTHING, _, PySem.W.mg_of X G gaNOTHING, rfl, fun H => .ktup (xs := [V.int 0, V.int 0, V.int 0, V.int 0, V.int 0]) (.inr ⟨_, _, _, glNOTHING, rfl, rfl, by show 5 ≤ sizeLine; decide, (.cons ⟨_, rfl⟩ (.cons ⟨_, rfl⟩ (.cons ⟨_, rfl⟩ (.cons ⟨_, rfl⟩ (.cons ⟨_, rfl⟩ .nil)))))⟩) (.cons (.int _) (.cons (.int _) (.cons (.int _) (.cons (.int _) (.cons (.int _) .nil)))))⟩
  refine ⟨PySem.W.fnOf "law" "law" (defArgs s_law) (defBody s_law) (defScope s_law) .none kVlaw dclaw pmlaw anlaw cdlaw ctlaw, fun s v => .of_eq rfl, fun base _ _ => ?_⟩
  have F__law_cell := fun_mk (st := s__law_cell) l_law_cell c_law_cell k_law_cell
  have O__law_cell := o__law_cell (P := l.prog) (w := w) (mg := mg) (base := base) F__law_cell m_len
  have D__law_cell : DefOk l.prog w K mg base 1 "_law_cell" 2 f__law_cell := ⟨_, _, _, O__law_cell, PySem.W.mg_of X G a_law_cell, F__law_cell.kp, F__law_cell.binds (ps := ["script", "index"]) (fun _ _ _ _ _ _ us hl => match us, hl with | [_, _], _ => rfl), rfl⟩
  have F__law_digits := fun_mk (st := s__law_digits) l_law_digits c_law_digits k_law_digits
  have O__law_digits := o__law_digits (P := l.prog) (w := w) (mg := mg) (base := base) F__law_digits m_range D__law_cell
  have D__law_digits : DefOk l.prog w K mg base 2 "_law_digits" 4 f__law_digits := ⟨_, _, _, O__law_digits, PySem.W.mg_of X G a_law_digits, F__law_digits.kp, F__law_digits.binds (ps := ["script", "index", "count", "base"]) (fun _ _ _ _ _ _ us hl => match us, hl with | [_, _, _, _], _ => rfl), rfl⟩
  have F__law_changed := fun_mk (st := s__law_changed) l_law_changed c_law_changed k_law_changed
  have O__law_changed := o__law_changed (P := l.prog) (w := w) (mg := mg) (base := base) F__law_changed m_list m_range m_tuple
  have D__law_changed : DefOk l.prog w K mg base 1 "_law_changed" 2 f__law_changed := ⟨_, _, _, O__law_changed, PySem.W.mg_of X G a_law_changed, F__law_changed.kp, F__law_changed.binds (ps := ["text", "command"]) (fun _ _ _ _ _ _ us hl => match us, hl with | [_, _], _ => rfl), rfl⟩
  have F__law_command := fun_mk (st := s__law_command) l_law_command c_law_command k_law_command
  have O__law_command := o__law_command (P := l.prog) (w := w) (mg := mg) (base := base) F__law_command
  have D__law_command : DefOk l.prog w K mg base 1 "_law_command" 2 f__law_command := ⟨_, _, _, O__law_command, PySem.W.mg_of X G a_law_command, F__law_command.kp, F__law_command.binds (ps := ["digits", "length"]) (fun _ _ _ _ _ _ us hl => match us, hl with | [_, _], _ => rfl), rfl⟩
  have F__law_near := fun_mk (st := s__law_near) l_law_near c_law_near k_law_near
  have O__law_near := o__law_near (P := l.prog) (w := w) (mg := mg) (base := base) F__law_near m_len m_min m_range m_tuple D__law_changed D__law_command
  have D__law_near : DefOk l.prog w K mg base 2 "_law_near" 3 f__law_near := ⟨_, _, _, O__law_near, PySem.W.mg_of X G a_law_near, F__law_near.kp, F__law_near.binds (ps := ["digits", "text", "top"]) (fun _ _ _ _ _ _ us hl => match us, hl with | [_, _, _], _ => rfl), rfl⟩
  have F__law_rises := fun_mk (st := s__law_rises) l_law_rises c_law_rises k_law_rises
  have O__law_rises := o__law_rises (P := l.prog) (w := w) (mg := mg) (base := base) F__law_rises m_max
  have D__law_rises : DefOk l.prog w K mg base 1 "_law_rises" 1 f__law_rises := ⟨_, _, _, O__law_rises, PySem.W.mg_of X G a_law_rises, F__law_rises.kp, F__law_rises.binds (ps := ["counts"]) (fun _ _ _ _ _ _ us hl => match us, hl with | [_], _ => rfl), rfl⟩
  have F__law_text := fun_mk (st := s__law_text) l_law_text c_law_text k_law_text
  have O__law_text := o__law_text (P := l.prog) (w := w) (mg := mg) (base := base) F__law_text
  have D__law_text : DefOk l.prog w K mg base 1 "_law_text" 3 f__law_text := ⟨_, _, _, O__law_text, PySem.W.mg_of X G a_law_text, F__law_text.kp, F__law_text.binds (ps := ["digits", "size", "top"]) (fun _ _ _ _ _ _ us hl => match us, hl with | [_, _, _], _ => rfl), rfl⟩
  have F_bent := fun_mk (st := s_bent) lbent cbent kbent
  have O_bent := o_bent (P := l.prog) (w := w) (mg := mg) (base := base) F_bent
  have D_bent : DefOk l.prog w K mg base 1 "bent" 4 f_bent := ⟨_, _, _, O_bent, PySem.W.mg_of X G abent, F_bent.kp, F_bent.binds (ps := ["twos", "noughts", "bend", "depth"]) (fun _ _ _ _ _ _ us hl => match us, hl with | [_, _, _, _], _ => rfl), rfl⟩
  have F_cancelled := fun_mk (st := s_cancelled) lcancelled ccancelled kcancelled
  have O_cancelled := o_cancelled (P := l.prog) (w := w) (mg := mg) (base := base) F_cancelled m_range
  have D_cancelled : DefOk l.prog w K mg base 1 "cancelled" 3 f_cancelled := ⟨_, _, _, O_cancelled, PySem.W.mg_of X G acancelled, F_cancelled.kp, F_cancelled.binds (ps := ["twos", "noughts", "most"]) (fun _ _ _ _ _ _ us hl => match us, hl with | [_, _, _], _ => rfl), rfl⟩
  have F_lowered := fun_mk (st := s_lowered) llowered clowered klowered
  have O_lowered := o_lowered (P := l.prog) (w := w) (mg := mg) (base := base) F_lowered D_cancelled
  have D_lowered : DefOk l.prog w K mg base 2 "lowered" 3 f_lowered := ⟨_, _, _, O_lowered, PySem.W.mg_of X G alowered, F_lowered.kp, F_lowered.binds (ps := ["twos", "noughts", "bend"]) (fun _ _ _ _ _ _ us hl => match us, hl with | [_, _, _], _ => rfl), rfl⟩
  have F_paid_steps := fun_mk (st := s_paid_steps) lpaid_steps cpaid_steps kpaid_steps
  have O_paid_steps := o_paid_steps (P := l.prog) (w := w) (mg := mg) (base := base) F_paid_steps
  have D_paid_steps : DefOk l.prog w K mg base 1 "paid_steps" 2 f_paid_steps := ⟨_, _, _, O_paid_steps, PySem.W.mg_of X G apaid_steps, F_paid_steps.kp, F_paid_steps.binds (ps := ["many", "noughts"]) (fun _ _ _ _ _ _ us hl => match us, hl with | [_, _], _ => rfl), rfl⟩
  have F_with_fewer_ins := fun_mk (st := s_with_fewer_ins) lwith_fewer_ins cwith_fewer_ins kwith_fewer_ins
  have O_with_fewer_ins := o_with_fewer_ins (P := l.prog) (w := w) (mg := mg) (base := base) F_with_fewer_ins D_cancelled D_paid_steps
  have D_with_fewer_ins : DefOk l.prog w K mg base 2 "with_fewer_ins" 5 f_with_fewer_ins := ⟨_, _, _, O_with_fewer_ins, PySem.W.mg_of X G awith_fewer_ins, F_with_fewer_ins.kp, F_with_fewer_ins.binds (ps := ["cost", "twos", "noughts", "by", "fewest"]) (fun _ _ _ _ _ _ us hl => match us, hl with | [_, _, _, _, _], _ => rfl), rfl⟩
  have F_with_more_ins := fun_mk (st := s_with_more_ins) lwith_more_ins cwith_more_ins kwith_more_ins
  have O_with_more_ins := o_with_more_ins (P := l.prog) (w := w) (mg := mg) (base := base) F_with_more_ins D_cancelled D_paid_steps
  have D_with_more_ins : DefOk l.prog w K mg base 2 "with_more_ins" 5 f_with_more_ins := ⟨_, _, _, O_with_more_ins, PySem.W.mg_of X G awith_more_ins, F_with_more_ins.kp, F_with_more_ins.binds (ps := ["cost", "twos", "noughts", "by", "bend"]) (fun _ _ _ _ _ _ us hl => match us, hl with | [_, _, _, _, _], _ => rfl), rfl⟩
  have F_line_prices := fun_mk (st := s_line_prices) lline_prices cline_prices kline_prices
  have O_line_prices := o_line_prices (P := l.prog) (w := w) (mg := mg) (base := base) F_line_prices m_max D_bent D_lowered D_with_fewer_ins D_with_more_ins
  have D_line_prices : DefOk l.prog w K mg base 3 "line_prices" 3 f_line_prices := ⟨_, _, _, O_line_prices, PySem.W.mg_of X G aline_prices, F_line_prices.kp, F_line_prices.binds (ps := ["below", "depth", "wished"]) (fun _ _ _ _ _ _ us hl => match us, hl with | [_, _, _], _ => rfl), rfl⟩
  have F_all_prices := fun_mk (st := s_all_prices) lall_prices call_prices kall_prices
  have O_all_prices := o_all_prices (P := l.prog) (w := w) (mg := mg) (base := base) F_all_prices m_list m_max m_reversed m_zip Q_NOTHING D_line_prices
  have D_all_prices : DefOk l.prog w K mg base 4 "all_prices" 2 f_all_prices := ⟨_, _, _, O_all_prices, PySem.W.mg_of X G aall_prices, F_all_prices.kp, F_all_prices.binds (ps := ["text", "wish"]) (fun _ _ _ _ _ _ us hl => match us, hl with | [_, _], _ => rfl), rfl⟩
  have F_distance := fun_mk (st := s_distance) ldistance cdistance kdistance
  have O_distance := o_distance (P := l.prog) (w := w) (mg := mg) (base := base) F_distance D_all_prices
  have D_distance : DefOk l.prog w K mg base 5 "distance" 2 f_distance := ⟨_, _, _, O_distance, PySem.W.mg_of X G adistance, F_distance.kp, F_distance.binds (ps := ["text", "wish"]) (fun _ _ _ _ _ _ us hl => match us, hl with | [_, _], _ => rfl), rfl⟩
  have F_law := fun_mk (st := s_law) llaw claw klaw
  have O_law := o_law (P := l.prog) (w := w) (mg := mg) (base := base) F_law m_len m_max m_range m_zip D__law_digits D__law_near D__law_rises D__law_text D_distance
  exact O_law
end Lw
/-! Mx: lines, counts, commands: the reckoning behind distances. -/
namespace Mx
/-- a line: its depth, its wished depth -/
abbrev Ln := Nat × Option Nat
/-- counts of a line: outs, ins -/
abbrev Ct := Nat × Nat
def fit1 (l : Ln) (c : Ct) : Prop := ∀ x, l.2 = some x → (l.1 - c.1) + c.2 = x
def Fit : List Ln → List Ct → Prop
  | [], [] => True
  | l :: ls, c :: cs => fit1 l c ∧ Fit ls cs
  | _, _ => False
def cst (p : Ct) : List Ct → Nat
  | [] => 0
  | c :: r => (c.1 - p.1) + (c.2 - p.2) + cst c r
/-- the smallest cost, behind counts p -/
def Opt (p : Ct) (ls : List Ln) (m : Nat) : Prop := (∃ cs, Fit ls cs ∧ cst p cs = m) ∧ ∀ cs, Fit ls cs → m ≤ cst p cs
theorem Fit.len : ∀ {ls : List Ln} {cs : List Ct}, Fit ls cs → ls.length = cs.length
  | [], [], _ => rfl
  | _ :: _, _ :: _, h => congrArg Nat.succ h.2.len
  | [], _ :: _, h => h.elim
  | _ :: _, [], h => h.elim
theorem fit_some : ∀ ls : List Ln, ∃ cs, Fit ls cs
  | [] => ⟨[], trivial⟩
  | l :: ls => by
    obtain ⟨cs, h⟩ := fit_some ls
    cases hw : l.2 with
    | none => exact ⟨(0, 0) :: cs, fun x e => by rw [hw] at e; (cases e), h⟩
    | some w => exact ⟨(l.1, w) :: cs, fun x e => by rw [hw] at e; cases e; simp, h⟩
theorem least {P : Nat → Prop} : ∀ n, P n → ∃ m, P m ∧ ∀ k, P k → m ≤ k := by
  intro n
  induction n using Nat.strongRecOn with
  | ind n ih =>
    intro h
    by_cases q : ∃ k, k < n ∧ P k
    · obtain ⟨k, h1, h2⟩ := q
      exact ih k h1 h2
    · exact ⟨n, h, fun k hk => Nat.le_of_not_lt fun z => q ⟨k, z, hk⟩⟩
theorem opt_ex (p : Ct) (ls : List Ln) : ∃ m, Opt p ls m := by
  obtain ⟨cs, h⟩ := fit_some ls
  obtain ⟨m, ⟨cs', h1, h2⟩, h3⟩ := least (P := fun m => ∃ cs, Fit ls cs ∧ cst p cs = m) (cst p cs) ⟨cs, h, rfl⟩
  exact ⟨m, ⟨cs', h1, h2⟩, fun cs hc => h3 _ ⟨cs, hc, rfl⟩⟩
theorem Opt.uniq {p : Ct} {ls : List Ln} {m k : Nat} (h : Opt p ls m) (h' : Opt p ls k) : m = k := by
  obtain ⟨⟨c1, f1, e1⟩, g1⟩ := h
  obtain ⟨⟨c2, f2, e2⟩, g2⟩ := h'
  have := g1 c2 f2
  have := g2 c1 f1
  omega
noncomputable def dst (ls : List Ln) : Nat := Classical.choose (opt_ex (0, 0) ls)
theorem dst_opt (ls : List Ln) : Opt (0, 0) ls (dst ls) := Classical.choose_spec (opt_ex (0, 0) ls)
theorem dst_le {ls : List Ln} {cs : List Ct} (h : Fit ls cs) : dst ls ≤ cst (0, 0) cs := (dst_opt ls).2 cs h
theorem dst_get (ls : List Ln) : ∃ cs, Fit ls cs ∧ cst (0, 0) cs = dst ls := (dst_opt ls).1
theorem dst_eq {ls : List Ln} {m : Nat} (h : Opt (0, 0) ls m) : dst ls = m := (dst_opt ls).uniq h
/-! one list against another -/
theorem dst_mono {ls ls' : List Ln} (h : ∀ cs, Fit ls cs → ∃ cs', Fit ls' cs' ∧ cst (0, 0) cs' ≤ cst (0, 0) cs) : dst ls' ≤ dst ls := by
  obtain ⟨cs, h1, h2⟩ := dst_get ls
  obtain ⟨cs', h3, h4⟩ := h cs h1
  have := dst_le h3
  omega
theorem cst_sub (p q : Ct) (cs : List Ct) : cst p cs ≤ (q.1 - p.1) + (q.2 - p.2) + cst q cs := by
  cases cs with
  | nil => exact Nat.zero_le _
  | cons c r => unfold cst; omega
/-- dropping lines costs nothing -/
inductive Sub {α : Type} : List α → List α → Prop
  | nil : Sub [] []
  | keep {a : α} {xs ys : List α} : Sub xs ys → Sub (a :: xs) (a :: ys)
  | drop {a : α} {xs ys : List α} : Sub xs ys → Sub xs (a :: ys)
theorem fit_sub {ls ls' : List Ln} (s : Sub ls' ls) : ∀ {cs : List Ct}, Fit ls cs → ∃ cs', Fit ls' cs' ∧ ∀ p, cst p cs' ≤ cst p cs := by
  induction s with
  | nil =>
    intro cs h
    exact ⟨cs, h, fun _ => Nat.le_refl _⟩
  | keep s ih =>
    intro cs h
    cases cs with
    | nil => exact h.elim
    | cons c r =>
      obtain ⟨cs', h1, h2⟩ := ih h.2
      exact ⟨c :: cs', ⟨h.1, h1⟩, fun p => Nat.add_le_add_left (h2 c) _⟩
  | drop s ih =>
    intro cs h
    cases cs with
    | nil => exact h.elim
    | cons c r =>
      obtain ⟨cs', h1, h2⟩ := ih h.2
      exact ⟨cs', h1, fun p => Nat.le_trans (cst_sub p c cs') (Nat.add_le_add_left (h2 c) _)⟩
theorem dst_sub {ls ls' : List Ln} (s : Sub ls' ls) : dst ls' ≤ dst ls := dst_mono fun cs h => let ⟨cs', h1, h2⟩ := fit_sub s h; ⟨cs', h1, h2 _⟩
theorem sub_refl {α : Type} : ∀ xs : List α, Sub xs xs
  | [] => .nil
  | _ :: xs => .keep (sub_refl xs)
theorem sub_nil {α : Type} : ∀ xs : List α, Sub [] xs
  | [] => .nil
  | _ :: xs => .drop (sub_nil xs)
theorem sub_app {α : Type} {xs xs' ys ys' : List α} (h : Sub xs xs') (h' : Sub ys ys') : Sub (xs ++ ys) (xs' ++ ys') := by
  induction h with
  | nil => exact h'
  | keep _ ih => exact .keep ih
  | drop _ ih => exact .drop ih
theorem sub_left {α : Type} (xs ys : List α) : Sub xs (xs ++ ys) := by
  have := sub_app (sub_refl xs) (sub_nil ys)
  rwa [List.append_nil] at this
theorem sub_right {α : Type} (xs ys : List α) : Sub ys (xs ++ ys) := by
  have := sub_app (sub_nil xs) (sub_refl ys)
  rwa [List.nil_append] at this
/-- an item beside its equal -/
theorem fit_twin {l : Ln} : ∀ {as bs : List Ln} {cs : List Ct}, Fit (as ++ l :: bs) cs → ∃ cs', Fit (as ++ l :: l :: bs) cs' ∧ ∀ p, cst p cs' = cst p cs
  | [], bs, [], h => h.elim
  | [], bs, c :: r, h => ⟨c :: c :: r, ⟨h.1, h.1, h.2⟩, fun p => by simp [cst]⟩
  | a :: as, bs, [], h => h.elim
  | a :: as, bs, c :: r, h => by
    obtain ⟨cs', h1, h2⟩ := fit_twin (as := as) (bs := bs) h.2
    exact ⟨c :: cs', ⟨h.1, h1⟩, fun p => by simp [cst, h2]⟩
theorem dst_twin (as bs : List Ln) (l : Ln) : dst (as ++ l :: l :: bs) = dst (as ++ l :: bs) :=
  Nat.le_antisymm (dst_mono fun cs h => let ⟨cs', h1, h2⟩ := fit_twin h; ⟨cs', h1, Nat.le_of_eq (h2 _)⟩) (dst_sub (sub_app (sub_refl as) (.keep (.drop (sub_refl bs)))))
/-- a free line -/
theorem fit_free {d : Nat} : ∀ {as bs : List Ln} {cs : List Ct} (p : Ct), Fit (as ++ bs) cs → ∃ cs', Fit (as ++ (d, none) :: bs) cs' ∧ cst p cs' = cst p cs
  | [], bs, cs, p, h => ⟨p :: cs, ⟨fun x e => (nomatch e), h⟩, by simp [cst]⟩
  | a :: as, bs, [], p, h => h.elim
  | a :: as, bs, c :: r, p, h => by
    obtain ⟨cs', h1, h2⟩ := fit_free (as := as) (bs := bs) c h.2
    exact ⟨c :: cs', ⟨h.1, h1⟩, by simp [cst, h2]⟩
theorem dst_free (as bs : List Ln) (d : Nat) : dst (as ++ (d, none) :: bs) = dst (as ++ bs) :=
  Nat.le_antisymm (dst_mono fun cs h => let ⟨cs', h1, h2⟩ := fit_free (0, 0) h; ⟨cs', h1, Nat.le_of_eq h2⟩) (dst_sub (sub_app (sub_refl as) (.drop (sub_refl bs))))
/-- only the lines that are not free -/
def bound (ls : List Ln) : List Ln := ls.filter fun l => l.2.isSome
theorem dst_bound_app (as : List Ln) : ∀ bs : List Ln, dst (as ++ bound bs) = dst (as ++ bs)
  | [] => rfl
  | (d, none) :: bs => by
    have h : bound ((d, none) :: bs) = bound bs := rfl
    rw [h, dst_bound_app as bs, dst_free]
  | (d, some w) :: bs => by
    have h : bound ((d, some w) :: bs) = (d, some w) :: bound bs := rfl
    have := dst_bound_app (as ++ [(d, some w)]) bs
    rw [List.append_assoc, List.append_assoc] at this
    rw [h]
    exact this
theorem dst_bound (ls : List Ln) : dst (bound ls) = dst ls := dst_bound_app [] ls
theorem dst_nil : dst [] = 0 := dst_eq ⟨⟨[], trivial, rfl⟩, fun _ _ => Nat.zero_le _⟩
/-- freer wishes -/
def Freer : List Ln → List Ln → Prop
  | [], [] => True
  | a :: as, b :: bs => a.1 = b.1 ∧ (a.2 = none ∨ a.2 = b.2) ∧ Freer as bs
  | _, _ => False
theorem fit_freer : ∀ {as bs : List Ln} {cs : List Ct}, Freer as bs → Fit bs cs → Fit as cs
  | [], [], _, _, h => h
  | a :: as, b :: bs, [], _, h => h.elim
  | a :: as, b :: bs, c :: cs, f, h => ⟨fun x e => by
      obtain ⟨e1, e2, _⟩ := f
      rcases e2 with e2 | e2
      · rw [e2] at e; cases e
      · rw [e1]; exact h.1 x (by rw [← e2]; exact e), fit_freer f.2.2 h.2⟩
  | [], _ :: _, _, f, _ => f.elim
  | _ :: _, [], _, f, _ => f.elim
theorem dst_freer {as bs : List Ln} (f : Freer as bs) : dst as ≤ dst bs := dst_mono fun cs h => ⟨cs, fit_freer f h, Nat.le_refl _⟩
/-- two texts, one behind the other -/
theorem cst_app (p : Ct) : ∀ (cs ds : List Ct), cst p (cs ++ ds) ≤ cst p cs + cst (0, 0) ds
  | [], ds => by
    have := cst_sub p (0, 0) ds
    simp [cst] at this ⊢
    exact this
  | c :: cs, ds => by
    have := cst_app c cs ds
    simp only [List.cons_append, cst]
    omega
theorem fit_app : ∀ {as bs : List Ln} {cs ds : List Ct}, Fit as cs → Fit bs ds → Fit (as ++ bs) (cs ++ ds)
  | [], _, [], _, _, h => h
  | _ :: _, _, _ :: _, _, h, h' => ⟨h.1, fit_app h.2 h'⟩
  | [], _, _ :: _, _, h, _ => h.elim
  | _ :: _, _, [], _, h, _ => h.elim
theorem dst_app (as bs : List Ln) : dst (as ++ bs) ≤ dst as + dst bs := by
  obtain ⟨cs, h1, h2⟩ := dst_get as
  obtain ⟨ds, h3, h4⟩ := dst_get bs
  have := dst_le (fit_app h1 h3)
  have := cst_app (0, 0) cs ds
  omega
/-- a line that is as it shall be, at an end -/
def still (l : Ln) : Prop := ∀ x, l.2 = some x → x = l.1
theorem fit_still {l : Ln} (h : still l) : fit1 l (0, 0) := fun x e => by rw [h x e]; simp
theorem dst_first {l : Ln} (ls : List Ln) (h : still l) : dst (l :: ls) = dst ls := by
  refine Nat.le_antisymm (dst_mono fun cs f => ⟨(0, 0) :: cs, ⟨fit_still h, f⟩, by simp [cst]⟩) (dst_sub (.drop (sub_refl ls)))
theorem dst_last {l : Ln} (ls : List Ln) (h : still l) : dst (ls ++ [l]) = dst ls := by
  refine Nat.le_antisymm ?_ (dst_sub (sub_left ls [l]))
  have h1 := dst_app ls [l]
  have h2 := dst_first [] h
  rw [dst_nil] at h2
  omega
theorem cst_zero : ∀ {cs : List Ct} {p : Ct}, p = (0, 0) → cst p cs = 0 → ∀ c ∈ cs, c = (0, 0)
  | [], _, _, _ => fun _ h => nomatch h
  | c :: cs, p, hp, e => by
    subst hp
    simp only [cst] at e
    have h0 : c = (0, 0) := Prod.ext (show c.1 = 0 by omega) (show c.2 = 0 by omega)
    intro x hx
    rcases List.mem_cons.mp hx with rfl | hx
    · exact h0
    · exact cst_zero h0 (by omega) x hx
theorem fit_zeros : ∀ {ls : List Ln} {cs : List Ct}, Fit ls cs → (∀ c ∈ cs, c = (0, 0)) → ∀ l ∈ ls, still l
  | [], _, _, _ => fun _ h => nomatch h
  | l :: ls, [], h, _ => h.elim
  | l :: ls, c :: cs, h, hz => fun x hx => by
    rcases List.mem_cons.mp hx with rfl | hx
    · have hc := hz c (List.mem_cons_self ..)
      intro y hy
      have := h.1 y hy
      rw [hc] at this
      simpa using this.symm
    · exact fit_zeros h.2 (fun c hc => hz c (List.mem_cons_of_mem _ hc)) x hx
theorem dst_zero {ls : List Ln} : dst ls = 0 ↔ ∀ l ∈ ls, still l := by
  constructor
  · intro e
    obtain ⟨cs, h1, h2⟩ := dst_get ls
    exact fit_zeros h1 (cst_zero rfl (by rw [h2, e]))
  · intro h
    induction ls with
    | nil => exact dst_nil
    | cons l ls ih => rw [dst_first ls (h l (List.mem_cons_self ..))]; exact ih fun x hx => h x (List.mem_cons_of_mem _ hx)
end Mx

namespace Mx
def rs (p : Nat) : List Nat → Nat
  | [] => 0
  | c :: r => (c - p) + rs c r
theorem cst_rs : ∀ (p : Ct) (cs : List Ct), cst p cs = rs p.1 (cs.map (·.1)) + rs p.2 (cs.map (·.2))
  | _, [] => rfl
  | p, c :: r => by
    simp only [cst, List.map_cons, rs, cst_rs c r]
    omega
def dn (p : Nat) : List Nat → Nat
  | [] => p
  | c :: r => (p - c) + dn c r
theorem dn_rs : ∀ (p : Nat) (l : List Nat), dn p l = rs p l + p
  | p, [] => by simp [dn, rs]
  | p, c :: r => by
    simp only [dn, rs, dn_rs c r]
    omega
def lastD (p : Nat) : List Nat → Nat
  | [] => p
  | c :: r => lastD c r
theorem rs_snoc (x : Nat) : ∀ (p : Nat) (l : List Nat), rs p (l ++ [x]) = rs p l + (x - lastD p l)
  | p, [] => by simp [rs, lastD]
  | p, c :: r => by
    simp only [List.cons_append, rs, lastD, rs_snoc x c r]
    omega
theorem lastD_snoc (x : Nat) : ∀ (p : Nat) (l : List Nat), lastD p (l ++ [x]) = x
  | p, [] => rfl
  | p, c :: r => lastD_snoc x c r
theorem rs_rev : ∀ l : List Nat, rs 0 l.reverse = dn 0 l
  | [] => rfl
  | [c] => by simp [rs, dn]
  | c :: d :: r => by
    have ih := rs_rev (d :: r)
    have e : lastD 0 (d :: r).reverse = d := by rw [List.reverse_cons, lastD_snoc]
    rw [List.reverse_cons, rs_snoc, ih, e]
    simp only [dn]
    omega
theorem rs_reverse (l : List Nat) : rs 0 l.reverse = rs 0 l := by rw [rs_rev, dn_rs]; rfl
theorem fit_rev : ∀ {ls : List Ln} {cs : List Ct}, Fit ls cs → Fit ls.reverse cs.reverse
  | [], [], _ => trivial
  | l :: ls, c :: cs, h => by
    rw [List.reverse_cons, List.reverse_cons]
    exact fit_app (fit_rev h.2) ⟨h.1, trivial⟩
  | [], _ :: _, h => h.elim
  | _ :: _, [], h => h.elim
theorem dst_rev_le (ls : List Ln) : dst ls.reverse ≤ dst ls := dst_mono fun cs h => ⟨cs.reverse, fit_rev h, by
  rw [cst_rs, cst_rs, List.map_reverse, List.map_reverse]
  show rs 0 _ + rs 0 _ ≤ rs 0 _ + rs 0 _
  rw [rs_reverse, rs_reverse]
  exact Nat.le_refl _⟩
theorem dst_rev (ls : List Ln) : dst ls.reverse = dst ls := Nat.le_antisymm (dst_rev_le ls) (by
  have := dst_rev_le ls.reverse
  rwa [List.reverse_reverse] at this)
/-- all lines twice -/
def dup {α : Type} : List α → List α
  | [] => []
  | a :: as => a :: a :: dup as
theorem fit_dup : ∀ {ls : List Ln} {cs : List Ct}, Fit ls cs → Fit (dup ls) (dup cs)
  | [], [], _ => trivial
  | _ :: _, _ :: _, h => ⟨h.1, h.1, fit_dup h.2⟩
  | [], _ :: _, h => h.elim
  | _ :: _, [], h => h.elim
theorem cst_dup : ∀ (p : Ct) (cs : List Ct), cst p (dup cs) = cst p cs
  | _, [] => rfl
  | p, c :: r => by simp [dup, cst, cst_dup c r]
theorem sub_dup {α : Type} : ∀ xs : List α, Sub xs (dup xs)
  | [] => .nil
  | _ :: xs => .keep (.drop (sub_dup xs))
theorem dst_dup (ls : List Ln) : dst (dup ls) = dst ls :=
  Nat.le_antisymm (dst_mono fun cs h => ⟨dup cs, fit_dup h, Nat.le_of_eq (cst_dup _ _)⟩) (dst_sub (sub_dup ls))
/-! plain differences, margins -/
/-- a text and a target -/
def lns (ts xs : List Nat) : List Ln := List.zipWith (fun t x => (t, some x)) ts xs
theorem fit_plain : ∀ (ts xs : List Nat), Fit (lns ts xs) (List.zipWith (fun t x => (t - x, x - t)) ts xs)
  | [], _ => by simp [lns, Fit]
  | _ :: _, [] => by simp [lns, Fit]
  | t :: ts, x :: xs => ⟨fun y e => by cases e; show t - (t - x) + (x - t) = x; omega, fit_plain ts xs⟩
theorem dst_plain (ts xs : List Nat) : dst (lns ts xs) ≤ rs 0 (List.zipWith (fun t x => t - x) ts xs) + rs 0 (List.zipWith (fun t x => x - t) ts xs) := by
  have h := dst_le (fit_plain ts xs)
  rw [cst_rs, List.map_zipWith, List.map_zipWith] at h
  exact h
theorem rs_const (a : Nat) : ∀ (p n : Nat), rs p (List.replicate n a) ≤ a - p
  | _, 0 => Nat.zero_le _
  | p, n + 1 => by
    have := rs_const a a n
    simp only [List.replicate, rs]
    omega
theorem fit_over (a : Nat) : ∀ (ts xs : List Nat), (∀ t ∈ ts, t ≤ a) → Fit (lns ts xs) (List.zipWith (fun _ x => (a, x)) ts xs)
  | [], _, _ => by simp [lns, Fit]
  | _ :: _, [], _ => by simp [lns, Fit]
  | t :: ts, x :: xs, h => ⟨fun y e => by
      cases e
      have := h t (List.mem_cons_self ..)
      show t - a + x = x
      omega, fit_over a ts xs fun u hu => h u (List.mem_cons_of_mem _ hu)⟩
theorem zw_left {α β γ : Type} (f : α → γ) : ∀ (as : List α) (bs : List β), as.length = bs.length → List.zipWith (fun a _ => f a) as bs = as.map f
  | [], [], _ => rfl
  | _ :: as, _ :: bs, h => by simp [zw_left f as bs (by simpa using h)]
  | [], _ :: _, h => by simp at h
  | _ :: _, [], h => by simp at h
theorem zw_right {α β γ : Type} (f : β → γ) : ∀ (as : List α) (bs : List β), as.length = bs.length → List.zipWith (fun _ b => f b) as bs = bs.map f
  | [], [], _ => rfl
  | _ :: as, _ :: bs, h => by simp [zw_right f as bs (by simpa using h)]
  | [], _ :: _, h => by simp at h
  | _ :: _, [], h => by simp at h
theorem dst_over {a : Nat} {ts xs : List Nat} (hl : ts.length = xs.length) (h : ∀ t ∈ ts, t ≤ a) : dst (lns ts xs) ≤ a + rs 0 xs := by
  have h1 := dst_le (fit_over a ts xs h)
  rw [cst_rs, List.map_zipWith, List.map_zipWith] at h1
  have e1 : List.zipWith (fun (_ x : Nat) => a) ts xs = List.replicate ts.length a := by
    rw [zw_left (fun _ => a) ts xs hl]
    exact List.map_const'
  have e2 : List.zipWith (fun (_ x : Nat) => x) ts xs = xs := by rw [zw_right (fun x => x) ts xs hl]; simp
  have h2 : dst (lns ts xs) ≤ rs 0 (List.zipWith (fun (_ x : Nat) => a) ts xs) + rs 0 (List.zipWith (fun (_ x : Nat) => x) ts xs) := h1
  rw [e1, e2] at h2
  have := rs_const a 0 ts.length
  omega
/-- from the margin -/
theorem fit_zero_snd : ∀ {xs : List Nat} {cs : List Ct}, Fit (lns (List.replicate xs.length 0) xs) cs → cs.map (·.2) = xs
  | [], [], _ => rfl
  | x :: xs, c :: cs, h => by
    have h1 := h.1 x rfl
    have h2 := fit_zero_snd (xs := xs) h.2
    have h3 : (0 - c.1) + c.2 = x := h1
    rw [List.map_cons, h2]
    congr 1
    omega
  | [], _ :: _, h => h.elim
  | _ :: _, [], h => h.elim
theorem dst_from (xs : List Nat) : dst (lns (List.replicate xs.length 0) xs) = rs 0 xs := by
  refine Nat.le_antisymm ?_ ?_
  · have := dst_over (a := 0) (ts := List.replicate xs.length 0) (xs := xs) (by simp) (fun t ht => by rw [(List.mem_replicate.mp ht).2]; exact Nat.le_refl _)
    omega
  · obtain ⟨cs, h1, h2⟩ := dst_get (lns (List.replicate xs.length 0) xs)
    rw [cst_rs, fit_zero_snd h1] at h2
    have h3 : rs 0 (cs.map (·.1)) + rs 0 xs = dst (lns (List.replicate xs.length 0) xs) := h2
    omega
/-- to the margin -/
theorem rs_ge : ∀ (p : Nat) (l : List Nat) (x : Nat), x ∈ l → x ≤ p + rs p l
  | p, c :: r, x, h => by
    rcases List.mem_cons.mp h with rfl | h
    · simp only [rs]; omega
    · have := rs_ge c r x h
      simp only [rs]; omega
theorem fit_to_zero : ∀ {ts : List Nat} {cs : List Ct}, Fit (lns ts (List.replicate ts.length 0)) cs → ∀ t ∈ ts, t ≤ rs 0 (cs.map (·.1)) := by
  intro ts cs h t ht
  have go : ∀ {ts : List Nat} {cs : List Ct}, Fit (lns ts (List.replicate ts.length 0)) cs → ∀ t ∈ ts, ∃ o ∈ cs.map (·.1), t ≤ o := by
    intro ts
    induction ts with
    | nil => exact fun _ _ h => nomatch h
    | cons a ts ih =>
      intro cs h t ht
      cases cs with
      | nil => exact h.elim
      | cons c cs =>
        have h1 : (a - c.1) + c.2 = 0 := h.1 0 rfl
        rcases List.mem_cons.mp ht with rfl | ht
        · exact ⟨c.1, by simp, by omega⟩
        · obtain ⟨o, ho, hl⟩ := ih (cs := cs) h.2 t ht
          exact ⟨o, by rw [List.map_cons]; exact List.mem_cons_of_mem _ ho, hl⟩
  obtain ⟨o, ho, hl⟩ := go h t ht
  have := rs_ge 0 _ o ho
  omega
theorem dst_to {ts : List Nat} {a : Nat} (ha : a ∈ ts) (h : ∀ t ∈ ts, t ≤ a) : dst (lns ts (List.replicate ts.length 0)) = a := by
  refine Nat.le_antisymm ?_ ?_
  · have h1 := dst_over (ts := ts) (xs := List.replicate ts.length 0) (by simp) h
    have := rs_const 0 0 ts.length
    omega
  · obtain ⟨cs, h1, h2⟩ := dst_get (lns ts (List.replicate ts.length 0))
    rw [cst_rs] at h2
    have h3 := fit_to_zero h1 a ha
    have h4 : rs 0 (cs.map (·.1)) + rs 0 (cs.map (·.2)) = dst (lns ts (List.replicate ts.length 0)) := h2
    omega
/-! fillings -/
def Fills (B : Nat) : List Ln → List Nat → Prop
  | [], [] => True
  | l :: ls, y :: ys => (l.2 = some y ∨ (l.2 = none ∧ y ≤ B)) ∧ Fills B ls ys
  | _, _ => False
theorem fill_ex {A B : Nat} : ∀ {ls : List Ln} {cs : List Ct} (p : Ct), p.2 ≤ B → (∀ l ∈ ls, l.1 ≤ A ∧ ∀ x, l.2 = some x → x ≤ B) → Fit ls cs → ∃ ys cs', Fills (A + B) ls ys ∧ Fit (lns (ls.map (·.1)) ys) cs' ∧ cst p cs' ≤ cst p cs
  | [], [], p, _, _, _ => ⟨[], [], trivial, trivial, Nat.le_refl _⟩
  | l :: ls, c :: cs, p, hp, hb, h => by
    have hb' : ∀ l ∈ ls, l.1 ≤ A ∧ ∀ x, l.2 = some x → x ≤ B := fun l hl => hb l (List.mem_cons_of_mem _ hl)
    obtain ⟨h1, h2⟩ := hb l (List.mem_cons_self ..)
    cases hw : l.2 with
    | none =>
      obtain ⟨ys, cs', g1, g2, g3⟩ := fill_ex p hp hb' h.2
      refine ⟨(l.1 - p.1 + p.2) :: ys, p :: cs', ⟨.inr ⟨hw, by omega⟩, g1⟩, ⟨fun x e => by cases e; rfl, g2⟩, ?_⟩
      have := cst_sub p c cs
      simp only [cst]
      omega
    | some w =>
      have hc := h.1 w hw
      have hw2 := h2 w hw
      obtain ⟨ys, cs', g1, g2, g3⟩ := fill_ex c (by omega) hb' h.2
      refine ⟨w :: ys, c :: cs', ⟨.inl hw, g1⟩, ⟨fun x e => by cases e; exact hc, g2⟩, ?_⟩
      simp only [cst]
      omega
  | [], _ :: _, _, _, _, h => h.elim
  | _ :: _, [], _, _, _, h => h.elim
theorem fills_freer {B : Nat} : ∀ {ls : List Ln} {ys : List Nat}, Fills B ls ys → Freer ls (lns (ls.map (·.1)) ys)
  | [], [], _ => trivial
  | l :: ls, y :: ys, h => ⟨rfl, h.1.elim (fun e => .inr e) fun e => .inl e.1, fills_freer h.2⟩
  | [], _ :: _, h => h.elim
  | _ :: _, [], h => h.elim
theorem dst_fill {A B : Nat} {ls : List Ln} (hb : ∀ l ∈ ls, l.1 ≤ A ∧ ∀ x, l.2 = some x → x ≤ B) : (∃ ys, Fills (A + B) ls ys ∧ dst (lns (ls.map (·.1)) ys) = dst ls) ∧ ∀ C ys, Fills C ls ys → dst ls ≤ dst (lns (ls.map (·.1)) ys) := by
  have low : ∀ C ys, Fills C ls ys → dst ls ≤ dst (lns (ls.map (·.1)) ys) := fun C ys h => dst_freer (fills_freer h)
  refine ⟨?_, low⟩
  obtain ⟨cs, h1, h2⟩ := dst_get ls
  obtain ⟨ys, cs', g1, g2, g3⟩ := fill_ex (0, 0) (Nat.zero_le _) hb h1
  have := dst_le g2
  have := low _ ys g1
  exact ⟨ys, g1, by omega⟩
end Mx

namespace Mx
/-- a command: in or not, its first line, the line behind its last -/
abbrev Cmd := Bool × Nat × Nat
def onR {α : Type} (f : α → α) : Nat → Nat → List α → List α
  | _, _, [] => []
  | s + 1, e, x :: r => x :: onR f s (e - 1) r
  | 0, 0, x :: r => x :: r
  | 0, e + 1, x :: r => f x :: onR f 0 e r
theorem onR_zero {α : Type} (f : α → α) (l : List α) : onR f 0 0 l = l := by cases l <;> rfl
theorem onR_len {α : Type} (f : α → α) : ∀ (s e : Nat) (l : List α), (onR f s e l).length = l.length
  | _, _, [] => by simp [onR]
  | s + 1, e, x :: r => by simp [onR, onR_len f s (e - 1) r]
  | 0, 0, x :: r => rfl
  | 0, e + 1, x :: r => by simp [onR, onR_len f 0 e r]
theorem onR_get {α : Type} (f : α → α) : ∀ (s e : Nat) (l : List α) (j : Nat), (onR f s e l)[j]? = (l[j]?).map fun x => if s ≤ j ∧ j < e then f x else x
  | _, _, [], j => by simp [onR]
  | s + 1, e, x :: r, 0 => by simp [onR]
  | s + 1, e, x :: r, j + 1 => by
    simp only [onR, List.getElem?_cons_succ]
    rw [onR_get f s (e - 1) r j]
    congr 1
    funext y
    by_cases h : s ≤ j ∧ j < e - 1
    · rw [if_pos h, if_pos ⟨by omega, by omega⟩]
    · rw [if_neg h, if_neg fun z => h ⟨by omega, by omega⟩]
  | 0, 0, x :: r, j => by
    simp only [onR]
    cases (x :: r)[j]? with
    | none => rfl
    | some y => simp
  | 0, e + 1, x :: r, 0 => by simp [onR]
  | 0, e + 1, x :: r, j + 1 => by
    simp only [onR, List.getElem?_cons_succ]
    rw [onR_get f 0 e r j]
    congr 1
    funext y
    by_cases h : 0 ≤ j ∧ j < e
    · rw [if_pos h, if_pos ⟨by omega, by omega⟩]
    · rw [if_neg h, if_neg fun z => h ⟨by omega, by omega⟩]
theorem onR_zip {α β γ : Type} (f : α → β → γ) (g : β → β) (h : γ → γ) (e0 : ∀ a b, f a (g b) = h (f a b)) : ∀ (s e : Nat) (as : List α) (bs : List β), List.zipWith f as (onR g s e bs) = onR h s e (List.zipWith f as bs)
  | _, _, [], _ => by simp [onR]
  | _, _, _ :: _, [] => by simp [onR]
  | s + 1, e, a :: as, b :: bs => by simp [onR, onR_zip f g h e0 s (e - 1) as bs]
  | 0, 0, a :: as, b :: bs => by simp [onR]
  | 0, e + 1, a :: as, b :: bs => by simp [onR, onR_zip f g h e0 0 e as bs, e0]
def stepD (b : Bool) (d : Nat) : Nat := if b = true then d + 1 else d - 1
def stepC (b : Bool) (c : Ct) : Ct := if b = true then (c.1, c.2 + 1) else if c.2 = 0 then (c.1 + 1, 0) else (c.1, c.2 - 1)
def val (d : Nat) (c : Ct) : Nat := (d - c.1) + c.2
theorem stepC_in (c : Ct) : stepC true c = (c.1, c.2 + 1) := rfl
theorem stepC_out0 {c : Ct} (h : c.2 = 0) : stepC false c = (c.1 + 1, 0) := by unfold stepC; rw [if_neg (by decide), if_pos h]
theorem stepC_out {c : Ct} (h : ¬ c.2 = 0) : stepC false c = (c.1, c.2 - 1) := by unfold stepC; rw [if_neg (by decide), if_neg h]
theorem val_step (b : Bool) (d : Nat) (c : Ct) : val d (stepC b c) = stepD b (val d c) := by
  cases b with
  | true => rw [stepC_in]; show d - c.1 + (c.2 + 1) = d - c.1 + c.2 + 1; omega
  | false =>
    show _ = d - c.1 + c.2 - 1
    by_cases h : c.2 = 0
    · rw [stepC_out0 h]; show d - (c.1 + 1) + 0 = _; omega
    · rw [stepC_out h]; show d - c.1 + (c.2 - 1) = _; omega
def act (c : Cmd) (ts : List Nat) : List Nat := onR (stepD c.1) c.2.1 c.2.2 ts
def actC (c : Cmd) (cs : List Ct) : List Ct := onR (stepC c.1) c.2.1 c.2.2 cs
def runN (sc : List Cmd) (ts : List Nat) : List Nat := sc.foldl (fun t c => act c t) ts
def runC (sc : List Cmd) (cs : List Ct) : List Ct := sc.foldl (fun t c => actC c t) cs
/-- what a script does to n lines -/
def eff (n : Nat) (sc : List Cmd) : List Ct := runC sc (List.replicate n (0, 0))
theorem runN_len (sc : List Cmd) : ∀ ts, (runN sc ts).length = ts.length := by
  induction sc with
  | nil => exact fun _ => rfl
  | cons c sc ih => intro ts; show (runN sc (act c ts)).length = _; rw [ih, act, onR_len]
theorem runC_len (sc : List Cmd) : ∀ cs, (runC sc cs).length = cs.length := by
  induction sc with
  | nil => exact fun _ => rfl
  | cons c sc ih => intro ts; show (runC sc (actC c ts)).length = _; rw [ih, actC, onR_len]
theorem runC_val (ts : List Nat) (sc : List Cmd) : ∀ cs, List.zipWith val ts (runC sc cs) = runN sc (List.zipWith val ts cs) := by
  induction sc with
  | nil => exact fun _ => rfl
  | cons c sc ih =>
    intro cs
    show List.zipWith val ts (runC sc (actC c cs)) = runN sc (act c (List.zipWith val ts cs))
    rw [ih]
    congr 1
    exact onR_zip val (stepC c.1) (stepD c.1) (val_step c.1) _ _ _ _
theorem zip_val0 : ∀ ts : List Nat, List.zipWith val ts (List.replicate ts.length (0, 0)) = ts
  | [] => rfl
  | t :: ts => by simp [List.replicate, val, zip_val0 ts]
theorem eff_val (sc : List Cmd) (ts : List Nat) : List.zipWith val ts (eff ts.length sc) = runN sc ts := by
  unfold eff
  rw [runC_val, zip_val0]
theorem eff_len (n : Nat) (sc : List Cmd) : (eff n sc).length = n := by unfold eff; rw [runC_len, List.length_replicate]
/-! a command costs at most one -/
theorem out_in : ∀ (e : Nat) (cs : List Ct) (po pi : Nat), cst (po, pi) (onR (stepC false) 0 e cs) ≤ cst (po, pi + 1) cs + 1 ∧ cst (po + 1, 0) (onR (stepC false) 0 e cs) ≤ cst (po, 0) cs
  | _, [], _, _ => by simp [onR, cst]
  | 0, c :: cs, po, pi => by
    simp only [onR, cst]
    omega
  | e + 1, c :: cs, po, pi => by
    simp only [onR, cst]
    by_cases h : c.2 = 0
    · have h2 := (out_in e cs c.1 0).2
      have hc : c = (c.1, 0) := Prod.ext rfl h
      rw [← hc] at h2
      rw [stepC_out0 h]
      simp only
      omega
    · have h1 := (out_in e cs c.1 (c.2 - 1)).1
      have hc : c = (c.1, c.2 - 1 + 1) := Prod.ext rfl (show c.2 = c.2 - 1 + 1 by omega)
      rw [← hc] at h1
      rw [stepC_out h]
      simp only
      omega
theorem in_in : ∀ (e : Nat) (cs : List Ct) (po pi : Nat), cst (po, pi + 1) (onR (stepC true) 0 e cs) ≤ cst (po, pi) cs
  | _, [], _, _ => by simp [onR, cst]
  | 0, c :: cs, po, pi => by
    simp only [onR, cst]
    omega
  | e + 1, c :: cs, po, pi => by
    simp only [onR, cst]
    have h1 := in_in e cs c.1 c.2
    have hc : (c.1, c.2) = c := rfl
    rw [hc] at h1
    rw [stepC_in]
    simp only
    omega
theorem step_cost (b : Bool) : ∀ (s e : Nat) (cs : List Ct) (p : Ct), cst p (onR (stepC b) s e cs) ≤ cst p cs + 1
  | _, _, [], _ => by simp [onR, cst]
  | s + 1, e, c :: cs, p => by
    simp only [onR, cst]
    have := step_cost b s (e - 1) cs c
    omega
  | 0, 0, c :: cs, p => by simp only [onR]; omega
  | 0, e + 1, c :: cs, p => by
    simp only [onR, cst]
    cases b with
    | true =>
      have h1 := in_in e cs c.1 c.2
      have hc : (c.1, c.2) = c := rfl
      rw [hc] at h1
      rw [stepC_in]
      simp only
      omega
    | false =>
      by_cases h : c.2 = 0
      · have h2 := (out_in e cs c.1 0).2
        have hc : c = (c.1, 0) := Prod.ext rfl h
        rw [← hc] at h2
        rw [stepC_out0 h]
        simp only
        omega
      · have h1 := (out_in e cs c.1 (c.2 - 1)).1
        have hc : c = (c.1, c.2 - 1 + 1) := Prod.ext rfl (show c.2 = c.2 - 1 + 1 by omega)
        rw [← hc] at h1
        rw [stepC_out h]
        simp only
        omega
theorem run_cost (sc : List Cmd) : ∀ cs p, cst p (runC sc cs) ≤ cst p cs + sc.length := by
  induction sc with
  | nil => exact fun _ _ => Nat.le_refl _
  | cons c sc ih =>
    intro cs p
    have h1 := ih (actC c cs) p
    have h2 := step_cost c.1 c.2.1 c.2.2 cs p
    have h3 : cst p (actC c cs) ≤ cst p cs + 1 := h2
    show cst p (runC sc (actC c cs)) ≤ _
    rw [List.length_cons]
    omega
theorem cst_rep : ∀ n : Nat, cst (0, 0) (List.replicate n (0, 0)) = 0
  | 0 => rfl
  | n + 1 => by simp [List.replicate, cst, cst_rep n]
theorem eff_cost (n : Nat) (sc : List Cmd) : cst (0, 0) (eff n sc) ≤ sc.length := by
  have := run_cost sc (List.replicate n (0, 0)) (0, 0)
  rw [cst_rep] at this
  show cst (0, 0) (runC sc _) ≤ _
  omega
/-! every counts come from a script of as many commands as they cost -/
theorem peel_run : ∀ l : List Nat, ∃ l' m, m ≤ l.length ∧ onR Nat.succ 0 m l' = l ∧ ∀ k, rs (k + 1) l = rs k l'
  | [] => ⟨[], 0, Nat.le_refl _, rfl, fun _ => rfl⟩
  | 0 :: r => ⟨0 :: r, 0, Nat.zero_le _, rfl, fun k => by simp [rs]⟩
  | (j + 1) :: r => by
    obtain ⟨l', m, h1, h2, h3⟩ := peel_run r
    refine ⟨j :: l', m + 1, Nat.succ_le_succ h1, by simp [onR, h2], fun k => ?_⟩
    simp only [rs]
    rw [h3 j]
    omega
theorem peel : ∀ l : List Nat, rs 0 l ≠ 0 → ∃ l' s e, s < e ∧ e ≤ l.length ∧ onR Nat.succ s e l' = l ∧ rs 0 l = rs 0 l' + 1
  | [], h => absurd rfl h
  | 0 :: r, h => by
    have h0 : rs 0 (0 :: r) = rs 0 r := by simp [rs]
    rw [h0] at h
    obtain ⟨l', s, e, h1, h2, h3, h4⟩ := peel r h
    exact ⟨0 :: l', s + 1, e + 1, by omega, Nat.succ_le_succ h2, by simp [onR, h3], by simp [rs]; simpa using h4⟩
  | (j + 1) :: r, _ => by
    obtain ⟨l', m, h1, h2, h3⟩ := peel_run r
    refine ⟨j :: l', 0, m + 1, by omega, Nat.succ_le_succ h1, by simp [onR, h2], ?_⟩
    simp only [rs]
    rw [h3 j]
    omega
def Valid (n : Nat) (c : Cmd) : Prop := c.2.1 < c.2.2 ∧ c.2.2 ≤ n
theorem rs_zero : ∀ l : List Nat, rs 0 l = 0 → l = List.replicate l.length 0
  | [], _ => rfl
  | c :: r, h => by
    simp only [rs] at h
    have hc : c = 0 := by omega
    subst hc
    have := rs_zero r (by omega)
    rw [List.length_cons, List.replicate, ← this]
theorem onR_map {α β : Type} (f : α → β) (g : α → α) (h : β → β) (e0 : ∀ a, f (g a) = h (f a)) : ∀ (s e : Nat) (as : List α), (onR g s e as).map f = onR h s e (as.map f)
  | _, _, [] => by simp [onR]
  | s + 1, e, a :: as => by simp [onR, onR_map f g h e0 s (e - 1) as]
  | 0, 0, a :: as => by simp [onR]
  | 0, e + 1, a :: as => by simp [onR, onR_map f g h e0 0 e as, e0]
theorem runC_app (a b : List Cmd) (cs : List Ct) : runC (a ++ b) cs = runC b (runC a cs) := by unfold runC; rw [List.foldl_append]
theorem runN_app (a b : List Cmd) (ts : List Nat) : runN (a ++ b) ts = runN b (runN a ts) := by unfold runN; rw [List.foldl_append]
theorem outs_ex : ∀ (m : Nat) (os : List Nat), rs 0 os = m → ∃ sc : List Cmd, (∀ c ∈ sc, Valid os.length c ∧ c.1 = false) ∧ sc.length = m ∧ eff os.length sc = os.map fun o => (o, 0)
  | 0, os, h => ⟨[], fun _ h => (nomatch h), rfl, by
      show List.replicate os.length (0, 0) = _
      rw [rs_zero os h]
      simp⟩
  | m + 1, os, h => by
    obtain ⟨l', s, e, h1, h2, h3, h4⟩ := peel os (by omega)
    have hl : l'.length = os.length := by rw [← h3, onR_len]
    obtain ⟨sc, g1, g2, g3⟩ := outs_ex m l' (by omega)
    rw [hl] at g1 g3
    refine ⟨sc ++ [(false, s, e)], fun c hc => ?_, by simp [g2], ?_⟩
    · rcases List.mem_append.mp hc with hc | hc
      · exact g1 c hc
      · rw [List.mem_singleton.mp hc]; exact ⟨⟨h1, h2⟩, rfl⟩
    · unfold eff at g3 ⊢
      rw [runC_app, g3]
      show onR (stepC false) s e (l'.map fun o => (o, 0)) = _
      rw [← onR_map (fun o : Nat => ((o, 0) : Ct)) Nat.succ (stepC false) (fun a => by simp [stepC]) s e l', h3]
theorem ins_ex {os : List Nat} : ∀ (m : Nat) (is : List Nat), is.length = os.length → rs 0 is = m → ∃ sc : List Cmd, (∀ c ∈ sc, Valid os.length c ∧ c.1 = true) ∧ sc.length = m ∧ runC sc (os.map fun o => (o, 0)) = List.zipWith Prod.mk os is
  | 0, is, hl, h => ⟨[], fun _ h => (nomatch h), rfl, by
      show (os.map fun o => (o, 0)) = _
      rw [rs_zero is h, hl]
      clear hl h
      induction os with
      | nil => rfl
      | cons o os ih => simp [List.replicate, ih]⟩
  | m + 1, is, hl, h => by
    obtain ⟨l', s, e, h1, h2, h3, h4⟩ := peel is (by omega)
    have hl' : l'.length = is.length := by rw [← h3, onR_len]
    obtain ⟨sc, g1, g2, g3⟩ := ins_ex (os := os) m l' (by omega) (by omega)
    refine ⟨sc ++ [(true, s, e)], fun c hc => ?_, by simp [g2], ?_⟩
    · rcases List.mem_append.mp hc with hc | hc
      · exact g1 c hc
      · rw [List.mem_singleton.mp hc]; exact ⟨⟨h1, by show e ≤ os.length; omega⟩, rfl⟩
    · rw [runC_app, g3]
      show onR (stepC true) s e (List.zipWith Prod.mk os l') = _
      rw [← onR_zip Prod.mk Nat.succ (stepC true) (fun a b => by simp [stepC]) s e os l', h3]
/-- outs first, then ins -/
theorem script_ex (cs : List Ct) : ∃ sc : List Cmd, (∀ c ∈ sc, Valid cs.length c) ∧ sc.length = cst (0, 0) cs ∧ eff cs.length sc = cs := by
  have l1 : (cs.map (·.1)).length = cs.length := List.length_map ..
  have l2 : (cs.map (·.2)).length = cs.length := List.length_map ..
  obtain ⟨s1, a1, a2, a3⟩ := outs_ex _ (cs.map (·.1)) rfl
  obtain ⟨s2, b1, b2, b3⟩ := ins_ex (os := cs.map (·.1)) _ (cs.map (·.2)) (by omega) rfl
  rw [l1] at a1 a3 b1
  refine ⟨s1 ++ s2, fun c hc => ?_, ?_, ?_⟩
  · rcases List.mem_append.mp hc with hc | hc
    · exact (a1 c hc).1
    · exact (b1 c hc).1
  · rw [List.length_append, a2, b2, cst_rs]
  · unfold eff at a3 ⊢
    rw [runC_app, a3, b3]
    clear l1 l2 a1 a2 a3 b1 b2 b3
    induction cs with
    | nil => rfl
    | cons c cs ih => simp [ih]
/-! distances by scripts -/
/-- what a wish wants -/
def okW : List Nat → List (Option Nat) → Prop
  | [], [] => True
  | y :: ys, w :: ws => (∀ x, w = some x → y = x) ∧ okW ys ws
  | _, _ => False
theorem fit_val : ∀ {ts : List Nat} {ws : List (Option Nat)} {cs : List Ct}, ts.length = ws.length → cs.length = ts.length → (Fit (ts.zip ws) cs ↔ okW (List.zipWith val ts cs) ws)
  | [], [], [], _, _ => Iff.rfl
  | t :: ts, w :: ws, c :: cs, h, h' => by
    have ih := fit_val (ts := ts) (ws := ws) (cs := cs) (by simpa using h) (by simpa using h')
    show (fit1 (t, w) c ∧ Fit (ts.zip ws) cs) ↔ _
    rw [ih]
    exact Iff.rfl
  | [], [], _ :: _, _, h' => by simp at h'
  | [], _ :: _, _, h, _ => by simp at h
  | _ :: _, [], _, h, _ => by simp at h
  | _ :: _, _ :: _, [], _, h' => by simp at h'
theorem dst_le_script {ts : List Nat} {ws : List (Option Nat)} {sc : List Cmd} (hl : ts.length = ws.length) (h : okW (runN sc ts) ws) : dst (ts.zip ws) ≤ sc.length := by
  rw [← eff_val] at h
  have := dst_le ((fit_val hl (eff_len _ _)).mpr h)
  have := eff_cost ts.length sc
  omega
theorem dst_script {ts : List Nat} {ws : List (Option Nat)} (hl : ts.length = ws.length) : ∃ sc : List Cmd, (∀ c ∈ sc, Valid ts.length c) ∧ sc.length = dst (ts.zip ws) ∧ okW (runN sc ts) ws := by
  obtain ⟨cs, h1, h2⟩ := dst_get (ts.zip ws)
  have h3 : cs.length = ts.length := by
    have := h1.len
    rw [List.length_zip, ← hl, Nat.min_self] at this
    omega
  obtain ⟨sc, g1, g2, g3⟩ := script_ex cs
  rw [h3] at g1 g3
  refine ⟨sc, g1, by omega, ?_⟩
  rw [← eff_val, g3]
  exact (fit_val hl h3).mp h1
theorem okW_some : ∀ {ys us : List Nat}, okW ys (us.map some) → ys = us
  | [], [], _ => rfl
  | y :: ys, u :: us, h => by rw [h.1 u rfl, okW_some h.2]
  | [], _ :: _, h => h.elim
  | _ :: _, [], h => h.elim
theorem dst_tri {ts us : List Nat} {ws : List (Option Nat)} (h1 : ts.length = us.length) (h2 : us.length = ws.length) : dst (ts.zip ws) ≤ dst (ts.zip (us.map some)) + dst (us.zip ws) := by
  obtain ⟨s1, _, a2, a3⟩ := dst_script (ts := ts) (ws := us.map some) (by simpa using h1)
  obtain ⟨s2, _, b2, b3⟩ := dst_script h2
  have e := okW_some a3
  have := dst_le_script (ts := ts) (ws := ws) (sc := s1 ++ s2) (by omega) (by rw [runN_app, e]; exact b3)
  rw [List.length_append] at this
  omega
theorem act_len (c : Cmd) (ts : List Nat) : (act c ts).length = ts.length := onR_len ..
theorem dst_one {ts : List Nat} {ws : List (Option Nat)} (c : Cmd) (h : ts.length = ws.length) : dst (ts.zip ws) ≤ dst ((act c ts).zip ws) + 1 := by
  obtain ⟨sc, _, b2, b3⟩ := dst_script (ts := act c ts) (ws := ws) (by rw [act_len]; exact h)
  have := dst_le_script (ts := ts) (ws := ws) (sc := c :: sc) h b3
  rw [List.length_cons] at this
  omega
/-- a shortest script's first command brings the text one nearer -/
theorem dst_first_step {ts : List Nat} {ws : List (Option Nat)} {c : Cmd} {sc : List Cmd} (h : ts.length = ws.length) (h1 : okW (runN (c :: sc) ts) ws) (h2 : (c :: sc).length = dst (ts.zip ws)) : dst ((act c ts).zip ws) + 1 = dst (ts.zip ws) := by
  have a := dst_one c h
  have b := dst_le_script (ts := act c ts) (ws := ws) (sc := sc) (by rw [act_len]; exact h) h1
  rw [List.length_cons] at h2
  omega
/-! effects of scripts: what two scripts do alike -/
theorem val_inj {c c' : Ct} {N : Nat} (h0 : val 0 c = val 0 c') (h1 : c.1 ≤ N) (h2 : c'.1 ≤ N) (h : val N c = val N c') : c = c' := by
  unfold val at h0 h
  refine Prod.ext ?_ ?_ <;> omega
theorem cst_fst : ∀ {cs : List Ct} {p : Ct} {c : Ct}, c ∈ cs → c.1 ≤ p.1 + cst p cs ∧ c.2 ≤ p.2 + cst p cs
  | a :: cs, p, c, h => by
    rcases List.mem_cons.mp h with rfl | h
    · simp only [cst]; omega
    · have := cst_fst (p := a) h
      simp only [cst]
      omega
theorem eff_bound {n : Nat} {sc : List Cmd} {c : Ct} (h : c ∈ eff n sc) : c.1 ≤ sc.length ∧ c.2 ≤ sc.length := by
  have h1 := cst_fst (p := (0, 0)) h
  have h2 := eff_cost n sc
  simp only at h1
  omega
end Mx

/-! Mw: the best counts, line by line. -/
namespace Mx
def climb (p q : Ct) : Nat := (q.1 - p.1) + (q.2 - p.2)
theorem climb_tri (p c q : Ct) : climb p q ≤ climb p c + climb c q := by unfold climb; omega
theorem climb_self (p : Ct) : climb p p = 0 := by unfold climb; omega
theorem climb_zero (p : Ct) : climb p (0, 0) = 0 := by unfold climb; simp
/-- the last of p and cs -/
def lastC (p : Ct) : List Ct → Ct
  | [] => p
  | c :: r => lastC c r
theorem lastC_snoc (x : Ct) : ∀ (p : Ct) (cs : List Ct), lastC p (cs ++ [x]) = x
  | _, [] => rfl
  | _, c :: r => lastC_snoc x c r
theorem lastC_mem : ∀ (p : Ct) (cs : List Ct), lastC p cs ∈ p :: cs
  | p, [] => List.mem_cons_self ..
  | p, c :: r => List.mem_cons_of_mem _ (lastC_mem c r)
theorem cst_snoc (x : Ct) : ∀ (p : Ct) (cs : List Ct), cst p (cs ++ [x]) = cst p cs + climb (lastC p cs) x
  | p, [] => by simp [cst, lastC, climb]
  | p, c :: r => by
    have := cst_snoc x c r
    simp only [List.cons_append, cst, lastC] at this ⊢
    omega
theorem fit_snoc : ∀ {ls : List Ln} {cs : List Ct} {l : Ln} {c : Ct}, Fit ls cs → fit1 l c → Fit (ls ++ [l]) (cs ++ [c])
  | [], [], _, _, _, h => ⟨h, trivial⟩
  | _ :: _, _ :: _, _, _, h, h' => ⟨h.1, fit_snoc h.2 h'⟩
  | [], _ :: _, _, _, h, _ => h.elim
  | _ :: _, [], _, _, h, _ => h.elim
theorem fit_unsnoc : ∀ {ls : List Ln} {l : Ln} {cs : List Ct}, Fit (ls ++ [l]) cs → ∃ ds c, cs = ds ++ [c] ∧ Fit ls ds ∧ fit1 l c
  | [], l, [], h => h.elim
  | [], l, [c], h => ⟨[], c, rfl, trivial, h.1⟩
  | [], l, c :: c' :: r, h => h.2.elim
  | a :: ls, l, [], h => h.elim
  | a :: ls, l, c :: cs, h => by
    obtain ⟨ds, e, h1, h2, h3⟩ := fit_unsnoc (ls := ls) (l := l) (cs := cs) h.2
    exact ⟨c :: ds, e, by rw [h1]; rfl, ⟨h.1, h2⟩, h3⟩
/-- counts cut to m -/
def cut (m : Nat) (cs : List Ct) : List Ct := cs.map fun c => (min c.1 m, c.2)
theorem fit_cut {m : Nat} : ∀ {ls : List Ln} {cs : List Ct}, (∀ l ∈ ls, l.1 ≤ m) → Fit ls cs → Fit ls (cut m cs)
  | [], [], _, _ => trivial
  | l :: ls, c :: cs, hm, h => ⟨fun x e => by
      have h1 := h.1 x e
      have h2 := hm l (List.mem_cons_self ..)
      show (l.1 - min c.1 m) + c.2 = x
      omega, fit_cut (fun l hl => hm l (List.mem_cons_of_mem _ hl)) h.2⟩
  | [], _ :: _, _, h => h.elim
  | _ :: _, [], _, h => h.elim
theorem cst_cut (m : Nat) : ∀ (p : Ct) (cs : List Ct), cst (min p.1 m, p.2) (cut m cs) ≤ cst p cs
  | _, [] => Nat.le_refl _
  | p, c :: cs => by
    have := cst_cut m c cs
    show (min c.1 m - min p.1 m) + (c.2 - p.2) + cst (min c.1 m, c.2) (cut m cs) ≤ (c.1 - p.1) + (c.2 - p.2) + cst c cs
    omega
/-- a way: its cost, the counts so far -/
abbrev Way := Nat × List Ct
def Way.last (w : Way) : Ct := lastC (0, 0) w.2
def WayOk (ls : List Ln) (m W : Nat) (w : Way) : Prop := Fit ls w.2 ∧ w.1 = cst (0, 0) w.2 ∧ ∀ c ∈ w.2, c.1 ≤ m ∧ c.2 ≤ W
structure Good (ls : List Ln) (m W : Nat) (ways : List Way) : Prop where
  ok : ∀ w ∈ ways, WayOk ls m W w
  all : ∀ cs, Fit ls cs → (∀ c ∈ cs, c.1 ≤ m) → ∃ w ∈ ways, ∀ q : Ct, w.1 + climb (Way.last w) q ≤ cst (0, 0) cs + climb (lastC (0, 0) cs) q
  ne : ways ≠ []
theorem good_nil (m W : Nat) : Good [] m W [(0, [])] where
  ok := fun w hw => by
    rw [List.mem_singleton.mp hw]
    exact ⟨trivial, rfl, fun _ h => nomatch h⟩
  all := fun cs h _ => by
    cases cs with
    | nil => exact ⟨_, List.mem_singleton.mpr rfl, fun q => Nat.le_refl _⟩
    | cons c cs => exact h.elim
  ne := by simp
def stay (w : Way) : Way := (w.1, w.2 ++ [Way.last w])
theorem last_le {w : Way} {m W : Nat} (h : ∀ c ∈ w.2, c.1 ≤ m ∧ c.2 ≤ W) : (Way.last w).1 ≤ m ∧ (Way.last w).2 ≤ W := by
  rcases List.mem_cons.mp (lastC_mem (0, 0) w.2) with e | e
  · unfold Way.last
    rw [e]
    exact ⟨Nat.zero_le _, Nat.zero_le _⟩
  · exact h _ e
theorem good_free {ls : List Ln} {m W : Nat} {ways : List Way} (d : Nat) (h : Good ls m W ways) : Good (ls ++ [(d, none)]) m W (ways.map stay) where
  ok := fun w hw => by
    obtain ⟨u, hu, rfl⟩ := List.mem_map.mp hw
    obtain ⟨h1, h2, h3⟩ := h.ok u hu
    refine ⟨fit_snoc h1 (fun x e => nomatch e), ?_, fun c hc => ?_⟩
    · show u.1 = cst (0, 0) (u.2 ++ [Way.last u])
      rw [cst_snoc]
      show u.1 = cst (0, 0) u.2 + climb (Way.last u) (Way.last u)
      rw [climb_self, h2, Nat.add_zero]
    · rcases List.mem_append.mp hc with hc | hc
      · exact h3 c hc
      · rw [List.mem_singleton.mp hc]
        exact last_le h3
  all := fun cs hf hm => by
    obtain ⟨ds, c, rfl, hd, _⟩ := fit_unsnoc hf
    obtain ⟨u, hu, hq⟩ := h.all ds hd fun c hc => hm c (List.mem_append_left _ hc)
    refine ⟨stay u, List.mem_map.mpr ⟨u, hu, rfl⟩, fun q => ?_⟩
    have e1 : Way.last (stay u) = Way.last u := lastC_snoc _ _ _
    rw [e1, cst_snoc, lastC_snoc]
    have h1 := hq q
    have h2 := climb_tri (lastC (0, 0) ds) c q
    show u.1 + _ ≤ _
    omega
  ne := by
    intro z
    exact h.ne (List.map_eq_nil_iff.mp z)
/-- the choices of a line -/
def chs (d w m : Nat) : List Ct := (List.range (m + 1 - (d - w))).map fun k => ((d - w) + k, w - (d - ((d - w) + k)))
theorem mem_chs {d w m : Nat} {c : Ct} : c ∈ chs d w m ↔ d - w ≤ c.1 ∧ c.1 ≤ m ∧ c.2 = w - (d - c.1) := by
  unfold chs
  constructor
  · intro h
    obtain ⟨k, hk, rfl⟩ := List.mem_map.mp h
    have := List.mem_range.mp hk
    exact ⟨Nat.le_add_right _ _, by show d - w + k ≤ m; omega, rfl⟩
  · rintro ⟨h1, h2, h3⟩
    refine List.mem_map.mpr ⟨c.1 - (d - w), List.mem_range.mpr (by omega), ?_⟩
    have e : d - w + (c.1 - (d - w)) = c.1 := by omega
    rw [e, ← h3]
/-- the cheapest way that ends with c -/
def Ext (ways : List Way) (c : Ct) (v : Way) : Prop := ∃ u ∈ ways, v = (u.1 + climb (Way.last u) c, u.2 ++ [c]) ∧ ∀ y ∈ ways, u.1 + climb (Way.last u) c ≤ y.1 + climb (Way.last y) c
theorem good_bound {ls : List Ln} {m W d w : Nat} {ways ways' : List Way} (hd : d ≤ m) (hw : w ≤ W) (h : Good ls m W ways) (h1 : ∀ v ∈ ways', ∃ c ∈ chs d w m, Ext ways c v) (h2 : ∀ c ∈ chs d w m, ∃ v ∈ ways', Ext ways c v) : Good (ls ++ [(d, some w)]) m W ways' where
  ok := fun v hv => by
    obtain ⟨c, hc, u, hu, rfl, _⟩ := h1 v hv
    obtain ⟨g1, g2, g3⟩ := h.ok u hu
    obtain ⟨k1, k2, k3⟩ := mem_chs.mp hc
    refine ⟨fit_snoc g1 (fun x e => ?_), ?_, fun c' hc' => ?_⟩
    · cases e
      show d - c.1 + c.2 = w
      omega
    · show u.1 + _ = cst (0, 0) (u.2 ++ [c])
      rw [cst_snoc, ← g2]
      rfl
    · rcases List.mem_append.mp hc' with hc' | hc'
      · exact g3 c' hc'
      · rw [List.mem_singleton.mp hc']
        exact ⟨k2, by omega⟩
  all := fun cs hf hm => by
    obtain ⟨ds, c, rfl, hds, hc⟩ := fit_unsnoc hf
    have hcm := hm c (List.mem_append_right _ (List.mem_singleton.mpr rfl))
    have hcw : d - c.1 + c.2 = w := hc w rfl
    obtain ⟨u, hu, hq⟩ := h.all ds hds fun c hc => hm c (List.mem_append_left _ hc)
    obtain ⟨v, hv, u', hu', rfl, hmin⟩ := h2 c (mem_chs.mpr ⟨by omega, hcm, by omega⟩)
    refine ⟨_, hv, fun q => ?_⟩
    have e1 : Way.last (u'.1 + climb (Way.last u') c, u'.2 ++ [c]) = c := lastC_snoc _ _ _
    rw [e1, cst_snoc, lastC_snoc]
    have g1 := hmin u hu
    have g2 := hq c
    show u'.1 + climb (Way.last u') c + climb c q ≤ _
    omega
  ne := by
    intro z
    obtain ⟨v, hv, _⟩ := h2 (m, w - (d - m)) (mem_chs.mpr ⟨by show d - w ≤ m; omega, Nat.le_refl _, rfl⟩)
    rw [z] at hv
    cases hv
theorem good_end {ls : List Ln} {m W : Nat} {ways : List Way} {v : Way} (h : Good ls m W ways) (hm : ∀ l ∈ ls, l.1 ≤ m) (hv : v ∈ ways) (hmin : ∀ y ∈ ways, v.1 ≤ y.1) : Fit ls v.2 ∧ cst (0, 0) v.2 = dst ls ∧ ∀ c ∈ v.2, c.1 ≤ m ∧ c.2 ≤ W := by
  obtain ⟨h1, h2, h3⟩ := h.ok v hv
  refine ⟨h1, ?_, h3⟩
  refine Nat.le_antisymm ?_ (dst_le h1)
  obtain ⟨cs, f, e⟩ := dst_get ls
  obtain ⟨u, hu, hq⟩ := h.all (cut m cs) (fit_cut hm f) fun c hc => by
    obtain ⟨c', _, rfl⟩ := List.mem_map.mp hc
    exact Nat.min_le_right _ _
  have g1 := hq (0, 0)
  rw [climb_zero, climb_zero] at g1
  have g2 := cst_cut m (0, 0) cs
  have g3 := hmin u hu
  have e0 : (min ((0, 0) : Ct).1 m, ((0, 0) : Ct).2) = ((0, 0) : Ct) := by simp
  rw [e0] at g2
  omega
end Mx

/-! Mv: commands from counts, by a stack of starts. -/
namespace Mx
/-- how many of the pairs cover line j -/
def cov (D : List (Nat × Nat)) (j : Nat) : Nat := (D.filter fun p => decide (p.1 ≤ j ∧ j < p.2)).length
theorem cov_app (D D' : List (Nat × Nat)) (j : Nat) : cov (D ++ D') j = cov D j + cov D' j := by
  unfold cov
  rw [List.filter_append, List.length_append]
/-- how many starts stand at or above line j -/
def low (st : List Nat) (j : Nat) : Nat := (st.filter fun s => decide (s ≤ j)).length
theorem low_app (a b : List Nat) (j : Nat) : low (a ++ b) j = low a j + low b j := by
  unfold low
  rw [List.filter_append, List.length_append]
theorem low_all {st : List Nat} {j : Nat} (h : ∀ s ∈ st, s ≤ j) : low st j = st.length := by
  unfold low
  rw [List.filter_eq_self.mpr fun s hs => decide_eq_true (h s hs)]
/-- the last k starts, ended at a line -/
def popN (line : Nat) : Nat → List Nat → List (Nat × Nat)
  | 0, _ => []
  | k + 1, st => (st.getLastD 0, line) :: popN line k st.dropLast
theorem popN_len (line : Nat) : ∀ (k : Nat) (st : List Nat), (popN line k st).length = k
  | 0, _ => rfl
  | k + 1, st => congrArg Nat.succ (popN_len line k st.dropLast)
theorem snoc_of {st : List Nat} {k : Nat} (h : st.length = k + 1) : ∃ a x, st = a ++ [x] ∧ a.length = k := by
  have hne : st ≠ [] := fun z => by rw [z] at h; cases h
  refine ⟨st.dropLast, st.getLast hne, (List.dropLast_concat_getLast hne).symm, ?_⟩
  rw [List.length_dropLast, h]
  rfl
theorem lastD_snoc' (a : List Nat) (x : Nat) : (a ++ [x]).getLastD 0 = x := by simp
theorem popN_cov {line : Nat} : ∀ (k : Nat) (st : List Nat) (j : Nat), k ≤ st.length → cov (popN line k st) j + low (st.take (st.length - k)) j = if j < line then low st j else low (st.take (st.length - k)) j
  | 0, st, j, _ => by
    show 0 + low (st.take (st.length - 0)) j = _
    rw [Nat.sub_zero, List.take_length]
    split <;> omega
  | k + 1, st, j, h => by
    obtain ⟨m, hm⟩ : ∃ m, st.length = m + 1 := ⟨st.length - 1, by omega⟩
    obtain ⟨a, x, rfl, ha⟩ := snoc_of hm
    have ih := popN_cov (line := line) k a j (by omega)
    have e1 : (a ++ [x]).take ((a ++ [x]).length - (k + 1)) = a.take (a.length - k) := by
      rw [hm, ha, List.take_append_of_le_length (by omega)]
      congr 1
      omega
    rw [e1]
    show cov (((a ++ [x]).getLastD 0, line) :: popN line k (a ++ [x]).dropLast) j + _ = _
    rw [lastD_snoc', List.dropLast_concat]
    have e2 : cov ((x, line) :: popN line k a) j = (if x ≤ j ∧ j < line then 1 else 0) + cov (popN line k a) j := by
      unfold cov
      rw [List.filter_cons]
      by_cases q : x ≤ j ∧ j < line
      · rw [if_pos (decide_eq_true q), if_pos q, List.length_cons]
        omega
      · rw [if_neg (by rw [decide_eq_false q]; decide), if_neg q]
        omega
    have e3 : low (a ++ [x]) j = low a j + if x ≤ j then 1 else 0 := by
      rw [low_app]
      unfold low
      by_cases q : x ≤ j
      · rw [if_pos q]
        simp [q]
      · rw [if_neg q]
        simp [q]
    rw [e2, e3]
    by_cases hj : j < line
    · rw [if_pos hj] at ih ⊢
      by_cases q : x ≤ j
      · rw [if_pos ⟨q, hj⟩, if_pos q]
        omega
      · rw [if_neg (fun z => q z.1), if_neg q]
        omega
    · rw [if_neg hj] at ih ⊢
      rw [if_neg (fun z => hj z.2)]
      omega
theorem popN_mem {line : Nat} : ∀ (k : Nat) (st : List Nat), k ≤ st.length → ∀ p ∈ popN line k st, p.1 ∈ st ∧ p.2 = line
  | 0, _, _, _, h => nomatch h
  | k + 1, st, hk, p, h => by
    obtain ⟨m, hm⟩ : ∃ m, st.length = m + 1 := ⟨st.length - 1, by omega⟩
    obtain ⟨a, x, rfl, ha⟩ := snoc_of hm
    unfold popN at h
    rw [lastD_snoc', List.dropLast_concat] at h
    rcases List.mem_cons.mp h with rfl | h
    · exact ⟨List.mem_append_right _ (List.mem_singleton.mpr rfl), rfl⟩
    · obtain ⟨h1, h2⟩ := popN_mem k a (by omega) p h
      exact ⟨List.mem_append_left _ h1, h2⟩
/-- ahead of line m: commands D, starts st -/
structure Stk (cs : List Nat) (m : Nat) (D : List (Nat × Nat)) (st : List Nat) : Prop where
  val : ∀ p ∈ D, p.1 < p.2 ∧ p.2 ≤ m
  lt : ∀ s ∈ st, s < m
  cov : ∀ j, j < m → cov D j + low st j = cs.getD j 0
  len : D.length + st.length = rs 0 (cs.take m)
  top : st.length = lastD 0 (cs.take m)
theorem stk_nil (cs : List Nat) : Stk cs 0 [] [] := ⟨fun _ h => (nomatch h), fun _ h => (nomatch h), fun j h => by omega, by simp [rs], by simp [lastD]⟩
/-- one line -/
def stD (m c : Nat) (D : List (Nat × Nat)) (st : List Nat) : List (Nat × Nat) := D ++ popN m (st.length - c) st
def stS (m c : Nat) (st : List Nat) : List Nat := st.take c ++ List.replicate (c - st.length) m
theorem stS_len (m c : Nat) (st : List Nat) : (stS m c st).length = c := by
  unfold stS
  rw [List.length_append, List.length_take, List.length_replicate]
  omega
theorem stk_step {cs : List Nat} {m c : Nat} {D : List (Nat × Nat)} {st : List Nat} (h : Stk cs m D st) (hc : cs[m]? = some c) : Stk cs (m + 1) (stD m c D st) (stS m c st) := by
  have hm := (List.getElem?_eq_some_iff.mp hc).1
  have et : cs.take (m + 1) = cs.take m ++ [c] := by rw [List.take_add_one, hc]; rfl
  have htk : ∀ s ∈ st.take c, s < m := fun s hs => h.lt s (List.mem_of_mem_take hs)
  refine ⟨fun p hp => ?_, fun s hs => ?_, fun j hj => ?_, ?_, ?_⟩
  · rcases List.mem_append.mp hp with hp | hp
    · have := h.val p hp
      exact ⟨this.1, by omega⟩
    · obtain ⟨h1, h2⟩ := popN_mem _ st (Nat.sub_le _ _) p hp
      have := h.lt _ h1
      exact ⟨by omega, by omega⟩
  · rcases List.mem_append.mp hs with hs | hs
    · have := htk s hs; omega
    · rw [List.eq_of_mem_replicate hs]; omega
  · have e1 : st.take (st.length - (st.length - c)) = st.take c := by
      by_cases q : c ≤ st.length
      · rw [show st.length - (st.length - c) = c by omega]
      · rw [show st.length - (st.length - c) = st.length by omega, List.take_length, List.take_of_length_le (by omega)]
    have hp := popN_cov (line := m) (st.length - c) st j (Nat.sub_le _ _)
    rw [e1] at hp
    unfold stD stS
    rw [cov_app, low_app]
    by_cases q : j < m
    · rw [if_pos q] at hp
      have e2 : low (List.replicate (c - st.length) m) j = 0 := by
        unfold low
        rw [List.filter_eq_nil_iff.mpr fun s hs => by rw [List.eq_of_mem_replicate hs, decide_eq_false (by omega)]; decide]
        rfl
      have := h.cov j q
      rw [e2]
      omega
    · have ej : j = m := by omega
      subst ej
      have e2 : cov D j = 0 := by
        unfold Mx.cov
        rw [List.filter_eq_nil_iff.mpr fun p hp => by have := h.val p hp; rw [decide_eq_false (by omega)]; decide]
        rfl
      have e3 : low (st.take c) j = (st.take c).length := low_all fun s hs => by have := htk s hs; omega
      have e4 : low (List.replicate (c - st.length) j) j = c - st.length := by
        rw [low_all fun s hs => by rw [List.eq_of_mem_replicate hs]; exact Nat.le_refl _, List.length_replicate]
      rw [if_neg q, e3, List.length_take] at hp
      rw [e2, e3, e4, List.length_take, List.getD_eq_getElem?_getD, hc]
      show _ = c
      omega
  · unfold stD
    rw [List.length_append, popN_len, stS_len, et, rs_snoc, ← h.top]
    have := h.len
    omega
  · rw [stS_len, et, lastD_snoc]
theorem rs_bound {B : Nat} : ∀ (p : Nat) (l : List Nat), (∀ x ∈ l, x ≤ B) → rs p l ≤ B * l.length
  | _, [], _ => Nat.zero_le _
  | p, c :: r, h => by
    have h1 := rs_bound c r fun x hx => h x (List.mem_cons_of_mem _ hx)
    have h2 := h c (List.mem_cons_self ..)
    rw [List.length_cons, Nat.mul_succ]
    unfold rs
    omega
/-- the whole: every line as often as it counts -/
theorem stk_end {cs : List Nat} {D : List (Nat × Nat)} {st : List Nat} (h : Stk cs cs.length D st) : (∀ p ∈ stD cs.length 0 D st, p.1 < p.2 ∧ p.2 ≤ cs.length) ∧ (stD cs.length 0 D st).length = rs 0 cs ∧ ∀ j, j < cs.length → cov (stD cs.length 0 D st) j = cs.getD j 0 := by
  refine ⟨fun p hp => ?_, ?_, fun j hj => ?_⟩
  · rcases List.mem_append.mp hp with hp | hp
    · exact h.val p hp
    · obtain ⟨h1, h2⟩ := popN_mem _ st (Nat.sub_le _ _) p hp
      have := h.lt _ h1
      exact ⟨by omega, by omega⟩
  · unfold stD
    rw [List.length_append, popN_len, Nat.sub_zero]
    have := h.len
    rw [List.take_length] at this
    exact this
  · have hp := popN_cov (line := cs.length) (st.length - 0) st j (Nat.sub_le _ _)
    rw [if_pos hj, Nat.sub_zero, Nat.sub_self, List.take_zero] at hp
    unfold stD
    rw [cov_app, Nat.sub_zero]
    have := h.cov j hj
    have e : low [] j = 0 := rfl
    rw [e] at hp
    omega
/-! what such commands do -/
def named (b : Bool) (D : List (Nat × Nat)) : List Cmd := D.map fun p => (b, p.1, p.2)
theorem cov_cons (p : Nat × Nat) (D : List (Nat × Nat)) (j : Nat) : cov (p :: D) j = (if p.1 ≤ j ∧ j < p.2 then 1 else 0) + cov D j := by
  unfold cov
  rw [List.filter_cons]
  by_cases q : p.1 ≤ j ∧ j < p.2
  · rw [if_pos (decide_eq_true q), if_pos q, List.length_cons]
    omega
  · rw [if_neg (by rw [decide_eq_false q]; decide), if_neg q]
    omega
end Mx

/-! Mb: prices as steps of 0, 1 and 2; twos and noughts that move and cancel. -/
namespace Mx
def bi (b : Bool) : Int := if b = true then 1 else 0
theorem bi_t : bi true = 1 := rfl
theorem bi_f : bi false = 0 := rfl
theorem bi_01 (b : Bool) : bi b = 0 ∨ bi b = 1 := by cases b <;> simp [bi]
/-- after r rounds -/
def cb (t n : Nat → Bool) : Nat → (Nat → Bool) × (Nat → Bool)
  | 0 => (t, n)
  | r + 1 => (fun k => (cb t n r).1 k && !((cb t n r).2 (k + (r + 1))), fun j => (cb t n r).2 j && !(decide (r + 1 ≤ j) && (cb t n r).1 (j - (r + 1))))
structure Rep (c : Int) (t n : Nat → Bool) (P : Nat → Int) : Prop where
  zero : P 0 = c
  step : ∀ k, P (k + 1) = P k + 1 + bi (t k) - bi (n k)
  dis : ∀ k, t k = true → n k = false
theorem cb_subT (t n : Nat → Bool) : ∀ (r k : Nat), (cb t n r).1 k = true → t k = true
  | 0, _, h => h
  | r + 1, k, h => by
    have h' : ((cb t n r).1 k && !((cb t n r).2 (k + (r + 1)))) = true := h
    rw [Bool.and_eq_true] at h'
    exact cb_subT t n r k h'.1
theorem cb_subN (t n : Nat → Bool) : ∀ (r k : Nat), (cb t n r).2 k = true → n k = true
  | 0, _, h => h
  | r + 1, k, h => by
    have h' : ((cb t n r).2 k && !(decide (r + 1 ≤ k) && (cb t n r).1 (k - (r + 1)))) = true := h
    rw [Bool.and_eq_true] at h'
    exact cb_subN t n r k h'.1
/-- a nought without twos below stays -/
theorem cb_stay (t n : Nat → Bool) {j : Nat} (h : ∀ i, i < j → t i = false) : ∀ r, (cb t n r).2 j = n j
  | 0 => rfl
  | r + 1 => by
    show ((cb t n r).2 j && !(decide (r + 1 ≤ j) && (cb t n r).1 (j - (r + 1)))) = _
    rw [cb_stay t n h r]
    by_cases hj : r + 1 ≤ j
    · have : (cb t n r).1 (j - (r + 1)) = false := by
        cases e : (cb t n r).1 (j - (r + 1)) with
        | false => rfl
        | true =>
          have h1 := cb_subT t n r _ e
          rw [h _ (by omega)] at h1
          cases h1
      rw [this]
      simp
    · simp [hj]
/-- behind the last nought nothing changes -/
theorem cb_after (t n : Nat → Bool) {L : Nat} (h : ∀ j, L ≤ j → n j = false) : ∀ m, (cb t n (L + m)).2 = (cb t n L).2 ∧ (cb t n (L + m)).1 = (cb t n L).1
  | 0 => ⟨rfl, rfl⟩
  | m + 1 => by
    obtain ⟨h1, h2⟩ := cb_after t n h m
    have z : ∀ j, L ≤ j → (cb t n (L + m)).2 j = false := fun j hj => by
      cases e : (cb t n (L + m)).2 j with
      | false => rfl
      | true =>
        have := cb_subN t n _ _ e
        rw [h j hj] at this
        cases this
    constructor
    · rw [← h1]
      funext j
      show ((cb t n (L + m)).2 j && !(decide (L + m + 1 ≤ j) && (cb t n (L + m)).1 (j - (L + m + 1)))) = _
      by_cases hj : L + m + 1 ≤ j
      · rw [z j (by omega)]
        rfl
      · simp [hj]
    · rw [← h2]
      funext k
      show ((cb t n (L + m)).1 k && !((cb t n (L + m)).2 (k + (L + m + 1)))) = _
      rw [z _ (by omega)]
      simp
/-! ### twos move up -/
def Fr : Nat → (Nat → Int) → Nat → Int
  | 0, P, k => P k
  | r + 1, P, 0 => Fr r P 0
  | r + 1, P, k + 1 => min (Fr r P (k + 1)) (Fr r P k + 1)
theorem fr_rep {c : Int} {t n : Nat → Bool} {P : Nat → Int} (R : Rep c t n P) : ∀ r, Rep c (fun k => decide (r ≤ k) && (cb t n r).1 (k - r)) (cb t n r).2 (Fr r P)
  | 0 => ⟨R.zero, fun k => by simpa [cb, Fr] using R.step k, fun k h => R.dis k (by simpa [cb] using h)⟩
  | r + 1 => by
    have ih := fr_rep R r
    generalize hF : Fr r P = F at ih
    have e0 : Fr (r + 1) P 0 = F 0 := by rw [← hF]; rfl
    have e1 : ∀ k, Fr (r + 1) P (k + 1) = min (F (k + 1)) (F k + 1) := fun k => by rw [← hF]; rfl
    have en : ∀ j, (cb t n (r + 1)).2 j = ((cb t n r).2 j && !(decide (r + 1 ≤ j) && (cb t n r).1 (j - (r + 1)))) := fun j => rfl
    have et : ∀ j, (cb t n (r + 1)).1 j = ((cb t n r).1 j && !((cb t n r).2 (j + (r + 1)))) := fun j => rfl
    refine ⟨by rw [e0]; exact ih.zero, fun k => ?_, fun k h => ?_⟩
    · cases k with
      | zero =>
        rw [e0, e1 0]
        have s0 := ih.step 0
        have d0 := ih.dis 0
        have x : (decide (r + 1 ≤ 0) && (cb t n (r + 1)).1 (0 - (r + 1))) = false := by simp
        have y : (cb t n (r + 1)).2 0 = (cb t n r).2 0 := by rw [en]; simp
        simp only [x, y, bi_f]
        revert s0 d0
        generalize (decide (r ≤ 0) && (cb t n r).1 (0 - r)) = τ
        generalize (cb t n r).2 0 = ν
        intro s0 d0
        cases τ <;> cases ν <;> simp [bi] at s0 d0 ⊢ <;> omega
      | succ k =>
        rw [e1, e1]
        have s0 := ih.step k
        have s1 := ih.step (k + 1)
        have d0 := ih.dis k
        have d1 := ih.dis (k + 1)
        have x : (decide (r + 1 ≤ k + 1) && (cb t n (r + 1)).1 (k + 1 - (r + 1))) = ((decide (r ≤ k) && (cb t n r).1 (k - r)) && !((cb t n r).2 (k + 1))) := by
          by_cases hk : r ≤ k
          · have e : k + 1 - (r + 1) = k - r := by omega
            have e2 : k - r + (r + 1) = k + 1 := by omega
            rw [e, et, e2]
            simp [hk]
          · simp [hk]
        have y : (cb t n (r + 1)).2 (k + 1) = ((cb t n r).2 (k + 1) && !(decide (r ≤ k) && (cb t n r).1 (k - r))) := by
          rw [en]
          have e : k + 1 - (r + 1) = k - r := by omega
          rw [e]
          by_cases hk : r ≤ k
          · simp [hk]
          · simp [hk]
        simp only [x, y]
        revert s0 s1 d0 d1
        generalize (decide (r ≤ k) && (cb t n r).1 (k - r)) = τ
        generalize (decide (r ≤ k + 1) && (cb t n r).1 (k + 1 - r)) = τ'
        generalize (cb t n r).2 k = ν
        generalize (cb t n r).2 (k + 1) = ν'
        intro s0 s1 d0 d1
        cases τ <;> cases τ' <;> cases ν <;> cases ν' <;> simp [bi] at s0 s1 d0 d1 ⊢ <;> omega
    · cases k with
      | zero => simp at h
      | succ k =>
        have e : k + 1 - (r + 1) = k - r := by omega
        simp only [e, Bool.and_eq_true, decide_eq_true_eq] at h
        have e2 : k - r + (r + 1) = k + 1 := by omega
        have h2 := h.2
        rw [et, e2, Bool.and_eq_true] at h2
        rw [en, e, h2.1]
        have h3 : (cb t n r).2 (k + 1) = false := by simpa using h2.2
        rw [h3]
        rfl
theorem fr_le (P : Nat → Int) : ∀ (r k j : Nat), j ≤ r → j ≤ k → Fr r P k ≤ P (k - j) + j
  | 0, k, j, h, _ => by
    have e : j = 0 := by omega
    subst e
    show P k ≤ _
    simp
  | r + 1, 0, j, _, h => by
    have e : j = 0 := by omega
    subst e
    show Fr r P 0 ≤ _
    exact fr_le P r 0 0 (Nat.zero_le _) (Nat.zero_le _)
  | r + 1, k + 1, j, h, h' => by
    show min (Fr r P (k + 1)) (Fr r P k + 1) ≤ _
    cases j with
    | zero =>
      have := fr_le P r (k + 1) 0 (Nat.zero_le _) (Nat.zero_le _)
      omega
    | succ j =>
      have := fr_le P r k j (by omega) (by omega)
      have e : k + 1 - (j + 1) = k - j := by omega
      rw [e]
      omega
theorem fr_get (P : Nat → Int) : ∀ (r k : Nat), ∃ j, j ≤ r ∧ j ≤ k ∧ Fr r P k = P (k - j) + j
  | 0, k => ⟨0, Nat.le_refl _, Nat.zero_le _, by show P k = _; simp⟩
  | r + 1, 0 => by
    obtain ⟨j, h1, h2, h3⟩ := fr_get P r 0
    exact ⟨j, by omega, h2, h3⟩
  | r + 1, k + 1 => by
    obtain ⟨j, h1, h2, h3⟩ := fr_get P r (k + 1)
    obtain ⟨i, g1, g2, g3⟩ := fr_get P r k
    have e : Fr (r + 1) P (k + 1) = min (Fr r P (k + 1)) (Fr r P k + 1) := rfl
    by_cases h : Fr r P (k + 1) ≤ Fr r P k + 1
    · exact ⟨j, by omega, h2, by rw [e, ← h3]; omega⟩
    · refine ⟨i + 1, by omega, by omega, ?_⟩
      have e2 : k + 1 - (i + 1) = k - i := by omega
      rw [e, e2]
      omega
/-! ### noughts move down -/
def Gr (b : Nat) : Nat → (Nat → Int) → Nat → Int
  | 0, P, k => P k
  | r + 1, P, k => if k < b then min (Gr b r P k + 1) (Gr b r P (k + 1)) else Gr b r P k + 1
/-- how many of the first r are false -/
def cnt : Nat → (Nat → Bool) → Nat
  | 0, _ => 0
  | r + 1, s => cnt r s + (if s r = true then 0 else 1)
theorem cnt_congr {s s' : Nat → Bool} : ∀ r, (∀ i, i < r → s i = s' i) → cnt r s = cnt r s'
  | 0, _ => rfl
  | r + 1, h => by
    unfold cnt
    rw [cnt_congr r fun i hi => h i (by omega), h r (by omega)]
theorem gr_rep {b : Nat} {c : Int} {t l s : Nat → Bool} {P : Nat → Int} (R : Rep c t (fun k => l k || s k) P) (ht : ∀ k, t k = true → k < b) (hs : ∀ k, s k = true → k < b) (hl : ∀ k, l k = true → b ≤ k) :
    ∀ r, Rep (c + (cnt r (cb t s r).2 : Int)) (cb t s r).1 (fun k => l k || (cb t s r).2 (k + r)) (Gr b r P)
  | 0 => ⟨by rw [← R.zero]; show P 0 = P 0 + _; simp [cnt], fun k => R.step k, fun k h => R.dis k h⟩
  | r + 1 => by
    have ih := gr_rep R ht hs hl r
    generalize hF : Gr b r P = F at ih
    have e1 : ∀ k, Gr b (r + 1) P k = if k < b then min (F k + 1) (F (k + 1)) else F k + 1 := fun k => by rw [← hF]; rfl
    have en : ∀ j, (cb t s (r + 1)).2 j = ((cb t s r).2 j && !(decide (r + 1 ≤ j) && (cb t s r).1 (j - (r + 1)))) := fun j => rfl
    have et : ∀ j, (cb t s (r + 1)).1 j = ((cb t s r).1 j && !((cb t s r).2 (j + (r + 1)))) := fun j => rfl
    have hnb : ∀ k, b ≤ k → (cb t s r).2 k = false := fun k hk => by
      cases e : (cb t s r).2 k with
      | false => rfl
      | true => have := hs k (cb_subN t s r k e); omega
    have htb : ∀ k, b ≤ k → (cb t s r).1 k = false := fun k hk => by
      cases e : (cb t s r).1 k with
      | false => rfl
      | true => have := ht k (cb_subT t s r k e); omega
    have hlb : ∀ k, k < b → l k = false := fun k hk => by
      cases e : l k with
      | false => rfl
      | true => have := hl k e; omega
    have hsame : ∀ i, i < r + 1 → (cb t s (r + 1)).2 i = (cb t s r).2 i := fun i hi => by
      rw [en]
      have : decide (r + 1 ≤ i) = false := decide_eq_false (by omega)
      rw [this]
      simp
    have ecnt : cnt (r + 1) (cb t s (r + 1)).2 = cnt r (cb t s r).2 + (if (cb t s r).2 r = true then 0 else 1) := by
      show cnt r (cb t s (r + 1)).2 + (if (cb t s (r + 1)).2 r = true then 0 else 1) = _
      rw [cnt_congr r fun i hi => hsame i (by omega), hsame r (by omega)]
    have y : ∀ k, (cb t s (r + 1)).2 (k + (r + 1)) = ((cb t s r).2 (k + 1 + r) && !((cb t s r).1 k)) := fun k => by
      rw [en]
      have e : k + (r + 1) - (r + 1) = k := by omega
      have e2 : k + (r + 1) = k + 1 + r := by omega
      rw [e, e2]
      simp [show r + 1 ≤ k + 1 + r by omega]
    have x : ∀ k, (cb t s (r + 1)).1 k = ((cb t s r).1 k && !((cb t s r).2 (k + 1 + r))) := fun k => by
      rw [et]
      have e2 : k + (r + 1) = k + 1 + r := by omega
      rw [e2]
    refine ⟨?_, fun k => ?_, fun k h => ?_⟩
    · rw [e1, ecnt]
      have z := ih.zero
      have s0 := ih.step 0
      by_cases hb : 0 < b
      · rw [if_pos hb]
        have l0 := hlb 0 hb
        simp only [l0, Bool.false_or, Nat.zero_add] at s0
        revert s0
        have d0 := ih.dis 0
        simp only [l0, Bool.false_or, Nat.zero_add] at d0
        revert d0
        generalize (cb t s r).1 0 = τ
        generalize (cb t s r).2 r = ν
        intro d0 s0
        cases τ <;> cases ν <;> simp [bi] at s0 d0 ⊢ <;> omega
      · rw [if_neg hb]
        have := hnb r (by omega)
        rw [this]
        simp
        omega
    · rw [e1, e1]
      simp only [x, y]
      have s0 := ih.step k
      have s1 := ih.step (k + 1)
      have d0 := ih.dis k
      have d1 := ih.dis (k + 1)
      have ek : k + 1 + r = k + 1 + r := rfl
      by_cases h1 : k + 1 < b
      · rw [if_pos h1, if_pos (by omega)]
        have l0 := hlb k (by omega)
        have l1 := hlb (k + 1) h1
        simp only [l0, l1, Bool.false_or] at s0 s1 d0 d1 ⊢
        revert s0 s1 d0 d1
        generalize (cb t s r).1 k = τ
        generalize (cb t s r).1 (k + 1) = τ'
        generalize (cb t s r).2 (k + r) = ν
        generalize (cb t s r).2 (k + 1 + r) = ν'
        intro s0 s1 d0 d1
        cases τ <;> cases τ' <;> cases ν <;> cases ν' <;> simp [bi] at s0 s1 d0 d1 ⊢ <;> omega
      · by_cases h0 : k < b
        · rw [if_neg h1, if_pos h0]
          have l0 := hlb k h0
          have n1 := hnb (k + 1 + r) (by omega)
          simp only [l0, n1, Bool.false_or, Bool.false_and, Bool.not_false, Bool.and_true] at s0 d0 ⊢
          revert s0 d0
          generalize (cb t s r).1 k = τ
          generalize (cb t s r).2 (k + r) = ν
          intro s0 d0
          cases τ <;> cases ν <;> simp [bi] at s0 d0 ⊢ <;> omega
        · rw [if_neg h1, if_neg h0]
          have n0 := hnb (k + r) (by omega)
          have n1 := hnb (k + 1 + r) (by omega)
          have t0 := htb k (by omega)
          simp only [n0, n1, t0, Bool.or_false, Bool.false_and] at s0 ⊢
          omega
    · rw [x, Bool.and_eq_true] at h
      have hk : k < b := by
        cases Nat.lt_or_ge k b with
        | inl h' => exact h'
        | inr h' => rw [htb k h'] at h; exact absurd h.1 (by decide)
      have h3 : (cb t s r).2 (k + 1 + r) = false := by simpa using h.2
      show (l k || (cb t s (r + 1)).2 (k + (r + 1))) = false
      rw [hlb k hk, y, h3]
      rfl
theorem gr_high (b : Nat) (P : Nat → Int) : ∀ (r k : Nat), b ≤ k → Gr b r P k = P k + r
  | 0, k, _ => by show P k = _; simp
  | r + 1, k, h => by
    have e : Gr b (r + 1) P k = Gr b r P k + 1 := if_neg (by omega)
    rw [e, gr_high b P r k h]
    omega
theorem gr_le (b : Nat) (P : Nat → Int) : ∀ (r k j : Nat), j ≤ r → k + j ≤ b → Gr b r P k ≤ P (k + j) + r - j
  | 0, k, j, h, _ => by
    have e : j = 0 := by omega
    subst e
    show P k ≤ _
    simp
  | r + 1, k, j, h, hb => by
    by_cases hk : k < b
    · have e : Gr b (r + 1) P k = min (Gr b r P k + 1) (Gr b r P (k + 1)) := if_pos hk
      rw [e]
      by_cases hj : j ≤ r
      · have := gr_le b P r k j hj hb
        omega
      · cases j with
        | zero => omega
        | succ j =>
          have := gr_le b P r (k + 1) j (by omega) (by omega)
          have e2 : k + 1 + j = k + (j + 1) := by omega
          rw [e2] at this
          omega
    · have e : j = 0 := by omega
      subst e
      rw [gr_high b P (r + 1) k (by omega)]
      simp
theorem gr_get (b : Nat) (P : Nat → Int) : ∀ (r k : Nat), k ≤ b → ∃ j, j ≤ r ∧ k + j ≤ b ∧ Gr b r P k = P (k + j) + r - j
  | 0, k, h => ⟨0, Nat.le_refl _, h, by show P k = _; simp⟩
  | r + 1, k, h => by
    by_cases hk : k < b
    · have e : Gr b (r + 1) P k = min (Gr b r P k + 1) (Gr b r P (k + 1)) := if_pos hk
      obtain ⟨j, h1, h2, h3⟩ := gr_get b P r k h
      obtain ⟨i, g1, g2, g3⟩ := gr_get b P r (k + 1) hk
      by_cases hm : Gr b r P k + 1 ≤ Gr b r P (k + 1)
      · exact ⟨j, by omega, h2, by rw [e]; omega⟩
      · refine ⟨i + 1, by omega, by omega, ?_⟩
        have e2 : k + (i + 1) = k + 1 + i := by omega
        rw [e, e2]
        omega
    · refine ⟨0, Nat.zero_le _, by omega, ?_⟩
      rw [gr_high b P (r + 1) k (by omega)]
      simp
end Mx

/-! Mp: the prices of a line from those of the line below. -/
namespace Mx
def build (c : Int) (t n : Nat → Bool) : Nat → Int
  | 0 => c
  | k + 1 => build c t n k + 1 + bi (t k) - bi (n k)
theorem build_rep {c : Int} {t n : Nat → Bool} (h : ∀ k, t k = true → n k = false) : Rep c t n (build c t n) := ⟨rfl, fun _ => rfl, h⟩
/-- ins by outs -/
def An (s h : Int) (k : Nat) : Int := min ((k : Int) + s) h
theorem an_step (s h : Int) (k : Nat) : An s h (k + 1) = An s h k + (if (k : Int) + s < h then 1 else 0) := by
  unfold An
  split <;> omega
theorem an_mono (s h : Int) {k k' : Nat} (hk : k ≤ k') : An s h k ≤ An s h k' ∧ An s h k' ≤ An s h k + ((k' : Int) - k) := by
  unfold An
  omega
def Cl (s m : Int) (P : Nat → Int) : Prop := ∀ k j : Nat, P k ≤ P (k + j) ∧ P (k + j) ≤ P k + j + (An s m (k + j) - An s m k)
theorem cl_of {c s m : Int} {t n : Nat → Bool} {P : Nat → Int} (R : Rep c t n P) (ht : ∀ k : Nat, t k = true → (k : Int) + s < m) : Cl s m P := by
  intro k j
  induction j with
  | zero => simp
  | succ j ih =>
    have s0 := R.step (k + j)
    have e : k + (j + 1) = k + j + 1 := by omega
    rw [e, an_step]
    have d := R.dis (k + j)
    have h := ht (k + j)
    have n01 := bi_01 (n (k + j))
    cases e1 : t (k + j) with
    | true =>
      rw [e1] at s0
      rw [if_pos (h e1)]
      have := d e1
      rw [this] at s0
      simp only [bi_t, bi_f] at s0
      omega
    | false =>
      rw [e1] at s0
      simp only [bi_f] at s0
      split <;> omega
/-- equal steps -/
theorem steps_eq {c c' : Int} {t n t' n' : Nat → Bool} {P P' : Nat → Int} (R : Rep c t n P) (R' : Rep c' t' n' P') {a : Nat} : ∀ j, (∀ i, a ≤ i → i < a + j → t i = t' i ∧ n i = n' i) → P (a + j) - P a = P' (a + j) - P' a
  | 0, _ => by simp
  | j + 1, h => by
    have ih := steps_eq R R' (a := a) j fun i h1 h2 => h i h1 (by omega)
    have s0 := R.step (a + j)
    have s1 := R'.step (a + j)
    obtain ⟨e1, e2⟩ := h (a + j) (by omega) (by omega)
    rw [e1, e2] at s0
    have e : a + (j + 1) = a + j + 1 := by omega
    rw [e]
    omega
theorem no_twos {c : Int} {t n : Nat → Bool} {P : Nat → Int} (R : Rep c t n P) {a : Nat} : ∀ j, (∀ i, a ≤ i → i < a + j → t i = false) → P (a + j) ≤ P a + j
  | 0, _ => by simp
  | j + 1, h => by
    have ih := no_twos R (a := a) j fun i h1 h2 => h i h1 (by omega)
    have s0 := R.step (a + j)
    rw [h (a + j) (by omega) (by omega)] at s0
    have e : a + (j + 1) = a + j + 1 := by omega
    rw [e]
    have := bi_01 (n (a + j))
    simp only [bi_f] at s0
    omega
/-! ### the level lowered -/
def lowB (t n : Nat → Bool) (b L : Nat) : (Nat → Bool) × (Nat → Bool) := (fun k => t k && !decide (b ≤ k), (cb (fun k => t k && decide (b ≤ k)) n L).2)
theorem low_ok {c : Int} {t n : Nat → Bool} {P : Nat → Int} (R : Rep c t n P) (b L : Nat) (hL : ∀ j, L ≤ j → n j = false) :
    ∃ P1, Rep c (lowB t n b L).1 (lowB t n b L).2 P1 ∧ (∀ k, P1 k ≤ P k) ∧ ∀ k, ∃ j, j ≤ k ∧ P1 k = P j + ((k : Int) - j) + (min (k : Int) b - min (j : Int) b) := by
  let hi : Nat → Bool := fun k => t k && decide (b ≤ k)
  have hiLow : ∀ i, i < b → hi i = false := fun i h => by
    show (t i && decide (b ≤ i)) = false
    rw [decide_eq_false (by omega), Bool.and_false]
  have hdis : ∀ k, hi k = true → n k = false := fun k h => by
    have h' : (t k && decide (b ≤ k)) = true := h
    rw [Bool.and_eq_true] at h'
    exact R.dis k h'.1
  have stay : ∀ j, j < b → (cb hi n L).2 j = n j := fun j hj => cb_stay hi n (fun i h => hiLow i (by omega)) L
  have R1 : Rep c (lowB t n b L).1 (lowB t n b L).2 (build c (lowB t n b L).1 (lowB t n b L).2) := build_rep fun k h => by
    have h' : (t k && !decide (b ≤ k)) = true := h
    rw [Bool.and_eq_true] at h'
    have hk : k < b := by
      have := h'.2
      simp at this
      exact this
    show (cb hi n L).2 k = false
    rw [stay k hk]
    exact R.dis k h'.1
  generalize hP1 : build c (lowB t n b L).1 (lowB t n b L).2 = P1 at R1
  refine ⟨P1, R1, ?_⟩
  have Rh : Rep c hi n (build c hi n) := build_rep hdis
  generalize build c hi n = Ph at Rh
  -- below b nothing changes
  have below : ∀ k, k ≤ b → P1 k = P k := fun k hk => by
    have := steps_eq R1 R (a := 0) k fun i _ h2 => by
      refine ⟨?_, stay i (by omega)⟩
      show (t i && !decide (b ≤ i)) = t i
      rw [decide_eq_false (by omega)]
      simp
    rw [R1.zero, R.zero, Nat.zero_add] at this
    omega
  have high : ∀ k, b ≤ k → P k = P b + (Ph k - Ph b) := fun k hk => by
    obtain ⟨j, rfl⟩ := Nat.exists_eq_add_of_le hk
    have := steps_eq R Rh (a := b) j fun i h1 _ => by
      refine ⟨?_, rfl⟩
      show t i = (t i && decide (b ≤ i))
      rw [decide_eq_true h1, Bool.and_true]
    omega
  have lowPh : ∀ j, j ≤ b → Ph b ≤ Ph j + ((b : Int) - j) := fun j hj => by
    obtain ⟨i, e⟩ := Nat.exists_eq_add_of_le hj
    have := no_twos Rh (a := j) i fun i' _ h2 => hiLow i' (by omega)
    rw [← e] at this
    omega
  have main : ∀ k, b ≤ k → P1 k = P b + (Fr (L + k) Ph k - Ph b) := fun k hk => by
    have Rf := fr_rep Rh (L + k)
    obtain ⟨a1, _⟩ := cb_after hi n hL k
    obtain ⟨j, rfl⟩ := Nat.exists_eq_add_of_le hk
    have e := steps_eq R1 Rf (a := b) j fun i h1 h2 => by
      refine ⟨?_, ?_⟩
      · show (t i && !decide (b ≤ i)) = (decide (L + (b + j) ≤ i) && _)
        rw [decide_eq_true h1, decide_eq_false (by omega)]
        simp
      · show (cb hi n L).2 i = _
        rw [a1]
    have fb : Fr (L + (b + j)) Ph b = Ph b := by
      have h1 := fr_le Ph (L + (b + j)) b 0 (Nat.zero_le _) (Nat.zero_le _)
      obtain ⟨i, g1, g2, g3⟩ := fr_get Ph (L + (b + j)) b
      have := lowPh (b - i) (by omega)
      simp at h1
      omega
    rw [fb, below b (Nat.le_refl _)] at e
    omega
  refine ⟨fun k => ?_, fun k => ?_⟩
  · by_cases hk : k ≤ b
    · rw [below k hk]
      exact Int.le_refl _
    · rw [main k (by omega), high k (by omega)]
      have := fr_le Ph (L + k) k 0 (Nat.zero_le _) (Nat.zero_le _)
      simp at this
      omega
  · by_cases hk : k ≤ b
    · exact ⟨k, Nat.le_refl _, by rw [below k hk]; omega⟩
    · have hkb : b ≤ k := by omega
      obtain ⟨j, g1, g2, g3⟩ := fr_get Ph (L + k) k
      by_cases hj : b ≤ k - j
      · refine ⟨k - j, by omega, ?_⟩
        rw [main k hkb, high (k - j) hj]
        omega
      · refine ⟨b, hkb, ?_⟩
        rw [main k hkb]
        have h1 := lowPh (k - j) (by omega)
        have h2 := fr_le Ph (L + k) k (k - b) (by omega) (by omega)
        have e : k - (k - b) = b := by omega
        rw [e] at h2
        omega
/-! ### fewer ins -/
theorem fewer_ok {s s' m : Int} {P1 : Nat → Int} (C : Cl s m P1) (hs : s' ≤ s) (k' : Nat) :
    (∀ k : Nat, Fr (s - s').toNat P1 k' ≤ P1 k + max 0 ((k' : Int) - k) + max 0 (An s' m k' - An s m k)) ∧ ∃ k0 : Nat, k0 ≤ k' ∧ (k' : Int) ≤ k0 + (s - s') ∧ Fr (s - s').toNat P1 k' = P1 k0 + ((k' : Int) - k0) := by
  constructor
  · intro k
    by_cases h1 : k' ≤ k
    · have h2 := fr_le P1 (s - s').toNat k' 0 (Nat.zero_le _) (Nat.zero_le _)
      obtain ⟨j, rfl⟩ := Nat.exists_eq_add_of_le h1
      have h3 := (C k' j).1
      simp at h2
      omega
    · by_cases h2 : (k' : Int) ≤ k + (s - s')
      · have h3 := fr_le P1 (s - s').toNat k' (k' - k) (by omega) (by omega)
        have e : k' - (k' - k) = k := by omega
        rw [e] at h3
        omega
      · have h3 := fr_le P1 (s - s').toNat k' (s - s').toNat (Nat.le_refl _) (by omega)
        have hle : k ≤ k' - (s - s').toNat := by omega
        obtain ⟨j, e⟩ := Nat.exists_eq_add_of_le hle
        have h4 := (C k j).2
        rw [← e] at h4
        have e2 : An s m (k' - (s - s').toNat) = An s' m k' := by
          unfold An
          omega
        rw [e2] at h4
        omega
  · obtain ⟨j, g1, g2, g3⟩ := fr_get P1 (s - s').toNat k'
    exact ⟨k' - j, by omega, by omega, by rw [g3]; omega⟩
/-! ### more ins -/
theorem more_ok {s s' m : Int} {P1 : Nat → Int} (C : Cl s m P1) (hs : s ≤ s') {b : Nat} (hb : (b : Int) = m - s) (k' : Nat) :
    (∀ k : Nat, Gr b (s' - s).toNat P1 k' ≤ P1 k + max 0 ((k' : Int) - k) + max 0 (An s' (m + (s' - s)) k' - An s m k)) ∧
      ∃ k0 : Nat, k' ≤ k0 ∧ (k0 : Int) ≤ k' + (s' - s) ∧ (k' ≤ b → k0 ≤ b) ∧ (b ≤ k' → k0 = k') ∧ Gr b (s' - s).toNat P1 k' = P1 k0 + (s' - s) - ((k0 : Int) - k') := by
  have hA : ∀ k : Nat, An s' (m + (s' - s)) k = An s m k + (s' - s) := fun k => by unfold An; omega
  have hAb : ∀ k : Nat, k ≤ b → An s m k = k + s := fun k hk => by unfold An; omega
  have hAh : ∀ k : Nat, b ≤ k → An s m k = m := fun k hk => by unfold An; omega
  constructor
  · intro k
    rw [hA]
    by_cases hkb : b ≤ k'
    · rw [gr_high b P1 _ k' hkb]
      by_cases h1 : k' ≤ k
      · obtain ⟨j, rfl⟩ := Nat.exists_eq_add_of_le h1
        have h3 := (C k' j).1
        rw [hAh k' hkb, hAh (k' + j) (by omega)]
        omega
      · obtain ⟨j, e⟩ := Nat.exists_eq_add_of_le (show k ≤ k' by omega)
        have h3 := (C k j).2
        rw [← e] at h3
        omega
    · have hkb' : k' ≤ b := by omega
      by_cases h1 : k ≤ k'
      · have h2 := gr_le b P1 (s' - s).toNat k' 0 (Nat.zero_le _) (by omega)
        obtain ⟨j, e⟩ := Nat.exists_eq_add_of_le h1
        have h3 := (C k j).2
        rw [← e] at h3
        simp at h2
        omega
      · by_cases h2 : k ≤ b
        · by_cases h4 : (k : Int) - k' ≤ s' - s
          · have h3 := gr_le b P1 (s' - s).toNat k' (k - k') (by omega) (by omega)
            have e : k' + (k - k') = k := by omega
            rw [e] at h3
            rw [hAb k' hkb', hAb k h2]
            omega
          · have h3 := gr_le b P1 (s' - s).toNat k' (s' - s).toNat (Nat.le_refl _) (by omega)
            obtain ⟨j, e⟩ := Nat.exists_eq_add_of_le (show k' + (s' - s).toNat ≤ k by omega)
            have h5 := (C (k' + (s' - s).toNat) j).1
            rw [← e] at h5
            omega
        · by_cases h4 : (b : Int) - k' ≤ s' - s
          · have h3 := gr_le b P1 (s' - s).toNat k' (b - k') (by omega) (by omega)
            have e : k' + (b - k') = b := by omega
            rw [e] at h3
            obtain ⟨j, e2⟩ := Nat.exists_eq_add_of_le (show b ≤ k by omega)
            have h5 := (C b j).1
            rw [← e2] at h5
            rw [hAb k' hkb', hAh k (by omega)]
            omega
          · have h3 := gr_le b P1 (s' - s).toNat k' (s' - s).toNat (Nat.le_refl _) (by omega)
            obtain ⟨j, e⟩ := Nat.exists_eq_add_of_le (show k' + (s' - s).toNat ≤ k by omega)
            have h5 := (C (k' + (s' - s).toNat) j).1
            rw [← e] at h5
            omega
  · by_cases hkb : b ≤ k'
    · exact ⟨k', Nat.le_refl _, by omega, fun h => h, fun _ => rfl, by rw [gr_high b P1 _ k' hkb]; omega⟩
    · obtain ⟨j, g1, g2, g3⟩ := gr_get b P1 (s' - s).toNat k' (by omega)
      exact ⟨k' + j, by omega, by omega, fun _ => g2, fun h => by omega, by rw [g3]; omega⟩
end Mx

/-! Mq: a line's prices, kept as bits. -/
namespace Mx
structure Pr (D c : Nat) (t n : Nat → Bool) (s h : Int) (P : Nat → Int) : Prop where
  rep : Rep c t n P
  h0 : 0 ≤ h
  d0 : s ≤ h
  dD : h - s ≤ D
  tl : ∀ k : Nat, t k = true → -s ≤ (k : Int) ∧ (k : Int) + s < h
  nl : ∀ k : Nat, (k : Int) < -s → n k = true
  nD : ∀ k : Nat, n k = true → k < D
/-- P' are the prices of a line above one with the prices P -/
def Nx (s h s' w : Int) (P P' : Nat → Int) : Prop := (∀ k k' : Nat, -s' ≤ (k' : Int) → P' k' ≤ P k + max 0 ((k' : Int) - k) + max 0 (An s' w k' - An s h k)) ∧
  ∀ k' : Nat, -s' ≤ (k' : Int) → ∃ k : Nat, -s ≤ (k : Int) ∧ P k + max 0 ((k' : Int) - k) + max 0 (An s' w k' - An s h k) ≤ P' k'
theorem flat {D c : Nat} {t n : Nat → Bool} {s h : Int} {P : Nat → Int} (I : Pr D c t n s h P) : ∀ k : Nat, (k : Int) ≤ -s → P k = c
  | 0, _ => I.rep.zero
  | k + 1, hk => by
    have ih := flat I k (by omega)
    have s0 := I.rep.step k
    have n0 := I.nl k (by omega)
    have t0 : t k = false := by
      cases e : t k with
      | false => rfl
      | true => have := (I.tl k e).1; omega
    rw [n0, t0] at s0
    simp only [bi_t, bi_f] at s0
    omega
theorem flat_f {D c : Nat} {t n : Nat → Bool} {s h : Int} {P : Nat → Int} (I : Pr D c t n s h P) {j : Nat} (hj : (j : Int) < -s) : P (-s).toNat = P j := by
  rw [flat I j (by omega), flat I (-s).toNat (by omega)]
/-- a pair with no ins below 0 will do -/
theorem up_to {D c : Nat} {t n : Nat → Bool} {s h s' w : Int} {P : Nat → Int} (I : Pr D c t n s h P) {k' j : Nat} {x : Int} (hx : P j + max 0 ((k' : Int) - j) + max 0 (An s' w k' - An s h j) ≤ x) :
    ∃ k : Nat, -s ≤ (k : Int) ∧ P k + max 0 ((k' : Int) - k) + max 0 (An s' w k' - An s h k) ≤ x := by
  by_cases hj : -s ≤ (j : Int)
  · exact ⟨j, hj, hx⟩
  · refine ⟨(-s).toNat, by omega, ?_⟩
    rw [flat_f I (j := j) (by omega)]
    have h1 := (an_mono s h (k := j) (k' := (-s).toNat) (by omega)).1
    omega
def lowI (t n : Nat → Bool) (s h w : Int) (L : Nat) : (Nat → Bool) × (Nat → Bool) := if w < h then lowB t n (w - s).toNat L else (t, n)
theorem low_I {D c : Nat} {t n : Nat → Bool} {s h : Int} {P : Nat → Int} (I : Pr D c t n s h P) (w : Int) (L : Nat) (hL : ∀ j, L ≤ j → n j = false) :
    ∃ P1, Rep c (lowI t n s h w L).1 (lowI t n s h w L).2 P1 ∧ (∀ k, P1 k ≤ P k) ∧ (∀ k, ∃ j, j ≤ k ∧ P1 k = P j + ((k : Int) - j) + (An s (min h w) k - An s (min h w) j)) ∧
      (∀ k : Nat, (lowI t n s h w L).1 k = true → -s ≤ (k : Int) ∧ (k : Int) + s < min h w) ∧ (∀ k : Nat, (k : Int) < -s → (lowI t n s h w L).2 k = true) ∧ (∀ k : Nat, (lowI t n s h w L).2 k = true → k < D) ∧ Cl s (min h w) P1 := by
  have fin : ∀ {t1 n1 : Nat → Bool} {P1 : Nat → Int}, Rep c t1 n1 P1 → (∀ k, P1 k ≤ P k) → (∀ k, ∃ j, j ≤ k ∧ P1 k = P j + ((k : Int) - j) + (An s (min h w) k - An s (min h w) j)) →
      (∀ k : Nat, t1 k = true → -s ≤ (k : Int) ∧ (k : Int) + s < min h w) → (∀ k : Nat, (k : Int) < -s → n1 k = true) → (∀ k : Nat, n1 k = true → k < D) →
      ∃ P1, Rep c t1 n1 P1 ∧ (∀ k, P1 k ≤ P k) ∧ (∀ k, ∃ j, j ≤ k ∧ P1 k = P j + ((k : Int) - j) + (An s (min h w) k - An s (min h w) j)) ∧
      (∀ k : Nat, t1 k = true → -s ≤ (k : Int) ∧ (k : Int) + s < min h w) ∧ (∀ k : Nat, (k : Int) < -s → n1 k = true) ∧ (∀ k : Nat, n1 k = true → k < D) ∧ Cl s (min h w) P1 :=
    fun {t1 n1 P1} r a b tl nl nd => ⟨P1, r, a, b, tl, nl, nd, cl_of r fun k e => (tl k e).2⟩
  unfold lowI
  split
  · rename_i hw
    obtain ⟨P1, r, a, b⟩ := low_ok I.rep (w - s).toNat L hL
    refine fin r a (fun k => ?_) (fun k e => ?_) (fun k e => ?_) fun k e => ?_
    · obtain ⟨j, g1, g2⟩ := b k
      refine ⟨j, g1, ?_⟩
      rw [g2]
      unfold An
      omega
    · have e' : (t k && !decide ((w - s).toNat ≤ k)) = true := e
      rw [Bool.and_eq_true] at e'
      have h1 := I.tl k e'.1
      have h2 := e'.2
      simp at h2
      omega
    · have : (cb (fun k => t k && decide ((w - s).toNat ≤ k)) n L).2 k = n k := cb_stay _ _ (fun i hi => by
        cases e1 : t i with
        | false => rfl
        | true => have := (I.tl i e1).1; omega) L
      show (cb (fun k => t k && decide ((w - s).toNat ≤ k)) n L).2 k = true
      rw [this]
      exact I.nl k e
    · exact I.nD k (cb_subN _ _ L k e)
  · rename_i hw
    refine fin I.rep (fun k => Int.le_refl _) (fun k => ⟨k, Nat.le_refl _, by omega⟩) (fun k e => ?_) I.nl I.nD
    have := I.tl k e
    omega
/-! ### the level's begin -/
def btw (a b k : Nat) : Bool := decide (a ≤ k ∧ k < b)
def bentB (t n : Nat → Bool) (bend d : Nat) : (Nat → Bool) × (Nat → Bool) :=
  if bend < d then (fun k => t k || (btw bend d k && !n k), fun k => n k && !btw bend d k) else (fun k => t k && !btw d bend k, fun k => n k || (btw d bend k && !t k))
theorem bent_rep {c : Int} {t n : Nat → Bool} {P : Nat → Int} {s' m' w : Int} {bend d : Nat} (R : Rep c t n P) (hb : (bend : Int) = m' - s') (hd : (d : Int) = w - s') (ht : ∀ k, t k = true → k < bend) (hn : ∀ k, d ≤ k → k < bend → n k = false) :
    Rep c (bentB t n bend d).1 (bentB t n bend d).2 (fun k => P k + (An s' w k - An s' m' k)) := by
  have z : An s' w 0 - An s' m' 0 = 0 := by unfold An; omega
  have tb : ∀ k, bend ≤ k → t k = false := fun k hk => by
    cases e : t k with
    | false => rfl
    | true => have := ht k e; omega
  have st : ∀ k, (P (k + 1) + (An s' w (k + 1) - An s' m' (k + 1))) = (P k + (An s' w k - An s' m' k)) + 1 + bi (t k) - bi (n k) + (if k < d then 1 else 0) - (if k < bend then 1 else 0) := fun k => by
    rw [an_step, an_step, R.step k]
    have e1 : ((k : Int) + s' < w) ↔ k < d := by omega
    have e2 : ((k : Int) + s' < m') ↔ k < bend := by omega
    simp only [e1, e2]
    omega
  unfold bentB
  split
  · rename_i hbd
    refine ⟨by show P 0 + (An s' w 0 - An s' m' 0) = c; rw [z, R.zero]; simp, fun k => ?_, fun k h => ?_⟩
    · show P (k + 1) + (An s' w (k + 1) - An s' m' (k + 1)) = P k + (An s' w k - An s' m' k) + 1 + bi (t k || (btw bend d k && !n k)) - bi (n k && !btw bend d k)
      rw [st k]
      by_cases h1 : bend ≤ k
      · rw [tb k h1, if_neg (show ¬ k < bend by omega)]
        by_cases h2 : k < d
        · have : btw bend d k = true := decide_eq_true ⟨h1, h2⟩
          rw [this, if_pos h2]
          cases n k <;> simp [bi]
        · have : btw bend d k = false := decide_eq_false (by omega)
          rw [this, if_neg h2]
          simp
      · have : btw bend d k = false := decide_eq_false (by omega)
        rw [this, if_pos (show k < bend by omega), if_pos (show k < d by omega)]
        simp
    · show (n k && !btw bend d k) = false
      have h' : (t k || (btw bend d k && !n k)) = true := h
      cases e : t k with
      | true => rw [R.dis k e]; rfl
      | false =>
        rw [e, Bool.false_or, Bool.and_eq_true] at h'
        rw [h'.1]
        simp
  · rename_i hbd
    refine ⟨by show P 0 + (An s' w 0 - An s' m' 0) = c; rw [z, R.zero]; simp, fun k => ?_, fun k h => ?_⟩
    · show P (k + 1) + (An s' w (k + 1) - An s' m' (k + 1)) = P k + (An s' w k - An s' m' k) + 1 + bi (t k && !btw d bend k) - bi (n k || (btw d bend k && !t k))
      rw [st k]
      by_cases h1 : d ≤ k
      · rw [if_neg (show ¬ k < d by omega)]
        by_cases h2 : k < bend
        · have : btw d bend k = true := decide_eq_true ⟨h1, h2⟩
          rw [this, if_pos h2, hn k h1 h2]
          cases t k <;> simp [bi]
        · have : btw d bend k = false := decide_eq_false (by omega)
          rw [this, if_neg h2]
          simp
      · have : btw d bend k = false := decide_eq_false (by omega)
        rw [this, if_pos (show k < bend by omega), if_pos (show k < d by omega)]
        simp
    · show (n k || (btw d bend k && !t k)) = false
      have h' : (t k && !btw d bend k) = true := h
      rw [Bool.and_eq_true] at h'
      rw [R.dis k h'.1, h'.1]
      simp
/-! ### a line with fewer ins -/
theorem sum_no_twos {c : Int} {t n : Nat → Bool} {P : Nat → Int} (R : Rep c t n P) : ∀ f : Nat, (∀ i, i < f → t i = false) → P f = c + (cnt f n : Int)
  | 0, _ => by rw [R.zero]; show c = c + ((0 : Nat) : Int); simp
  | f + 1, h => by
    have ih := sum_no_twos R f fun i hi => h i (by omega)
    have s0 := R.step f
    rw [h f (by omega)] at s0
    show P (f + 1) = c + ((cnt f n + (if n f = true then 0 else 1) : Nat) : Int)
    cases e : n f <;> rw [e] at s0 <;> simp [bi] at s0 ⊢ <;> omega
def fewT (t n : Nat → Bool) (by_ : Nat) : Nat → Bool := fun k => decide (by_ ≤ k) && (cb t n by_).1 (k - by_)
def fewN (t n : Nat → Bool) (by_ f : Nat) : Nat → Bool := fun k => (cb t n by_).2 k || decide (k < f)
theorem line_F {D c : Nat} {t n : Nat → Bool} {s h : Int} {P : Nat → Int} (I : Pr D c t n s h P) {d w L : Nat} (hL : ∀ j, L ≤ j → n j = false) (hd : d ≤ D) {s' : Int} (hs' : s' = (w : Int) - d) (hs : s' < s) {t1 n1 : Nat → Bool} (ht1 : (t1, n1) = lowI t n s h w L) :
    ∃ P', Pr D (c + cnt (-s').toNat (cb t1 n1 (s - s').toNat).2) (bentB (fewT t1 n1 (s - s').toNat) (fewN t1 n1 (s - s').toNat (-s').toNat) (min h w - s').toNat d).1 (bentB (fewT t1 n1 (s - s').toNat) (fewN t1 n1 (s - s').toNat (-s').toNat) (min h w - s').toNat d).2 s' w P' ∧ Nx s h s' w P P' := by
  obtain ⟨P1, r1, a1, b1, tl1, nl1, nd1, C⟩ := low_I I w L hL
  rw [← ht1] at r1 tl1 nl1 nd1
  simp only at r1 tl1 nl1 nd1
  have h0 := I.h0
  have d0 := I.d0
  have dD := I.dD
  have R := fr_rep r1 (s - s').toNat
  have F := fewer_ok C (Int.le_of_lt hs)
  have tlow : ∀ k : Nat, fewT t1 n1 (s - s').toNat k = true → -s' ≤ (k : Int) ∧ (k : Int) + s' < min h w := fun k e => by
    have e' : (decide ((s - s').toNat ≤ k) && (cb t1 n1 (s - s').toNat).1 (k - (s - s').toNat)) = true := e
    rw [Bool.and_eq_true] at e'
    have h1 := of_decide_eq_true e'.1
    have h2 := tl1 _ (cb_subT _ _ _ _ e'.2)
    omega
  have R2 : Rep ((c + cnt (-s').toNat (cb t1 n1 (s - s').toNat).2 : Nat) : Int) (fewT t1 n1 (s - s').toNat) (fewN t1 n1 (s - s').toNat (-s').toNat) (fun k => Fr (s - s').toNat P1 (if k < (-s').toNat then (-s').toNat else k)) := by
    refine ⟨?_, fun k => ?_, fun k e => ?_⟩
    · have e1 : (if 0 < (-s').toNat then (-s').toNat else 0) = (-s').toNat := by split <;> omega
      show Fr (s - s').toNat P1 (if 0 < (-s').toNat then (-s').toNat else 0) = _
      rw [e1, sum_no_twos R (-s').toNat fun i hi => ?_]
      · omega
      · cases e : (decide ((s - s').toNat ≤ i) && (cb t1 n1 (s - s').toNat).1 (i - (s - s').toNat)) with
        | false => rfl
        | true => have := (tlow i e).1; omega
    · show Fr (s - s').toNat P1 (if k + 1 < (-s').toNat then (-s').toNat else k + 1) = Fr (s - s').toNat P1 (if k < (-s').toNat then (-s').toNat else k) + 1 + bi (fewT t1 n1 (s - s').toNat k) - bi ((cb t1 n1 (s - s').toNat).2 k || decide (k < (-s').toNat))
      by_cases hk : k < (-s').toNat
      · have e1 : (if k + 1 < (-s').toNat then (-s').toNat else k + 1) = (-s').toNat := by split <;> omega
        have e2 : fewT t1 n1 (s - s').toNat k = false := by
          cases e : fewT t1 n1 (s - s').toNat k with
          | false => rfl
          | true => have := (tlow k e).1; omega
        rw [e1, if_pos hk, e2, decide_eq_true hk]
        simp [bi]
      · rw [if_neg hk, if_neg (show ¬ k + 1 < (-s').toNat by omega), decide_eq_false hk, Bool.or_false]
        exact R.step k
    · show ((cb t1 n1 (s - s').toNat).2 k || decide (k < (-s').toNat)) = false
      have := (tlow k e).1
      rw [decide_eq_false (by omega), Bool.or_false]
      exact R.dis k e
  have hbend : ((min h (w : Int) - s').toNat : Int) = min h w - s' := by omega
  have hbd : (min h (w : Int) - s').toNat ≤ d := by omega
  have R3 := bent_rep (s' := s') (m' := min h w) (w := w) (bend := (min h (w : Int) - s').toNat) (d := d) R2 hbend (by omega) (fun k e => by have := (tlow k e).2; omega) (fun k h1 h2 => by omega)
  refine ⟨_, ⟨R3, by omega, by omega, by omega, fun k e => ?_, fun k hk => ?_, fun k e => ?_⟩, fun k k' hk' => ?_, fun k' hk' => ?_⟩
  · unfold bentB at e
    split at e
    · have e' : (fewT t1 n1 (s - s').toNat k || (btw (min h (w : Int) - s').toNat d k && !fewN t1 n1 (s - s').toNat (-s').toNat k)) = true := e
      rw [Bool.or_eq_true, Bool.and_eq_true] at e'
      rcases e' with e' | ⟨e1, e2⟩
      · have := tlow k e'
        omega
      · have h1 := of_decide_eq_true e1
        have h2 : fewN t1 n1 (s - s').toNat (-s').toNat k = false := by simpa using e2
        have h3 : ((cb t1 n1 (s - s').toNat).2 k || decide (k < (-s').toNat)) = false := h2
        rw [Bool.or_eq_false_iff] at h3
        have h4 := of_decide_eq_false h3.2
        omega
    · have e' : (fewT t1 n1 (s - s').toNat k && !btw d (min h (w : Int) - s').toNat k) = true := e
      rw [Bool.and_eq_true] at e'
      have := tlow k e'.1
      omega
  · have hkf : k < (-s').toNat := by omega
    unfold bentB
    split
    · show (((cb t1 n1 (s - s').toNat).2 k || decide (k < (-s').toNat)) && !btw (min h (w : Int) - s').toNat d k) = true
      rw [decide_eq_true hkf, Bool.or_true]
      have : btw (min h (w : Int) - s').toNat d k = false := decide_eq_false (by omega)
      rw [this]
      rfl
    · show (((cb t1 n1 (s - s').toNat).2 k || decide (k < (-s').toNat)) || _) = true
      rw [decide_eq_true hkf]
      simp
  · unfold bentB at e
    have hN : ∀ k, fewN t1 n1 (s - s').toNat (-s').toNat k = true → k < D := fun k e => by
      have e' : ((cb t1 n1 (s - s').toNat).2 k || decide (k < (-s').toNat)) = true := e
      rw [Bool.or_eq_true] at e'
      rcases e' with e' | e'
      · exact nd1 k (cb_subN _ _ _ k e')
      · have := of_decide_eq_true e'
        omega
    split at e
    · have e' : (fewN t1 n1 (s - s').toNat (-s').toNat k && !btw (min h (w : Int) - s').toNat d k) = true := e
      rw [Bool.and_eq_true] at e'
      exact hN k e'.1
    · have e' : (fewN t1 n1 (s - s').toNat (-s').toNat k || (btw d (min h (w : Int) - s').toNat k && !fewT t1 n1 (s - s').toNat k)) = true := e
      rw [Bool.or_eq_true, Bool.and_eq_true] at e'
      rcases e' with e' | ⟨e1, _⟩
      · exact hN k e'
      · have := of_decide_eq_true e1
        omega
  · show Fr (s - s').toNat P1 (if k' < (-s').toNat then (-s').toNat else k') + (An s' w k' - An s' (min h w) k') ≤ _
    rw [if_neg (show ¬ k' < (-s').toNat by omega)]
    have f1 := (F k').1 k
    have f2 := a1 k
    unfold An at f1 ⊢
    omega
  · obtain ⟨k0, g1, g2, g3⟩ := (F k').2
    obtain ⟨j, g4, g5⟩ := b1 k0
    refine up_to I (j := j) ?_
    show _ ≤ Fr (s - s').toNat P1 (if k' < (-s').toNat then (-s').toNat else k') + (An s' w k' - An s' (min h w) k')
    rw [if_neg (show ¬ k' < (-s').toNat by omega), g3, g5]
    have m1 := an_mono s (min h w) g4
    unfold An at m1 ⊢
    omega
end Mx

set_option maxHeartbeats 4000000
/-! Mr: a line with more ins; the cheapest pair. -/
namespace Mx
def slopeB (n : Nat → Bool) (b : Nat) : Nat → Bool := fun k => n k && decide (k < b)
def levelB (n : Nat → Bool) (b : Nat) : Nat → Bool := fun k => n k && decide (b ≤ k)
def morN (t n : Nat → Bool) (by_ b : Nat) : Nat → Bool := fun k => levelB n b k || (cb t (slopeB n b) by_).2 (k + by_)
theorem line_M {D c : Nat} {t n : Nat → Bool} {s h : Int} {P : Nat → Int} (I : Pr D c t n s h P) {d w L : Nat} (hL : ∀ j, L ≤ j → n j = false) (hd : d ≤ D) {s' : Int} (hs' : s' = (w : Int) - d) (hs : s ≤ s') {t1 n1 : Nat → Bool} (ht1 : (t1, n1) = lowI t n s h w L) :
    ∃ P', Pr D (c + cnt (s' - s).toNat (cb t1 (slopeB n1 (min h w - s).toNat) (s' - s).toNat).2) (bentB (cb t1 (slopeB n1 (min h w - s).toNat) (s' - s).toNat).1 (morN t1 n1 (s' - s).toNat (min h w - s).toNat) (min h w - s).toNat d).1 (bentB (cb t1 (slopeB n1 (min h w - s).toNat) (s' - s).toNat).1 (morN t1 n1 (s' - s).toNat (min h w - s).toNat) (min h w - s).toNat d).2 s' w P' ∧ Nx s h s' w P P' := by
  obtain ⟨P1, r1, a1, b1, tl1, nl1, nd1, C⟩ := low_I I w L hL
  rw [← ht1] at r1 tl1 nl1 nd1
  simp only at r1 tl1 nl1 nd1
  have h0 := I.h0
  have d0 := I.d0
  have dD := I.dD
  have hm0 : s ≤ min h (w : Int) := by omega
  have hb : (((min h (w : Int) - s).toNat : Nat) : Int) = min h w - s := by omega
  generalize hbe : (min h (w : Int) - s).toNat = b at hb
  have en : n1 = fun k => levelB n1 b k || slopeB n1 b k := by
    funext k
    show n1 k = ((n1 k && decide (b ≤ k)) || (n1 k && decide (k < b)))
    by_cases hk : b ≤ k
    · rw [decide_eq_true hk, decide_eq_false (show ¬ k < b by omega)]
      simp
    · rw [decide_eq_false hk, decide_eq_true (show k < b by omega)]
      simp
  have r1' : Rep c t1 (fun k => levelB n1 b k || slopeB n1 b k) P1 := by rw [← en]; exact r1
  have tb : ∀ k, t1 k = true → k < b := fun k e => by have := (tl1 k e).2; omega
  have sb : ∀ k, slopeB n1 b k = true → k < b := fun k e => by
    have e' : (n1 k && decide (k < b)) = true := e
    rw [Bool.and_eq_true] at e'
    exact of_decide_eq_true e'.2
  have lb : ∀ k, levelB n1 b k = true → b ≤ k := fun k e => by
    have e' : (n1 k && decide (b ≤ k)) = true := e
    rw [Bool.and_eq_true] at e'
    exact of_decide_eq_true e'.2
  have R := gr_rep r1' tb sb lb (s' - s).toNat
  have M := more_ok C hs hb
  have R2 : Rep ((c + cnt (s' - s).toNat (cb t1 (slopeB n1 b) (s' - s).toNat).2 : Nat) : Int) (cb t1 (slopeB n1 b) (s' - s).toNat).1 (morN t1 n1 (s' - s).toNat b) (Gr b (s' - s).toNat P1) := by
    refine ⟨?_, R.step, R.dis⟩
    rw [R.zero]
    omega
  have tlow : ∀ k : Nat, (cb t1 (slopeB n1 b) (s' - s).toNat).1 k = true → -s ≤ (k : Int) ∧ k < b := fun k e => by
    have h1 := cb_subT _ _ _ _ e
    exact ⟨(tl1 k h1).1, tb k h1⟩
  have nsub : ∀ k : Nat, morN t1 n1 (s' - s).toNat b k = true → (b ≤ k ∧ n1 k = true) ∨ (k + (s' - s).toNat < b ∧ n1 (k + (s' - s).toNat) = true) := fun k e => by
    have e' : (levelB n1 b k || (cb t1 (slopeB n1 b) (s' - s).toNat).2 (k + (s' - s).toNat)) = true := e
    rw [Bool.or_eq_true] at e'
    rcases e' with e' | e'
    · have e2 : (n1 k && decide (b ≤ k)) = true := e'
      rw [Bool.and_eq_true] at e2
      exact .inl ⟨of_decide_eq_true e2.2, e2.1⟩
    · have e1 := cb_subN _ _ _ _ e'
      have e2 : (n1 (k + (s' - s).toNat) && decide (k + (s' - s).toNat < b)) = true := e1
      rw [Bool.and_eq_true] at e2
      exact .inr ⟨of_decide_eq_true e2.2, e2.1⟩
  have R3 := bent_rep (s' := s') (m' := min h w + (s' - s)) (w := w) (bend := b) (d := d) R2 (by omega) (by omega) (fun k e => (tlow k e).2) (fun k h1 h2 => by
    cases e : morN t1 n1 (s' - s).toNat b k with
    | false => rfl
    | true =>
      rcases nsub k e with ⟨g1, _⟩ | ⟨g1, _⟩
      · omega
      · omega)
  refine ⟨_, ⟨R3, by omega, by omega, by omega, fun k e => ?_, fun k hk => ?_, fun k e => ?_⟩, fun k k' hk' => ?_, fun k' hk' => ?_⟩
  · unfold bentB at e
    split at e
    · have e' : ((cb t1 (slopeB n1 b) (s' - s).toNat).1 k || (btw b d k && !morN t1 n1 (s' - s).toNat b k)) = true := e
      rw [Bool.or_eq_true, Bool.and_eq_true] at e'
      rcases e' with e' | ⟨e1, e2⟩
      · have := tlow k e'
        omega
      · have h1 := of_decide_eq_true e1
        omega
    · have e' : ((cb t1 (slopeB n1 b) (s' - s).toNat).1 k && !btw d b k) = true := e
      rw [Bool.and_eq_true] at e'
      have h1 := tlow k e'.1
      have h2 : btw d b k = false := by simpa using e'.2
      have h3 := of_decide_eq_false h2
      omega
  · have key : morN t1 n1 (s' - s).toNat b k = true := by
      have h1 := nl1 (k + (s' - s).toNat) (by omega)
      have h2 : slopeB n1 b (k + (s' - s).toNat) = true := by
        show (n1 (k + (s' - s).toNat) && decide (k + (s' - s).toNat < b)) = true
        rw [h1, decide_eq_true (by omega)]
        rfl
      show (levelB n1 b k || (cb t1 (slopeB n1 b) (s' - s).toNat).2 (k + (s' - s).toNat)) = true
      rw [cb_stay t1 (slopeB n1 b) (fun i hi => by
        cases e : t1 i with
        | false => rfl
        | true => have := (tl1 i e).1; omega) (s' - s).toNat, h2]
      simp
    unfold bentB
    split
    · show (morN t1 n1 (s' - s).toNat b k && !btw b d k) = true
      rw [key]
      have : btw b d k = false := decide_eq_false (by omega)
      rw [this]
      rfl
    · show (morN t1 n1 (s' - s).toNat b k || _) = true
      rw [key]
      rfl
  · have hN : ∀ k, morN t1 n1 (s' - s).toNat b k = true → k < D := fun k e => by
      rcases nsub k e with ⟨_, g2⟩ | ⟨_, g2⟩
      · exact nd1 k g2
      · have := nd1 _ g2
        omega
    unfold bentB at e
    split at e
    · have e' : (morN t1 n1 (s' - s).toNat b k && !btw b d k) = true := e
      rw [Bool.and_eq_true] at e'
      exact hN k e'.1
    · have e' : (morN t1 n1 (s' - s).toNat b k || (btw d b k && !(cb t1 (slopeB n1 b) (s' - s).toNat).1 k)) = true := e
      rw [Bool.or_eq_true, Bool.and_eq_true] at e'
      rcases e' with e' | ⟨e1, _⟩
      · exact hN k e'
      · have := of_decide_eq_true e1
        omega
  · show Gr b (s' - s).toNat P1 k' + (An s' w k' - An s' (min h w + (s' - s)) k') ≤ _
    have f1 := (M k').1 k
    have f2 := a1 k
    unfold An at f1 ⊢
    omega
  · obtain ⟨k0, g1, g2, g2a, g2b, g3⟩ := (M k').2
    obtain ⟨j, g4, g5⟩ := b1 k0
    refine up_to I (j := j) ?_
    show _ ≤ Gr b (s' - s).toNat P1 k' + (An s' w k' - An s' (min h w + (s' - s)) k')
    rw [g3, g5]
    have m1 := an_mono s (min h w) g4
    unfold An at m1 ⊢
    by_cases hkb : k' ≤ b
    · have := g2a hkb
      omega
    · have := g2b (by omega)
      subst this
      omega
/-! ### the cheapest pair of a line below outs and ins -/
def clampB (t : Nat → Bool) (lo hi : Nat) : Nat → Bool := fun k => t k && btw lo hi k
theorem pair_ok {D c : Nat} {t n : Nat → Bool} {s h : Int} {P : Nat → Int} (I : Pr D c t n s h P) (o i : Nat) {lo hi best few : Nat}
    (hlo : (lo : Int) = max 0 (min (o : Int) (min (i : Int) h - s))) (hhi : (hi : Int) = max (o : Int) (min (i : Int) h - s)) {Lg : Nat} (hLg : ∀ j, Lg ≤ j → (cb (clampB t lo hi) (clampB n lo hi) hi).2 j = false) (hLg1 : Lg = 0 ∨ (cb (clampB t lo hi) (clampB n lo hi) hi).2 (Lg - 1) = true)
    (hbest : best = max lo Lg) (hfew : few ≤ best) (hf1 : ∀ k, few ≤ k → k < best → t k = true) (hf2 : few = 0 ∨ t (few - 1) = false) :
    -s ≤ (few : Int) ∧ few ≤ hi ∧ ∀ k : Nat, P few + max 0 ((o : Int) - few) + max 0 ((i : Int) - An s h few) ≤ P k + max 0 ((o : Int) - k) + max 0 ((i : Int) - An s h k) := by
  have h0 := I.h0
  have d0 := I.d0
  have eA : ∀ k : Nat, max 0 ((i : Int) - An s h k) = max 0 ((i : Int) - h) + max 0 ((min (i : Int) h - s) - k) := fun k => by unfold An; omega
  have lohi : lo ≤ hi := by omega
  have dis : ∀ k, clampB t lo hi k = true → clampB n lo hi k = false := fun k e => by
    have e' : (t k && btw lo hi k) = true := e
    rw [Bool.and_eq_true] at e'
    show (n k && btw lo hi k) = false
    rw [I.rep.dis k e'.1]
    rfl
  have Rb : Rep 0 (clampB t lo hi) (clampB n lo hi) (build 0 (clampB t lo hi) (clampB n lo hi)) := build_rep dis
  generalize build 0 (clampB t lo hi) (clampB n lo hi) = Pb at Rb
  have Rf := fr_rep Rb hi
  generalize hg : (cb (clampB t lo hi) (clampB n lo hi) hi).2 = g at hLg hLg1 Rf
  have glo : ∀ k, g k = true → lo ≤ k ∧ k < hi := fun k e => by
    rw [← hg] at e
    have e1 := cb_subN _ _ _ _ e
    have e2 : (n k && btw lo hi k) = true := e1
    rw [Bool.and_eq_true] at e2
    have := of_decide_eq_true e2.2
    omega
  have hLhi : Lg ≤ hi := by
    rcases hLg1 with e | e
    · omega
    · have := (glo _ e).2
      omega
  have bhi : best ≤ hi := by omega
  -- the running least
  have Mle : ∀ k j : Nat, k ≤ hi → j ≤ k → Fr hi Pb k ≤ Pb j + ((k : Int) - j) := fun k j hk hj => by
    have := fr_le Pb hi k (k - j) (by omega) (by omega)
    have e : k - (k - j) = j := by omega
    rw [e] at this
    omega
  have noT : ∀ k, k < hi → (decide (hi ≤ k) && (cb (clampB t lo hi) (clampB n lo hi) hi).1 (k - hi)) = false := fun k hk => by
    rw [decide_eq_false (by omega)]
    rfl
  have Fstep : ∀ k, k < hi → Fr hi Pb (k + 1) = Fr hi Pb k + 1 - bi (g k) := fun k hk => by
    have := Rf.step k
    rw [noT k hk] at this
    simp only [bi_f] at this
    omega
  have Fafter : ∀ j : Nat, best + j ≤ hi → Fr hi Pb (best + j) = Fr hi Pb best + j := fun j => by
    induction j with
    | zero => intro _; simp
    | succ j ih =>
      intro hj
      have h1 := Fstep (best + j) (by omega)
      have h2 := ih (by omega)
      have h3 := hLg (best + j) (by omega)
      rw [h3] at h1
      simp only [bi_f] at h1
      have e : best + (j + 1) = best + j + 1 := by omega
      rw [e]
      omega
  have Fbest : Fr hi Pb best = Pb best := by
    obtain ⟨j, g1, g2, g3⟩ := fr_get Pb hi best
    have h1 := Mle best best bhi (Nat.le_refl _)
    by_cases hz : Lg ≤ lo
    · -- best = lo: below lo all steps are 1
      have eb : best = lo := by omega
      have flat : ∀ k : Nat, k ≤ lo → Pb k = k := fun k => by
        induction k with
        | zero => intro _; rw [Rb.zero]; rfl
        | succ k ih =>
          intro hk
          have s0 := Rb.step k
          have b0 : btw lo hi k = false := decide_eq_false (by omega)
          have x : clampB t lo hi k = false := by show (t k && btw lo hi k) = false; rw [b0, Bool.and_false]
          have y : clampB n lo hi k = false := by show (n k && btw lo hi k) = false; rw [b0, Bool.and_false]
          rw [x, y, ih (by omega)] at s0
          simp only [bi_f] at s0
          omega
      rw [g3, flat (best - j) (by omega), flat best (by omega)]
      omega
    · have eb : best = Lg := by omega
      have gt : g (best - 1) = true := by
        rcases hLg1 with e | e
        · omega
        · rw [eb]; exact e
      have h2 := Fstep (best - 1) (by omega)
      have e1 : best - 1 + 1 = best := by omega
      rw [e1, gt] at h2
      simp only [bi_t] at h2
      cases j with
      | zero => rw [g3]; simp
      | succ j =>
        have h3 := Mle (best - 1) (best - (j + 1)) (by omega) (by omega)
        omega
  have bmin : ∀ k, k ≤ hi → Pb best - best ≤ Pb k - k := fun k hk => by
    by_cases hb : k ≤ best
    · have := Mle best k bhi hb
      rw [Fbest] at this
      omega
    · obtain ⟨j, e⟩ := Nat.exists_eq_add_of_le (show best ≤ k by omega)
      have h1 := Fafter j (by omega)
      rw [Fbest, ← e] at h1
      have h2 := Mle k k hk (Nat.le_refl _)
      omega
  -- the same with all twos and noughts, between lo and hi
  have same : ∀ k, lo ≤ k → k ≤ hi → P k - P lo = Pb k - Pb lo := fun k h1 h2 => by
    obtain ⟨j, e⟩ := Nat.exists_eq_add_of_le h1
    have := steps_eq I.rep Rb (a := lo) j fun i' g1 g2 => by
      have b1 : btw lo hi i' = true := decide_eq_true ⟨g1, by omega⟩
      refine ⟨?_, ?_⟩
      · show t i' = (t i' && btw lo hi i')
        rw [b1, Bool.and_true]
      · show n i' = (n i' && btw lo hi i')
        rw [b1, Bool.and_true]
    rw [e]
    exact this
  have lob : lo ≤ best := by omega
  have mono : ∀ k j : Nat, P k ≤ P (k + j) := fun k j => by
    induction j with
    | zero => simp
    | succ j ih =>
      have s0 := I.rep.step (k + j)
      have d1 := I.rep.dis (k + j)
      have e : k + (j + 1) = k + j + 1 := by omega
      rw [e]
      cases e1 : t (k + j) <;> cases e2 : n (k + j) <;> rw [e1, e2] at s0 <;> simp [bi] at s0 <;> omega
  have step2 : ∀ k j : Nat, P (k + j) ≤ P k + 2 * j := fun k j => by
    induction j with
    | zero => simp
    | succ j ih =>
      have s0 := I.rep.step (k + j)
      have e : k + (j + 1) = k + j + 1 := by omega
      rw [e]
      have := bi_01 (t (k + j))
      have := bi_01 (n (k + j))
      omega
  -- best is the cheapest
  have Gbest : ∀ k : Nat, P best + max 0 ((o : Int) - best) + max 0 ((min (i : Int) h - s) - best) ≤ P k + max 0 ((o : Int) - k) + max 0 ((min (i : Int) h - s) - k) := fun k => by
    have mid : ∀ k : Nat, lo ≤ k → k ≤ hi → P best + max 0 ((o : Int) - best) + max 0 ((min (i : Int) h - s) - best) ≤ P k + max 0 ((o : Int) - k) + max 0 ((min (i : Int) h - s) - k) := fun k h1 h2 => by
      have e1 := same k h1 h2
      have e2 := same best lob bhi
      have e3 := bmin k h2
      omega
    by_cases h1 : k < lo
    · have h2 := mid lo (Nat.le_refl _) lohi
      obtain ⟨j, e⟩ := Nat.exists_eq_add_of_le (show k ≤ lo by omega)
      have h3 := step2 k j
      rw [← e] at h3
      omega
    · by_cases h2 : k ≤ hi
      · exact mid k (by omega) h2
      · have h3 := mid hi lohi (Nat.le_refl _)
        obtain ⟨j, e⟩ := Nat.exists_eq_add_of_le (show hi ≤ k by omega)
        have h4 := mono hi j
        rw [← e] at h4
        omega
  -- down through twos
  have down : ∀ j : Nat, few + j ≤ best → (∀ k, few ≤ k → k < few + j → t k = true) → P (few + j) = P few + 2 * j := fun j => by
    induction j with
    | zero => intro _ _; simp
    | succ j ih =>
      intro hj hk
      have h1 := ih (by omega) fun k a b => hk k a (by omega)
      have h2 := hk (few + j) (by omega) (by omega)
      have s0 := I.rep.step (few + j)
      rw [h2, I.rep.dis _ h2] at s0
      simp only [bi_t, bi_f] at s0
      have e : few + (j + 1) = few + j + 1 := by omega
      rw [e]
      omega
  have fl : few = best ∨ best = lo := by
    by_cases e : few = best
    · exact .inl e
    · right
      by_cases hz : Lg ≤ lo
      · omega
      · exfalso
        have eb : best = Lg := by omega
        have gt : g (best - 1) = true := by
          rcases hLg1 with e | e
          · omega
          · rw [eb]; exact e
        have ht := hf1 (best - 1) (by omega) (by omega)
        rw [← hg] at gt
        have e1 := cb_subN _ _ _ _ gt
        have e2 : (n (best - 1) && btw lo hi (best - 1)) = true := e1
        rw [Bool.and_eq_true, I.rep.dis _ ht] at e2
        exact absurd e2.1 (by decide)
  have Gfew : P few + max 0 ((o : Int) - few) + max 0 ((min (i : Int) h - s) - few) = P best + max 0 ((o : Int) - best) + max 0 ((min (i : Int) h - s) - best) := by
    rcases fl with e | e
    · rw [e]
    · obtain ⟨j, e2⟩ := Nat.exists_eq_add_of_le hfew
      have := down j (by omega) fun k a b => hf1 k a (by omega)
      rw [← e2] at this
      omega
  refine ⟨?_, by omega, fun k => ?_⟩
  · -- no less outs than may be
    by_cases hs0 : 0 ≤ s
    · omega
    · have hbf : -s ≤ (best : Int) := by
        by_cases ho : -s ≤ (o : Int)
        · omega
        · have hgk : g ((-s).toNat - 1) = true := by
            rw [← hg, cb_stay _ _ (fun i' hi' => by
              show (t i' && btw lo hi i') = false
              cases e : t i' with
              | false => rfl
              | true => have := (I.tl i' e).1; omega) hi]
            show (n ((-s).toNat - 1) && btw lo hi ((-s).toNat - 1)) = true
            rw [I.nl _ (by omega), show btw lo hi ((-s).toNat - 1) = true from decide_eq_true ⟨by omega, by omega⟩]
            rfl
          have : (-s).toNat - 1 < Lg := by
            cases Nat.lt_or_ge ((-s).toNat - 1) Lg with
            | inl h => exact h
            | inr h => rw [hLg _ h] at hgk; cases hgk
          omega
      by_cases hc : -s ≤ (few : Int)
      · exact hc
      · exfalso
        have ht := hf1 ((-s).toNat - 1) (by omega) (by omega)
        have := I.rep.dis _ ht
        rw [I.nl _ (by omega)] at this
        cases this
  · rw [eA, eA]
    have := Gbest k
    omega
end Mx

set_option maxHeartbeats 4000000
/-! Ms: the bits as numbers. -/
namespace Mx
/-- after r rounds -/
def cn (t n : Nat) : Nat → Nat × Nat
  | 0 => (t, n)
  | r + 1 => ((cn t n r).1 ^^^ ((((cn t n r).1 <<< (r + 1)) &&& (cn t n r).2) >>> (r + 1)), (cn t n r).2 ^^^ (((cn t n r).1 <<< (r + 1)) &&& (cn t n r).2))
theorem cn_bits (t n : Nat) : ∀ r k, (cn t n r).1.testBit k = (cb t.testBit n.testBit r).1 k ∧ (cn t n r).2.testBit k = (cb t.testBit n.testBit r).2 k
  | 0, k => ⟨rfl, rfl⟩
  | r + 1, k => by
    have ih := cn_bits t n r
    constructor
    · show ((cn t n r).1 ^^^ ((((cn t n r).1 <<< (r + 1)) &&& (cn t n r).2) >>> (r + 1))).testBit k = ((cb t.testBit n.testBit r).1 k && !((cb t.testBit n.testBit r).2 (k + (r + 1))))
      rw [Nat.testBit_xor, Nat.testBit_shiftRight, Nat.testBit_and, Nat.testBit_shiftLeft, (ih _).1, (ih _).1, (ih _).2]
      have e : r + 1 + k - (r + 1) = k := by omega
      have e2 : r + 1 + k = k + (r + 1) := by omega
      rw [e, e2]
      have e3 : decide (k + (r + 1) ≥ r + 1) = true := decide_eq_true (by omega)
      rw [e3]
      cases (cb t.testBit n.testBit r).1 k <;> cases (cb t.testBit n.testBit r).2 (k + (r + 1)) <;> rfl
    · show ((cn t n r).2 ^^^ (((cn t n r).1 <<< (r + 1)) &&& (cn t n r).2)).testBit k = ((cb t.testBit n.testBit r).2 k && !(decide (r + 1 ≤ k) && (cb t.testBit n.testBit r).1 (k - (r + 1))))
      rw [Nat.testBit_xor, Nat.testBit_and, Nat.testBit_shiftLeft, (ih _).1, (ih _).2]
      show _ = ((cb t.testBit n.testBit r).2 k && !(decide (k ≥ r + 1) && (cb t.testBit n.testBit r).1 (k - (r + 1))))
      cases decide (k ≥ r + 1) <;> cases (cb t.testBit n.testBit r).1 (k - (r + 1)) <;> cases (cb t.testBit n.testBit r).2 k <;> rfl
theorem lt_of_bits {x b : Nat} (h : ∀ k, x.testBit k = true → k < b) : x < 2 ^ b := Nat.lt_pow_two_of_testBit x fun k hk => by
  cases e : x.testBit k with
  | false => rfl
  | true => have := h k e; omega
theorem bits_lt {x b : Nat} (h : x < 2 ^ b) {k : Nat} (e : x.testBit k = true) : k < b := by
  cases Nat.lt_or_ge k b with
  | inl h' => exact h'
  | inr h' =>
    have := Nat.testBit_lt_two_pow (Nat.lt_of_lt_of_le h (Nat.pow_le_pow_right (by decide) h'))
    rw [this] at e
    cases e
theorem cn_lt1 {t n b : Nat} (h : t < 2 ^ b) (r : Nat) : (cn t n r).1 < 2 ^ b := lt_of_bits fun k e => by
  rw [(cn_bits t n r k).1] at e
  exact bits_lt h (cb_subT _ _ _ _ e)
theorem cn_lt2 {t n b : Nat} (h : n < 2 ^ b) (r : Nat) : (cn t n r).2 < 2 ^ b := lt_of_bits fun k e => by
  rw [(cn_bits t n r k).2] at e
  exact bits_lt h (cb_subN _ _ _ _ e)
/-- where no nought lies above a two nothing happens -/
theorem cn_none {t n p : Nat} (ht : ∀ k, t.testBit k = true → p ≤ k) (hn : n ≤ 2 ^ p) : ∀ r, cn t n r = (t, n)
  | 0 => rfl
  | r + 1 => by
    have z : (t <<< (r + 1)) &&& n = 0 := Nat.eq_of_testBit_eq fun k => by
      rw [Nat.testBit_and, Nat.testBit_shiftLeft, Nat.zero_testBit]
      by_cases hk : r + 1 ≤ k
      · cases e : t.testBit (k - (r + 1)) with
        | false => simp
        | true =>
          have h1 := ht _ e
          have : n < 2 ^ k := Nat.lt_of_le_of_lt hn (Nat.pow_lt_pow_right (by decide) (by omega))
          rw [Nat.testBit_lt_two_pow this]
          simp
      · simp [show ¬ k ≥ r + 1 by omega]
    show ((cn t n r).1 ^^^ ((((cn t n r).1 <<< (r + 1)) &&& (cn t n r).2) >>> (r + 1)), (cn t n r).2 ^^^ (((cn t n r).1 <<< (r + 1)) &&& (cn t n r).2)) = (t, n)
    rw [cn_none ht hn r]
    show (t ^^^ (((t <<< (r + 1)) &&& n) >>> (r + 1)), n ^^^ ((t <<< (r + 1)) &&& n)) = (t, n)
    rw [z]
    simp
/-- every number but 0 has a lowest bit -/
theorem low_bit : ∀ t : Nat, t ≠ 0 → ∃ p a, t = 2 ^ p * (2 * a + 1) := by
  intro t
  induction t using Nat.strongRecOn with
  | ind t ih =>
    intro h
    by_cases h2 : t % 2 = 0
    · obtain ⟨p, a, e⟩ := ih (t / 2) (by omega) (by omega)
      refine ⟨p + 1, a, ?_⟩
      rw [Nat.pow_succ, Nat.mul_assoc, Nat.mul_comm 2, ← Nat.mul_assoc, ← e]
      omega
    · exact ⟨0, t / 2, by omega⟩
theorem low_bits {p a k : Nat} (h : (2 ^ p * (2 * a + 1)).testBit k = true) : p ≤ k := by
  rw [Nat.testBit_two_pow_mul] at h
  rw [Bool.and_eq_true] at h
  exact of_decide_eq_true h.1
/-! numbers made of bits -/
def andn (a b : Nat) : Nat := a ^^^ (a &&& b)
theorem andn_bit (a b k : Nat) : (andn a b).testBit k = (a.testBit k && !b.testBit k) := by
  unfold andn
  rw [Nat.testBit_xor, Nat.testBit_and]
  cases a.testBit k <;> cases b.testBit k <;> rfl
def msk (k : Nat) : Nat := 2 ^ k - 1
theorem msk_bit (k i : Nat) : (msk k).testBit i = decide (i < k) := Nat.testBit_two_pow_sub_one k i
def btwN (a b : Nat) : Nat := 2 ^ b - 2 ^ a
theorem btwN_bit {a b : Nat} (h : a ≤ b) (k : Nat) : (btwN a b).testBit k = btw a b k := by
  have e : btwN a b = (msk (b - a)) <<< a := by
    unfold btwN msk
    rw [Nat.shiftLeft_eq, Nat.sub_mul, ← Nat.pow_add, show b - a + a = b by omega, Nat.one_mul]
  rw [e, Nat.testBit_shiftLeft, msk_bit]
  unfold btw
  by_cases h1 : a ≤ k
  · simp [h1]
    omega
  · simp [h1]
def lvl (n b : Nat) : Nat := (n >>> b) <<< b
theorem lvl_bit (n b k : Nat) : (lvl n b).testBit k = (n.testBit k && decide (b ≤ k)) := by
  unfold lvl
  rw [Nat.testBit_shiftLeft, Nat.testBit_shiftRight]
  by_cases h : b ≤ k
  · simp [h]
  · simp [h]
theorem xlvl_bit (n b k : Nat) : (n ^^^ lvl n b).testBit k = (n.testBit k && decide (k < b)) := by
  rw [Nat.testBit_xor, lvl_bit]
  by_cases h : b ≤ k
  · rw [decide_eq_true h, decide_eq_false (show ¬ k < b by omega)]
    cases n.testBit k <;> rfl
  · rw [decide_eq_false h, decide_eq_true (show k < b by omega)]
    cases n.testBit k <;> rfl
/-- how many bits -/
def bl (n : Nat) : Nat := if n = 0 then 0 else n.log2 + 1
theorem bl_after {n j : Nat} (h : bl n ≤ j) : n.testBit j = false := by
  unfold bl at h
  split at h
  · rename_i e
    rw [e, Nat.zero_testBit]
  · exact Nat.testBit_lt_two_pow (Nat.lt_of_lt_of_le Nat.lt_log2_self (Nat.pow_le_pow_right (by decide) h))
theorem bl_top (n : Nat) : bl n = 0 ∨ n.testBit (bl n - 1) = true := by
  unfold bl
  split
  · exact .inl rfl
  · rename_i h
    right
    rw [show n.log2 + 1 - 1 = n.log2 by omega]
    exact Nat.testBit_log2 h
theorem bl_le {n b : Nat} (h : n < 2 ^ b) : bl n ≤ b := by
  rcases bl_top n with e | e
  · omega
  · have := bits_lt h e
    omega
/-! counting -/
def popS : Nat → Nat → Nat
  | 0, _ => 0
  | k + 1, n => n % 2 + popS k (n / 2)
theorem pop_S : ∀ (k n : Nat), n < 2 ^ k → Pq.pop n = popS k n
  | 0, n, h => by
    have e : n = 0 := by simpa using h
    subst e
    rfl
  | k + 1, n, h => by
    rw [Pq.pop_half, pop_S k (n / 2) (by rw [Nat.pow_succ] at h; omega)]
    show _ = n % 2 + popS k (n / 2)
    omega
/-- the same from below -/
def sumB : Nat → (Nat → Bool) → Nat
  | 0, _ => 0
  | k + 1, s => sumB k s + (if s k = true then 1 else 0)
theorem sumB_succ (s : Nat → Bool) : ∀ k, sumB (k + 1) s = (if s 0 = true then 1 else 0) + sumB k fun i => s (i + 1)
  | 0 => (Nat.zero_add _).trans (Nat.add_zero _).symm
  | k + 1 => by
    show sumB (k + 1) s + (if s (k + 1) = true then 1 else 0) = _
    rw [sumB_succ s k]
    show _ = _ + (sumB k (fun i => s (i + 1)) + (if s (k + 1) = true then 1 else 0))
    omega
theorem popS_sum : ∀ (k n : Nat), popS k n = sumB k n.testBit
  | 0, _ => rfl
  | k + 1, n => by
    rw [sumB_succ]
    show n % 2 + popS k (n / 2) = _
    rw [popS_sum k (n / 2)]
    have e1 : (if n.testBit 0 = true then 1 else 0) = n % 2 := by
      rw [Nat.testBit_zero]
      by_cases h : n % 2 = 1
      · simp [h]
      · simp [h]
        omega
    have e2 : (n / 2).testBit = fun i => n.testBit (i + 1) := by
      funext i
      rw [Nat.testBit_add_one]
    rw [e1, e2]
theorem sumB_cnt (n : Nat) (f : Nat → Bool) : ∀ k, (∀ i, i < k → f i = !n.testBit i) → sumB k f = cnt k n.testBit
  | 0, _ => rfl
  | k + 1, h => by
    show sumB k f + _ = cnt k n.testBit + _
    rw [sumB_cnt n f k fun i hi => h i (by omega), h k (by omega)]
    cases n.testBit k <;> rfl
theorem paid (m n : Nat) : Pq.pop (andn (msk m) n) = cnt m n.testBit := by
  have hb : ∀ k, (andn (msk m) n).testBit k = (decide (k < m) && !n.testBit k) := fun k => by rw [andn_bit, msk_bit]
  rw [pop_S m _ (lt_of_bits fun k e => by
    rw [hb, Bool.and_eq_true] at e
    exact of_decide_eq_true e.1), popS_sum]
  refine sumB_cnt n _ m fun i hi => ?_
  rw [hb, decide_eq_true hi, Bool.true_and]
theorem cnt_le : ∀ (r : Nat) (s : Nat → Bool), cnt r s ≤ r
  | 0, _ => Nat.le_refl _
  | r + 1, s => by
    have := cnt_le r s
    unfold cnt
    split <;> omega
end Mx

set_option maxHeartbeats 4000000
/-! Mt: the prices of all lines, and the distance. -/
namespace Mx
/-- what a line's prices are kept as -/
structure Pv where
  c : Nat
  t : Nat
  n : Nat
  s : Int
  h : Nat
def PrN (D : Nat) (v : Pv) (P : Nat → Int) : Prop := Pr D v.c v.t.testBit v.n.testBit v.s v.h P
def v0 : Pv := ⟨0, 0, 0, 0, 0⟩
theorem pr0 (D : Nat) : PrN D v0 (fun k => (k : Int)) := by
  refine ⟨⟨rfl, fun k => ?_, fun k e => ?_⟩, Int.le_refl _, Int.le_refl _, ?_, fun k e => ?_, fun k hk => ?_, fun k e => ?_⟩
  · show ((k + 1 : Nat) : Int) = (k : Int) + 1 + bi ((0 : Nat).testBit k) - bi ((0 : Nat).testBit k)
    omega
  · have e' : (0 : Nat).testBit k = true := e
    rw [Nat.zero_testBit] at e'
    cases e'
  · show (0 : Int) - 0 ≤ D
    omega
  · have e' : (0 : Nat).testBit k = true := e
    rw [Nat.zero_testBit] at e'
    cases e'
  · have hk' : (k : Int) < -0 := hk
    omega
  · have e' : (0 : Nat).testBit k = true := e
    rw [Nat.zero_testBit] at e'
    cases e'
/-- the prices of the lines ls (depth, wished depth), the top line's the last -/
def Chn (D : Nat) : List (Nat × Nat) → List Pv → Pv → (Nat → Int) → Prop
  | [], vs, v, P => vs = [v0] ∧ v = v0 ∧ P = fun k : Nat => (k : Int)
  | (d, w) :: ls, vs, v, P => ∃ vs1 v1 P1, Chn D ls vs1 v1 P1 ∧ vs = vs1 ++ [v] ∧ v.s = (w : Int) - d ∧ v.h = w ∧ PrN D v P ∧ Nx v1.s v1.h v.s v.h P1 P
theorem Chn.pr {D : Nat} : ∀ {ls : List (Nat × Nat)} {vs : List Pv} {v : Pv} {P : Nat → Int}, Chn D ls vs v P → PrN D v P
  | [], _, _, _, h => by
    obtain ⟨_, rfl, rfl⟩ := h
    exact pr0 D
  | (_, _) :: _, _, _, _, h => by
    obtain ⟨_, _, _, _, _, _, _, h, _⟩ := h
    exact h
theorem Chn.last {D : Nat} {ls : List (Nat × Nat)} {vs : List Pv} {v : Pv} {P : Nat → Int} (h : Chn D ls vs v P) : ∃ vs0, vs = vs0 ++ [v] := by
  cases ls with
  | nil =>
    obtain ⟨rfl, rfl, _⟩ := h
    exact ⟨[], rfl⟩
  | cons l ls =>
    obtain ⟨vs1, _, _, _, e, _⟩ := h
    exact ⟨vs1, e⟩
theorem Chn.len {D : Nat} : ∀ {ls : List (Nat × Nat)} {vs : List Pv} {v : Pv} {P : Nat → Int}, Chn D ls vs v P → vs.length = ls.length + 1
  | [], _, _, _, h => by
    obtain ⟨rfl, _, _⟩ := h
    rfl
  | (_, _) :: _, _, _, _, h => by
    obtain ⟨_, _, _, h, rfl, _⟩ := h
    rw [List.length_append, h.len]
    rfl
/-! ### costs from the last line up -/
def hdC : List Ct → Ct
  | [] => (0, 0)
  | c :: _ => c
def cu : List Ct → Nat
  | [] => 0
  | c :: r => climb (hdC r) c + cu r
theorem climb_turn (p c : Ct) : climb p c + p.1 + p.2 = climb c p + c.1 + c.2 := by unfold climb; omega
theorem cst_cu : ∀ (p : Ct) (cs : List Ct), cst p cs + p.1 + p.2 = climb (hdC cs) p + cu cs
  | p, [] => by
    show 0 + p.1 + p.2 = climb (0, 0) p + 0
    unfold climb
    omega
  | p, c :: r => by
    have ih := cst_cu c r
    have t := climb_turn p c
    have e : cst p (c :: r) = climb p c + cst c r := rfl
    rw [e]
    show _ = climb c p + (climb (hdC r) c + cu r)
    omega
theorem cst_up (cs : List Ct) : cst (0, 0) cs = cu cs := by
  have := cst_cu (0, 0) cs
  have e : climb (hdC cs) (0, 0) = 0 := climb_zero _
  rw [e] at this
  omega
/-- the lines that are not free -/
def lnW (l : Nat × Nat) : Ln := (l.1, some l.2)
theorem climb_int (k : Nat) (a : Int) (c : Ct) (q : Ct) (hk : q.1 = k) (ha : (q.2 : Int) = a) : ((climb q c : Nat) : Int) = max 0 ((c.1 : Int) - k) + max 0 ((c.2 : Int) - a) := by
  unfold climb
  omega
/-- a certificate's pair lies on its line's shape -/
theorem fit_shape {d w : Nat} {c : Ct} (h : fit1 (d, some w) c) : -((w : Int) - d) ≤ (c.1 : Int) ∧ (c.2 : Int) = An ((w : Int) - d) w c.1 := by
  have e := h w rfl
  have e' : d - c.1 + c.2 = w := e
  unfold An
  omega
theorem shape_fit {d w : Nat} {c : Ct} (h1 : -((w : Int) - d) ≤ (c.1 : Int)) (h2 : (c.2 : Int) = An ((w : Int) - d) w c.1) : fit1 (d, some w) c := by
  intro x e
  cases e
  unfold An at h2
  show d - c.1 + c.2 = w
  omega
theorem chn_shape {D : Nat} {ls : List (Nat × Nat)} {vs : List Pv} {v : Pv} {P : Nat → Int} (h : Chn D ls vs v P) {cs : List Ct} (f : Fit (ls.map lnW) cs) : -v.s ≤ ((hdC cs).1 : Int) ∧ ((hdC cs).2 : Int) = An v.s v.h (hdC cs).1 := by
  cases ls with
  | nil =>
    obtain ⟨_, rfl, _⟩ := h
    cases cs with
    | nil => exact ⟨by decide, by decide⟩
    | cons c cs => exact f.elim
  | cons l ls =>
    obtain ⟨d, w⟩ := l
    obtain ⟨_, _, _, _, _, e1, e2, _⟩ := h
    cases cs with
    | nil => exact f.elim
    | cons c cs =>
      have := fit_shape f.1
      rw [e1, e2]
      exact this
theorem chn_lower {D : Nat} : ∀ {ls : List (Nat × Nat)} {vs : List Pv} {v : Pv} {P : Nat → Int}, Chn D ls vs v P → ∀ {cs : List Ct}, Fit (ls.map lnW) cs → P (hdC cs).1 ≤ cu cs
  | [], _, _, _, h, cs, f => by
    obtain ⟨_, _, rfl⟩ := h
    cases cs with
    | nil => show ((0 : Nat) : Int) ≤ ((0 : Nat) : Int); omega
    | cons c cs => exact f.elim
  | (d, w) :: ls, vs, v, P, h, cs, f => by
    have h' := h
    obtain ⟨vs1, v1, P1, hc, _, e1, e2, _, nx⟩ := h
    cases cs with
    | nil => exact f.elim
    | cons c r =>
      have ih := chn_lower hc f.2
      have s1 := chn_shape hc f.2
      have s2 := chn_shape h' f
      have k := nx.1 (hdC r).1 c.1 s2.1
      have e := climb_int (hdC r).1 (An v1.s v1.h (hdC r).1) c (hdC r) rfl s1.2
      have s22 : (c.2 : Int) = An v.s v.h c.1 := s2.2
      rw [s22] at e
      show P c.1 ≤ ((climb (hdC r) c + cu r : Nat) : Int)
      omega
theorem chn_get {D : Nat} : ∀ {ls : List (Nat × Nat)} {vs : List Pv} {v : Pv} {P : Nat → Int}, Chn D ls vs v P → ls ≠ [] → ∀ k : Nat, -v.s ≤ (k : Int) → ∃ cs, Fit (ls.map lnW) cs ∧ (hdC cs).1 = k ∧ ((cu cs : Nat) : Int) ≤ P k
  | [], _, _, _, _, hne, _, _ => absurd rfl hne
  | (d, w) :: ls, vs, v, P, h, _, k, hk => by
    obtain ⟨vs1, v1, P1, hc, _, e1, e2, pr, nx⟩ := h
    obtain ⟨j, hj, le⟩ := nx.2 k hk
    have h0 : 0 ≤ An v.s v.h k := by
      unfold An
      omega
    have hfit : fit1 (d, some w) (k, (An v.s v.h k).toNat) := by
      rw [e1] at hk
      refine shape_fit hk ?_
      show ((An v.s v.h k).toNat : Int) = An ((w : Int) - d) w k
      rw [e1, e2] at h0 ⊢
      omega
    cases ls with
    | nil =>
      obtain ⟨_, rfl, rfl⟩ := hc
      refine ⟨[(k, (An v.s v.h k).toNat)], ⟨hfit, trivial⟩, rfl, ?_⟩
      show ((climb (0, 0) (k, (An v.s v.h k).toNat) + 0 : Nat) : Int) ≤ P k
      have e := climb_int 0 0 (k, (An v.s v.h k).toNat) (0, 0) rfl rfl
      have ea : An v0.s v0.h j ≤ 0 := by
        show min ((j : Int) + 0) ((0 : Nat) : Int) ≤ 0
        omega
      simp only at e le
      omega
    | cons l ls =>
      obtain ⟨cs, f, hh, hle⟩ := chn_get hc (by simp) j hj
      have s1 := chn_shape hc f
      refine ⟨(k, (An v.s v.h k).toNat) :: cs, ⟨hfit, f⟩, rfl, ?_⟩
      show ((climb (hdC cs) (k, (An v.s v.h k).toNat) + cu cs : Nat) : Int) ≤ P k
      rw [hh] at s1
      have e := climb_int j (An v1.s v1.h j) (k, (An v.s v.h k).toNat) (hdC cs) hh s1.2
      simp only at e
      omega
theorem chn_dst {D : Nat} {ls : List (Nat × Nat)} {vs : List Pv} {v : Pv} {P : Nat → Int} (h : Chn D ls vs v P) : dst (ls.map lnW) = v.c := by
  have I := h.pr
  have P0 : P 0 = v.c := I.rep.zero
  have mono : ∀ j : Nat, P 0 ≤ P j := fun j => by
    induction j with
    | zero => exact Int.le_refl _
    | succ j ih =>
      have s0 := I.rep.step j
      have d1 := I.rep.dis j
      cases e1 : v.t.testBit j <;> cases e2 : v.n.testBit j <;> rw [e1, e2] at s0 <;> simp [bi] at s0 <;> first | omega | (have := d1 e1; rw [e2] at this; cases this)
  refine Nat.le_antisymm ?_ ?_
  · by_cases hne : ls = []
    · subst hne
      obtain ⟨_, rfl, _⟩ := h
      show dst [] ≤ 0
      rw [dst_nil]
      exact Nat.le_refl _
    · obtain ⟨cs, f, _, hle⟩ := chn_get h hne (-v.s).toNat (by omega)
      have h1 := dst_le f
      rw [cst_up] at h1
      have h2 := flat I (-v.s).toNat
      by_cases hs : 0 ≤ v.s
      · have e : (-v.s).toNat = 0 := by omega
        rw [e] at hle
        omega
      · have := h2 (by omega)
        omega
  · obtain ⟨cs, f, e⟩ := dst_get (ls.map lnW)
    rw [cst_up] at e
    have h1 := chn_lower h f
    have h2 := mono (hdC cs).1
    omega
end Mx

set_option maxHeartbeats 4000000
/-! Mk: the best counts, from the first line down. -/
namespace Mx
/-- x is the least of what the lines from here down cost, below the counts p -/
def Low (v : Pv) (P : Nat → Int) (p : Ct) (x : Int) : Prop := (∀ k : Nat, -v.s ≤ (k : Int) → x ≤ P k + max 0 ((p.1 : Int) - k) + max 0 ((p.2 : Int) - An v.s v.h k)) ∧
  ∃ k : Nat, -v.s ≤ (k : Int) ∧ x = P k + max 0 ((p.1 : Int) - k) + max 0 ((p.2 : Int) - An v.s v.h k)
theorem low_top {D : Nat} {v : Pv} {P : Nat → Int} (I : PrN D v P) : Low v P (0, 0) v.c := by
  have I' : Pr D v.c v.t.testBit v.n.testBit v.s v.h P := I
  have mono : ∀ j : Nat, P 0 ≤ P j := fun j => by
    induction j with
    | zero => exact Int.le_refl _
    | succ j ih =>
      have s0 := I'.rep.step j
      have d1 := I'.rep.dis j
      cases e1 : v.t.testBit j <;> cases e2 : v.n.testBit j <;> rw [e1, e2] at s0 <;> simp [bi] at s0 <;> first | omega | (have := d1 e1; rw [e2] at this; cases this)
  have P0 : P 0 = v.c := I'.rep.zero
  refine ⟨fun k _ => ?_, (-v.s).toNat, by omega, ?_⟩
  · have := mono k
    omega
  · have hf : P (-v.s).toNat = v.c := by
      by_cases hs : 0 ≤ v.s
      · have e : (-v.s).toNat = 0 := by omega
        rw [e, P0]
      · exact flat I' _ (by omega)
    rw [hf]
    have := I'.d0
    show (v.c : Int) = v.c + max 0 ((0 : Nat) - ((-v.s).toNat : Int)) + max 0 (((0 : Nat) : Int) - An v.s v.h (-v.s).toNat)
    unfold An
    omega
theorem low_end {p : Ct} {x : Int} (h : Low v0 (fun k => (k : Int)) p x) : x = (p.1 : Int) + p.2 := by
  obtain ⟨h1, k, h2, h3⟩ := h
  have h4 := h1 0 (by decide)
  have e : ∀ k : Nat, An v0.s v0.h k = 0 := fun k => by
    show min ((k : Int) + 0) ((0 : Nat) : Int) = 0
    omega
  rw [e] at h3 h4
  simp only at h3 h4
  omega
theorem bc_step {D C0 : Nat} {v v1 : Pv} {P P1 : Nat → Int} {p c : Ct} {x : Int} {cs : List Ct} (h : Low v P p x) (hx : (C0 : Int) + p.1 + p.2 = cst (0, 0) cs + x) (hp : p = lastC (0, 0) cs) (nx : Nx v1.s v1.h v.s v.h P1 P)
    (hc1 : -v.s ≤ (c.1 : Int)) (hc2 : (c.2 : Int) = An v.s v.h c.1) (hmin : ∀ k : Nat, P c.1 + max 0 ((p.1 : Int) - c.1) + max 0 ((p.2 : Int) - An v.s v.h c.1) ≤ P k + max 0 ((p.1 : Int) - k) + max 0 ((p.2 : Int) - An v.s v.h k)) :
    Low v1 P1 c (P c.1) ∧ (C0 : Int) + c.1 + c.2 = cst (0, 0) (cs ++ [c]) + P c.1 := by
  refine ⟨⟨fun k hk => ?_, ?_⟩, ?_⟩
  · rw [hc2]
    exact nx.1 k c.1 hc1
  · obtain ⟨k, hk, le⟩ := nx.2 c.1 hc1
    refine ⟨k, hk, ?_⟩
    have := nx.1 k c.1 hc1
    rw [hc2]
    omega
  · rw [cst_snoc, ← hp]
    obtain ⟨h1, k, h2, h3⟩ := h
    have h4 := h1 c.1 hc1
    have h5 := hmin k
    have h6 := climb_turn p c
    have h7 := climb_int c.1 (An v.s v.h c.1) p c rfl hc2
    omega
theorem bc_free {C0 : Nat} {p : Ct} {x : Int} {cs : List Ct} (hx : (C0 : Int) + p.1 + p.2 = cst (0, 0) cs + x) (hp : p = lastC (0, 0) cs) : (C0 : Int) + p.1 + p.2 = cst (0, 0) (cs ++ [p]) + x := by
  rw [cst_snoc, ← hp, climb_self]
  omega
end Mx

/-! Ml: a search, level by level. -/
namespace Mx
def Top (top : Nat) (t : List Nat) : Prop := ∀ x ∈ t, x ≤ top
/-! depths rise by ins, fall by outs -/
def Le : List Nat → List Nat → Prop
  | [], [] => True
  | a :: as, b :: bs => a ≤ b ∧ Le as bs
  | _, _ => False
theorem Le.refl : ∀ a : List Nat, Le a a
  | [] => trivial
  | _ :: as => ⟨Nat.le_refl _, Le.refl as⟩
theorem Le.trans : ∀ {a b c : List Nat}, Le a b → Le b c → Le a c
  | [], [], [], _, _ => trivial
  | _ :: _, _ :: _, _ :: _, h, g => ⟨Nat.le_trans h.1 g.1, h.2.trans g.2⟩
  | [], _ :: _, _, h, _ => h.elim
  | _ :: _, [], _, h, _ => h.elim
  | _, [], _ :: _, _, g => g.elim
  | _, _ :: _, [], _, g => g.elim
theorem Le.top {n : Nat} : ∀ {a b : List Nat}, Le a b → Top n b → Top n a
  | [], [], _, h => h
  | a :: as, b :: bs, g, h => fun x hx => by
    rcases List.mem_cons.mp hx with rfl | hx
    · exact Nat.le_trans g.1 (h b (List.mem_cons_self ..))
    · exact Le.top g.2 (fun y hy => h y (List.mem_cons_of_mem _ hy)) x hx
  | [], _ :: _, g, _ => g.elim
  | _ :: _, [], g, _ => g.elim
theorem onR_le (f : Nat → Nat) (h : ∀ x, x ≤ f x) : ∀ (s e : Nat) (l : List Nat), Le l (onR f s e l)
  | s, e, [] => by cases s <;> cases e <;> exact trivial
  | 0, 0, x :: l => Le.refl _
  | 0, e + 1, x :: l => ⟨h x, onR_le f h 0 e l⟩
  | s + 1, e, x :: l => ⟨Nat.le_refl _, onR_le f h s (e - 1) l⟩
theorem onR_ge (f : Nat → Nat) (h : ∀ x, f x ≤ x) : ∀ (s e : Nat) (l : List Nat), Le (onR f s e l) l
  | s, e, [] => by cases s <;> cases e <;> exact trivial
  | 0, 0, x :: l => Le.refl _
  | 0, e + 1, x :: l => ⟨h x, onR_ge f h 0 e l⟩
  | s + 1, e, x :: l => ⟨Nat.le_refl _, onR_ge f h s (e - 1) l⟩
theorem ins_up : ∀ (sc : List Cmd) (t : List Nat), (∀ c ∈ sc, c.1 = true) → Le t (runN sc t)
  | [], t, _ => Le.refl t
  | c :: sc, t, h => (onR_le _ (fun x => by rw [h c (List.mem_cons_self ..)]; exact Nat.le_succ x) _ _ t).trans (ins_up sc (act c t) fun c hc => h c (List.mem_cons_of_mem _ hc))
theorem outs_down : ∀ (sc : List Cmd) (t : List Nat), (∀ c ∈ sc, c.1 = false) → Le (runN sc t) t
  | [], t, _ => Le.refl t
  | c :: sc, t, h => (outs_down sc (act c t) fun c hc => h c (List.mem_cons_of_mem _ hc)).trans (onR_ge _ (fun x => by rw [h c (List.mem_cons_self ..)]; exact Nat.sub_le x 1) _ _ t)
theorem zip_some : ∀ (ts us : List Nat), ts.zip (us.map some) = lns ts us
  | [], _ => by simp [lns]
  | _ :: _, [] => by simp [lns]
  | t :: ts, u :: us => by
    have := zip_some ts us
    simp only [List.map_cons, List.zip_cons_cons, lns, List.zipWith_cons_cons] at this ⊢
    rw [this]
theorem mk_maps : ∀ cs : List Ct, List.zipWith Prod.mk (cs.map (·.1)) (cs.map (·.2)) = cs
  | [] => rfl
  | c :: cs => congrArg (c :: ·) (mk_maps cs)
/-- a script whose texts on the way stay below top -/
def Within (top : Nat) (s : List Nat) (sc : List Cmd) : Prop := ∀ a b, sc = a ++ b → Top top (runN a s)
theorem shortest_within {s t : List Nat} {top : Nat} (hl : s.length = t.length) (hs : Top top s) (ht : Top top t) : ∃ sc : List Cmd, (∀ c ∈ sc, Valid s.length c) ∧ sc.length = dst (lns s t) ∧ runN sc s = t ∧ Within top s sc := by
  obtain ⟨cs, hf, hc⟩ := dst_get (lns s t)
  have hz : s.zip (t.map some) = lns s t := zip_some s t
  have hcl : cs.length = s.length := by
    rw [← hf.len]
    unfold lns
    rw [List.length_zipWith]
    omega
  obtain ⟨s1, v1, l1, e1⟩ := outs_ex _ (cs.map (·.1)) rfl
  obtain ⟨s2, v2, l2, e2⟩ := ins_ex (os := cs.map (·.1)) _ (cs.map (·.2)) (by rw [List.length_map, List.length_map]) rfl
  rw [List.length_map, hcl] at v1 e1 v2
  have ee : eff s.length (s1 ++ s2) = cs := by
    unfold eff at e1 ⊢
    rw [runC_app, e1, e2]
    exact mk_maps cs
  have er : runN (s1 ++ s2) s = t := by
    rw [← eff_val, ee]
    have := (fit_val (ts := s) (ws := t.map some) (cs := cs) (by rw [List.length_map]; exact hl) hcl).mp (by rw [hz]; exact hf)
    exact okW_some this
  refine ⟨s1 ++ s2, fun c hc => ?_, ?_, er, fun a b hab => ?_⟩
  · rcases List.mem_append.mp hc with hc | hc
    · exact (v1 c hc).1
    · exact (v2 c hc).1
  · rw [List.length_append, l1, l2, ← hc, cst_rs]
  · rcases List.append_eq_append_iff.mp hab with ⟨a', rfl, rfl⟩ | ⟨b', rfl, rfl⟩
    · have h1 : Top top (runN (s1 ++ (a' ++ b)) s) := by rw [er]; exact ht
      rw [← List.append_assoc, runN_app] at h1
      exact (ins_up b _ fun c hc => (v2 c (List.mem_append_right _ hc)).2).top h1
    · exact (outs_down a s fun c hc => (v1 c (List.mem_append_left _ hc)).2).top hs
/-! the search -/
abbrev Fnd := List (List Nat × Nat)
def has (D : Fnd) (t : List Nat) : Prop := ∃ m, (t, m) ∈ D
def maxL (t : List Nat) : Nat := t.foldl max 0
theorem maxL_top {t : List Nat} {top : Nat} : maxL t ≤ top ↔ Top top t := by
  have key : ∀ (t : List Nat) (a : Nat), t.foldl max a ≤ top ↔ a ≤ top ∧ Top top t := fun t => by
    induction t with
    | nil => intro a; exact ⟨fun h => ⟨h, fun _ z => nomatch z⟩, fun h => h.1⟩
    | cons x t ih =>
      intro a
      show t.foldl max (max a x) ≤ top ↔ _
      rw [ih, Nat.max_le]
      constructor
      · rintro ⟨⟨h1, h2⟩, h3⟩
        exact ⟨h1, fun y hy => by rcases List.mem_cons.mp hy with rfl | hy; exact h2; exact h3 y hy⟩
      · rintro ⟨h1, h2⟩
        exact ⟨⟨h1, h2 x (List.mem_cons_self ..)⟩, fun y hy => h2 y (List.mem_cons_of_mem _ hy)⟩
  have := key t 0
  unfold maxL
  rw [this]
  exact ⟨fun h => h.2, fun h => ⟨Nat.zero_le _, h⟩⟩
def isIn (D : Fnd) (o : List Nat) : Bool := (D.find? fun p => decide (p.1 = o)).isSome
theorem isIn_has {D : Fnd} {o : List Nat} : isIn D o = true ↔ has D o := by
  unfold isIn has
  rw [List.find?_isSome]
  constructor
  · rintro ⟨p, hp, h⟩
    have := of_decide_eq_true h
    exact ⟨p.2, by rw [← this]; exact hp⟩
  · rintro ⟨m, h⟩
    exact ⟨_, h, decide_eq_true rfl⟩
/-- a text is seen -/
def visit (top cnt : Nat) (st : Fnd × List (List Nat)) (o : List Nat) : Fnd × List (List Nat) := if isIn st.1 o = false ∧ maxL o ≤ top then (st.1 ++ [(o, cnt)], st.2 ++ [o]) else st
theorem visits {top cnt : Nat} : ∀ (L : List (List Nat)) (D : Fnd) (R : List (List Nat)), ∃ N, L.foldl (visit top cnt) (D, R) = (D ++ N.map fun o => (o, cnt), R ++ N) ∧ N.Nodup ∧ (∀ o ∈ N, ¬ has D o ∧ o ∈ L ∧ Top top o) ∧ ∀ o ∈ L, Top top o → has D o ∨ o ∈ N
  | [], D, R => ⟨[], by simp, .nil, fun _ h => (nomatch h), fun _ h => nomatch h⟩
  | o :: L, D, R => by
    show ∃ N, L.foldl (visit top cnt) (visit top cnt (D, R) o) = _ ∧ _
    by_cases h : isIn D o = false ∧ maxL o ≤ top
    · have e : visit top cnt (D, R) o = (D ++ [(o, cnt)], R ++ [o]) := if_pos h
      rw [e]
      have hno : ¬ has D o := fun z => by rw [isIn_has.mpr z] at h; exact absurd h.1 (by decide)
      obtain ⟨N, h1, h2, h3, h4⟩ := visits L (D ++ [(o, cnt)]) (R ++ [o])
      refine ⟨o :: N, by rw [h1]; simp, List.nodup_cons.mpr ⟨fun z => (h3 o z).1 ⟨cnt, List.mem_append_right _ (List.mem_singleton.mpr rfl)⟩, h2⟩, fun x hx => ?_, fun x hx ht => ?_⟩
      · rcases List.mem_cons.mp hx with rfl | hx
        · exact ⟨hno, List.mem_cons_self .., maxL_top.mp h.2⟩
        · obtain ⟨g1, g2, g3⟩ := h3 x hx
          exact ⟨fun ⟨m, z⟩ => g1 ⟨m, List.mem_append_left _ z⟩, List.mem_cons_of_mem _ g2, g3⟩
      · rcases List.mem_cons.mp hx with rfl | hx
        · exact .inr (List.mem_cons_self ..)
        · rcases h4 x hx ht with ⟨m, g⟩ | g
          · rcases List.mem_append.mp g with g | g
            · exact .inl ⟨m, g⟩
            · have := List.mem_singleton.mp g
              cases this
              exact .inr (List.mem_cons_self ..)
          · exact .inr (List.mem_cons_of_mem _ g)
    · have e : visit top cnt (D, R) o = (D, R) := if_neg h
      rw [e]
      obtain ⟨N, h1, h2, h3, h4⟩ := visits L D R
      refine ⟨N, h1, h2, fun x hx => ⟨(h3 x hx).1, List.mem_cons_of_mem _ (h3 x hx).2.1, (h3 x hx).2.2⟩, fun x hx ht => ?_⟩
      rcases List.mem_cons.mp hx with rfl | hx
      · refine .inl (isIn_has.mp ?_)
        cases hb : isIn D x with
        | true => rfl
        | false => exact absurd ⟨hb, maxL_top.mpr ht⟩ h
      · exact h4 x hx ht
/-- the texts one command away -/
def nexts (cmds : List Cmd) (front : List (List Nat)) : List (List Nat) := front.flatMap fun one => cmds.map fun c => act c one
theorem nodup_add {D : Fnd} {N : List (List Nat)} {k : Nat} (h : (D.map (·.1)).Nodup) (h' : N.Nodup) (hd : ∀ o ∈ N, ¬ has D o) : ((D ++ N.map fun o => (o, k)).map (·.1)).Nodup := by
  rw [List.map_append, List.map_map]
  have e : ((fun p : List Nat × Nat => p.1) ∘ fun o => (o, k)) = id := rfl
  rw [e, List.map_id]
  refine List.nodup_append.mpr ⟨h, h', fun a ha b hb hab => ?_⟩
  subst hab
  obtain ⟨p, hp, rfl⟩ := List.mem_map.mp ha
  exact hd _ hb ⟨p.2, hp⟩
/-- all texts of n lines with depths up to top -/
def allT (top : Nat) : Nat → List (List Nat)
  | 0 => [[]]
  | n + 1 => (allT top n).flatMap fun t => (List.range (top + 1)).map fun d => t ++ [d]
theorem mem_allT {top : Nat} : ∀ {n : Nat} {t : List Nat}, t.length = n → Top top t → t ∈ allT top n
  | 0, t, h, _ => by
    rw [List.length_eq_zero_iff.mp h]
    exact List.mem_singleton.mpr rfl
  | n + 1, t, h, ht => by
    obtain ⟨a, x, rfl, ha⟩ := snoc_of h
    refine List.mem_flatMap.mpr ⟨a, mem_allT ha fun y hy => ht y (List.mem_append_left _ hy), List.mem_map.mpr ⟨x, List.mem_range.mpr ?_, rfl⟩⟩
    have := ht x (List.mem_append_right _ (List.mem_singleton.mpr rfl))
    omega
theorem allT_mem {top : Nat} : ∀ {n : Nat} {t : List Nat}, t ∈ allT top n → t.length = n ∧ Top top t
  | 0, t, h => by
    rw [List.mem_singleton.mp h]
    exact ⟨rfl, fun _ z => nomatch z⟩
  | n + 1, t, h => by
    obtain ⟨a, ha, g⟩ := List.mem_flatMap.mp h
    obtain ⟨x, hx, rfl⟩ := List.mem_map.mp g
    obtain ⟨h1, h2⟩ := allT_mem ha
    have hx := List.mem_range.mp hx
    refine ⟨by rw [List.length_append, h1]; rfl, fun y hy => ?_⟩
    rcases List.mem_append.mp hy with hy | hy
    · exact h2 y hy
    · rw [List.mem_singleton.mp hy]; omega
theorem allT_len (top : Nat) : ∀ n, (allT top n).length = (top + 1) ^ n
  | 0 => rfl
  | n + 1 => by
    show ((allT top n).flatMap _).length = _
    rw [List.length_flatMap]
    have : ∀ l : List (List Nat), (l.map fun t => ((List.range (top + 1)).map fun d => t ++ [d]).length).sum = (top + 1) * l.length := fun l => by
      induction l with
      | nil => simp
      | cons a l ih => rw [List.map_cons, List.sum_cons, ih, List.length_map, List.length_range, List.length_cons, Nat.mul_succ]; omega
    rw [this, allT_len top n, Nat.pow_succ, Nat.mul_comm]
theorem nodup_len {α : Type} [DecidableEq α] : ∀ (l D : List α), l.Nodup → (∀ x ∈ l, x ∈ D) → l.length ≤ D.length
  | [], _, _, _ => Nat.zero_le _
  | x :: l, D, hn, hs => by
    obtain ⟨h1, h2⟩ := List.nodup_cons.mp hn
    have ih := nodup_len l (D.erase x) h2 fun y hy => (List.mem_erase_of_ne fun e => h1 (by rw [← e]; exact hy)).2 (hs y (List.mem_cons_of_mem _ hy))
    have e := List.length_erase_of_mem (hs x (List.mem_cons_self ..))
    have hp : 0 < D.length := List.length_pos_of_mem (hs x (List.mem_cons_self ..))
    rw [List.length_cons]
    omega
structure Lev (top : Nat) (s : List Nat) (cmds : List Cmd) (k : Nat) (D : Fnd) (front : List (List Nat)) : Prop where
  sound : ∀ p ∈ D, Top top p.1 ∧ p.1.length = s.length ∧ p.2 ≤ k ∧ ∃ sc : List Cmd, (∀ c ∈ sc, c ∈ cmds) ∧ sc.length = p.2 ∧ runN sc s = p.1
  uniq : ∀ t m m', (t, m) ∈ D → (t, m') ∈ D → m = m'
  start : (s, 0) ∈ D
  fr : ∀ t, t ∈ front ↔ (t, k) ∈ D
  nd : (D.map (·.1)).Nodup
  closed : ∀ t m, (t, m) ∈ D → m < k → ∀ c ∈ cmds, Top top (act c t) → ∃ m', m' ≤ m + 1 ∧ (act c t, m') ∈ D
theorem lev_start {top : Nat} {s : List Nat} (cmds : List Cmd) (hs : Top top s) : Lev top s cmds 0 [(s, 0)] [s] where
  sound := fun p hp => by rw [List.mem_singleton.mp hp]; exact ⟨hs, rfl, Nat.le_refl _, [], fun _ h => (nomatch h), rfl, rfl⟩
  uniq := fun t m m' h h' => by cases List.mem_singleton.mp h; cases List.mem_singleton.mp h'; rfl
  start := List.mem_singleton.mpr rfl
  fr := fun t => by
    rw [List.mem_singleton, List.mem_singleton]
    exact ⟨fun h => by rw [h], fun h => congrArg Prod.fst h⟩
  nd := by simp
  closed := fun t m _ h => by omega
theorem lev_step {top : Nat} {s : List Nat} {cmds : List Cmd} {k : Nat} {D : Fnd} {front : List (List Nat)} (h : Lev top s cmds k D front) :
    Lev top s cmds (k + 1) ((nexts cmds front).foldl (visit top (k + 1)) (D, [])).1 ((nexts cmds front).foldl (visit top (k + 1)) (D, [])).2 := by
  obtain ⟨N, e, nd, h1, h2⟩ := visits (top := top) (cnt := k + 1) (nexts cmds front) D []
  rw [e]
  show Lev top s cmds (k + 1) (D ++ N.map fun o => (o, k + 1)) ([] ++ N)
  rw [List.nil_append]
  have hN : ∀ t m, (t, m) ∈ N.map (fun o => (o, k + 1)) ↔ t ∈ N ∧ m = k + 1 := fun t m => by
    rw [List.mem_map]
    exact ⟨fun ⟨o, ho, z⟩ => by cases z; exact ⟨ho, rfl⟩, fun ⟨ho, z⟩ => ⟨t, ho, by rw [z]⟩⟩
  refine ⟨fun p hp => ?_, fun t m m' g g' => ?_, List.mem_append_left _ h.start, fun t => ?_, nodup_add h.nd nd fun o ho => (h1 o ho).1, fun t m gg hm c hc ht => ?_⟩
  · rcases List.mem_append.mp hp with hp | hp
    · obtain ⟨g1, g2, g3, g4⟩ := h.sound p hp
      exact ⟨g1, g2, by omega, g4⟩
    · obtain ⟨t, m⟩ := p
      obtain ⟨ht, rfl⟩ := (hN t m).mp hp
      obtain ⟨_, g2, g3⟩ := h1 t ht
      obtain ⟨one, ho, g4⟩ := List.mem_flatMap.mp g2
      obtain ⟨c, hc, rfl⟩ := List.mem_map.mp g4
      obtain ⟨_, q2, _, sc, q4, q5, q6⟩ := h.sound _ ((h.fr one).mp ho)
      refine ⟨g3, (act_len c one).trans q2, Nat.le_refl _, sc ++ [c], fun d hd => ?_, by rw [List.length_append, q5]; rfl, by rw [runN_app, q6]; rfl⟩
      rcases List.mem_append.mp hd with hd | hd
      · exact q4 d hd
      · rw [List.mem_singleton.mp hd]; exact hc
  · rcases List.mem_append.mp g with g | g
    · rcases List.mem_append.mp g' with g' | g'
      · exact h.uniq t m m' g g'
      · exact absurd ⟨m, g⟩ (h1 t ((hN t m').mp g').1).1
    · rcases List.mem_append.mp g' with g' | g'
      · exact absurd ⟨m', g'⟩ (h1 t ((hN t m).mp g).1).1
      · rw [((hN t m).mp g).2, ((hN t m').mp g').2]
  · rw [List.mem_append, hN]
    constructor
    · intro z; exact .inr ⟨z, rfl⟩
    · rintro (z | z)
      · have := (h.sound _ z).2.2.1
        omega
      · exact z.1
  · rcases List.mem_append.mp gg with g | g
    · by_cases q : m < k
      · obtain ⟨m', g1, g2⟩ := h.closed t m g q c hc ht
        exact ⟨m', g1, List.mem_append_left _ g2⟩
      · have em : m = k := by omega
        subst em
        have hx : act c t ∈ nexts cmds front := List.mem_flatMap.mpr ⟨t, (h.fr t).mpr g, List.mem_map.mpr ⟨c, hc, rfl⟩⟩
        rcases h2 _ hx ht with ⟨m', z⟩ | z
        · have := (h.sound _ z).2.2.1
          exact ⟨m', by omega, List.mem_append_left _ z⟩
        · exact ⟨m + 1, Nat.le_refl _, List.mem_append_right _ ((hN _ _).mpr ⟨z, rfl⟩)⟩
    · have := ((hN t m).mp g).2
      omega
/-- what can be reached by at most k commands is found -/
theorem lev_all {top : Nat} {s : List Nat} {cmds : List Cmd} {k : Nat} {D : Fnd} {front : List (List Nat)} (h : Lev top s cmds k D front) : ∀ (b a : List Cmd), (∀ c ∈ a ++ b, c ∈ cmds) → Within top s (a ++ b) → (a ++ b).length ≤ k → ∀ m, m ≤ a.length → (runN a s, m) ∈ D → ∃ m', m' ≤ (a ++ b).length ∧ (runN (a ++ b) s, m') ∈ D
  | [], a, _, _, _, m, hm, g => ⟨m, by rw [List.append_nil]; exact hm, by rw [List.append_nil]; exact g⟩
  | c :: b, a, hc, hw, hk, m, hm, g => by
    have e : a ++ c :: b = (a ++ [c]) ++ b := by simp
    have er : runN (a ++ [c]) s = act c (runN a s) := by rw [runN_app]; rfl
    have ht : Top top (act c (runN a s)) := by rw [← er]; exact hw _ _ e
    have hlen : a.length + 1 ≤ k := by rw [List.length_append, List.length_cons] at hk; omega
    obtain ⟨m', g1, g2⟩ := h.closed _ m g (by omega) c (hc c (List.mem_append_right _ (List.mem_cons_self ..))) ht
    rw [e]
    rw [e] at hc hw hk
    exact lev_all h b (a ++ [c]) hc hw hk m' (by rw [List.length_append, List.length_singleton]; omega) (by rw [er]; exact g2)
theorem lev_found {top : Nat} {s : List Nat} {cmds : List Cmd} {k : Nat} {D : Fnd} {front : List (List Nat)} (h : Lev top s cmds k D front) {sc : List Cmd} (hc : ∀ c ∈ sc, c ∈ cmds) (hw : Within top s sc) (hk : sc.length ≤ k) : ∃ m, m ≤ sc.length ∧ (runN sc s, m) ∈ D := by
  have := lev_all h sc [] (by simpa using hc) (by simpa using hw) (by simpa using hk) 0 (Nat.le_refl _) h.start
  simpa using this
/-- where nothing new has come, all is found -/
theorem lev_done {top : Nat} {s : List Nat} {cmds : List Cmd} {k : Nat} {D : Fnd} (h : Lev top s cmds k D []) {sc : List Cmd} (hc : ∀ c ∈ sc, c ∈ cmds) (hw : Within top s sc) : ∃ m, m ≤ sc.length ∧ (runN sc s, m) ∈ D := by
  have lift : ∀ j, Lev top s cmds (k + j) D [] := fun j => by
    induction j with
    | zero => exact h
    | succ j ih =>
      have := lev_step ih
      exact this
  exact lev_found (lift sc.length) hc hw (by omega)
theorem fnd_len {D : Fnd} {top n : Nat} (h : (D.map (·.1)).Nodup) (ht : ∀ p ∈ D, Top top p.1 ∧ p.1.length = n) : D.length ≤ (top + 1) ^ n := by
  have := nodup_len (D.map (·.1)) (allT top n) h fun t htt => by
    obtain ⟨p, hp, rfl⟩ := List.mem_map.mp htt
    exact mem_allT (ht p hp).2 (ht p hp).1
  rw [List.length_map, allT_len] at this
  exact this
/-- while something new has come, it is no further than this -/
theorem lev_bound {top : Nat} {s : List Nat} {cmds : List Cmd} {k : Nat} {D : Fnd} {t : List Nat} {front : List (List Nat)} (hcm : ∀ c, Valid s.length c → c ∈ cmds) (hs : Top top s) (h : Lev top s cmds k D (t :: front)) : k ≤ top + top * s.length := by
  have g := (h.fr t).mp (List.mem_cons_self ..)
  obtain ⟨g1, g2, _, _⟩ := h.sound _ g
  obtain ⟨sc, v, l, e, w⟩ := shortest_within g2.symm hs g1
  replace l : sc.length = dst (lns s t) := l
  replace e : runN sc s = t := e
  have hd : dst (lns s t) ≤ top + top * s.length := by
    have h1 := dst_over (a := top) (ts := s) (xs := t) g2.symm hs
    have h2 := rs_bound (B := top) 0 t g1
    rw [show t.length = s.length from g2] at h2
    omega
  by_cases q : sc.length ≤ k
  · obtain ⟨m, h1, h2⟩ := lev_found h (fun c hc => hcm c (v c hc)) w q
    rw [e] at h2
    have := h.uniq t m k h2 g
    omega
  · omega
/-- the search's answer -/
theorem lev_dst {top : Nat} {s t : List Nat} {cmds : List Cmd} {k m : Nat} {D : Fnd} (hcm : ∀ c, c ∈ cmds ↔ Valid s.length c) (hs : Top top s) (h : Lev top s cmds k D []) (g : (t, m) ∈ D) : m = dst (lns s t) := by
  obtain ⟨g1, g2, _, sc, c1, c2, c3⟩ := h.sound _ g
  obtain ⟨sc', v, l, e, w⟩ := shortest_within g2.symm hs g1
  replace l : sc'.length = dst (lns s t) := l
  replace e : runN sc' s = t := e
  obtain ⟨m', h1, h2⟩ := lev_done h (fun c hc => (hcm c).mpr (v c hc)) w
  rw [e] at h2
  have hu := h.uniq t m m' g h2
  have hle : dst (lns s t) ≤ m := by
    have := dst_le_script (ts := s) (ws := t.map some) (sc := sc) (by rw [List.length_map]; exact g2.symm) (by
      rw [c3]
      have : ∀ u : List Nat, okW u (u.map some) := fun u => by
        induction u with
        | nil => trivial
        | cons a u ih => exact ⟨fun x e => by cases e; rfl, ih⟩
      exact this t)
    rw [zip_some] at this
    have e2 : sc.length = m := c2
    omega
  omega
theorem lev_has {top : Nat} {s t : List Nat} {cmds : List Cmd} {k : Nat} {D : Fnd} (hcm : ∀ c, Valid s.length c → c ∈ cmds) (hl : s.length = t.length) (hs : Top top s) (ht : Top top t) (h : Lev top s cmds k D []) : has D t := by
  obtain ⟨sc, v, l, e, w⟩ := shortest_within hl hs ht
  obtain ⟨m, _, h2⟩ := lev_done h (fun c hc => hcm c (v c hc)) w
  rw [e] at h2
  exact ⟨m, h2⟩
end Mx

local macro_rules | `(tactic| walk_at "pq") => `(tactic| repeat' (first
  | with_reducible assumption
  | with_reducible exact Pq.e_k | ((with_reducible apply Pq.e_var); rfl) | ((with_reducible apply Pq.e_raw); rfl) | with_reducible exact Pq.e_nil | with_reducible exact Pq.e_nopart
  | with_reducible apply Pq.e_bin | with_reducible apply Pq.e_test | with_reducible apply Pq.e_app | with_reducible apply Pq.e_cons | with_reducible apply Pq.e_neg | with_reducible apply Pq.e_part | with_reducible apply Pq.e_slice
  | with_reducible apply Pq.e_call1 | with_reducible apply Pq.e_call2 | with_reducible apply Pq.e_call3 | with_reducible apply Pq.e_call4 | with_reducible apply Pq.e_ifI | with_reducible apply Pq.e_and' | with_reducible apply Pq.e_or' | with_reducible apply Pq.e_not | with_reducible apply Pq.e_leLt | with_reducible exact Pq.r_neT0 | with_reducible exact Pq.r_neT | with_reducible exact Pq.r_eqT | with_reducible exact Pq.r_neL | with_reducible exact Pq.r_eqL
  | with_reducible exact Pq.r_add | with_reducible exact Pq.r_sub | with_reducible exact Pq.r_lt | with_reducible exact Pq.r_le | with_reducible exact Pq.r_gt | with_reducible exact Pq.r_ge | with_reducible exact Pq.r_eqI | with_reducible exact Pq.r_neI
  | with_reducible exact Pq.r_lenL | with_reducible exact Pq.r_lenT | with_reducible exact Pq.r_lenF | exact Pq.r_lenF | with_reducible exact Pq.r_max | with_reducible exact Pq.r_min | with_reducible exact Pq.r_tupleL | with_reducible exact Pq.r_tupleT | with_reducible exact Pq.r_listL | with_reducible exact Pq.r_listT | with_reducible exact Pq.r_intB | with_reducible exact Pq.r_slL | with_reducible exact Pq.r_slT
  | ((with_reducible apply Pq.r_mod); omega) | ((with_reducible apply Pq.r_fdiv) <;> omega) | ((with_reducible apply Pq.r_mul); first | omega | exact Or.inl (by decide) | exact Or.inr (by decide)) | with_reducible exact Pq.r_tup0 | with_reducible exact Pq.r_lst0 | with_reducible apply Pq.r_tup1 | with_reducible apply Pq.r_tup2 | with_reducible apply Pq.r_tup3 | with_reducible apply Pq.r_tup4 | with_reducible apply Pq.r_lst1 | with_reducible apply Pq.r_lst2 | with_reducible apply Pq.r_lst3 | with_reducible apply Pq.r_lst4 | ((with_reducible refine Pq.r_tup ?_ ?_); (· rfl); (· exact Nat.le_of_ble_eq_true rfl)) | ((with_reducible apply Pq.r_pow); decide)
  | ((with_reducible apply Pq.r_ixL); with_reducible assumption) | ((with_reducible apply Pq.r_ixT); with_reducible assumption) | (apply Pq.r_ixF; with_reducible assumption)
  | exact Pq.ne_sh | exact Pq.ne_fr | exact Pq.kd_sh | exact Pq.kd_fr))
local macro_rules | `(tactic| walk_at "pqn") => `(tactic| simp only [Pq.asg, Pq.fresh, List.map_cons, List.map_nil, List.length_cons, List.length_nil, List.cons_append, List.nil_append, List.replicate, List.set_cons_zero, List.set_cons_succ, Nat.reduceAdd, Nat.reduceSub, Nat.reduceLT, if_true, ite_true, List.foldl_cons, List.foldl_nil, Pq.frz, List.getElem?_cons_zero, List.getElem?_cons_succ])

namespace Lw
open PySem Pq
theorem at_int {ns : List Int} {i : Int} (j : Nat) (e : i = (j : Int)) (h : j < ns.length) : L2.atI (ns.map PyData.int) i = some (.int ns[j]) := by
  rw [atI_mem i e (by simpa using h)]
  simp
/-- a list of n numbers from 0 to below b -/
def Dg (n : Nat) (b : Int) (ds : List Int) : Prop := ds.length = n ∧ ∀ x ∈ ds, 0 ≤ x ∧ x < b
theorem at_last {ts : List Int} (h : ts ≠ []) : ∃ v, v ∈ ts ∧ L2.atI (ts.map PyData.int) (-1) = some (.int v) := by
  obtain ⟨us, v, rfl⟩ : ∃ us v, ts = us ++ [v] := ⟨ts.dropLast, ts.getLast h, (List.dropLast_concat_getLast h).symm⟩
  refine ⟨v, by simp, ?_⟩
  rw [List.map_append]
  exact L2.atI_last _ _
/-- a text: numbers from 0 to top -/
def Tx (top : Nat) (ts : List Int) : Prop := ∀ x ∈ ts, 0 ≤ x ∧ x ≤ (top : Int)
theorem Tx.snoc {top : Nat} {ts : List Int} {v : Int} (h : Tx top ts) (h0 : 0 ≤ v) (h1 : v ≤ top) : Tx top (ts ++ [v]) := fun x hx => by
  rcases List.mem_append.mp hx with hx | hx
  · exact h x hx
  · rw [List.mem_singleton.mp hx]
    exact ⟨h0, h1⟩
/-- a command: its name's truth value (in), its start, its end -/
def cmdD (c : Bool × Nat × Nat) : PyData := .tuple [.str (if c.1 = true then "in" else "out"), .int (c.2.1 : Nat), .int (c.2.2 : Nat)]
def Cok (L : Nat) (c : Bool × Nat × Nat) : Prop := c.2.1 < c.2.2 ∧ c.2.2 ≤ L
def one (b : Bool) (d : Int) : Int := if b = true then d + 1 else if d > 0 then d - 1 else d
def chg (c : Bool × Nat × Nat) (ts : List Int) : List Int := ts.mapIdx fun i d => if c.2.1 ≤ i ∧ i < c.2.2 then one c.1 d else d
theorem chg_len (c : Bool × Nat × Nat) (ts : List Int) : (chg c ts).length = ts.length := by unfold chg; rw [List.length_mapIdx]
theorem chg_get (c : Bool × Nat × Nat) (ts : List Int) (i : Nat) : (chg c ts)[i]? = ts[i]?.map fun d => if c.2.1 ≤ i ∧ i < c.2.2 then one c.1 d else d := by unfold chg; rw [List.getElem?_mapIdx]
theorem one_nn {b : Bool} {d : Int} (h : 0 ≤ d) : 0 ≤ one b d := by unfold one; split <;> (try split) <;> omega
theorem chg_nn {c : Bool × Nat × Nat} {ts : List Int} (h : ∀ x ∈ ts, 0 ≤ x) : ∀ x ∈ chg c ts, 0 ≤ x := fun x hx => by
  obtain ⟨i, hi⟩ := List.getElem?_of_mem hx
  rw [chg_get] at hi
  obtain ⟨d, hd, rfl⟩ := Option.map_eq_some_iff.mp hi
  have h0 := h d (List.mem_of_getElem? hd)
  split
  · exact one_nn h0
  · exact h0
theorem compL_mapF {α : Type} {t : PyData → Sl → Option Sl} {c : FB} {fe : F} {ρ : Sl} (f g : α → PyData) : ∀ {qs : List α}, (∀ q ∈ qs, ∃ ρ1 k, t (f q) ρ = some ρ1 ∧ c ρ1 = some true ∧ k ≠ Kd.raw ∧ fe ρ1 = some ⟨g q, k⟩) → compL t c fe ρ (qs.map f) = some (qs.map g)
  | [], _ => rfl
  | d :: ds, h => by
    obtain ⟨ρ1, k, h1, h2, h3, h4⟩ := h d (List.mem_cons_self ..)
    have g1 := compL_mapF f g (qs := ds) fun e he => h e (List.mem_cons_of_mem _ he)
    rw [List.map_cons, List.map_cons]
    unfold compL
    rw [h1]
    show (c ρ1).bind _ = _
    rw [h2]
    show (fe ρ1).bind _ = _
    rw [h4]
    show (if k = Kd.raw then none else _) = _
    rw [if_neg h3, g1]
    rfl
section
variable {ρ : Sl} {fa : F} {d : PyData} {k : Kd} {ds : List PyData}
theorem e_andVT {a b : F} {r : R} (h1 : a ρ = some ⟨.bool true, k⟩) (h2 : b ρ = some r) : cAndV a b ρ = some r := by unfold cAndV; rw [h1]; exact h2
theorem e_andVF {a b : F} (h1 : a ρ = some ⟨.bool false, k⟩) : cAndV a b ρ = some ⟨.bool false, .sh⟩ := by unfold cAndV; rw [h1]; rfl
theorem e_andV {a b : F} {p q : Bool} (h1 : a ρ = some ⟨.bool p, k⟩) (h2 : p = true → b ρ = some ⟨.bool q, .sh⟩) : cAndV a b ρ = some ⟨.bool (p && q), .sh⟩ := by
  cases p with
  | true => exact e_andVT h1 (h2 rfl)
  | false => exact e_andVF h1
theorem e_orV {a b : F} {p q : Bool} (h1 : a ρ = some ⟨.bool p, k⟩) (h2 : p = false → b ρ = some ⟨.bool q, .sh⟩) : cOrV a b ρ = some ⟨.bool (p || q), .sh⟩ := by
  unfold cOrV; rw [h1]
  cases p with
  | true => rfl
  | false => exact h2 rfl
theorem e_notV {a : F} {p : Bool} (h1 : a ρ = some ⟨.bool p, k⟩) : cNotV a ρ = some ⟨.bool (!p), .sh⟩ := by unfold cNotV; rw [h1]; rfl
end
theorem i_zip {ρ : Sl} {fa fb : F} {ds es : List PyData} (h1 : cIter fa ρ = some ds) (h2 : cIter fb ρ = some es) : cZip fa fb ρ = some (zipD ds es) := by
  unfold cZip
  rw [h1]
  show (cIter fb ρ).bind (fun es => some (zipD ds es)) = _
  rw [h2]
  rfl
theorem sh_in : SeqAt.shaped (.str "in") = true := by decide +kernel
theorem sh_out : SeqAt.shaped (.str "out") = true := by decide +kernel
theorem eq_in : PyData.eqv (.str "in") (.str "in") = true := by decide +kernel
theorem eq_out : PyData.eqv (.str "out") (.str "in") = false := by decide +kernel
theorem name_eq (b : Bool) {k l : Kd} : eqR ⟨.str (if b = true then "in" else "out"), k⟩ ⟨.str "in", l⟩ = some ⟨.bool b, .sh⟩ := by
  cases b with
  | true => rw [if_pos rfl, r_eq sh_in sh_in]; show some (⟨.bool (PyData.eqv (.str "in") (.str "in")), .sh⟩ : R) = _; rw [eq_in]
  | false => rw [if_neg (by decide), r_eq sh_out sh_in]; show some (⟨.bool (PyData.eqv (.str "out") (.str "in")), .sh⟩ : R) = _; rw [eq_out]
end Lw

namespace Lw
open PySem Pq
theorem cell_ok (ns : List Int) (i : Nat) : ∃ c : Int, f__law_cell [scr ns, .int i] = some ⟨.int c, .sh⟩ := by
  have hl : (ns.map PyData.int).length = ns.length := List.length_map ..
  have t1 : cTest (cBin ltR (cVar 1) (cApp lenR (cCons (cVar 0) cNil))) (Pq.fresh 2 [scr ns, .int i]) = some (decide ((i : Int) < (ns.map PyData.int).length)) := by walk_at "pq"
  have t2 : cTest (cBin eqR (cApp lenR (cCons (cVar 0) cNil)) (cK (.int 0))) (Pq.fresh 2 [scr ns, .int i]) = some (decide (((ns.map PyData.int).length : Int) = 0)) := by walk_at "pq"
  rw [hl] at t1 t2
  by_cases h : i < ns.length
  · rw [decide_eq_true (by omega)] at t1
    have a1 := at_int (ns := ns) (i := (i : Int)) i rfl h
    apply Exists.intro
    apply f_ret rfl
    apply s_seqR
    apply s_ifT t1
    apply s_ret <;> walk_at "pq"
  · rw [decide_eq_false (by omega)] at t1
    by_cases h0 : ns.length = 0
    · rw [decide_eq_true (by omega)] at t2
      apply Exists.intro
      apply f_ret rfl
      apply s_seq (s_ifF t1 rfl)
      apply s_seqR
      apply s_ifT t2
      apply s_ret <;> walk_at "pq"
    · rw [decide_eq_false (by omega)] at t2
      have hm : i % ns.length < ns.length := Nat.mod_lt _ (by omega)
      have a1 := at_int (ns := ns) (i := (i : Int) % ((ns.map PyData.int).length : Int)) (i % ns.length) (by rw [hl]; omega) hm
      apply Exists.intro
      apply f_ret rfl
      apply s_seq (s_ifF t1 rfl)
      apply s_seq (s_ifF t2 rfl)
      apply s_ret <;> walk_at "pq"
def primes : List Int := [2147483647, 2147483629, 2147483587, 2147483579, 2147483563, 2147483549, 2147483543, 2147483497]
theorem prime_at (z : Int) (h : 0 ≤ z) : ∃ p : Int, L2.atI (primes.map PyData.int) (z % 8) = some (.int p) ∧ 0 < p ∧ p < 2147483648 := by
  have h2 : z % 8 = 0 ∨ z % 8 = 1 ∨ z % 8 = 2 ∨ z % 8 = 3 ∨ z % 8 = 4 ∨ z % 8 = 5 ∨ z % 8 = 6 ∨ z % 8 = 7 := by omega
  rcases h2 with e | e | e | e | e | e | e | e <;> rw [e] <;> exact ⟨_, rfl, by decide, by decide⟩
/-- the loop's slots -/
def dgS (ns : List Int) (i n : Nat) (b c rest : Int) (ds : List Int) (x8 x9 : Option Cell) : Sl :=
  [some (.sh (scr ns)), some (.sh (.int i)), some (.sh (.int n)), some (.sh (.int b)), some (.sh (.tuple (primes.map .int))), some (.sh (.int c)), some (.sh (.int rest)), some (.ow (ds.map .int)), x8, x9]
theorem digits_ok (ns : List Int) (i n : Nat) (b : Int) (hn : n ≤ 1000) (h0 : 0 < b) (h1 : b < 1073741824) (hi : i ≤ 1000) : ∃ ds : List Int, Dg n b ds ∧ f__law_digits [scr ns, .int i, .int n, .int b] = some ⟨.list (ds.map .int), .fr⟩ := by
  obtain ⟨c, hc⟩ := cell_ok ns i
  have goal : ∃ r, f__law_digits [scr ns, .int i, .int n, .int b] = some r ∧ ∃ ds : List Int, Dg n b ds ∧ r = ⟨.list (ds.map .int), .fr⟩ := by
    apply f_retP rfl
    apply w_seq
    apply w_set (by walk_at "pq"); walk_at "pqn"
    apply w_nx
    apply w_seq
    apply w_set (by walk_at "pq"); walk_at "pqn"
    apply w_nx
    apply w_seq
    apply w_frz
    apply w_set (by walk_at "pq"); walk_at "pqn"
    apply w_nx
    apply w_seq
    apply w_set (by walk_at "pq"); walk_at "pqn"
    apply w_nx
    apply w_seq
    apply w_for (fun m ρ => ∃ (rest : Int) (ds : List Int) (x8 x9 : Option Cell), Dg m b ds ∧ m ≤ n ∧ ρ = dgS ns i n b c rest ds x8 x9)
    · apply i_range1 (e_var rfl)
      unfold small62
      omega
    · exact ⟨_, [], none, none, ⟨rfl, fun _ h => nomatch h⟩, Nat.zero_le _, rfl⟩
    · rintro m d ρ hd ⟨rest, ds, x8, x9, hD, hm, rfl⟩
      have hmn : m < n := by
        have := (List.getElem?_eq_some_iff.mp hd).1
        rw [rangeD_len] at this
        omega
      rw [rangeD_get (by omega), Int.zero_add] at hd
      cases hd
      refine ⟨dgS ns i n b c rest ds (some (.sh (.int m))) x9, rfl, ?_⟩
      obtain ⟨p1, a1, q1, r1⟩ := prime_at (m : Int) (by omega)
      obtain ⟨p2, a2, q2, r2⟩ := prime_at (3 * (m : Int) + (i : Int)) (by omega)
      obtain ⟨p3, a3, q3, r3⟩ := prime_at ((m : Int) + 5) (by omega)
      have b1 := Int.emod_nonneg c (show p1 ≠ 0 by omega)
      have b2 := Int.emod_lt_of_pos c q1
      unfold dgS
      apply w_seq
      apply w_set (by walk_at "pq"); walk_at "pqn"
      apply w_nx
      apply w_seq
      apply w_set (by walk_at "pq"); walk_at "pqn"
      apply w_nx
      apply w_seq
      apply w_set (by walk_at "pq"); walk_at "pqn"
      apply w_nx
      generalize hv : (c % p1 * (48271 + 2 * (m : Int) * (m : Int)) + 7919 * ((m : Int) + 1) * ((m : Int) + 1) + 104729 * (i : Int)) % p2 = v
      have b3 := Int.emod_nonneg (c % p1 * (48271 + 2 * (m : Int) * (m : Int)) + (7919 * ((m : Int) + 1) * ((m : Int) + 1)) + 104729 * (i : Int)) (show p2 ≠ 0 by omega)
      have b4 := Int.emod_lt_of_pos (c % p1 * (48271 + 2 * (m : Int) * (m : Int)) + (7919 * ((m : Int) + 1) * ((m : Int) + 1)) + 104729 * (i : Int)) q2
      rw [hv] at b3 b4
      apply w_seq
      apply w_set (by walk_at "pq"); walk_at "pqn"
      apply w_nx
      have fin : ∀ (u : Int), NxP (fun ρ => ∃ (rest : Int) (ds : List Int) (x8 x9 : Option Cell), Dg (m + 1) b ds ∧ m + 1 ≤ n ∧ ρ = dgS ns i n b c rest ds x8 x9) (cSeq (cAppend 7 (cBin modR (cVar 9) (cVar 3))) (cSet 6 (cBin fdivR (cVar 6) (cVar 3))) (dgS ns i n b c rest ds (some (.sh (.int m))) (some (.sh (.int u))))) := by
        intro u
        unfold dgS
        apply w_seq
        apply w_append (by walk_at "pq") rfl ne_sh
        · rw [List.length_map]
          have := hD.1
          show ds.length < 100000
          omega
        · walk_at "pqn"
          apply w_nx
          apply w_set (by walk_at "pq"); walk_at "pqn"
          apply w_nx
          refine ⟨rest / b, ds ++ [u % b], some (.sh (.int m)), some (.sh (.int u)), ⟨?_, ?_⟩, by omega, ?_⟩
          · rw [List.length_append, hD.1]
            rfl
          · intro x hx
            rcases List.mem_append.mp hx with hx | hx
            · exact hD.2 x hx
            · rw [List.mem_singleton.mp hx]
              exact ⟨Int.emod_nonneg _ (by omega), Int.emod_lt_of_pos _ h0⟩
          · rw [List.map_append]
            rfl
      apply w_seq
      apply w_if (by walk_at "pq")
      · intro _
        apply w_set (by walk_at "pq"); walk_at "pqn"
        apply w_nx
        exact fin _
      · intro _
        apply w_skip
        exact fin _
    · rintro ρ ⟨rest, ds, x8, x9, hD, hm, rfl⟩
      rw [rangeD_len] at hD
      apply w_nx
      apply w_retO rfl
      exact ⟨ds, by simpa using hD, rfl⟩
  obtain ⟨r, e, ds, hD, rfl⟩ := goal
  exact ⟨ds, hD, e⟩
end Lw

namespace Lw
open PySem Pq
def tcS (ds : List Int) (size top : Nat) (ts : List Int) (x4 x5 : Option Cell) : Sl :=
  [some (.sh (.list (ds.map .int))), some (.sh (.int size)), some (.sh (.int top)), some (.sh (.tuple (ts.map .int))), x4, x5]
theorem text_ok {n : Nat} {b : Int} {ds : List Int} {size top : Nat} (hD : Dg n b ds) (hn : 3 ≤ n) (hs : 1 ≤ size) (hs2 : size ≤ 1000) :
    ∃ ts : List Int, (1 ≤ ts.length ∧ ts.length ≤ size ∧ Tx top ts) ∧ f__law_text [.list (ds.map .int), .int size, .int top] = some ⟨.tuple (ts.map .int), .sh⟩ := by
  have goal : ∃ r, f__law_text [.list (ds.map .int), .int size, .int top] = some r ∧ ∃ ts : List Int, (1 ≤ ts.length ∧ ts.length ≤ size ∧ Tx top ts) ∧ r = ⟨.tuple (ts.map .int), .sh⟩ := by
    have hl : ds.length = n := hD.1
    obtain ⟨d0, h0, a0⟩ : ∃ d0, (0 ≤ d0) ∧ L2.atI (ds.map PyData.int) 0 = some (.int d0) := ⟨ds[0], (hD.2 _ (List.getElem_mem _)).1, at_int 0 rfl (by omega)⟩
    obtain ⟨d1, h1, a1⟩ : ∃ d1, (0 ≤ d1) ∧ L2.atI (ds.map PyData.int) 1 = some (.int d1) := ⟨ds[1], (hD.2 _ (List.getElem_mem _)).1, at_int 1 rfl (by omega)⟩
    have hm0 : 0 ≤ d0 % (size : Int) := Int.emod_nonneg _ (by omega)
    have hm1 : d0 % (size : Int) < size := Int.emod_lt_of_pos _ (by omega)
    obtain ⟨k, hk⟩ : ∃ k : Nat, d0 % (size : Int) = k := ⟨(d0 % (size : Int)).toNat, by omega⟩
    have ec : cutD (ds.map PyData.int) (some 2) (some (3 + d0 % (size : Int))) = (((ds.drop 2).take (1 + k)).map PyData.int) := by
      have e3 : (3 : Int) + d0 % (size : Int) = ((3 + k : Nat) : Int) := by omega
      rw [e3, show (some (2 : Int)) = some ((2 : Nat) : Int) from rfl, cutD_nat, List.map_take, List.map_drop]
      congr 1
      omega
    have hgl : ((ds.drop 2).take (1 + k)).length ≤ size ∧ 1 ≤ ((ds.drop 2).take (1 + k)).length := by
      rw [List.length_take, List.length_drop]
      omega
    have hg0 : ∀ x ∈ (ds.drop 2).take (1 + k), 0 ≤ x := fun x hx => (hD.2 x (List.mem_of_mem_drop (List.mem_of_mem_take hx))).1
    generalize (ds.drop 2).take (1 + k) = gs at ec hgl hg0
    apply f_retP rfl
    apply w_seq
    apply w_set (by walk_at "pq"); walk_at "pqn"
    apply w_nx
    apply w_seq
    apply w_for (ds := gs.map PyData.int) (fun m ρ => ∃ (ts : List Int) (x4 x5 : Option Cell), ts.length = m ∧ Tx top ts ∧ m ≤ gs.length ∧ ρ = tcS ds size top ts x4 x5)
    · apply i_list _ kd_fr
      rw [← ec]
      walk_at "pq"
    · exact ⟨[], none, none, rfl, fun _ h => (nomatch h), Nat.zero_le _, rfl⟩
    · rintro m d ρ hd ⟨ts, x4, x5, ht, hT, hm, rfl⟩
      rw [List.getElem?_map] at hd
      obtain ⟨g, hg, rfl⟩ := Option.map_eq_some_iff.mp hd
      have hml : m < gs.length := (List.getElem?_eq_some_iff.mp hg).1
      have hg' : 0 ≤ g := hg0 g (List.mem_of_getElem? hg)
      refine ⟨tcS ds size top ts (some (.sh (.int g))) x5, rfl, ?_⟩
      have fin : ∀ v : Int, 0 ≤ v → v ≤ top → NxP (fun ρ => ∃ (ts : List Int) (x4 x5 : Option Cell), ts.length = m + 1 ∧ Tx top ts ∧ m + 1 ≤ gs.length ∧ ρ = tcS ds size top ts x4 x5) (cSet 3 (cBin addR (cVar 3) (cApp tupR (cCons (cVar 5) cNil))) (tcS ds size top ts (some (.sh (.int g))) (some (.sh (.int v))))) := by
        intro v v0 v1
        unfold tcS
        have el : (ts.map PyData.int).length + ([PyData.int v] : List PyData).length ≤ LIM := by
          rw [List.length_map]
          show ts.length + 1 ≤ 100000
          omega
        apply w_set (e_bin (e_var rfl) (e_app (e_cons (e_var rfl) e_nil) (r_tup1 kd_sh)) (r_addT el)); walk_at "pqn"
        apply w_nx
        refine ⟨ts ++ [v], some (.sh (.int g)), some (.sh (.int v)), by rw [List.length_append, ht]; rfl, hT.snoc v0 v1, by omega, ?_⟩
        rw [List.map_append]
        rfl
      unfold tcS
      apply w_seq
      apply w_if (by walk_at "pq")
      · intro hb
        have hne : ts ≠ [] := fun z => by
          rw [z] at hb
          simp at hb
        obtain ⟨v, hv, a2⟩ := at_last hne
        apply w_set (by walk_at "pq"); walk_at "pqn"
        apply w_nx
        exact fin v (hT v hv).1 (hT v hv).2
      · intro _
        apply w_if (by walk_at "pq")
        · intro _
          apply w_set (by walk_at "pq"); walk_at "pqn"
          apply w_nx
          exact fin 0 (by omega) (by omega)
        · intro _
          apply w_set (by walk_at "pq"); walk_at "pqn"
          apply w_nx
          have q0 := Int.emod_nonneg g (show ((top : Int) + 1) ≠ 0 by omega)
          have q1 := Int.emod_lt_of_pos g (show (0 : Int) < (top : Int) + 1 by omega)
          exact fin _ q0 (by omega)
    · rintro ρ ⟨ts, x4, x5, ht, hT, hm, rfl⟩
      rw [List.length_map] at ht
      apply w_nx
      apply w_retV rfl
      exact ⟨ts, ⟨by omega, by omega, hT⟩, rfl⟩
  obtain ⟨r, e, ts, hT, rfl⟩ := goal
  exact ⟨ts, hT, e⟩
end Lw

namespace Lw
open PySem Pq
theorem command_ok {ds : List Int} {L : Nat} (hl : 3 ≤ ds.length) (hD : ∀ x ∈ ds, 0 ≤ x) (hL : 1 ≤ L) : ∃ c, Cok L c ∧ f__law_command [.list (ds.map .int), .int L] = some ⟨cmdD c, .sh⟩ := by
  obtain ⟨d0, h0, a0⟩ : ∃ d0, (0 ≤ d0) ∧ L2.atI (ds.map PyData.int) 0 = some (.int d0) := ⟨ds[0], hD _ (List.getElem_mem _), at_int 0 rfl (by omega)⟩
  obtain ⟨d1, h1, a1⟩ : ∃ d1, (0 ≤ d1) ∧ L2.atI (ds.map PyData.int) 1 = some (.int d1) := ⟨ds[1], hD _ (List.getElem_mem _), at_int 1 rfl (by omega)⟩
  obtain ⟨d2, h2, a2⟩ : ∃ d2, (0 ≤ d2) ∧ L2.atI (ds.map PyData.int) 2 = some (.int d2) := ⟨ds[2], hD _ (List.getElem_mem _), at_int 2 rfl (by omega)⟩
  have s0 : 0 ≤ d1 % (L : Int) := Int.emod_nonneg _ (by omega)
  have s1 : d1 % (L : Int) < L := Int.emod_lt_of_pos _ (by omega)
  obtain ⟨s, hs⟩ : ∃ s : Nat, d1 % (L : Int) = s := ⟨(d1 % (L : Int)).toNat, by omega⟩
  have e0 : 0 ≤ d2 % ((L : Int) - s) := Int.emod_nonneg _ (by omega)
  have e1 : d2 % ((L : Int) - s) < (L : Int) - s := Int.emod_lt_of_pos _ (by omega)
  obtain ⟨e, he⟩ : ∃ e : Nat, d2 % ((L : Int) - s) = e := ⟨(d2 % ((L : Int) - s)).toNat, by omega⟩
  obtain ⟨bb, hb⟩ : ∃ bb : Bool, L2.atI [PyData.str "in", PyData.str "out"] (d0 % 2) = some (.str (if bb = true then "in" else "out")) := by
    have h3 : d0 % 2 = 0 ∨ d0 % 2 = 1 := by omega
    rcases h3 with z | z <;> rw [z]
    · exact ⟨true, rfl⟩
    · exact ⟨false, rfl⟩
  refine ⟨(bb, s, s + 1 + e), ⟨by show s < s + 1 + e; omega, by show s + 1 + e ≤ L; omega⟩, ?_⟩
  apply f_ret rfl
  apply s_seq
  apply s_set (r := ⟨.int s, .sh⟩)
  · rw [← hs]
    walk_at "pq"
  · rfl
  have ee : (((s + 1 + e : Nat) : Int)) = (s : Int) + 1 + d2 % ((L : Int) - s) := by omega
  apply s_ret
  · unfold cmdD
    rw [ee]
    apply e_app (e_cons (e_bin (e_app (e_cons e_k (e_cons e_k e_nil)) (r_lst2 kd_sh kd_sh)) (e_bin (e_bin (e_var rfl) e_k (r_ixL a0)) e_k (r_mod (by decide))) (r_ixL hb)) (e_cons (e_var rfl) (e_cons _ e_nil))) (r_tup3 kd_sh kd_sh kd_sh)
    rotate_left
    walk_at "pq"
  · exact ne_sh
end Lw

namespace Lw
open PySem Pq
def chS (ts : List Int) (c : Bool × Nat × Nat) (us : List Int) (x6 : Option Cell) : Sl :=
  [some (.sh (.tuple (ts.map .int))), some (.sh (cmdD c)), some (.sh (.str (if c.1 = true then "in" else "out"))), some (.sh (.int (c.2.1 : Nat))), some (.sh (.int (c.2.2 : Nat))), some (.ow (us.map .int)), x6]
theorem part_step (b : Bool) (s m : Nat) (ts : List Int) (x : Int) (hx : ts[s + m]? = some x) : (chg (b, s, s + m) ts).set (s + m) (one b x) = chg (b, s, s + (m + 1)) ts := by
  refine List.ext_getElem? fun i => ?_
  rw [List.getElem?_set, chg_get, chg_get, chg_len]
  have hl := (List.getElem?_eq_some_iff.mp hx).1
  by_cases e : s + m = i
  · subst e
    rw [if_pos rfl, if_pos hl, hx]
    show some (one b x) = some (if s ≤ s + m ∧ s + m < s + (m + 1) then one b x else x)
    rw [if_pos ⟨by omega, by omega⟩]
  · rw [if_neg e]
    congr 1
    funext d
    by_cases h1 : s ≤ i ∧ i < s + m
    · rw [if_pos h1, if_pos ⟨h1.1, by show i < s + (m + 1); omega⟩]
    · rw [if_neg h1, if_neg (fun z => h1 ⟨z.1, by have z2 : i < s + (m + 1) := z.2; omega⟩)]
theorem part_zero (b : Bool) (s : Nat) (ts : List Int) : chg (b, s, s) ts = ts := by
  refine List.ext_getElem? fun i => ?_
  rw [chg_get]
  cases ts[i]? with
  | none => rfl
  | some d =>
    show some (if s ≤ i ∧ i < s then one b d else d) = some d
    rw [if_neg (by omega)]
theorem part_at (b : Bool) (s m : Nat) (ts : List Int) (x : Int) (hx : ts[s + m]? = some x) : L2.atI ((chg (b, s, s + m) ts).map PyData.int) ((s : Int) + (m : Int)) = some (.int x) := by
  have e : ((s : Int) + (m : Int)) = ((s + m : Nat) : Int) := by omega
  rw [e]
  refine L2.atI_nat ?_
  rw [List.getElem?_map, chg_get, hx]
  show some (PyData.int (if s ≤ s + m ∧ s + m < s + m then one b x else x)) = _
  rw [if_neg (by omega)]
theorem changed_ok {ts : List Int} {c : Bool × Nat × Nat} (hc : Cok ts.length c) (hl : ts.length ≤ 1000) : f__law_changed [.tuple (ts.map .int), cmdD c] = some ⟨.tuple ((chg c ts).map .int), .sh⟩ := by
  have goal : ∃ r, f__law_changed [.tuple (ts.map .int), cmdD c] = some r ∧ r = ⟨.tuple ((chg c ts).map .int), .sh⟩ := by
    obtain ⟨b, s, e⟩ := c
    have hse : s < e := hc.1
    have hel : e ≤ ts.length := hc.2
    unfold f__law_changed
    refine f_retP (n := 7) (m := 2) (c := c__law_changed) (ds := [.tuple (ts.map .int), cmdD (b, s, e)]) (Q := fun r => r = ⟨.tuple ((chg (b, s, e) ts).map .int), .sh⟩) rfl ?_
    apply w_seq
    apply w_setT (r := ⟨cmdD (b, s, e), .sh⟩) (ρ' := [some (.sh (.tuple (ts.map .int))), some (.sh (cmdD (b, s, e))), some (.sh (.str (if b = true then "in" else "out"))), some (.sh (.int (s : Nat))), some (.sh (.int (e : Nat))), none, none])
    · exact e_var rfl
    · exact ne_sh
    · rfl
    apply w_nx
    apply w_seq
    apply w_set (by walk_at "pq"); walk_at "pqn"
    apply w_nx
    apply w_seq
    apply w_for (fun m ρ => ∃ (x6 : Option Cell), m ≤ e - s ∧ ρ = chS ts (b, s, e) (chg (b, s, s + m) ts) x6)
    · apply i_range2 (e_var rfl) (e_var rfl)
      · unfold small62; omega
      · unfold small62; omega
    · refine ⟨none, Nat.zero_le _, ?_⟩
      rw [show s + 0 = s from rfl, part_zero]
      rfl
    · rintro m d ρ hd ⟨x6, hm, rfl⟩
      have hml : m < e - s := by
        have := (List.getElem?_eq_some_iff.mp hd).1
        rw [rangeD_len] at this
        omega
      rw [rangeD_get (by omega)] at hd
      cases hd
      have hx := List.getElem?_eq_getElem (l := ts) (i := s + m) (by omega)
      generalize ts[s + m]'(by omega) = x at hx
      have a1 := part_at b s m ts x hx
      refine ⟨chS ts (b, s, e) (chg (b, s, s + m) ts) (some (.sh (.int ((s : Int) + (m : Int))))), rfl, ?_⟩
      have i6 : cVar 6 (chS ts (b, s, e) (chg (b, s, s + m) ts) (some (.sh (.int ((s : Int) + (m : Int)))))) = some ⟨.int ((s + m : Nat) : Int), .sh⟩ := by
        rw [show (((s + m : Nat) : Int)) = (s : Int) + (m : Int) by omega]
        rfl
      have hlt : s + m < ((chg (b, s, s + m) ts).map PyData.int).length := by
        rw [List.length_map, chg_len]
        omega
      have fin : ∀ v : Int, v = one b x → NxP (fun ρ => ∃ (x6 : Option Cell), m + 1 ≤ e - s ∧ ρ = chS ts (b, s, e) (chg (b, s, s + (m + 1)) ts) x6) (.nx ((chS ts (b, s, e) (chg (b, s, s + m) ts) (some (.sh (.int ((s : Int) + (m : Int)))))).set 5 (some (.ow (((chg (b, s, s + m) ts).map PyData.int).set (s + m) (.int v)))))) := by
        intro v hv
        apply w_nx
        refine ⟨some (.sh (.int ((s : Int) + (m : Int)))), by omega, ?_⟩
        rw [← List.map_set, hv, part_step b s m ts x hx]
        rfl
      apply w_if (b := b) (e_test (e_bin (e_var rfl) e_k (name_eq b)))
      · intro hb
        apply w_setix _ i6 rfl ne_sh hlt
        · exact fin (x + 1) (by unfold one; rw [if_pos hb])
        · exact e_bin (e_bin (e_raw rfl) (e_var rfl) (r_ixL a1)) e_k r_add
      · intro hb
        apply w_if (b := decide (0 < x)) (e_test (e_bin (e_bin (e_raw rfl) (e_var rfl) (r_ixL a1)) e_k r_gt))
        · intro hp
          apply w_setix _ i6 rfl ne_sh hlt
          · exact fin (x - 1) (by unfold one; rw [if_neg (by rw [hb]; decide), if_pos (of_decide_eq_true hp)])
          · exact e_bin (e_bin (e_raw rfl) (e_var rfl) (r_ixL a1)) e_k r_sub
        · intro hp
          apply w_skip
          refine ⟨some (.sh (.int ((s : Int) + (m : Int)))), by omega, ?_⟩
          have e1 : one b x = x := by unfold one; rw [if_neg (by rw [hb]; decide), if_neg (of_decide_eq_false hp)]
          have h5 := part_step b s m ts x hx
          rw [e1] at h5
          have h6 : (chg (b, s, s + m) ts).set (s + m) x = chg (b, s, s + m) ts := by
            refine List.ext_getElem? fun i => ?_
            rw [List.getElem?_set]
            by_cases h7 : s + m = i
            · subst h7
              rw [if_pos rfl, chg_len, if_pos (by omega), chg_get, hx]
              show some x = some (if s ≤ s + m ∧ s + m < s + m then one b x else x)
              rw [if_neg (by omega)]
            · rw [if_neg h7]
          rw [h6] at h5
          rw [← h5]
    · rintro ρ ⟨x6, hm, rfl⟩
      rw [rangeD_len]
      apply w_nx
      have ee : s + ((e : Int) - (s : Int)).toNat = e := by omega
      rw [ee]
      exact ⟨_, s_ret (r := ⟨.tuple ((chg (b, s, e) ts).map .int), .sh⟩) (e_app (e_cons (e_raw rfl) e_nil) r_tupleL) ne_sh, rfl⟩
  obtain ⟨r, e, rfl⟩ := goal
  exact e
end Lw

namespace Lw
open PySem Pq Mx
/-! ### plain numbers -/
/-- numbers as Python's -/
def nI (ns : List Nat) : List Int := ns.map fun (n : Nat) => (n : Int)
theorem nI_len (ns : List Nat) : (nI ns).length = ns.length := List.length_map ..
theorem nI_get {ns : List Nat} {i : Nat} (h : i < ns.length) : (nI ns)[i]? = some ((ns[i] : Nat) : Int) := by
  unfold nI
  rw [List.getElem?_map, List.getElem?_eq_getElem h]
  rfl
theorem nI_nn (ns : List Nat) : ∀ x ∈ nI ns, 0 ≤ x := fun x hx => by
  obtain ⟨n, _, rfl⟩ := List.mem_map.mp hx
  omega
theorem to_nat : ∀ {ts : List Int}, (∀ x ∈ ts, 0 ≤ x) → ∃ ns : List Nat, ts = nI ns
  | [], _ => ⟨[], rfl⟩
  | t :: ts, h => by
    obtain ⟨ns, e⟩ := to_nat (ts := ts) fun x hx => h x (List.mem_cons_of_mem _ hx)
    have h0 := h t (List.mem_cons_self ..)
    refine ⟨t.toNat :: ns, ?_⟩
    unfold nI at e ⊢
    rw [List.map_cons, ← e, Int.toNat_of_nonneg h0]
theorem text_nat {top : Nat} {ts : List Int} (h : Tx top ts) : ∃ ns : List Nat, ts = nI ns ∧ ∀ n ∈ ns, n ≤ top := by
  obtain ⟨ns, rfl⟩ := to_nat fun x hx => (h x hx).1
  refine ⟨ns, rfl, fun n hn => ?_⟩
  have := (h (n : Int) (List.mem_map.mpr ⟨n, hn, rfl⟩)).2
  omega
/-- a wish's item -/
def wD : Option Nat → PyData
  | none => .none
  | some w => .int (w : Nat)
theorem wD_some (ns : List Nat) : (ns.map some).map wD = (nI ns).map .int := by
  unfold nI
  rw [List.map_map, List.map_map]
  rfl
theorem lns_zip : ∀ (ts us : List Nat), ts.zip (us.map some) = lns ts us
  | [], _ => by simp [lns]
  | _ :: _, [] => by simp [lns]
  | t :: ts, u :: us => by
    have := lns_zip ts us
    simp only [List.map_cons, List.zip_cons_cons, lns, List.zipWith_cons_cons] at this ⊢
    rw [this]
/-- rises of whole numbers -/
def rsI (p : Int) : List Int → Int
  | [] => 0
  | c :: r => (if c - p > 0 then c - p else 0) + rsI c r
theorem rsI_nat : ∀ (p : Nat) (ns : List Nat), rsI p (nI ns) = ((rs p ns : Nat) : Int)
  | _, [] => rfl
  | p, c :: r => by
    show (if (c : Int) - p > 0 then (c : Int) - p else 0) + rsI (c : Int) (nI r) = (((c - p) + rs c r : Nat) : Int)
    rw [rsI_nat c r]
    split <;> omega
theorem rsI_snoc (x : Int) : ∀ (p : Int) (l : List Int), ∃ q, rsI p (l ++ [x]) = rsI p l + (if x - q > 0 then x - q else 0) ∧ (q = p ∧ l = [] ∨ ∃ l', l = l' ++ [q])
  | p, [] => ⟨p, by simp [rsI], .inl ⟨rfl, rfl⟩⟩
  | p, c :: r => by
    obtain ⟨q, h1, h2⟩ := rsI_snoc x c r
    refine ⟨q, by simp only [List.cons_append, rsI, h1]; omega, .inr ?_⟩
    rcases h2 with ⟨rfl, rfl⟩ | ⟨l', rfl⟩
    · exact ⟨[], rfl⟩
    · exact ⟨c :: l', rfl⟩
end Lw

namespace Lw
open PySem Pq Mx
/-- the last one, or p -/
def lastI (p : Int) : List Int → Int
  | [] => p
  | c :: r => lastI c r
theorem rsI_snoc' (x : Int) : ∀ (p : Int) (l : List Int), rsI p (l ++ [x]) = rsI p l + (if x - lastI p l > 0 then x - lastI p l else 0)
  | p, [] => by simp [rsI, lastI]
  | p, c :: r => by
    simp only [List.cons_append, rsI, lastI, rsI_snoc' x c r]
    omega
theorem lastI_snoc (x : Int) : ∀ (p : Int) (l : List Int), lastI p (l ++ [x]) = x
  | p, [] => rfl
  | p, c :: r => lastI_snoc x c r
theorem rises_ok {us : List Int} {d : PyData} (hd : d = .tuple (us.map .int) ∨ d = .list (us.map .int)) : f__law_rises [d] = some ⟨.int (rsI 0 us), .sh⟩ := by
  have goal : ∃ r, f__law_rises [d] = some r ∧ r = ⟨.int (rsI 0 us), .sh⟩ := by
    apply f_retP rfl
    apply w_seq
    apply w_setT (ρ' := [some (.sh d), some (.sh (.int 0)), some (.sh (.int 0)), none]) (e_app (e_cons e_k (e_cons e_k e_nil)) (r_tup2 kd_sh kd_sh)) ne_sh rfl
    apply w_nx
    apply w_seq
    apply w_for (ds := us.map .int) (fun m ρ => ∃ x3, m ≤ us.length ∧ ρ = [some (.sh d), some (.sh (.int (rsI 0 (us.take m)))), some (.sh (.int (lastI 0 (us.take m)))), x3])
    · rcases hd with rfl | rfl
      · exact i_tup (e_var rfl) kd_sh
      · exact i_list (e_var rfl) kd_sh
    · exact ⟨none, Nat.zero_le _, rfl⟩
    · rintro m y ρ hy ⟨x3, hm, rfl⟩
      rw [List.getElem?_map] at hy
      obtain ⟨c, hc, rfl⟩ := Option.map_eq_some_iff.mp hy
      have hml : m < us.length := (List.getElem?_eq_some_iff.mp hc).1
      have et : us.take (m + 1) = us.take m ++ [c] := by rw [List.take_succ, hc]; rfl
      refine ⟨[some (.sh d), some (.sh (.int (rsI 0 (us.take m)))), some (.sh (.int (lastI 0 (us.take m)))), some (.sh (.int c))], rfl, ?_⟩
      apply w_seq
      apply w_set (e_bin (e_var rfl) (e_app (e_cons e_k (e_cons (e_bin (e_var rfl) (e_var rfl) r_sub) e_nil)) r_max) r_add); walk_at "pqn"
      apply w_nx
      apply w_set (e_var rfl); walk_at "pqn"
      apply w_nx
      refine ⟨some (.sh (.int c)), hml, ?_⟩
      rw [et, rsI_snoc', lastI_snoc]
    · rintro ρ ⟨x3, hm, rfl⟩
      rw [List.length_map, List.take_length]
      apply w_nx
      apply w_retV rfl
      rfl
  obtain ⟨r, e, rfl⟩ := goal
  exact e
end Lw

namespace Lw
open PySem Pq Mx
theorem near_ok {ds ts : List Int} {top : Nat} (hd : ∀ x ∈ ds, 0 ≤ x) (h1 : 17 ≤ ds.length) (h2 : ts.length + 1 ≤ ds.length) (hn : ∀ x ∈ ts, 0 ≤ x) (h3 : 1 ≤ ts.length) (h4 : ts.length ≤ 1000) :
    ∃ us : List Int, us.length = ts.length ∧ Tx top us ∧ f__law_near [.list (ds.map .int), .tuple (ts.map .int), .int top] = some ⟨.tuple (us.map .int), .sh⟩ := by
  have goal : ∃ r, f__law_near [.list (ds.map .int), .tuple (ts.map .int), .int top] = some r ∧ ∃ us : List Int, us.length = ts.length ∧ Tx top us ∧ r = ⟨.tuple (us.map .int), .sh⟩ := by
    have a0 := at_int (ns := ds) (i := 0) 0 rfl (by omega)
    have a1 := at_int (ns := ds) (i := 1) 1 rfl (by omega)
    have p1 := hd ds[1] (List.getElem_mem _)
    generalize ds[0] = d0 at a0
    generalize ds[1] = d1 at a1 p1
    have m0 := Int.emod_nonneg d1 (show (6 : Int) ≠ 0 by omega)
    have m1 := Int.emod_lt_of_pos d1 (show (0 : Int) < 6 by omega)
    have tl : (ts.map PyData.int).length = ts.length := List.length_map ..
    have q0 : ∀ g : Int, 0 ≤ g % ((top : Int) + 1) := fun g => Int.emod_nonneg g (by omega)
    have q1 : ∀ g : Int, g % ((top : Int) + 1) < (top : Int) + 1 := fun g => Int.emod_lt_of_pos g (by omega)
    apply f_retP rfl
    have t : (cTest (cBin eqR (cBin modR (cBin ixR (cVar 0) (cK (.int 0))) (cK (.int 3))) (cK (.int 0)))) (Pq.fresh 6 [.list (ds.map .int), .tuple (ts.map .int), .int top]) = some (decide (d0 % 3 = 0)) := e_test (e_bin (e_bin (e_bin (e_var rfl) e_k (r_ixL a0)) e_k (r_mod (by omega))) e_k r_eqI)
    cases hb : decide (d0 % 3 = 0) with
    | true =>
      rw [hb] at t
      have ec : cutD (ds.map PyData.int) (some 1) (some (1 + ((ts.map PyData.int).length : Int))) = ((ds.drop 1).take ts.length).map PyData.int := by
        rw [tl, show (1 : Int) + (ts.length : Int) = ((1 + ts.length : Nat) : Int) by omega, show (some (1 : Int)) = some ((1 : Nat) : Int) from rfl, cutD_nat, List.map_take, List.map_drop]
        congr 1
        omega
      have gl : ((ds.drop 1).take ts.length).length = ts.length := by rw [List.length_take, List.length_drop]; omega
      generalize (ds.drop 1).take ts.length = gs at ec gl
      obtain ⟨r, e, q⟩ : RetP (fun r => ∃ us : List Int, us.length = ts.length ∧ Tx top us ∧ r = ⟨.tuple (us.map .int), .sh⟩) (cRet (cApp tupleR (cCons (cComp [3] (cIter (cSlice (cVar 0) (cPart (cK (.int 1))) (cPart (cBin addR (cK (.int 1)) (cApp lenR (cCons (cVar 1) cNil)))))) (tName 3) cYes (cBin modR (cVar 3) (cBin addR (cVar 2) (cK (.int 1))))) cNil)) (Pq.fresh 6 [.list (ds.map .int), .tuple (ts.map .int), .int top])) := by
        refine w_ret (e_app (e_cons (e_comp rfl (i_list (e_slice (e_var rfl) (e_part e_k) (e_part (e_bin e_k (e_app (e_cons (e_var rfl) e_nil) r_lenT) r_add)) r_slL) kd_fr) ?_ (es := (gs.map fun g => g % ((top : Int) + 1)).map .int) ?_) e_nil) r_tupleL) ne_sh ⟨gs.map fun g => g % ((top : Int) + 1), by rw [List.length_map, gl], fun x hx => ?_, rfl⟩
        · rw [ec, List.length_map, gl]; show _ < 100000; omega
        · rw [ec, List.map_map]
          have := compL_mapF (α := Int) (t := tName 3) (c := cYes) (fe := cBin modR (cVar 3) (cBin addR (cVar 2) (cK (.int 1)))) (ρ := wipeR (Pq.fresh 6 [.list (ds.map .int), .tuple (ts.map .int), .int top]) [3]) PyData.int (fun g => PyData.int (g % ((top : Int) + 1))) (qs := gs) fun g _ => ⟨_, .sh, rfl, rfl, kd_sh, e_bin (e_var rfl) (e_bin (e_var rfl) e_k r_add) (r_mod (by omega))⟩
          exact this
        · obtain ⟨g, _, rfl⟩ := List.mem_map.mp hx
          have := q0 g
          have := q1 g
          omega
      exact ⟨r, s_seqR (s_ifT t e), q⟩
    | false =>
      rw [hb] at t
      apply w_seq
      refine ⟨_, s_ifF t rfl, ?_⟩
      apply w_seq
      apply w_for (ds := rangeD 0 (d1 % 6)) (fun k ρ => ∃ (us : List Int) (x4 : Option Cell), us.length = ts.length ∧ (∀ x ∈ us, 0 ≤ x) ∧ ρ = [some (.sh (.list (ds.map .int))), some (.sh (.tuple (us.map .int))), some (.sh (.int top)), none, x4, none])
      · exact i_range1 (e_bin (e_bin (e_var rfl) e_k (r_ixL a1)) e_k (r_mod (by omega))) (by unfold small62; omega)
      · exact ⟨ts, none, rfl, hn, rfl⟩
      · rintro k d ρ hk ⟨us, x4, hu, hun, rfl⟩
        have hk6 : k < (d1 % 6).toNat := by
          have := (List.getElem?_eq_some_iff.mp hk).1
          rw [rangeD_len] at this
          omega
        rw [rangeD_get (by omega), Int.zero_add] at hk
        cases hk
        refine ⟨[some (.sh (.list (ds.map .int))), some (.sh (.tuple (us.map .int))), some (.sh (.int top)), none, some (.sh (.int k)), none], rfl, ?_⟩
        have ec : cutD (ds.map PyData.int) (some (2 + 3 * (k : Int))) (some (5 + 3 * (k : Int))) = (((ds.drop (2 + 3 * k)).take 3).map PyData.int) := by
          rw [show (2 : Int) + 3 * (k : Int) = ((2 + 3 * k : Nat) : Int) by omega, show (5 : Int) + 3 * (k : Int) = ((5 + 3 * k : Nat) : Int) by omega, cutD_nat, List.map_take, List.map_drop]
          congr 1
          omega
        obtain ⟨c, hc, fc⟩ := command_ok (ds := (ds.drop (2 + 3 * k)).take 3) (L := us.length) (by rw [List.length_take, List.length_drop]; omega) (fun x hx => hd x (List.mem_of_mem_drop (List.mem_of_mem_take hx))) (by omega)
        have hch := changed_ok (ts := us) hc (by omega)
        rw [← ec] at fc
        have ul : (us.map PyData.int).length = us.length := List.length_map ..
        apply w_frz
        walk_at "pqn"
        apply w_set (r := ⟨.tuple ((chg c us).map .int), .sh⟩)
        · refine e_call2 (k2 := .sh) (e_var rfl) (e_call2 (k1 := .fr) (k2 := .sh) (e_slice (e_var rfl) (e_part (e_bin e_k (e_bin e_k (e_var rfl) (r_mul (.inl (by decide)))) r_add)) (e_part (e_bin e_k (e_bin e_k (e_var rfl) (r_mul (.inl (by decide)))) r_add)) r_slL) (e_app (e_cons (e_var rfl) e_nil) r_lenT) ?_ ne_sh kd_fr kd_sh) hch ne_sh kd_sh kd_sh
          rw [ul]
          exact fc
        walk_at "pqn"
        apply w_nx
        exact ⟨chg c us, _, by rw [chg_len]; exact hu, chg_nn hun, rfl⟩
      · rintro ρ ⟨us, x4, hu, hun, rfl⟩
        apply w_nx
        apply w_frz
        walk_at "pqn"
        refine w_ret (e_app (e_cons (e_comp rfl (i_tup (e_var rfl) kd_sh) ?_ (es := (us.map fun u => if u < (top : Int) then u else (top : Int)).map .int) ?_) e_nil) r_tupleL) ne_sh ⟨us.map fun u => if u < (top : Int) then u else (top : Int), by rw [List.length_map, hu], fun x hx => ?_, rfl⟩
        · rw [List.length_map]; show _ < 100000; omega
        · rw [List.map_map]
          exact compL_mapF (α := Int) PyData.int (fun u => PyData.int (if u < (top : Int) then u else (top : Int))) (qs := us) fun u _ => ⟨_, .sh, rfl, rfl, kd_sh, e_app (e_cons (e_var rfl) (e_cons (e_var rfl) e_nil)) r_min⟩
        · obtain ⟨u, hu', rfl⟩ := List.mem_map.mp hx
          have := hun u hu'
          split <;> omega
  obtain ⟨r, e, us, h1, h2, rfl⟩ := goal
  exact ⟨us, h1, h2, e⟩
end Lw

namespace Lw
open PySem Pq Mx
theorem intsO_map : ∀ us : List Int, intsO (us.map .int) = some us
  | [] => rfl
  | u :: us => by
    show (intsO (us.map .int)).bind _ = _
    rw [intsO_map us]
    rfl
theorem r_maxT {us : List Int} {k : Kd} (h : us ≠ []) : maxA [⟨.tuple (us.map .int), k⟩] = some ⟨.int (maxI us), .sh⟩ := by
  show (intsO (us.map .int)).bind _ = _
  rw [intsO_map]
  show (if us = [] then none else shR (.int (maxI us))) = _
  rw [if_neg h]
  rfl
theorem max_nat {ns : List Nat} (h : ns ≠ []) : ∃ a ∈ ns, maxI (nI ns) = (a : Int) ∧ ∀ n ∈ ns, n ≤ a := by
  have hm := maxI_mem (is := nI ns) (fun z => h (List.map_eq_nil_iff.mp z))
  obtain ⟨a, ha, e⟩ := List.mem_map.mp hm
  refine ⟨a, ha, e.symm, fun n hn => ?_⟩
  have := maxI_ge (is := nI ns) (y := (n : Int)) (List.mem_map.mpr ⟨n, hn, rfl⟩)
  have e' : maxI (nI ns) = (a : Int) := e.symm
  omega
theorem zip_ints : ∀ (ts xs : List Nat), zipD ((nI ts).map .int) ((nI xs).map .int) = (ts.zip xs).map fun p => PyData.tuple [.int ((p.1 : Nat) : Int), .int ((p.2 : Nat) : Int)]
  | [], _ => by simp [nI, zipD]
  | _ :: _, [] => by simp [nI, zipD]
  | t :: ts, x :: xs => by
    have := zip_ints ts xs
    unfold zipD nI at this ⊢
    simp only [List.map_cons, List.zipWith_cons_cons, List.zip_cons_cons] at this ⊢
    rw [this]
theorem zipWith_zip {α β γ : Type} (f : α → β → γ) : ∀ (as : List α) (bs : List β), (as.zip bs).map (fun p => f p.1 p.2) = List.zipWith f as bs
  | [], _ => by simp
  | _ :: _, [] => by simp
  | a :: as, b :: bs => by simp [zipWith_zip f as bs]
theorem r_repI (n : Nat) (a : Nat) {k l : Kd} (hn : n ≤ 1000) : mulR ⟨.tuple [.int ((a : Nat) : Int)], k⟩ ⟨.int ((n : Nat) : Int), l⟩ = some ⟨.tuple ((nI (List.replicate n a)).map .int), .sh⟩ := by
  rw [r_mulT hn (by show 1 ≤ 1000; decide), List.flatten_replicate_singleton]
  unfold nI
  rw [List.map_replicate, List.map_replicate]
theorem rs_rep (a n : Nat) (h : 1 ≤ n) : rs 0 (List.replicate n a) = a := by
  cases n with
  | zero => omega
  | succ n =>
    rw [List.replicate_succ]
    have := rs_const a a n
    simp only [rs]
    omega
end Lw

namespace Lw
open PySem Pq Mx
theorem compL_cons {t : PyData → Sl → Option Sl} {fe : F} {ρ ρ1 : Sl} {d e : PyData} {k : Kd} {ds es : List PyData} (h1 : t d ρ = some ρ1) (h2 : fe ρ1 = some ⟨e, k⟩) (h3 : k ≠ .raw) (h4 : compL t cYes fe ρ ds = some es) : compL t cYes fe ρ (d :: ds) = some (e :: es) := by
  unfold compL
  rw [h1]
  show (fe ρ1).bind _ = _
  rw [h2]
  show (if k = Kd.raw then none else _) = _
  rw [if_neg h3, h4]
  rfl
/-- a wish: some depths left out -/
theorem wish_comp {t : PyData → Sl → Option Sl} {a b : Nat} {ρ : Sl} (ht : ∀ x e : Int, ∃ ρ1, t (.tuple [.int x, .int e]) ρ = some ρ1 ∧ cVar a ρ1 = some ⟨.int x, .sh⟩ ∧ cVar b ρ1 = some ⟨.int e, .sh⟩) : ∀ (xs : List Nat) (es : List Int), xs.length ≤ es.length →
    ∃ ws : List (Option Nat), ws.length = xs.length ∧ (∀ x, some x ∈ ws → x ∈ xs) ∧ compL t cYes (cIf (cTest (cBin eqR (cBin modR (cVar b) (cK (.int 4))) (cK (.int 0)))) (cK .none) (cVar a)) ρ (zipD ((nI xs).map .int) (es.map .int)) = some (ws.map wD)
  | [], _, _ => ⟨[], rfl, fun _ h => (nomatch h), rfl⟩
  | _ :: _, [], h => by simp at h
  | x :: xs, e :: es, h => by
    obtain ⟨ws, h1, h2, h3⟩ := wish_comp ht xs es (by simpa using h)
    obtain ⟨ρ1, g1, g2, g3⟩ := ht (x : Int) e
    have t0 : (cTest (cBin eqR (cBin modR (cVar b) (cK (.int 4))) (cK (.int 0)))) ρ1 = some (decide (e % 4 = 0)) := e_test (e_bin (e_bin g3 e_k (r_mod (by omega))) e_k r_eqI)
    cases hb : decide (e % 4 = 0) with
    | true =>
      rw [hb] at t0
      refine ⟨none :: ws, by simp [h1], fun y hy => ?_, compL_cons g1 (e_ifT t0 e_k) kd_sh h3⟩
      rcases List.mem_cons.mp hy with hy | hy
      · cases hy
      · exact List.mem_cons_of_mem _ (h2 y hy)
    | false =>
      rw [hb] at t0
      refine ⟨some x :: ws, by simp [h1], fun y hy => ?_, compL_cons g1 (e_ifF t0 g2) kd_sh h3⟩
      rcases List.mem_cons.mp hy with hy | hy
      · cases hy
        exact List.mem_cons_self ..
      · exact List.mem_cons_of_mem _ (h2 y hy)
theorem zip_take {α β : Type} : ∀ (n : Nat) (as : List α) (bs : List β), (as.take n).zip (bs.take n) = (as.zip bs).take n
  | 0, _, _ => by simp
  | _ + 1, [], _ => by simp
  | _ + 1, _ :: _, [] => by simp
  | n + 1, a :: as, b :: bs => by simp [zip_take n as bs]
theorem zip_drop {α β : Type} : ∀ (n : Nat) (as : List α) (bs : List β), (as.drop n).zip (bs.drop n) = (as.zip bs).drop n
  | 0, _, _ => by simp
  | _ + 1, [], _ => by simp
  | _ + 1, _ :: _, [] => by simp
  | n + 1, a :: as, b :: bs => by simp [zip_drop n as bs]
theorem zip_app {α β : Type} : ∀ (as cs : List α) (bs ds : List β), as.length = bs.length → (as ++ cs).zip (bs ++ ds) = as.zip bs ++ cs.zip ds
  | [], _, [], _, _ => by simp
  | a :: as, cs, b :: bs, ds, h => by simp [zip_app as cs bs ds (by simpa using h)]
  | [], _, _ :: _, _, h => by simp at h
  | _ :: _, _, [], _, h => by simp at h
theorem zip_cut {α β : Type} (p q : Nat) (as : List α) (bs : List β) (h : as.length = bs.length) : (as.take p ++ as.drop q).zip (bs.take p ++ bs.drop q) = (as.zip bs).take p ++ (as.zip bs).drop q := by
  rw [zip_app _ _ _ _ (by rw [List.length_take, List.length_take, h]), zip_take, zip_drop]
theorem nI_take (n : Nat) (ts : List Nat) : ((nI ts).map PyData.int).take n = (nI (ts.take n)).map .int := by unfold nI; rw [List.map_take, List.map_take]
theorem nI_drop (n : Nat) (ts : List Nat) : ((nI ts).map PyData.int).drop n = (nI (ts.drop n)).map .int := by unfold nI; rw [List.map_drop, List.map_drop]
theorem nI_app (ts us : List Nat) : (nI ts).map PyData.int ++ (nI us).map PyData.int = (nI (ts ++ us)).map .int := by unfold nI; rw [List.map_append, List.map_append]
theorem mem_td {α : Type} {p q : Nat} {x : α} {xs : List α} (h : x ∈ xs.take p ++ xs.drop q) : x ∈ xs := by
  rcases List.mem_append.mp h with h | h
  · exact List.mem_of_mem_take h
  · exact List.mem_of_mem_drop h
end Lw

namespace Lw
open PySem Pq Mx
/-- what the program's distance shall be -/
def DistOk : Prop := ∀ (ts : List Nat) (ws : List (Option Nat)), ts.length = ws.length → 1 ≤ ts.length → ts.length ≤ 20 → (∀ t ∈ ts, t ≤ 21) → (∀ x, some x ∈ ws → x ≤ 20) → f_distance [.tuple ((nI ts).map .int), .tuple (ws.map wD)] = some ⟨.int ((dst (ts.zip ws) : Nat) : Int), .sh⟩
theorem DistOk.text (h : DistOk) {ts us : List Nat} (hl : ts.length = us.length) (h1 : 1 ≤ ts.length) (h2 : ts.length ≤ 20) (ht : ∀ t ∈ ts, t ≤ 21) (hu : ∀ u ∈ us, u ≤ 20) : f_distance [.tuple ((nI ts).map .int), .tuple ((nI us).map .int)] = some ⟨.int ((dst (lns ts us) : Nat) : Int), .sh⟩ := by
  have := h ts (us.map some) (by rw [List.length_map]; exact hl) h1 h2 ht (fun x hx => by
    obtain ⟨u, hu', e⟩ := List.mem_map.mp hx
    cases e
    exact hu _ hu')
  rwa [wD_some, lns_zip] at this
end Lw

namespace Lw
open PySem Pq Mx
/-! ### numbers as bits -/
theorem r_band {a b : Nat} {k l : Kd} : bandR ⟨.int (a : Int), k⟩ ⟨.int (b : Int), l⟩ = some ⟨.int ((a &&& b : Nat) : Int), .sh⟩ := by
  show some (⟨.int (Builtin.bitAnd (a : Int) (b : Int)), .sh⟩ : R) = _
  rw [PyProof.Rows.bitAnd_pp (Int.natCast_nonneg _) (Int.natCast_nonneg _), Int.toNat_natCast, Int.toNat_natCast]
theorem xor_nat (a b : Nat) : Builtin.bitXor (a : Int) (b : Int) = ((a ^^^ b : Nat) : Int) := by
  rw [Bits.bitXor_pp (Int.natCast_nonneg _) (Int.natCast_nonneg _), Int.toNat_natCast, Int.toNat_natCast]
theorem r_bxor {a b : Nat} {k l : Kd} : bxorR ⟨.int (a : Int), k⟩ ⟨.int (b : Int), l⟩ = some ⟨.int ((a ^^^ b : Nat) : Int), .sh⟩ := by
  show some (⟨.int (Builtin.bitXor (a : Int) (b : Int)), .sh⟩ : R) = _
  rw [xor_nat]
theorem r_bor {a b : Nat} {k l : Kd} : borR ⟨.int (a : Int), k⟩ ⟨.int (b : Int), l⟩ = some ⟨.int ((a ||| b : Nat) : Int), .sh⟩ := by
  show some (⟨.int (Builtin.bitOr (a : Int) (b : Int)), .sh⟩ : R) = _
  rw [L2.bitOr_nn (Int.natCast_nonneg _) (Int.natCast_nonneg _), Int.toNat_natCast, Int.toNat_natCast]
theorem r_bandN {a b : Nat} {k l : Kd} : bandR ⟨.int (a : Int), k⟩ ⟨.int (Builtin.bitNot (b : Int)), l⟩ = some ⟨.int ((andn a b : Nat) : Int), .sh⟩ := by
  show some (⟨.int (Builtin.bitAnd (a : Int) (Builtin.bitNot (b : Int))), .sh⟩ : R) = _
  have e1 : Builtin.bitAnd (a : Int) (b : Int) = ((a &&& b : Nat) : Int) := by
    rw [PyProof.Rows.bitAnd_pp (Int.natCast_nonneg _) (Int.natCast_nonneg _), Int.toNat_natCast, Int.toNat_natCast]
  have e2 : Builtin.bitAnd (a : Int) ((a &&& b : Nat) : Int) = ((a &&& b : Nat) : Int) := by
    rw [PyProof.Rows.bitAnd_pp (Int.natCast_nonneg _) (Int.natCast_nonneg _), Int.toNat_natCast, Int.toNat_natCast]
    congr 1
    refine Nat.eq_of_testBit_eq fun i => ?_
    rw [Nat.testBit_and, Nat.testBit_and]
    cases a.testBit i <;> rfl
  have e3 := PyProof.Rows.bitXor_and (a : Int) ((a &&& b : Nat) : Int)
  rw [xor_nat, e2] at e3
  rw [PyProof.Rows.bitAnd_not, e1]
  show some (⟨.int _, .sh⟩ : R) = some ⟨.int ((a ^^^ (a &&& b) : Nat) : Int), .sh⟩
  rw [e3]
  congr 3
  omega
theorem sml_nat {a : Nat} (h : a < 2 ^ 1000) : sml (a : Int) := by
  unfold sml
  rw [Int.natAbs_natCast]
  exact h
theorem pow_le {a b c : Nat} (h : a < 2 ^ b) (hb : b ≤ c) : a < 2 ^ c := Nat.lt_of_lt_of_le h (Nat.pow_le_pow_right (by decide) hb)
theorem cast_two (k : Nat) : ((2 ^ k : Nat) : Int) = 2 ^ k := by rw [Int.natCast_pow]; rfl
theorem r_shl {a j : Nat} {k l : Kd} (h : a < 2 ^ 1000) (hj : j ≤ 1000) : shlR ⟨.int (a : Int), k⟩ ⟨.int (j : Int), l⟩ = some ⟨.int ((a <<< j : Nat) : Int), .sh⟩ := by
  show (if 0 ≤ (j : Int) ∧ (j : Int) ≤ 1000 ∧ sml (a : Int) then some (⟨.int ((a : Int) * 2 ^ (j : Int).toNat), .sh⟩ : R) else none) = _
  rw [if_pos ⟨by omega, by omega, sml_nat h⟩, Int.toNat_natCast, Nat.shiftLeft_eq, Int.natCast_mul, cast_two]
theorem r_shr {a j : Nat} {k l : Kd} : shrR ⟨.int (a : Int), k⟩ ⟨.int (j : Int), l⟩ = some ⟨.int ((a >>> j : Nat) : Int), .sh⟩ := by
  show (if 0 ≤ (j : Int) then some (⟨.int ((a : Int) / 2 ^ (j : Int).toNat), .sh⟩ : R) else none) = _
  rw [if_pos (by omega), Int.toNat_natCast, Nat.shiftRight_eq_div_pow, Int.natCast_ediv, cast_two]
theorem one_shl (j : Nat) : (1 <<< j : Nat) = 2 ^ j := by rw [Nat.shiftLeft_eq, Nat.one_mul]
/-- 1 << j -/
theorem e_oneShl {fa : F} {ρ : Sl} {j : Nat} {k : Kd} (h1 : fa ρ = some ⟨.int (j : Int), k⟩) (hj : j ≤ 1000) : cBin shlR (cK (.int 1)) fa ρ = some ⟨.int ((2 ^ j : Nat) : Int), .sh⟩ := by
  have := r_shl (a := 1) (j := j) (k := .sh) (l := k) (Nat.one_lt_two_pow (by decide)) hj
  rw [one_shl] at this
  exact e_bin e_k h1 this
/-- (1 << j) - 1 -/
theorem e_msk {fa : F} {ρ : Sl} {j : Nat} {k : Kd} (h1 : fa ρ = some ⟨.int (j : Int), k⟩) (hj : j ≤ 1000) : cBin subR (cBin shlR (cK (.int 1)) fa) (cK (.int 1)) ρ = some ⟨.int ((msk j : Nat) : Int), .sh⟩ := by
  have e : ((msk j : Nat) : Int) = ((2 ^ j : Nat) : Int) - 1 := by
    have := Nat.one_le_two_pow (n := j)
    unfold msk
    omega
  rw [e]
  exact e_bin (e_oneShl h1 hj) e_k r_sub
/-- (1 << b) - (1 << a) -/
theorem e_btw {fa fb : F} {ρ : Sl} {a b : Nat} {k l : Kd} (h1 : fa ρ = some ⟨.int (a : Int), k⟩) (h2 : fb ρ = some ⟨.int (b : Int), l⟩) (hab : a ≤ b) (hb : b ≤ 1000) : cBin subR (cBin shlR (cK (.int 1)) fb) (cBin shlR (cK (.int 1)) fa) ρ = some ⟨.int ((btwN a b : Nat) : Int), .sh⟩ := by
  have e : ((btwN a b : Nat) : Int) = ((2 ^ b : Nat) : Int) - ((2 ^ a : Nat) : Int) := by
    have := Nat.pow_le_pow_right (n := 2) (by decide) hab
    unfold btwN
    omega
  rw [e]
  exact e_bin (e_oneShl h2 hb) (e_oneShl h1 (by omega)) r_sub
theorem e_inv {fa : F} {ρ : Sl} {i : Int} {k : Kd} (h1 : fa ρ = some ⟨.int i, k⟩) : cInv fa ρ = some ⟨.int (Builtin.bitNot i), .sh⟩ := by unfold cInv; rw [h1]; rfl
/-- a & ~b -/
theorem e_andn {fa fb : F} {ρ : Sl} {a b : Nat} {k l : Kd} (h1 : fa ρ = some ⟨.int (a : Int), k⟩) (h2 : fb ρ = some ⟨.int (b : Int), l⟩) : cBin bandR fa (cInv fb) ρ = some ⟨.int ((andn a b : Nat) : Int), .sh⟩ := e_bin h1 (e_inv h2) r_bandN
theorem bits_bl (n : Nat) : Builtin.Int.intBits (n : Int) = bl n := by
  unfold Builtin.Int.intBits bl
  by_cases h : n = 0
  · subst h; rfl
  · have e : ((n : Int) == 0) = false := by
      rw [beq_eq_false_iff_ne]
      omega
    rw [e, if_neg (by decide), if_neg h, Int.natAbs_natCast]
theorem e_bits {fa : F} {ρ : Sl} {n : Nat} {k : Kd} (h1 : fa ρ = some ⟨.int (n : Int), k⟩) : cBits fa ρ = some ⟨.int ((bl n : Nat) : Int), .sh⟩ := by
  unfold cBits
  rw [h1]
  show some (⟨.int ((Builtin.Int.intBits (n : Int) : Nat) : Int), .sh⟩ : R) = _
  rw [bits_bl]
theorem w_xug {i a b : Nat} {f : F} {ρ : Sl} {k : Kd} {W : Out → Prop} (h1 : ρ[i]? = some (some (.sh (.int (a : Int))))) (h2 : f ρ = some ⟨.int (b : Int), k⟩) (h3 : W (.nx (ρ.set i (some (.sh (.int ((a ^^^ b : Nat) : Int))))))) : W (cXug i f ρ) := by
  unfold cXug
  rw [h1]
  show W (runO (f ρ) fun r => runO (intO r) fun b => .nx (ρ.set i (some (.sh (.int (Builtin.bitXor (a : Int) b))))))
  rw [h2]
  show W (.nx (ρ.set i (some (.sh (.int (Builtin.bitXor (a : Int) (b : Int)))))))
  rw [xor_nat]
  exact h3
/-! ### twos and noughts cancelled -/
theorem low_and (t : Nat) (h : t ≠ 0) : ∃ p, Builtin.bitAnd (t : Int) (-(t : Int)) = ((2 ^ p : Nat) : Int) ∧ ∀ k, t.testBit k = true → p ≤ k := by
  obtain ⟨p, a, e⟩ := low_bit t h
  refine ⟨p, ?_, fun k hk => by rw [e] at hk; exact low_bits hk⟩
  have e2 : (t : Int) = 2 ^ p * (2 * (a : Int) + 1) := by
    rw [e, Int.natCast_mul, cast_two]
    congr 1
  rw [e2, PySem.W.kbt_low, cast_two]
theorem cancelled_ok {t n m : Nat} (ht : t < 2 ^ 400) (hn : n < 2 ^ 400) (hm : m ≤ 400) : f_cancelled [.int (t : Int), .int (n : Int), .int (m : Int)] = some ⟨.tuple [.int (((cn t n m).1 : Nat) : Int), .int (((cn t n m).2 : Nat) : Int)], .sh⟩ := by
  have goal : ∃ r, f_cancelled [.int (t : Int), .int (n : Int), .int (m : Int)] = some r ∧ r = ⟨.tuple [.int (((cn t n m).1 : Nat) : Int), .int (((cn t n m).2 : Nat) : Int)], .sh⟩ := by
    unfold f_cancelled
    refine f_retP (Q := fun r => r = ⟨.tuple [.int (((cn t n m).1 : Nat) : Int), .int (((cn t n m).2 : Nat) : Int)], .sh⟩) rfl ?_
    apply w_seq
    have hend : ∀ {a b : Nat} {x3 x4 : Option Cell}, (a, b) = cn t n m → NxP (fun ρ' => RetP (fun r => r = ⟨.tuple [.int (((cn t n m).1 : Nat) : Int), .int (((cn t n m).2 : Nat) : Int)], .sh⟩) (cRet (cApp tupR (cCons (cVar 0) (cCons (cVar 1) cNil))) ρ')) (.nx [some (.sh (.int (a : Int))), some (.sh (.int (b : Int))), some (.sh (.int (m : Int))), x3, x4]) := fun {a b x3 x4} e => by
      apply w_nx
      refine w_ret (e_app (e_cons (e_var rfl) (e_cons (e_var rfl) e_nil)) (r_tup2 kd_sh kd_sh)) ne_sh ?_
      rw [← e]
    have tt : ∀ {P : Bool → Prop}, (∀ b : Bool, (b = false → t = 0 ∨ ∃ p, (∀ k, t.testBit k = true → p ≤ k) ∧ n ≤ 2 ^ p) → P b) → ∃ b, cTest (cChain ltR ltR (cK (.int 0)) (cBin bandR (cVar 0) (cNeg (cVar 0))) (cVar 1)) (fresh 5 [.int (t : Int), .int (n : Int), .int (m : Int)]) = some b ∧ P b := fun {P} h => by
      refine ⟨_, e_test (e_chain (h := decide (0 < Builtin.bitAnd (t : Int) (-(t : Int)))) (h' := decide (Builtin.bitAnd (t : Int) (-(t : Int)) < (n : Int))) (k := .sh) e_k (e_bin (e_var rfl) (e_neg (e_var rfl)) rfl) r_lt fun _ => ⟨_, e_var rfl, r_lt⟩), h _ fun hb => ?_⟩
      by_cases h0 : t = 0
      · exact .inl h0
      · right
        obtain ⟨p, e, hp⟩ := low_and t h0
        refine ⟨p, hp, ?_⟩
        rw [e] at hb
        have h2 : 0 < ((2 ^ p : Nat) : Int) := by
          have := Nat.one_le_two_pow (n := p)
          omega
        rw [decide_eq_true h2, Bool.true_and] at hb
        have := of_decide_eq_false hb
        omega
    obtain ⟨b, eb, hb⟩ := tt (P := fun b => b = false → cn t n m = (t, n)) fun b h e => by
      rcases h e with h | ⟨p, h1, h2⟩
      · subst h
        exact cn_none (p := bl n) (fun k hk => by rw [Nat.zero_testBit] at hk; cases hk) (Nat.le_of_lt (lt_of_bits fun k hk => by
          cases Nat.lt_or_ge k (bl n) with
          | inl h => exact h
          | inr h => rw [bl_after h] at hk; cases hk)) m
      · exact cn_none h1 h2 m
    apply w_if eb
    · intro _
      apply w_for (ds := rangeD 1 ((m : Int) + 1)) (fun r ρ => ∃ (x3 x4 : Option Cell), ρ = [some (.sh (.int (((cn t n r).1 : Nat) : Int))), some (.sh (.int (((cn t n r).2 : Nat) : Int))), some (.sh (.int (m : Int))), x3, x4])
      · exact i_range2 e_k (e_bin (e_var rfl) e_k r_add) (by decide) (by unfold small62; omega)
      · exact ⟨none, none, rfl⟩
      · rintro r d ρ hd ⟨x3, x4, rfl⟩
        have hr : r < m := by
          have := (List.getElem?_eq_some_iff.mp hd).1
          rw [rangeD_len] at this
          omega
        have ed : d = .int ((r + 1 : Nat) : Int) := by
          unfold rangeD at hd
          rw [List.getElem?_map, List.getElem?_range (by omega)] at hd
          cases hd
          refine congrArg PyData.int ?_
          omega
        subst ed
        have l1 := cn_lt1 (n := n) ht r
        generalize h1 : (cn t n r).1 = a at l1
        generalize h2 : (cn t n r).2 = b
        refine ⟨[some (.sh (.int (a : Int))), some (.sh (.int (b : Int))), some (.sh (.int (m : Int))), some (.sh (.int ((r + 1 : Nat) : Int))), x4], rfl, ?_⟩
        apply w_seq
        apply w_set (e_bin (e_bin (e_var rfl) (e_var rfl) (r_shl (pow_le l1 (by decide)) (by omega))) (e_var rfl) r_band)
        walk_at "pqn"
        apply w_nx
        apply w_seq
        apply w_xug rfl (e_bin (e_var rfl) (e_var rfl) r_shr)
        walk_at "pqn"
        apply w_nx
        apply w_xug rfl (e_var rfl)
        walk_at "pqn"
        apply w_nx
        refine ⟨some (.sh (.int ((r + 1 : Nat) : Int))), some (.sh (.int (((a <<< (r + 1)) &&& b : Nat) : Int))), ?_⟩
        subst h1 h2
        rfl
      · rintro ρ ⟨x3, x4, rfl⟩
        rw [rangeD_len, show ((m : Int) + 1 - 1).toNat = m by omega]
        exact hend rfl
    · intro e
      exact hend (hb e).symm
  obtain ⟨r, e, rfl⟩ := goal
  exact e
theorem paid_ok {m n : Nat} (hm : m ≤ 400) : f_paid_steps [.int (m : Int), .int (n : Int)] = some ⟨.int ((cnt m n.testBit : Nat) : Int), .sh⟩ := by
  have hl : msk m < 2 ^ 400 := lt_of_bits fun k e => by
    rw [msk_bit] at e
    have := of_decide_eq_true e
    omega
  have hl2 : andn (msk m) n < 2 ^ 400 := lt_of_bits fun k e => by
    rw [andn_bit, Bool.and_eq_true] at e
    exact bits_lt hl e.1
  refine f_ret rfl ?_
  refine s_seq (ρ' := [some (.sh (.int (m : Int))), some (.sh (.int (n : Int))), some (.sh (.int ((andn (msk m) n : Nat) : Int))), none]) (s_set (e_bin (e_msk (e_var rfl) (by omega)) (e_inv (e_var rfl)) r_bandN) rfl) ?_
  have ef : cFmtB (cVar 2) [some (.sh (.int (m : Int))), some (.sh (.int (n : Int))), some (.sh (.int ((andn (msk m) n : Nat) : Int))), none] = some ⟨.str (binS (andn (msk m) n)), .sh⟩ := by
    unfold cFmtB
    rw [e_var rfl]
    show (if 0 ≤ ((andn (msk m) n : Nat) : Int) ∧ sml ((andn (msk m) n : Nat) : Int) then some (⟨.str (binS (((andn (msk m) n : Nat) : Int)).toNat), .sh⟩ : R) else none) = _
    rw [if_pos ⟨by omega, sml_nat (pow_le hl2 (by decide))⟩, Int.toNat_natCast]
  refine s_seq (ρ' := [some (.sh (.int (m : Int))), some (.sh (.int (n : Int))), some (.sh (.int ((andn (msk m) n : Nat) : Int))), some (.sh (.str (binS (andn (msk m) n))))]) (s_set ef rfl) ?_
  apply s_ret _ ne_sh
  unfold cCount
  rw [e_var rfl]
  show some (⟨.int (PySem.Txt.count (binS (andn (msk m) n)) "1"), .sh⟩ : R) = _
  rw [count_bin, paid]
end Lw

namespace Lw
open PySem Pq Mx
theorem max0 {x : Int} {n : Nat} (h : (if x > 0 then x else 0) = (n : Int)) : maxR [⟨.int 0, .sh⟩, ⟨.int x, .sh⟩] = some ⟨.int (n : Int), .sh⟩ := by rw [← h]; exact r_max
theorem max_toNat (x : Int) : (if x > 0 then x else 0) = ((x.toNat : Nat) : Int) := by split <;> omega
theorem lowered_ok {t n b : Nat} (ht : t < 2 ^ 400) (hn : n < 2 ^ 400) (hb : b ≤ 400) : f_lowered [.int (t : Int), .int (n : Int), .int (b : Int)] = some ⟨.tuple [.int ((t ^^^ lvl t b : Nat) : Int), .int (((cn (lvl t b) n (bl n)).2 : Nat) : Int)], .sh⟩ := by
  have hl : lvl t b < 2 ^ 400 := lt_of_bits fun k e => by
    rw [lvl_bit, Bool.and_eq_true] at e
    exact bits_lt ht e.1
  have hs : t >>> b < 2 ^ 400 := lt_of_bits fun k e => by
    rw [Nat.testBit_shiftRight] at e
    have := bits_lt ht e
    omega
  have hc := cancelled_ok hl hn (bl_le hn)
  refine f_ret rfl ?_
  refine s_seq (ρ' := [some (.sh (.int (t : Int))), some (.sh (.int (n : Int))), some (.sh (.int (b : Int))), some (.sh (.int ((lvl t b : Nat) : Int))), none, none]) (s_set (e_bin (e_bin (e_var rfl) (e_var rfl) r_shr) (e_var rfl) (r_shl (pow_le hs (by decide)) (by omega))) rfl) ?_
  refine s_seq (ρ' := [some (.sh (.int (t : Int))), some (.sh (.int (n : Int))), some (.sh (.int (b : Int))), some (.sh (.int ((lvl t b : Nat) : Int))), some (.sh (.int (((cn (lvl t b) n (bl n)).1 : Nat) : Int))), some (.sh (.int (((cn (lvl t b) n (bl n)).2 : Nat) : Int)))])
    (s_setT (e_call3 (e_var rfl) (e_var rfl) (e_bits (e_var rfl)) hc ne_sh kd_sh kd_sh kd_sh) ne_sh rfl) ?_
  exact s_ret (e_app (e_cons (e_bin (e_var rfl) (e_var rfl) r_bxor) (e_cons (e_var rfl) e_nil)) (r_tup2 kd_sh kd_sh)) ne_sh
theorem fewer_ins_ok {c t n b f : Nat} (ht : t < 2 ^ 400) (hn : n < 2 ^ 400) (hb : b ≤ 400) (hf : f ≤ 400) : f_with_fewer_ins [.int (c : Int), .int (t : Int), .int (n : Int), .int (b : Int), .int (f : Int)] =
    some ⟨.tuple [.int ((c + cnt f (cn t n b).2.testBit : Nat) : Int), .int (((cn t n b).1 <<< b : Nat) : Int), .int (((cn t n b).2 ||| msk f : Nat) : Int)], .sh⟩ := by
  have hc := cancelled_ok ht hn hb
  have l1 := cn_lt1 (n := n) ht b
  generalize (cn t n b).1 = t2 at hc l1
  generalize (cn t n b).2 = n2 at hc
  have hp := paid_ok (m := f) (n := n2) hf
  refine f_ret rfl ?_
  refine s_seq (ρ' := [some (.sh (.int (c : Int))), some (.sh (.int (t2 : Int))), some (.sh (.int (n2 : Int))), some (.sh (.int (b : Int))), some (.sh (.int (f : Int)))]) (s_setT (e_call3 (e_var rfl) (e_var rfl) (e_var rfl) hc ne_sh kd_sh kd_sh kd_sh) ne_sh rfl) ?_
  rw [Int.natCast_add]
  exact s_ret (e_app (e_cons (e_bin (e_var rfl) (e_call2 (e_var rfl) (e_var rfl) hp ne_sh kd_sh kd_sh) r_add) (e_cons (e_bin (e_var rfl) (e_var rfl) (r_shl (pow_le l1 (by decide)) (by omega))) (e_cons (e_bin (e_var rfl) (e_msk (e_var rfl) (by omega)) r_bor) e_nil))) (r_tup3 kd_sh kd_sh kd_sh)) ne_sh
theorem more_ins_ok {c t n b e : Nat} (ht : t < 2 ^ 400) (hn : n < 2 ^ 400) (hb : b ≤ 400) (he : e ≤ 400) : f_with_more_ins [.int (c : Int), .int (t : Int), .int (n : Int), .int (b : Int), .int (e : Int)] =
    some ⟨.tuple [.int ((c + cnt b (cn t (n ^^^ lvl n e) b).2.testBit : Nat) : Int), .int (((cn t (n ^^^ lvl n e) b).1 : Nat) : Int), .int ((lvl n e ||| ((cn t (n ^^^ lvl n e) b).2 >>> b) : Nat) : Int)], .sh⟩ := by
  have hx : n ^^^ lvl n e < 2 ^ 400 := lt_of_bits fun k e' => by
    rw [xlvl_bit, Bool.and_eq_true] at e'
    exact bits_lt hn e'.1
  have hs : n >>> e < 2 ^ 400 := lt_of_bits fun k e' => by
    rw [Nat.testBit_shiftRight] at e'
    have := bits_lt hn e'
    omega
  have hc := cancelled_ok ht hx hb
  generalize (cn t (n ^^^ lvl n e) b).1 = t2 at hc
  generalize (cn t (n ^^^ lvl n e) b).2 = n2 at hc
  have hp := paid_ok (m := b) (n := n2) hb
  refine f_ret rfl ?_
  refine s_seq (ρ' := [some (.sh (.int (c : Int))), some (.sh (.int (t : Int))), some (.sh (.int (n : Int))), some (.sh (.int (b : Int))), some (.sh (.int (e : Int))), some (.sh (.int ((lvl n e : Nat) : Int))), none]) (s_set (e_bin (e_bin (e_var rfl) (e_var rfl) r_shr) (e_var rfl) (r_shl (pow_le hs (by decide)) (by omega))) rfl) ?_
  refine s_seq (ρ' := [some (.sh (.int (c : Int))), some (.sh (.int (t2 : Int))), some (.sh (.int (n : Int))), some (.sh (.int (b : Int))), some (.sh (.int (e : Int))), some (.sh (.int ((lvl n e : Nat) : Int))), some (.sh (.int (n2 : Int)))])
    (s_setT (e_call3 (e_var rfl) (e_bin (e_var rfl) (e_var rfl) r_bxor) (e_var rfl) hc ne_sh kd_sh kd_sh kd_sh) ne_sh rfl) ?_
  rw [Int.natCast_add]
  exact s_ret (e_app (e_cons (e_bin (e_var rfl) (e_call2 (e_var rfl) (e_var rfl) hp ne_sh kd_sh kd_sh) r_add) (e_cons (e_var rfl) (e_cons (e_bin (e_var rfl) (e_bin (e_var rfl) (e_var rfl) r_shr) r_bor) e_nil))) (r_tup3 kd_sh kd_sh kd_sh)) ne_sh
def bentN (t n bend d : Nat) : Nat × Nat := if bend < d then (t ||| andn (btwN bend d) n, andn n (btwN bend d)) else (andn t (btwN d bend), n ||| andn (btwN d bend) t)
theorem bent_ok {t n bend d : Nat} (hb : bend ≤ 400) (hd : d ≤ 400) : f_bent [.int (t : Int), .int (n : Int), .int (bend : Int), .int (d : Int)] = some ⟨.tuple [.int (((bentN t n bend d).1 : Nat) : Int), .int (((bentN t n bend d).2 : Nat) : Int)], .sh⟩ := by
  unfold bentN
  have tt : cTest (cBin ltR (cVar 2) (cVar 3)) [some (.sh (.int (t : Int))), some (.sh (.int (n : Int))), some (.sh (.int (bend : Int))), some (.sh (.int (d : Int))), none] = some (decide ((bend : Int) < (d : Int))) := e_test (e_bin (e_var rfl) (e_var rfl) r_lt)
  by_cases h : bend < d
  · rw [if_pos h]
    rw [decide_eq_true (by omega)] at tt
    refine f_ret rfl (s_seqR (s_ifT tt ?_))
    refine s_seq (ρ' := [some (.sh (.int (t : Int))), some (.sh (.int (n : Int))), some (.sh (.int (bend : Int))), some (.sh (.int (d : Int))), some (.sh (.int ((btwN bend d : Nat) : Int)))]) (s_set (e_btw (e_var rfl) (e_var rfl) (by omega) (by omega)) rfl) ?_
    exact s_ret (e_app (e_cons (e_bin (e_var rfl) (e_andn (e_var rfl) (e_var rfl)) r_bor) (e_cons (e_andn (e_var rfl) (e_var rfl)) e_nil)) (r_tup2 kd_sh kd_sh)) ne_sh
  · rw [if_neg h]
    rw [decide_eq_false (by omega)] at tt
    refine f_ret rfl (s_seq (s_ifF tt rfl) ?_)
    refine s_seq (ρ' := [some (.sh (.int (t : Int))), some (.sh (.int (n : Int))), some (.sh (.int (bend : Int))), some (.sh (.int (d : Int))), some (.sh (.int ((btwN d bend : Nat) : Int)))]) (s_set (e_btw (e_var rfl) (e_var rfl) (by omega) (by omega)) rfl) ?_
    exact s_ret (e_app (e_cons (e_andn (e_var rfl) (e_var rfl)) (e_cons (e_bin (e_var rfl) (e_andn (e_var rfl) (e_var rfl)) r_bor) e_nil)) (r_tup2 kd_sh kd_sh)) ne_sh
theorem bentN_bits {t n bend d : Nat} {T N : Nat → Bool} (hT : t.testBit = T) (hN : n.testBit = N) : (bentN t n bend d).1.testBit = (bentB T N bend d).1 ∧ (bentN t n bend d).2.testBit = (bentB T N bend d).2 := by
  subst hT hN
  unfold bentN bentB
  split
  · rename_i h
    constructor
    · funext k
      show (t ||| andn (btwN bend d) n).testBit k = _
      rw [Nat.testBit_or, andn_bit, btwN_bit (by omega)]
    · funext k
      show (andn n (btwN bend d)).testBit k = _
      rw [andn_bit, btwN_bit (by omega)]
  · rename_i h
    constructor
    · funext k
      show (andn t (btwN d bend)).testBit k = _
      rw [andn_bit, btwN_bit (by omega)]
    · funext k
      show (n ||| andn (btwN d bend) t).testBit k = _
      rw [Nat.testBit_or, andn_bit, btwN_bit (by omega)]
/-! ### a line's prices -/
def pvL (v : Pv) : List PyData := [.int (v.c : Int), .int (v.t : Int), .int (v.n : Int), .int v.s, .int (v.h : Int)]
def lpS (x : PyData) (d w c t n : Nat) (s : Int) (h : Int) (x8 x9 : Option Cell) : Sl := [some (.sh x), some (.sh (.int (d : Int))), some (.sh (.int (w : Int))), some (.sh (.int (c : Int))), some (.sh (.int (t : Int))), some (.sh (.int (n : Int))), some (.sh (.int s)), some (.sh (.int h)), x8, x9]
theorem line_prices_ok {D : Nat} {v : Pv} {P : Nat → Int} (I : PrN D v P) (hD : D ≤ 100) (hs1 : -100 ≤ v.s) (hs2 : v.s ≤ 100) {d w : Nat} (hd : d ≤ D) (hw : w ≤ 100) {x : PyData} (hx : x = .tuple (pvL v) ∨ x = .dict [(.none, .tuple (pvL v))]) :
    ∃ v' P', f_line_prices [x, .int (d : Int), .int (w : Int)] = some ⟨.tuple (pvL v'), .sh⟩ ∧ v'.s = (w : Int) - d ∧ v'.h = w ∧ PrN D v' P' ∧ Nx v.s v.h v'.s v'.h P P' := by
  have I' : Pr D v.c v.t.testBit v.n.testBit v.s v.h P := I
  have dD := I'.dD
  have d0 := I'.d0
  have ht : v.t < 2 ^ 100 := lt_of_bits fun k e => by have := I'.tl k e; omega
  have hn : v.n < 2 ^ 100 := lt_of_bits fun k e => by have := I'.nD k e; omega
  have hbl : bl v.n ≤ 100 := bl_le hn
  have hL : ∀ j, bl v.n ≤ j → v.n.testBit j = false := fun j hj => bl_after hj
  -- the level lowered
  obtain ⟨t1, n1, e1, b1, l1, l2⟩ : ∃ t1 n1 : Nat, cIfS (cTest (cBin ltR (cVar 2) (cVar 7))) (cSeq (cSet 7 (cVar 2)) (cSetT (tTup 2 (tCons (tName 4) (tCons (tName 5) tNil))) (cCall f_lowered 3 (cCons (cVar 4) (cCons (cVar 5) (cCons (cApp maxR (cCons (cK (.int 0)) (cCons (cBin subR (cVar 7) (cVar 6)) cNil))) cNil)))))) cSkip
      (lpS x d w v.c v.t v.n v.s v.h (some (.sh (.int ((w : Int) - d)))) none) = .nx (lpS x d w v.c t1 n1 v.s (min v.h w : Nat) (some (.sh (.int ((w : Int) - d)))) none) ∧ (t1.testBit, n1.testBit) = lowI v.t.testBit v.n.testBit v.s v.h w (bl v.n) ∧ t1 < 2 ^ 100 ∧ n1 < 2 ^ 100 := by
    have tt : cTest (cBin ltR (cVar 2) (cVar 7)) (lpS x d w v.c v.t v.n v.s v.h (some (.sh (.int ((w : Int) - d)))) none) = some (decide ((w : Int) < (v.h : Int))) := e_test (e_bin (e_var rfl) (e_var rfl) r_lt)
    by_cases h : w < v.h
    · rw [decide_eq_true (by omega)] at tt
      have hlo := lowered_ok (t := v.t) (n := v.n) (b := ((w : Int) - v.s).toNat) (pow_le ht (by decide)) (pow_le hn (by decide)) (by omega)
      refine ⟨v.t ^^^ lvl v.t ((w : Int) - v.s).toNat, (cn (lvl v.t ((w : Int) - v.s).toNat) v.n (bl v.n)).2, s_ifT tt ?_, ?_, ?_, ?_⟩
      · refine s_seq (ρ' := lpS x d w v.c v.t v.n v.s (w : Int) (some (.sh (.int ((w : Int) - d)))) none) (s_set (e_var rfl) rfl) ?_
        have em : ((min v.h w : Nat) : Int) = (w : Int) := by omega
        rw [em]
        refine s_setT (e_call3 (e_var rfl) (e_var rfl) (e_app (e_cons e_k (e_cons (e_bin (e_var rfl) (e_var rfl) r_sub) e_nil)) (max0 (max_toNat _))) hlo ne_sh kd_sh kd_sh kd_sh) ne_sh rfl
      · unfold lowI
        rw [if_pos (show (w : Int) < (v.h : Int) by omega)]
        unfold lowB
        refine Prod.ext ?_ ?_
        · funext k
          show (v.t ^^^ lvl v.t ((w : Int) - v.s).toNat).testBit k = _
          rw [xlvl_bit]
          show (v.t.testBit k && decide (k < ((w : Int) - v.s).toNat)) = (v.t.testBit k && !decide (((w : Int) - v.s).toNat ≤ k))
          congr 1
          by_cases hk : k < ((w : Int) - v.s).toNat
          · rw [decide_eq_true hk, decide_eq_false (show ¬ ((w : Int) - v.s).toNat ≤ k by omega)]
            rfl
          · rw [decide_eq_false hk, decide_eq_true (show ((w : Int) - v.s).toNat ≤ k by omega)]
            rfl
        · funext k
          have eh : (lvl v.t ((w : Int) - v.s).toNat).testBit = fun k => v.t.testBit k && decide (((w : Int) - v.s).toNat ≤ k) := by
            funext k
            rw [lvl_bit]
          show (cn (lvl v.t ((w : Int) - v.s).toNat) v.n (bl v.n)).2.testBit k = (cb (fun k => v.t.testBit k && decide (((w : Int) - v.s).toNat ≤ k)) v.n.testBit (bl v.n)).2 k
          rw [(cn_bits _ _ _ k).2, eh]
      · refine lt_of_bits fun k e => ?_
        rw [xlvl_bit, Bool.and_eq_true] at e
        exact bits_lt ht e.1
      · exact cn_lt2 hn _
    · rw [decide_eq_false (by omega)] at tt
      refine ⟨v.t, v.n, ?_, ?_, ht, hn⟩
      · have em : ((min v.h w : Nat) : Int) = (v.h : Int) := by omega
        rw [em]
        exact s_ifF tt rfl
      · unfold lowI
        rw [if_neg (show ¬ (w : Int) < (v.h : Int) by omega)]
  have unp : cSetT (tTupK 5 (tCons (tName 3) (tCons (tName 4) (tCons (tName 5) (tCons (tName 6) (tCons (tName 7) tNil)))))) (cVar 0) (Pq.fresh 10 [x, .int (d : Int), .int (w : Int)]) = .nx (lpS x d w v.c v.t v.n v.s v.h none none) := by
    refine s_setT (e_var rfl) ne_sh ?_
    rcases hx with rfl | rfl
    · rfl
    · rfl
  have e0 : cSet 8 (cBin subR (cVar 2) (cVar 1)) (lpS x d w v.c v.t v.n v.s v.h none none) = .nx (lpS x d w v.c v.t v.n v.s v.h (some (.sh (.int ((w : Int) - d)))) none) := s_set (e_bin (e_var rfl) (e_var rfl) r_sub) rfl
  generalize hm : min v.h w = m at e1
  have hmi : min (v.h : Int) (w : Int) = (m : Int) := by omega
  have tt2 : cTest (cBin ltR (cVar 8) (cVar 6)) (lpS x d w v.c t1 n1 v.s m (some (.sh (.int ((w : Int) - d)))) none) = some (decide ((w : Int) - d < v.s)) := e_test (e_bin (e_var rfl) (e_var rfl) r_lt)
  have fin : ∀ {c2 t2 n2 bend : Nat} {P' : Nat → Int}, bend ≤ 400 → cIfS (cTest (cBin ltR (cVar 8) (cVar 6))) (cSeq (cSet 9 (cBin subR (cVar 7) (cVar 8)))
        (cSetT (tTup 3 (tCons (tName 3) (tCons (tName 4) (tCons (tName 5) tNil)))) (cCall f_with_fewer_ins 5 (cCons (cVar 3) (cCons (cVar 4) (cCons (cVar 5) (cCons (cBin subR (cVar 6) (cVar 8)) (cCons (cApp maxR (cCons (cK (.int 0)) (cCons (cNeg (cVar 8)) cNil))) cNil)))))))) (cSeq (cSet 9 (cBin subR (cVar 7) (cVar 6)))
        (cSetT (tTup 3 (tCons (tName 3) (tCons (tName 4) (tCons (tName 5) tNil)))) (cCall f_with_more_ins 5 (cCons (cVar 3) (cCons (cVar 4) (cCons (cVar 5) (cCons (cBin subR (cVar 8) (cVar 6)) (cCons (cVar 9) cNil)))))))) (lpS x d w v.c t1 n1 v.s m (some (.sh (.int ((w : Int) - d)))) none) = .nx (lpS x d w c2 t2 n2 v.s m (some (.sh (.int ((w : Int) - d)))) (some (.sh (.int (bend : Int))))) →
      Pr D c2 (bentN t2 n2 bend d).1.testBit (bentN t2 n2 bend d).2.testBit ((w : Int) - d) w P' → Nx v.s v.h ((w : Int) - d) w P P' →
      ∃ v' P', f_line_prices [x, .int (d : Int), .int (w : Int)] = some ⟨.tuple (pvL v'), .sh⟩ ∧ v'.s = (w : Int) - d ∧ v'.h = w ∧ PrN D v' P' ∧ Nx v.s v.h v'.s v'.h P P' := fun {c2 t2 n2 bend P'} hb h1 h2 h3 => by
    refine ⟨⟨c2, (bentN t2 n2 bend d).1, (bentN t2 n2 bend d).2, (w : Int) - d, w⟩, P', ?_, rfl, rfl, h2, h3⟩
    have hbe := bent_ok (t := t2) (n := n2) (bend := bend) (d := d) hb (by omega)
    refine f_ret rfl ?_
    refine s_seq unp (s_seq e0 (s_seq e1 (s_seq h1 ?_)))
    refine s_seq (ρ' := lpS x d w c2 (bentN t2 n2 bend d).1 (bentN t2 n2 bend d).2 v.s m (some (.sh (.int ((w : Int) - d)))) (some (.sh (.int (bend : Int))))) (s_setT (e_call4 (e_var rfl) (e_var rfl) (e_var rfl) (e_var rfl) hbe ne_sh kd_sh kd_sh kd_sh kd_sh) ne_sh rfl) ?_
    exact s_ret (e_app (e_cons (e_var rfl) (e_cons (e_var rfl) (e_cons (e_var rfl) (e_cons (e_var rfl) (e_cons (e_var rfl) e_nil))))) (r_tup rfl (Nat.le_of_ble_eq_true rfl))) ne_sh
  by_cases hlt : (w : Int) - d < v.s
  · -- fewer ins
    rw [decide_eq_true hlt] at tt2
    obtain ⟨P', p1, p2⟩ := line_F I' hL hd rfl hlt b1
    rw [hmi] at p1
    have hby : ((v.s - ((w : Int) - d)).toNat : Int) = v.s - ((w : Int) - d) := by omega
    have hf := fewer_ins_ok (c := v.c) (t := t1) (n := n1) (b := (v.s - ((w : Int) - d)).toNat) (f := (-((w : Int) - d)).toNat) (pow_le l1 (by decide)) (pow_le l2 (by decide)) (by omega) (by omega)
    have hbend : (((m : Int) - ((w : Int) - d)).toNat : Int) = m - ((w : Int) - d) := by omega
    have eT : ((cn t1 n1 (v.s - ((w : Int) - d)).toNat).1 <<< (v.s - ((w : Int) - d)).toNat).testBit = fewT t1.testBit n1.testBit (v.s - ((w : Int) - d)).toNat := by
      funext k
      rw [Nat.testBit_shiftLeft, (cn_bits _ _ _ _).1]
      rfl
    have eN : ((cn t1 n1 (v.s - ((w : Int) - d)).toNat).2 ||| msk (-((w : Int) - d)).toNat).testBit = fewN t1.testBit n1.testBit (v.s - ((w : Int) - d)).toNat (-((w : Int) - d)).toNat := by
      funext k
      rw [Nat.testBit_or, (cn_bits _ _ _ _).2, msk_bit]
      rfl
    have eC : (cn t1 n1 (v.s - ((w : Int) - d)).toNat).2.testBit = (cb t1.testBit n1.testBit (v.s - ((w : Int) - d)).toNat).2 := by
      funext k
      rw [(cn_bits _ _ _ _).2]
    obtain ⟨q1, q2⟩ := bentN_bits (bend := ((m : Int) - ((w : Int) - d)).toNat) (d := d) eT eN
    rw [eC] at hf
    refine fin (c2 := v.c + cnt (-((w : Int) - d)).toNat (cb t1.testBit n1.testBit (v.s - ((w : Int) - d)).toNat).2) (t2 := (cn t1 n1 (v.s - ((w : Int) - d)).toNat).1 <<< (v.s - ((w : Int) - d)).toNat) (n2 := (cn t1 n1 (v.s - ((w : Int) - d)).toNat).2 ||| msk (-((w : Int) - d)).toNat) (bend := ((m : Int) - ((w : Int) - d)).toNat) (P' := P') (by omega) ?_ (by rw [q1, q2]; exact p1) p2
    refine s_ifT tt2 ?_
    refine s_seq (ρ' := lpS x d w v.c t1 n1 v.s m (some (.sh (.int ((w : Int) - d)))) (some (.sh (.int (((m : Int) - ((w : Int) - d)).toNat : Int))))) (s_set (r := ⟨.int (((m : Int) - ((w : Int) - d)).toNat : Int), .sh⟩) ?_ rfl) ?_
    · rw [hbend]
      exact e_bin (e_var rfl) (e_var rfl) r_sub
    · have ea : (cCons (cVar 3) (cCons (cVar 4) (cCons (cVar 5) (cCons (cBin subR (cVar 6) (cVar 8)) (cCons (cApp maxR (cCons (cK (.int 0)) (cCons (cNeg (cVar 8)) cNil))) cNil))))) (lpS x d w v.c t1 n1 v.s m (some (.sh (.int ((w : Int) - d)))) (some (.sh (.int (((m : Int) - ((w : Int) - d)).toNat : Int))))) =
          some [⟨.int (v.c : Int), .sh⟩, ⟨.int (t1 : Int), .sh⟩, ⟨.int (n1 : Int), .sh⟩, ⟨.int ((v.s - ((w : Int) - d)).toNat : Int), .sh⟩, ⟨.int ((-((w : Int) - d)).toNat : Int), .sh⟩] := by
        refine e_cons (e_var rfl) (e_cons (e_var rfl) (e_cons (e_var rfl) (e_cons ?_ (e_cons (e_app (e_cons e_k (e_cons (e_neg (e_var rfl)) e_nil)) (max0 (max_toNat _))) e_nil))))
        rw [hby]
        exact e_bin (e_var rfl) (e_var rfl) r_sub
      exact s_setT (e_call ea ⟨rfl, rfl⟩ hf ne_sh) ne_sh rfl
  · -- more ins
    rw [decide_eq_false hlt] at tt2
    obtain ⟨P', p1, p2⟩ := line_M I' hL hd rfl (show v.s ≤ (w : Int) - d by omega) b1
    rw [hmi] at p1
    have hby : ((((w : Int) - d) - v.s).toNat : Int) = ((w : Int) - d) - v.s := by omega
    have hbend : (((m : Int) - v.s).toNat : Int) = m - v.s := by omega
    have hf := more_ins_ok (c := v.c) (t := t1) (n := n1) (b := (((w : Int) - d) - v.s).toNat) (e := ((m : Int) - v.s).toNat) (pow_le l1 (by decide)) (pow_le l2 (by decide)) (by omega) (by omega)
    have eS : (n1 ^^^ lvl n1 ((m : Int) - v.s).toNat).testBit = slopeB n1.testBit ((m : Int) - v.s).toNat := by
      funext k
      rw [xlvl_bit]
      rfl
    have eT : (cn t1 (n1 ^^^ lvl n1 ((m : Int) - v.s).toNat) (((w : Int) - d) - v.s).toNat).1.testBit = (cb t1.testBit (slopeB n1.testBit ((m : Int) - v.s).toNat) (((w : Int) - d) - v.s).toNat).1 := by
      funext k
      rw [(cn_bits _ _ _ _).1, eS]
    have eC : (cn t1 (n1 ^^^ lvl n1 ((m : Int) - v.s).toNat) (((w : Int) - d) - v.s).toNat).2.testBit = (cb t1.testBit (slopeB n1.testBit ((m : Int) - v.s).toNat) (((w : Int) - d) - v.s).toNat).2 := by
      funext k
      rw [(cn_bits _ _ _ _).2, eS]
    have eN : (lvl n1 ((m : Int) - v.s).toNat ||| ((cn t1 (n1 ^^^ lvl n1 ((m : Int) - v.s).toNat) (((w : Int) - d) - v.s).toNat).2 >>> (((w : Int) - d) - v.s).toNat)).testBit = morN t1.testBit n1.testBit (((w : Int) - d) - v.s).toNat ((m : Int) - v.s).toNat := by
      funext k
      rw [Nat.testBit_or, Nat.testBit_shiftRight, eC, lvl_bit, Nat.add_comm]
      rfl
    obtain ⟨q1, q2⟩ := bentN_bits (bend := ((m : Int) - v.s).toNat) (d := d) eT eN
    rw [eC] at hf
    refine fin (c2 := v.c + cnt (((w : Int) - d) - v.s).toNat (cb t1.testBit (slopeB n1.testBit ((m : Int) - v.s).toNat) (((w : Int) - d) - v.s).toNat).2) (t2 := (cn t1 (n1 ^^^ lvl n1 ((m : Int) - v.s).toNat) (((w : Int) - d) - v.s).toNat).1)
      (n2 := lvl n1 ((m : Int) - v.s).toNat ||| ((cn t1 (n1 ^^^ lvl n1 ((m : Int) - v.s).toNat) (((w : Int) - d) - v.s).toNat).2 >>> (((w : Int) - d) - v.s).toNat)) (bend := ((m : Int) - v.s).toNat) (P' := P') (by omega) ?_ (by rw [q1, q2]; exact p1) p2
    refine s_ifF tt2 ?_
    refine s_seq (ρ' := lpS x d w v.c t1 n1 v.s m (some (.sh (.int ((w : Int) - d)))) (some (.sh (.int (((m : Int) - v.s).toNat : Int))))) (s_set (r := ⟨.int (((m : Int) - v.s).toNat : Int), .sh⟩) ?_ rfl) ?_
    · rw [hbend]
      exact e_bin (e_var rfl) (e_var rfl) r_sub
    · have ea : (cCons (cVar 3) (cCons (cVar 4) (cCons (cVar 5) (cCons (cBin subR (cVar 8) (cVar 6)) (cCons (cVar 9) cNil))))) (lpS x d w v.c t1 n1 v.s m (some (.sh (.int ((w : Int) - d)))) (some (.sh (.int (((m : Int) - v.s).toNat : Int))))) =
          some [⟨.int (v.c : Int), .sh⟩, ⟨.int (t1 : Int), .sh⟩, ⟨.int (n1 : Int), .sh⟩, ⟨.int ((((w : Int) - d) - v.s).toNat : Int), .sh⟩, ⟨.int (((m : Int) - v.s).toNat : Int), .sh⟩] := by
        refine e_cons (e_var rfl) (e_cons (e_var rfl) (e_cons (e_var rfl) (e_cons ?_ (e_cons (e_var rfl) e_nil))))
        rw [hby]
        exact e_bin (e_var rfl) (e_var rfl) r_sub
      exact s_setT (e_call ea ⟨rfl, rfl⟩ hf ne_sh) ne_sh rfl
end Lw

namespace Lw
open PySem Pq Mx
/-! ### all prices -/
/-- the lines that are not free -/
def bnd : List Ln → List (Nat × Nat)
  | [] => []
  | (_, none) :: ls => bnd ls
  | (d, some w) :: ls => (d, w) :: bnd ls
theorem bnd_bound : ∀ ls : List Ln, (bnd ls).map lnW = bound ls
  | [] => rfl
  | (_, none) :: ls => bnd_bound ls
  | (d, some w) :: ls => congrArg ((d, some w) :: ·) (bnd_bound ls)
theorem mem_bnd {p : Nat × Nat} : ∀ {ls : List Ln}, p ∈ bnd ls → (p.1, some p.2) ∈ ls
  | [], h => nomatch h
  | (_, none) :: ls, h => List.mem_cons_of_mem _ (mem_bnd (ls := ls) h)
  | (d, some w) :: ls, h => by
    rcases List.mem_cons.mp (show p ∈ (d, w) :: bnd ls from h) with rfl | h
    · exact List.mem_cons_self ..
    · exact List.mem_cons_of_mem _ (mem_bnd h)
theorem bnd_len : ∀ ls : List Ln, (bnd ls).length ≤ ls.length
  | [] => Nat.le_refl _
  | (_, none) :: ls => Nat.le_succ_of_le (bnd_len ls)
  | (d, some w) :: ls => Nat.succ_le_succ (bnd_len ls)
def noth : PyData := .dict [(.none, .tuple (pvL v0))]
def pvD (v : Pv) : PyData := .tuple (pvL v)
/-- the list of the prices: the first are the module's own -/
def dat : List Pv → List PyData
  | [] => []
  | _ :: r => noth :: r.map pvD
theorem dat_snoc {D : Nat} {ls : List (Nat × Nat)} {vs : List Pv} {v v' : Pv} {P : Nat → Int} (h : Chn D ls vs v P) : dat (vs ++ [v']) = dat vs ++ [pvD v'] := by
  cases vs with
  | nil =>
    have := h.len
    cases this
  | cons a r =>
    show noth :: (r ++ [v']).map pvD = (noth :: r.map pvD) ++ [pvD v']
    rw [List.map_append]
    rfl
theorem dat_len (vs : List Pv) : (dat vs).length = vs.length := by
  cases vs with
  | nil => rfl
  | cons a r =>
    show (noth :: r.map pvD).length = _
    rw [List.length_cons, List.length_cons, List.length_map]
theorem chn_s {ls : List (Nat × Nat)} {vs : List Pv} {v : Pv} {P : Nat → Int} (h : Chn 100 ls vs v P) (hl : ∀ l ∈ ls, l.1 ≤ 100 ∧ l.2 ≤ 100) : -100 ≤ v.s ∧ v.s ≤ 100 ∧ v.h ≤ 100 ∧ (v.h : Int) - v.s ≤ 100 := by
  cases ls with
  | nil =>
    obtain ⟨_, rfl, _⟩ := h
    decide
  | cons l ls =>
    obtain ⟨d, w⟩ := l
    obtain ⟨_, _, _, _, _, e1, e2, _⟩ := h
    have := hl (d, w) (List.mem_cons_self ..)
    simp only at this
    omega
def lnD (l : Ln) : PyData := .tuple [.int (l.1 : Int), wD l.2]
theorem zipD_ln : ∀ (ts : List Nat) (ws : List (Option Nat)), zipD ((nI ts).map .int) (ws.map wD) = (ts.zip ws).map lnD
  | [], _ => by simp [zipD, nI]
  | _ :: _, [] => by simp [zipD]
  | t :: ts, w :: ws => by
    have := zipD_ln ts ws
    unfold zipD nI at this ⊢
    simp only [List.map_cons, List.zipWith_cons_cons, List.zip_cons_cons]
    rw [this]
    rfl
theorem e_listZip {fa fb : F} {ρ : Sl} {ds es : List PyData} (h1 : cIter fa ρ = some ds) (h2 : cIter fb ρ = some es) (h3 : (zipD ds es).length ≤ LIM) : cLZ fa fb ρ = some ⟨.list (zipD ds es), .fr⟩ := by
  unfold cLZ
  rw [h1]
  show (cIter fb ρ).bind _ = _
  rw [h2]
  show (if (zipD ds es).length ≤ LIM then frR (zipD ds es) else none) = _
  rw [if_pos h3]
  rfl
theorem i_rev {fa : F} {ρ : Sl} {ds : List PyData} (h1 : cIter fa ρ = some ds) : cRevI fa ρ = some ds.reverse := by unfold cRevI; rw [h1]; rfl
def apS (ts : List Nat) (ws : List (Option Nat)) (x : PyData) (fs : List PyData) (x5 x6 : Option Cell) : Sl := [some (.sh (.tuple ((nI ts).map .int))), some (.sh (.tuple (ws.map wD))), some (.sh x), some (.ow fs), some (.sh (.list ((ts.zip ws).map lnD))), x5, x6]
theorem all_prices_ok {ts : List Nat} {ws : List (Option Nat)} (hl : ts.length = ws.length) (h1 : ts.length ≤ 800) (ht : ∀ t ∈ ts, t ≤ 100) (hw : ∀ x, some x ∈ ws → x ≤ 100) :
    ∃ vs v P, Chn 100 (bnd (ts.zip ws)) vs v P ∧ f_all_prices [.tuple ((nI ts).map .int), .tuple (ws.map wD)] = some ⟨.list (dat vs), .fr⟩ := by
  have hL : ∀ l ∈ ts.zip ws, l.1 ≤ 100 ∧ ∀ x, l.2 = some x → x ≤ 100 := fun l h => by
    obtain ⟨a, b⟩ := l
    have := List.of_mem_zip h
    exact ⟨ht _ this.1, fun x e => hw x (by rw [← e]; exact this.2)⟩
  have hzl : (ts.zip ws).length = ts.length := by rw [List.length_zip]; omega
  generalize hLd : ts.zip ws = L at hL hzl
  have goal : ∃ r, f_all_prices [.tuple ((nI ts).map .int), .tuple (ws.map wD)] = some r ∧ ∃ vs v P, Chn 100 (bnd L) vs v P ∧ r = ⟨.list (dat vs), .fr⟩ := by
    unfold f_all_prices
    refine f_retP (Q := fun r => ∃ vs v P, Chn 100 (bnd L) vs v P ∧ r = ⟨.list (dat vs), .fr⟩) rfl ?_
    apply w_seq
    apply w_set (r := ⟨noth, .sh⟩) rfl
    walk_at "pqn"
    apply w_nx
    apply w_seq
    apply w_frz
    walk_at "pqn"
    apply w_set (r := ⟨.list [noth], .fr⟩) (e_app (e_cons (e_var rfl) e_nil) (r_lst1 kd_sh))
    walk_at "pqn"
    apply w_nx
    apply w_seq
    apply w_set (r := ⟨.list (L.map lnD), .fr⟩)
    · have hz := zipD_ln ts ws
      rw [hLd] at hz
      rw [← hz]
      refine e_listZip (i_tup (e_var rfl) kd_sh) (i_tup (e_var rfl) kd_sh) ?_
      rw [hz, List.length_map]
      show _ ≤ 100000
      omega
    walk_at "pqn"
    apply w_nx
    apply w_seq
    apply w_frz
    walk_at "pqn"
    apply w_for (ds := (L.map lnD).reverse) (fun m ρ => ∃ (vs : List Pv) (v : Pv) (P : Nat → Int) (x : PyData) (x5 x6 : Option Cell), Chn 100 (bnd (L.reverse.take m).reverse) vs v P ∧ (x = .tuple (pvL v) ∨ x = .dict [(.none, .tuple (pvL v))]) ∧ ρ = apS ts ws x (dat vs) x5 x6)
    · exact i_rev (i_list (e_var rfl) kd_sh)
    · refine ⟨[v0], v0, fun k => (k : Int), noth, none, none, ⟨rfl, rfl, rfl⟩, .inr rfl, ?_⟩
      unfold apS
      rw [hLd]
      rfl
    · rintro m d ρ hd ⟨vs, v, P, x, x5, x6, hC, hx, rfl⟩
      have hm : m < L.reverse.length := by
        have := (List.getElem?_eq_some_iff.mp hd).1
        rwa [List.length_reverse, List.length_map, ← List.length_reverse] at this
      rw [← List.map_reverse, List.getElem?_map, List.getElem?_eq_getElem hm] at hd
      cases hd
      have et : (L.reverse.take (m + 1)).reverse = L.reverse[m] :: (L.reverse.take m).reverse := by
        rw [List.take_add_one, List.getElem?_eq_getElem hm]
        simp
      rw [et]
      have hin : L.reverse[m] ∈ L := List.mem_reverse.mp (List.getElem_mem hm)
      have hlb := hL _ hin
      have hlen : (bnd (L.reverse.take m).reverse).length ≤ 800 := by
        have := bnd_len (L.reverse.take m).reverse
        rw [List.length_reverse, List.length_take, List.length_reverse] at this
        omega
      have hall : ∀ l ∈ bnd (L.reverse.take m).reverse, l.1 ≤ 100 ∧ l.2 ≤ 100 := fun l h => by
        have h2 := hL _ (List.mem_reverse.mp (List.mem_of_mem_take (List.mem_reverse.mp (mem_bnd h))))
        exact ⟨h2.1, h2.2 _ rfl⟩
      obtain ⟨hs1, hs2, _, _⟩ := chn_s hC hall
      have hvl := hC.len
      generalize L.reverse[m] = l at hlb
      obtain ⟨t, w⟩ := l
      refine ⟨apS ts ws x (dat vs) (some (.sh (.int (t : Int)))) (some (.sh (wD w))), rfl, ?_⟩
      cases w with
      | none =>
        have tt : cTest (cBin isNotR (cVar 6) (cK .none)) (apS ts ws x (dat vs) (some (.sh (.int (t : Int)))) (some (.sh (wD none)))) = some false := e_test (k := .sh) (e_bin (e_var rfl) e_k rfl)
        apply w_if tt (fun z => nomatch z)
        intro _
        apply w_skip
        exact ⟨vs, v, P, x, _, _, hC, hx, rfl⟩
      | some w =>
        have tt : cTest (cBin isNotR (cVar 6) (cK .none)) (apS ts ws x (dat vs) (some (.sh (.int (t : Int)))) (some (.sh (wD (some w))))) = some true := e_test (k := .sh) (e_bin (e_var rfl) e_k rfl)
        apply w_if tt ?_ (fun z => nomatch z)
        intro _
        have hw' := hlb.2 w rfl
        obtain ⟨v', P', g1, g2, g3, g4, g5⟩ := line_prices_ok hC.pr (Nat.le_refl _) hs1 hs2 (d := t) (w := w) hlb.1 hw' hx
        have hC' : Chn 100 (bnd ((t, some w) :: (L.reverse.take m).reverse)) (vs ++ [v']) v' P' := ⟨vs, v, P, hC, rfl, g2, g3, g4, g5⟩
        apply w_seq
        apply w_frz
        show NxP _ (cSet 2 (cCall f_line_prices 3 _) (apS ts ws x (dat vs) (some (.sh (.int (t : Int)))) (some (.sh (wD (some w))))))
        apply w_set (r := ⟨pvD v', .sh⟩) (e_call3 (e_var rfl) (e_app (e_cons e_k (e_cons (x := ⟨.int (t : Int), .sh⟩) (e_var rfl) e_nil)) (max0 (n := t) (by split <;> omega))) (e_app (e_cons e_k (e_cons (x := ⟨.int (w : Int), .sh⟩) (e_var rfl) e_nil)) (max0 (n := w) (by split <;> omega))) g1 ne_sh kd_sh kd_sh kd_sh)
        show NxP _ (.nx (apS ts ws (pvD v') (dat vs) (some (.sh (.int (t : Int)))) (some (.sh (wD (some w))))))
        apply w_nx
        apply w_frz
        show NxP _ (cAppend 3 (cVar 2) (apS ts ws (pvD v') (dat vs) (some (.sh (.int (t : Int)))) (some (.sh (wD (some w))))))
        apply w_append (r := ⟨pvD v', .sh⟩) (e_var rfl) rfl ne_sh (by rw [dat_len]; show _ < 100000; omega)
        apply w_nx
        refine ⟨vs ++ [v'], v', P', pvD v', some (.sh (.int (t : Int))), some (.sh (wD (some w))), hC', .inl rfl, ?_⟩
        rw [dat_snoc hC]
        rfl
    · rintro ρ ⟨vs, v, P, x, x5, x6, hC, hx, rfl⟩
      rw [List.length_reverse, List.length_map, ← List.length_reverse (as := L), List.take_length, List.reverse_reverse] at hC
      apply w_nx
      exact w_retO rfl ⟨vs, v, P, hC, rfl⟩
  obtain ⟨r, e, vs, v, P, hC, rfl⟩ := goal
  exact ⟨vs, v, P, hC, e⟩
theorem dat_last {D : Nat} {ls : List (Nat × Nat)} {vs : List Pv} {v : Pv} {P : Nat → Int} (h : Chn D ls vs v P) : ∃ x, L2.atI (dat vs) (-1) = some x ∧ (x = .tuple (pvL v) ∨ x = .dict [(.none, .tuple (pvL v))]) := by
  cases ls with
  | nil =>
    obtain ⟨rfl, rfl, _⟩ := h
    exact ⟨noth, rfl, .inr rfl⟩
  | cons l ls =>
    obtain ⟨d, w⟩ := l
    obtain ⟨vs1, v1, P1, hC, rfl, _⟩ := h
    refine ⟨pvD v, ?_, .inl rfl⟩
    rw [dat_snoc hC]
    have hl : 1 ≤ (dat vs1).length := by rw [dat_len, hC.len]; omega
    exact L2.atI_last (dat vs1) (pvD v)
theorem distance_gen {ts : List Nat} {ws : List (Option Nat)} (hl : ts.length = ws.length) (h1 : ts.length ≤ 800) (ht : ∀ t ∈ ts, t ≤ 100) (hw : ∀ x, some x ∈ ws → x ≤ 100) : f_distance [.tuple ((nI ts).map .int), .tuple (ws.map wD)] = some ⟨.int ((dst (ts.zip ws) : Nat) : Int), .sh⟩ := by
  obtain ⟨vs, v, P, hC, ha⟩ := all_prices_ok hl h1 ht hw
  have hd := chn_dst hC
  rw [bnd_bound, dst_bound] at hd
  rw [hd]
  obtain ⟨x, hx, hx2⟩ := dat_last hC
  refine f_ret rfl ?_
  apply s_ret _ ne_sh
  refine e_bin (x := ⟨x, .sh⟩) (e_bin (e_call2 (e_var rfl) (e_var rfl) ha ne_fr kd_sh kd_sh) (e_neg e_k) (r_ixL hx)) e_k ?_
  rcases hx2 with rfl | rfl
  · exact r_ixT rfl
  · rfl
theorem distance_ok : DistOk := fun ts ws hl _ h2 ht hw => distance_gen hl (by omega) (fun t h => by have := ht t h; omega) fun x h => by have := hw x h; omega
end Lw

namespace Lw
open PySem Pq Mx
theorem law_true (hD : DistOk) (ns : List Int) (h : ns.length ≤ 63) : f_law [scr ns] = some ⟨.bool true, .sh⟩ := by
  have goal : ∃ r, f_law [scr ns] = some r ∧ r = ⟨.bool true, .sh⟩ := by
    unfold f_law
    refine f_retP (Q := fun r => r = ⟨.bool true, .sh⟩) rfl ?_
    apply w_seq
    apply w_for (ds := rangeD 0 10) (fun m ρ => ∃ (x1 x2 x3 x4 x5 x6 x9 x10 : Option Cell), ρ = [some (.sh (scr ns)), x1, x2, x3, x4, x5, x6, none, none, x9, x10])
    · exact i_range1 e_k (by decide)
    · exact ⟨none, none, none, none, none, none, none, none, rfl⟩
    · rintro i d ρ hd ⟨x1, x2, x3, x4, x5, x6, x9, x10, rfl⟩
      have hi : i < 10 := by
        have := (List.getElem?_eq_some_iff.mp hd).1
        rwa [rangeD_len] at this
      rw [rangeD_get (by omega), Int.zero_add] at hd
      cases hd
      obtain ⟨ds, hDg, fD⟩ := digits_ok ns i 130 27720 (by omega) (by omega) (by omega) (by omega)
      obtain ⟨ts', ⟨t1, t2, tT⟩, fT⟩ := text_ok (size := 20) (top := 20) hDg (by omega) (by omega) (by omega)
      obtain ⟨ts, rfl, tb⟩ := text_nat tT
      rw [nI_len] at t1 t2
      have hdn : ∀ x ∈ ds, 0 ≤ x := fun x hx => (hDg.2 x hx).1
      have hdl : ds.length = 130 := hDg.1
      obtain ⟨u1, l1, b1, f1⟩ := near_ok (ds := ds.drop 25) (ts := nI ts) (top := 20) (fun x hx => hdn x (List.mem_of_mem_drop hx)) (by rw [List.length_drop]; omega) (by rw [List.length_drop, nI_len]; omega) (nI_nn ts) (by rw [nI_len]; exact t1) (by rw [nI_len]; omega)
      obtain ⟨u2, l2, b2, f2⟩ := near_ok (ds := ds.drop 50) (ts := nI ts) (top := 20) (fun x hx => hdn x (List.mem_of_mem_drop hx)) (by rw [List.length_drop]; omega) (by rw [List.length_drop, nI_len]; omega) (nI_nn ts) (by rw [nI_len]; exact t1) (by rw [nI_len]; omega)
      obtain ⟨xs1, rfl, c1⟩ := text_nat b1
      obtain ⟨xs2, rfl, c2⟩ := text_nat b2
      rw [nI_len, nI_len] at l1 l2
      replace fD : f__law_digits [scr ns, .int i, .int 130, .int 27720] = some ⟨.list (ds.map .int), .fr⟩ := fD
      replace fT : f__law_text [.list (ds.map .int), .int 20, .int 20] = some ⟨.tuple ((nI ts).map .int), .sh⟩ := fT
      have e25 : cutD (ds.map PyData.int) (some 25) none = (ds.drop 25).map .int := by rw [show (some (25 : Int)) = some ((25 : Nat) : Int) from rfl, cutD_from, List.map_drop]
      have e50 : cutD (ds.map PyData.int) (some 50) none = (ds.drop 50).map .int := by rw [show (some (50 : Int)) = some ((50 : Nat) : Int) from rfl, cutD_from, List.map_drop]
      rw [← e25] at f1
      rw [← e50] at f2
      have tl : ((nI ts).map PyData.int).length = ts.length := by rw [List.length_map, nI_len]
      refine ⟨[some (.sh (scr ns)), some (.sh (.int i)), x2, x3, x4, x5, x6, none, none, x9, x10], rfl, ?_⟩
      apply w_seq
      apply w_set (r := ⟨.list (ds.map .int), .fr⟩) (e_call4 (e_var rfl) (e_var rfl) e_k e_k fD ne_fr kd_sh kd_sh kd_sh kd_sh); walk_at "pqn"
      apply w_nx
      apply w_seq
      apply w_frz
      walk_at "pqn"
      apply w_set (r := ⟨.tuple ((nI ts).map .int), .sh⟩) (e_call3 (e_var rfl) e_k e_k fT ne_sh kd_sh kd_sh kd_sh); walk_at "pqn"
      apply w_nx
      apply w_seq
      apply w_set (e_app (e_cons (e_var rfl) e_nil) r_lenT); walk_at "pqn"
      rw [tl]
      apply w_nx
      apply w_seq
      apply w_frz
      walk_at "pqn"
      apply w_for (ds := [.tuple ((nI xs1).map .int), .tuple ((nI xs2).map .int)]) (fun _ ρ => ∃ (x5 x6 x9 x10 : Option Cell), ρ = [some (.sh (scr ns)), some (.sh (.int i)), some (.sh (.list (ds.map .int))), some (.sh (.tuple ((nI ts).map .int))), some (.sh (.int ((ts.length : Nat) : Int))), x5, x6, none, none, x9, x10])
      · exact i_tup (e_app (e_cons (e_call3 (e_slice (e_var rfl) (e_part e_k) e_nopart r_slL) (e_var rfl) e_k f1 ne_sh kd_fr kd_sh kd_sh) (e_cons (e_call3 (e_slice (e_var rfl) (e_part e_k) e_nopart r_slL) (e_var rfl) e_k f2 ne_sh kd_fr kd_sh kd_sh) e_nil)) (r_tup2 kd_sh kd_sh)) kd_sh
      · exact ⟨_, _, _, _, rfl⟩
      · rintro j g ρ hg ⟨y5, y6, y9, y10, rfl⟩
        obtain ⟨xs, rfl, hl, hb⟩ : ∃ xs : List Nat, g = .tuple ((nI xs).map .int) ∧ xs.length = ts.length ∧ ∀ x ∈ xs, x ≤ 20 := by
          have := List.mem_of_getElem? hg
          simp only [List.mem_cons, List.not_mem_nil, or_false] at this
          rcases this with rfl | rfl
          · exact ⟨xs1, rfl, l1, c1⟩
          · exact ⟨xs2, rfl, l2, c2⟩
        refine ⟨[some (.sh (scr ns)), some (.sh (.int i)), some (.sh (.list (ds.map .int))), some (.sh (.tuple ((nI ts).map .int))), some (.sh (.int ((ts.length : Nat) : Int))), some (.sh (.tuple ((nI xs).map .int))), y6, none, none, y9, y10], rfl, ?_⟩
        have zl : ((ts.zip xs).map fun p => PyData.tuple [.int ((p.1 : Nat) : Int), .int ((p.2 : Nat) : Int)]).length < LIM := by
          rw [List.length_map, List.length_zip]; show _ < 100000; omega
        apply w_seq
        apply w_frz
        walk_at "pqn"
        apply w_set (r := ⟨.list ((nI (List.zipWith (fun t x => t - x) ts xs)).map .int), .fr⟩)
        · refine e_comp (ds := (ts.zip xs).map fun p => PyData.tuple [.int ((p.1 : Nat) : Int), .int ((p.2 : Nat) : Int)]) rfl ?_ zl ?_
          · rw [← zip_ints]
            exact i_zip (i_tup (e_var rfl) kd_sh) (i_tup (e_var rfl) kd_sh)
          · have eR : (nI (List.zipWith (fun t x => t - x) ts xs)).map PyData.int = (ts.zip xs).map (fun p : Nat × Nat => PyData.int ((p.1 - p.2 : Nat) : Int)) := by
              rw [← zipWith_zip]
              unfold nI
              rw [List.map_map, List.map_map]
              rfl
            rw [eR]
            refine compL_mapF (fun p : Nat × Nat => PyData.tuple [.int ((p.1 : Nat) : Int), .int ((p.2 : Nat) : Int)]) (fun p : Nat × Nat => PyData.int ((p.1 - p.2 : Nat) : Int)) (qs := ts.zip xs) fun p _ => ⟨[some (.sh (scr ns)), some (.sh (.int i)), some (.sh (.list (ds.map .int))), some (.sh (.tuple ((nI ts).map .int))), some (.sh (.int ((ts.length : Nat) : Int))), some (.sh (.tuple ((nI xs).map .int))), y6, some (.sh (.int ((p.1 : Nat) : Int))), some (.sh (.int ((p.2 : Nat) : Int))), y9, y10], .sh, rfl, rfl, kd_sh, ?_⟩
            refine (e_app (e_cons e_k (e_cons (e_bin (e_var rfl) (e_var rfl) r_sub) e_nil)) r_max).trans ?_
            congr 3
            show (if ((p.1 : Nat) : Int) - ((p.2 : Nat) : Int) > 0 then ((p.1 : Nat) : Int) - ((p.2 : Nat) : Int) else 0) = ((p.1 - p.2 : Nat) : Int)
            split <;> omega
        walk_at "pqn"
        apply w_nx
        apply w_seq
        apply w_frz
        walk_at "pqn"
        apply w_set (r := ⟨.list ((nI (List.zipWith (fun t x => x - t) ts xs)).map .int), .fr⟩)
        · refine e_comp (ds := (ts.zip xs).map fun p => PyData.tuple [.int ((p.1 : Nat) : Int), .int ((p.2 : Nat) : Int)]) rfl ?_ zl ?_
          · rw [← zip_ints]
            exact i_zip (i_tup (e_var rfl) kd_sh) (i_tup (e_var rfl) kd_sh)
          · have eR : (nI (List.zipWith (fun t x => x - t) ts xs)).map PyData.int = (ts.zip xs).map (fun p : Nat × Nat => PyData.int ((p.2 - p.1 : Nat) : Int)) := by
              rw [← zipWith_zip (fun t x => x - t)]
              unfold nI
              rw [List.map_map, List.map_map]
              rfl
            rw [eR]
            refine compL_mapF (fun p : Nat × Nat => PyData.tuple [.int ((p.1 : Nat) : Int), .int ((p.2 : Nat) : Int)]) (fun p : Nat × Nat => PyData.int ((p.2 - p.1 : Nat) : Int)) (qs := ts.zip xs) fun p _ => ⟨[some (.sh (scr ns)), some (.sh (.int i)), some (.sh (.list (ds.map .int))), some (.sh (.tuple ((nI ts).map .int))), some (.sh (.int ((ts.length : Nat) : Int))), some (.sh (.tuple ((nI xs).map .int))), some (.ow ((nI (List.zipWith (fun t x => t - x) ts xs)).map .int)), some (.sh (.int ((p.1 : Nat) : Int))), some (.sh (.int ((p.2 : Nat) : Int))), y9, y10], .sh, rfl, rfl, kd_sh, ?_⟩
            refine (e_app (e_cons e_k (e_cons (e_bin (e_var rfl) (e_var rfl) r_sub) e_nil)) r_max).trans ?_
            congr 3
            show (if ((p.2 : Nat) : Int) - ((p.1 : Nat) : Int) > 0 then ((p.2 : Nat) : Int) - ((p.1 : Nat) : Int) else 0) = ((p.2 - p.1 : Nat) : Int)
            split <;> omega
        walk_at "pqn"
        apply w_nx
        apply w_seq
        apply w_frz
        walk_at "pqn"
        have d1 := hD.text (ts := ts) (us := xs) hl.symm t1 t2 (fun t ht => Nat.le_succ_of_le (tb t ht)) hb
        have d2 := hD.text (ts := List.replicate ts.length 0) (us := xs) (by rw [List.length_replicate]; exact hl.symm) (by rw [List.length_replicate]; exact t1) (by rw [List.length_replicate]; exact t2) (fun t ht => by rw [(List.mem_replicate.mp ht).2]; decide) hb
        have d3 := hD.text (ts := xs) (us := List.replicate ts.length 0) (by rw [List.length_replicate]; exact hl) (by omega) (by omega) (fun t ht => Nat.le_succ_of_le (hb t ht)) (fun t ht => by rw [(List.mem_replicate.mp ht).2]; decide)
        have rx : ∀ zs : List Nat, rsI 0 (nI zs) = ((rs 0 zs : Nat) : Int) := fun zs => rsI_nat 0 zs
        have xne : xs ≠ [] := fun z => by rw [z] at hl; simp at hl; omega
        have tne : ts ≠ [] := fun z => by rw [z] at t1; simp at t1
        obtain ⟨a, ha, ea, ga⟩ := max_nat xne
        obtain ⟨b, hb', eb, gb⟩ := max_nat tne
        have v2 : dst (lns (List.replicate ts.length 0) xs) = rs 0 xs := by rw [← hl]; exact dst_from xs
        have v3 : dst (lns xs (List.replicate ts.length 0)) = a := by rw [← hl]; exact dst_to ha ga
        rw [v2] at d2
        rw [v3] at d3
        have plain := dst_plain ts xs
        have over := dst_over (a := b) hl.symm gb
        apply w_if (e_test (e_bin (e_call2 (e_var rfl) (e_var rfl) d1 ne_sh kd_sh kd_sh) (e_bin (e_call1 (e_var rfl) (rises_ok (.inr rfl)) ne_sh kd_sh) (e_call1 (e_var rfl) (rises_ok (.inr rfl)) ne_sh kd_sh) r_add) r_gt))
        · intro hbad
          exfalso
          have := of_decide_eq_true hbad
          rw [rx, rx] at this
          omega
        intro _
        apply w_skip
        apply w_seq
        apply w_if (e_or' (e_test (e_bin (e_call2 (e_bin (e_app (e_cons e_k e_nil) (r_tup1 kd_sh)) (e_var rfl) (r_repI ts.length 0 (by omega))) (e_var rfl) d2 ne_sh kd_sh kd_sh) (e_call1 (e_var rfl) (rises_ok (.inl rfl)) ne_sh kd_sh) r_neI)) (e_test (e_bin (e_call2 (e_var rfl) (e_bin (e_app (e_cons e_k e_nil) (r_tup1 kd_sh)) (e_var rfl) (r_repI ts.length 0 (by omega))) d3 ne_sh kd_sh kd_sh) (e_app (e_cons (e_var rfl) e_nil) (r_maxT (us := nI xs) (fun z => xne (List.map_eq_nil_iff.mp z)))) r_neI)))
        · intro hbad
          exfalso
          rw [rx, ea, decide_eq_true rfl, decide_eq_true rfl] at hbad
          exact absurd hbad (by decide)
        intro _
        apply w_skip
        apply w_frz
        walk_at "pqn"
        apply w_if (e_test (e_bin (e_call2 (e_var rfl) (e_var rfl) d1 ne_sh kd_sh kd_sh) (e_bin (e_app (e_cons (e_var rfl) e_nil) (r_maxT (us := nI ts) (fun z => tne (List.map_eq_nil_iff.mp z)))) (e_call1 (e_var rfl) (rises_ok (.inl rfl)) ne_sh kd_sh) r_add) r_gt))
        · intro hbad
          exfalso
          have := of_decide_eq_true hbad
          rw [rx, eb] at this
          omega
        intro _
        apply w_skip
        exact ⟨_, _, _, _, rfl⟩
      · rintro ρ ⟨y5, y6, y9, y10, rfl⟩
        apply w_nx
        have a80 := at_int (ns := ds) (i := 80) 80 rfl (by omega)
        generalize ds[80] = d80 at a80
        have m0 := Int.emod_nonneg d80 (show (21 : Int) ≠ 0 by omega)
        have m1 := Int.emod_lt_of_pos d80 (show (0 : Int) < 21 by omega)
        obtain ⟨lv, elv⟩ : ∃ lv : Nat, d80 % 21 = (lv : Int) := ⟨(d80 % 21).toNat, by omega⟩
        apply w_seq
        apply w_set (r := ⟨.int (lv : Int), .sh⟩) (by rw [← elv]; exact e_bin (e_bin (e_var rfl) e_k (r_ixL a80)) e_k (r_mod (by omega))); walk_at "pqn"
        apply w_nx
        have rep : ∀ a b : Nat, a ≤ 20 → b ≤ 20 → f_distance [.tuple ((nI (List.replicate ts.length a)).map .int), .tuple ((nI (List.replicate ts.length b)).map .int)] = some ⟨.int ((dst (lns (List.replicate ts.length a) (List.replicate ts.length b)) : Nat) : Int), .sh⟩ := fun a b ha hb =>
          hD.text (by rw [List.length_replicate, List.length_replicate]) (by rw [List.length_replicate]; exact t1) (by rw [List.length_replicate]; exact t2) (fun t ht => by rw [(List.mem_replicate.mp ht).2]; omega) (fun t ht => by rw [(List.mem_replicate.mp ht).2]; exact hb)
        have e1 : dst (lns (List.replicate ts.length lv) (List.replicate ts.length 0)) = lv := by
          have := dst_to (ts := List.replicate ts.length lv) (a := lv) (List.mem_replicate.mpr ⟨by omega, rfl⟩) (fun t ht => by rw [(List.mem_replicate.mp ht).2]; exact Nat.le_refl _)
          rwa [List.length_replicate] at this
        have e2 : dst (lns (List.replicate ts.length 0) (List.replicate ts.length lv)) = lv := by
          have := dst_from (List.replicate ts.length lv)
          rw [List.length_replicate, rs_rep lv ts.length t1] at this
          exact this
        have g1 := rep lv 0 (by omega) (by omega)
        have g2 := rep 0 lv (by omega) (by omega)
        rw [e1] at g1
        rw [e2] at g2
        apply w_if (e_or' (e_test (e_bin (e_call2 (e_bin (e_app (e_cons (e_var rfl) e_nil) (r_tup1 kd_sh)) (e_var rfl) (r_repI ts.length lv (by omega))) (e_bin (e_app (e_cons e_k e_nil) (r_tup1 kd_sh)) (e_var rfl) (r_repI ts.length 0 (by omega))) g1 ne_sh kd_sh kd_sh) (e_var rfl) r_neI)) (e_test (e_bin (e_call2 (e_bin (e_app (e_cons e_k e_nil) (r_tup1 kd_sh)) (e_var rfl) (r_repI ts.length 0 (by omega))) (e_bin (e_app (e_cons (e_var rfl) e_nil) (r_tup1 kd_sh)) (e_var rfl) (r_repI ts.length lv (by omega))) g2 ne_sh kd_sh kd_sh) (e_var rfl) r_neI)))
        · intro hbad
          exfalso
          rw [decide_eq_true rfl] at hbad
          exact absurd hbad (by decide)
        intro _
        apply w_skip
        exact ⟨_, _, _, _, _, _, _, _, rfl⟩
    · rintro ρ ⟨x1, x2, x3, x4, x5, x6, x9, x10, rfl⟩
      apply w_nx
      have g1 := hD.text (ts := [0, 3, 0, 3, 0]) (us := [0, 0, 0, 0, 0]) rfl (by decide) (by decide) (by decide) (by decide)
      have g2 := hD.text (ts := [0]) (us := [20]) rfl (by decide) (by decide) (by decide) (by decide)
      have e1 : dst (lns [0, 3, 0, 3, 0] [0, 0, 0, 0, 0]) = 3 := dst_to (ts := [0, 3, 0, 3, 0]) (a := 3) (by decide) (by decide)
      have e2 : dst (lns [0] [20]) = 20 := dst_from [20]
      rw [e1] at g1
      rw [e2] at g2
      refine ⟨_, s_ret (r := ⟨.bool true, .sh⟩) ?_ ne_sh, rfl⟩
      refine (e_andVT (k := .sh) ?_ ?_)
      · refine (e_bin (e_call2 (e_app (e_cons e_k (e_cons e_k (e_cons e_k (e_cons e_k (e_cons e_k e_nil))))) (r_tup rfl (Nat.le_of_ble_eq_true rfl))) (e_app (e_cons e_k (e_cons e_k (e_cons e_k (e_cons e_k (e_cons e_k e_nil))))) (r_tup rfl (Nat.le_of_ble_eq_true rfl))) g1 ne_sh kd_sh kd_sh) e_k ?_)
        rw [r_eqI]; rfl
      · refine (e_bin (e_call2 (e_app (e_cons e_k e_nil) (r_tup1 kd_sh)) (e_app (e_cons e_k e_nil) (r_tup1 kd_sh)) g2 ne_sh kd_sh kd_sh) e_k ?_)
        rw [r_eqI]; rfl
  obtain ⟨r, e, rfl⟩ := goal
  exact e
end Lw

open PySem PySem.W PyProof.Rows
set_option maxHeartbeats 0 in
theorem PySem.Challenge.cw_indentsteps_k08_whole_plain_differences_holds : PySem.Challenge.rw_indentsteps_k08_whole_plain_differences.Holds := by
  w_on; o_law; k_head; (case hw => w_witness2)
  k_fill
  refine L2.walk_of (l := PySem.Challenge.rw_indentsteps_k08_whole_plain_differences) (n := 63) (k := 6) (x := "script") (CX := fun _ => L2.CX0) (sp := fun w => Pq.spI _ 1 Lw.f_law) rfl (by decide) rfl ⟨rfl, by decide, by decide⟩ (fun w h Y => PySem.W.kIn_of Y) ?F (fun _ _ a ns hl _ hS => Pq.law_end hS (Lw.law_true Lw.distance_ok ns hl)) (fun _ _ _ _ _ h => h)
  case F =>
    intro w mg fa h KX G hmg
    refine' Lw.all_mk KX G hmg ?a_law_cell ?l_law_cell ?c_law_cell ?k_law_cell ?a_law_digits ?l_law_digits ?c_law_digits ?k_law_digits ?a_law_changed ?l_law_changed ?c_law_changed ?k_law_changed ?a_law_command ?l_law_command ?c_law_command ?k_law_command ?a_law_near ?l_law_near ?c_law_near ?k_law_near ?a_law_rises ?l_law_rises ?c_law_rises ?k_law_rises ?a_law_text ?l_law_text ?c_law_text ?k_law_text ?abent ?lbent ?cbent ?kbent ?acancelled ?lcancelled ?ccancelled ?kcancelled ?alowered ?llowered ?clowered ?klowered ?apaid_steps ?lpaid_steps ?cpaid_steps ?kpaid_steps ?awith_fewer_ins ?lwith_fewer_ins ?cwith_fewer_ins ?kwith_fewer_ins ?awith_more_ins ?lwith_more_ins ?cwith_more_ins ?kwith_more_ins ?aline_prices ?lline_prices ?cline_prices ?kline_prices ?aall_prices ?lall_prices ?call_prices ?kall_prices ?adistance ?ldistance ?cdistance ?kdistance ?alaw ?llaw ?claw ?klaw ?zlen ?zlist ?zmax ?zmin ?zrange ?zreversed ?ztuple ?zzip ?gaNOTHING ?glNOTHING
    (case a_law_cell => k_is); (case l_law_cell => k_is); (case c_law_cell => k_is); (case k_law_cell => k_is); (case a_law_digits => k_is); (case l_law_digits => k_is); (case c_law_digits => k_is); (case k_law_digits => k_is); (case a_law_changed => k_is); (case l_law_changed => k_is); (case c_law_changed => k_is); (case k_law_changed => k_is); (case a_law_command => k_is); (case l_law_command => k_is); (case c_law_command => k_is); (case k_law_command => k_is); (case a_law_near => k_is); (case l_law_near => k_is); (case c_law_near => k_is); (case k_law_near => k_is); (case a_law_rises => k_is); (case l_law_rises => k_is); (case c_law_rises => k_is); (case k_law_rises => k_is); (case a_law_text => k_is); (case l_law_text => k_is); (case c_law_text => k_is); (case k_law_text => k_is); (case abent => k_is); (case lbent => k_is); (case cbent => k_is); (case kbent => k_is); (case acancelled => k_is); (case lcancelled => k_is); (case ccancelled => k_is); (case kcancelled => k_is); (case alowered => k_is); (case llowered => k_is); (case clowered => k_is); (case klowered => k_is); (case apaid_steps => k_is); (case lpaid_steps => k_is); (case cpaid_steps => k_is); (case kpaid_steps => k_is); (case awith_fewer_ins => k_is); (case lwith_fewer_ins => k_is); (case cwith_fewer_ins => k_is); (case kwith_fewer_ins => k_is); (case awith_more_ins => k_is); (case lwith_more_ins => k_is); (case cwith_more_ins => k_is); (case kwith_more_ins => k_is); (case aline_prices => k_is); (case lline_prices => k_is); (case cline_prices => k_is); (case kline_prices => k_is); (case aall_prices => k_is); (case lall_prices => k_is); (case call_prices => k_is); (case kall_prices => k_is); (case adistance => k_is); (case ldistance => k_is); (case cdistance => k_is); (case kdistance => k_is); (case alaw => k_is); (case llaw => k_is); (case claw => k_is); (case klaw => k_is); (case zlen => k_is); (case zlist => k_is); (case zmax => k_is); (case zmin => k_is); (case zrange => k_is); (case zreversed => k_is); (case ztuple => k_is); (case zzip => k_is); (case gaNOTHING => k_is); (case glNOTHING => k_is)
