import PyProof.Rows.All
import Wide.All
import OpenK.AllK
import Wide.FinOn
import HandS.ForMost
import HandS.Wide
import HandS.IsInst
import KE.KBits
import KE.OsArith
import HandS.AnyAll
import HandS.GenOver
import HandS.GenList
import HandS.Nested
import PyProof.GenQ
import HandS.TupAny
import HandS.TupMul
import HandS.Zip
import HandS.Style
import HandS.EndTab
import KE.KNestM
import HandS.Walk
import KE.GoesEnum
import HandS.Zip0
import HandS.CallLocal
import HandS.Call
import HandS.Defaults
import HandS.More
import HandS.Flow
import PyProof.ReprRoads
import PyProof.ReprBulk
import HandS.Conv
import HandS.Small
import HandS.WideBits
import HandS.RaiseMore
import HandS.WordsExc
import HandS.FStr
import HandS.TryOnly
import PySem.Challenge.RW_backrun_k10_pebbles_on_a_chain
set_option Elab.async false
set_option linter.all false
set_option maxRecDepth 100000
/-! what serves every law: cuts, heaps that change at one place, the law's own draw -/
namespace My
open PySem PySem.Spec PyProof.Rows L2
/-! ### cuts -/
section
variable {X : Cx}
theorem ps_cut {st : Stmt} {t : TS} (h : PS X st t) : PS X st (fun D σ H => ∃ J : L2.St → Hp → Prop, t { D with nx := J } σ H ∧ ∀ σ' H', J σ' H' → D.nx σ' H') := by
  refine ⟨fun pins s σ H D I hh => ?_⟩
  obtain ⟨J, h1, h2⟩ := hh
  refine thn (h.run pins s σ H _ I h1) fun f s' z => ?_
  cases f with
  | next => obtain ⟨σ', H', I', j⟩ := z; exact ⟨σ', H', I', h2 σ' H' j⟩
  | brk => exact z
  | cont => exact z
  | ret v => exact z
theorem pe_cut {e : Expr} {t : TE} (h : PE X e t) : PE X e (fun σ H Q => ∃ J : V → Hp → Prop, t σ H J ∧ ∀ v H', J v H' → Q v H') := by
  refine ⟨fun pins s σ H Q I hh => ?_⟩
  obtain ⟨J, h1, h2⟩ := hh
  refine thn (h.run pins s σ H _ I h1) fun u s' ⟨v, H', I', r, j⟩ => ⟨v, H', I', r, h2 v H' j⟩
theorem pt_cut {e : Expr} {t : TT} (h : PT X e t) : PT X e (fun σ H Q => ∃ J : Bool → Hp → Prop, t σ H J ∧ ∀ b H', J b H' → Q b H') := by
  refine ⟨fun pins s σ H Q I hh => ?_⟩
  obtain ⟨J, h1, h2⟩ := hh
  refine thn (h.run pins s σ H _ I h1) fun u s' ⟨H', I', j⟩ => ⟨H', I', h2 u H' j⟩
end
/-! ### heaps -/
theorem same_upd {H : Hp} {p : Addr} {o : HO} (h : H p = none) : Same H (upd H p o) := fun b x e => by
  rw [upd_ne (ne_of_none e h)]
  exact e
/-- all but what stands at p stays -/
def KeepBut (p : Addr) (H H' : Hp) : Prop := ∀ b o, b ≠ p → H b = some o → H' b = some o
theorem KeepBut.refl (p : Addr) (H : Hp) : KeepBut p H H := fun _ _ _ e => e
theorem KeepBut.trans {p : Addr} {H H1 H2 : Hp} (a : KeepBut p H H1) (b : KeepBut p H1 H2) : KeepBut p H H2 := fun c o n e => b c o n (a c o n e)
theorem KeepBut.put (p : Addr) (H : Hp) (o : HO) : KeepBut p H (upd H p o) := fun b x n e => by
  rw [upd_ne n]
  exact e
theorem KeepBut.same {p : Addr} {H H1 : Hp} (a : Same H H1) : KeepBut p H H1 := fun c o _ e => a c o e
theorem KeepBut.new {p q : Addr} {H H1 : Hp} {o : HO} (a : KeepBut p H H1) (h : H1 q = none) : KeepBut p H (upd H1 q o) := a.trans (.same (same_upd h))
/-! ### the law's draw: [cells, place, rest, seed] -/
structure DrawIs (H : Hp) (p c : Addr) (cells : List Int) (pos rest seed : Int) : Prop where
  hp : H p = some (.lst [.ref c, .int pos, .int rest, .int seed])
  hc : H c = some (.lst (cells.map V.int))
  nn : ∀ x ∈ cells, 0 ≤ x
  po : -1 ≤ pos
  re : 0 ≤ rest
  s0 : 0 ≤ seed
  s1 : seed < 2147483647
def DrawAt (H : Hp) (p : Addr) : Prop := ∃ c cells pos rest seed, DrawIs H p c cells pos rest seed
theorem DrawIs.ne {H : Hp} {p c : Addr} {cells : List Int} {pos rest seed : Int} (D : DrawIs H p c cells pos rest seed) : c ≠ p := ne_of D.hc D.hp (by
  intro z
  cases cells with
  | nil => cases z
  | cons x r => cases z)
theorem DrawIs.put {H : Hp} {p c : Addr} {cells : List Int} {pos rest seed pos' rest' seed' : Int} (D : DrawIs H p c cells pos rest seed) (h1 : -1 ≤ pos') (h2 : 0 ≤ rest') (h3 : 0 ≤ seed') (h4 : seed' < 2147483647) :
    DrawIs (upd H p (.lst [.ref c, .int pos', .int rest', .int seed'])) p c cells pos' rest' seed' :=
  ⟨upd_same, by rw [upd_ne D.ne]; exact D.hc, D.nn, h1, h2, h3, h4⟩
theorem DrawIs.keep {H H' : Hp} {p c : Addr} {cells : List Int} {pos rest seed : Int} (D : DrawIs H p c cells pos rest seed) (k : Same H H') : DrawIs H' p c cells pos rest seed :=
  ⟨k _ _ D.hp, k _ _ D.hc, D.nn, D.po, D.re, D.s0, D.s1⟩
theorem DrawAt.keep {H H' : Hp} {p : Addr} (D : DrawAt H p) (k : Same H H') : DrawAt H' p := by
  obtain ⟨c, cells, pos, rest, seed, d⟩ := D
  exact ⟨c, cells, pos, rest, seed, d.keep k⟩
theorem DrawAt.some {H : Hp} {p : Addr} (D : DrawAt H p) : ∃ o, H p = some o := by
  obtain ⟨c, cells, pos, rest, seed, d⟩ := D
  exact ⟨_, d.hp⟩
theorem DrawAt.upd {H : Hp} {p q : Addr} {o : HO} (D : DrawAt H p) (h : H q = none) : DrawAt (upd H q o) p := D.keep (same_upd h)
/-! ### numbers -/
theorem int_nat {i : Int} (h : 0 ≤ i) : ∃ n : Nat, i = (n : Int) := ⟨i.toNat, by omega⟩
theorem fmod_lo {a b : Int} (h : 0 < b) : 0 ≤ a.fmod b := Int.fmod_nonneg_of_pos a h
theorem fmod_hi {a b : Int} (h : 0 < b) : a.fmod b < b := Int.fmod_lt_of_pos a h
theorem fmod_e {a b : Int} (h : 0 < b) : a.fmod b = a % b := Int.fmod_eq_emod_of_nonneg a (by omega)
theorem div_lo {a b : Int} (h : 0 ≤ a) (hb : 0 < b) : 0 ≤ a / b := Int.ediv_nonneg h (by omega)
end My
namespace My
open PySem PySem.Spec PyProof.Rows L2
/-! ### a written tuple of the top -/
theorem rel_abs : ∀ {u : Value} {x : V}, absV u = some x → RelV x u
  | .none, _, h => by cases h; rfl
  | .bool _, _, h => by cases h; rfl
  | .int _ t, _, h => by cases h; exact ⟨t, rfl⟩
  | .str _ t, _, h => by cases h; exact ⟨t, rfl⟩
  | .bytes _ t, _, h => by cases h; exact ⟨t, rfl⟩
  | .float _ t, _, h => by cases h; exact ⟨t, rfl⟩
  | .ref _, _, h => by cases h; rfl
  | .type _, _, h => by cases h; rfl
theorem vals_abs : ∀ {us : List Value} {xs : List V}, us.mapM absV = some xs → Vals xs us
  | [], xs, h => by
    cases h
    exact .nil
  | u :: us, xs, h => by
    rw [List.mapM_cons] at h
    cases e : absV u with
    | none => rw [e] at h; cases h
    | some x =>
      rw [e] at h
      cases e2 : us.mapM absV with
      | none => rw [e2] at h; cases h
      | some ys =>
        rw [e2] at h
        cases h
        exact .cons (rel_abs e) (vals_abs e2)
theorem sqT_k {K : PySem.W.Frag} {H : Hp} {a : Addr} {d : Option Addr} {its : Array Value} {n : Nat} {sl : Array (Option Value)} {xs : List V} (l : K.lookup a = some ⟨.type "tuple", d, .seq its n, sl⟩) (h : its.toList.mapM absV = some xs) (z : its.size ≤ sizeLine) : SqT K H a xs :=
  .inr ⟨_, its, n, l, rfl, rfl, z, vals_abs h⟩
end My

set_option Elab.async false
set_option linter.all false
/-! words: the ten ops by bits and by whole numbers -/
namespace My
open PySem PySem.Spec PyProof.Rows L2
theorem bit_and (a b k : Nat) : (a &&& b) / 2 ^ k % 2 = if a / 2 ^ k % 2 + b / 2 ^ k % 2 = 2 then 1 else 0 := by
  have h := Nat.testBit_and a b k
  rw [Nat.testBit_eq_decide_div_mod_eq, Nat.testBit_eq_decide_div_mod_eq, Nat.testBit_eq_decide_div_mod_eq] at h
  have h1 := Nat.mod_lt (a / 2 ^ k) (show 2 > 0 by decide)
  have h2 := Nat.mod_lt (b / 2 ^ k) (show 2 > 0 by decide)
  have h3 := Nat.mod_lt ((a &&& b) / 2 ^ k) (show 2 > 0 by decide)
  have h4 : ((a &&& b) / 2 ^ k % 2 = 1) ↔ (a / 2 ^ k % 2 = 1 ∧ b / 2 ^ k % 2 = 1) := by
    rw [← decide_eq_true_iff (p := (a &&& b) / 2 ^ k % 2 = 1), h, Bool.and_eq_true, decide_eq_true_iff, decide_eq_true_iff]
  split <;> omega
theorem bit_or (a b k : Nat) : (a ||| b) / 2 ^ k % 2 = if 0 < a / 2 ^ k % 2 + b / 2 ^ k % 2 then 1 else 0 := by
  have h := Nat.testBit_or a b k
  rw [Nat.testBit_eq_decide_div_mod_eq, Nat.testBit_eq_decide_div_mod_eq, Nat.testBit_eq_decide_div_mod_eq] at h
  have h1 := Nat.mod_lt (a / 2 ^ k) (show 2 > 0 by decide)
  have h2 := Nat.mod_lt (b / 2 ^ k) (show 2 > 0 by decide)
  have h3 := Nat.mod_lt ((a ||| b) / 2 ^ k) (show 2 > 0 by decide)
  have h4 : ((a ||| b) / 2 ^ k % 2 = 1) ↔ (a / 2 ^ k % 2 = 1 ∨ b / 2 ^ k % 2 = 1) := by
    rw [← decide_eq_true_iff (p := (a ||| b) / 2 ^ k % 2 = 1), h, Bool.or_eq_true, decide_eq_true_iff, decide_eq_true_iff]
  split <;> omega
theorem bit_xor (a b k : Nat) : (a ^^^ b) / 2 ^ k % 2 = if a / 2 ^ k % 2 + b / 2 ^ k % 2 = 1 then 1 else 0 := by
  have h := Nat.testBit_xor (x := a) (y := b) (i := k)
  rw [Nat.testBit_eq_decide_div_mod_eq, Nat.testBit_eq_decide_div_mod_eq, Nat.testBit_eq_decide_div_mod_eq] at h
  have h1 := Nat.mod_lt (a / 2 ^ k) (show 2 > 0 by decide)
  have h2 := Nat.mod_lt (b / 2 ^ k) (show 2 > 0 by decide)
  have h3 := Nat.mod_lt ((a ^^^ b) / 2 ^ k) (show 2 > 0 by decide)
  by_cases c1 : a / 2 ^ k % 2 = 1 <;> by_cases c2 : b / 2 ^ k % 2 = 1 <;> by_cases c3 : (a ^^^ b) / 2 ^ k % 2 = 1 <;> simp [c1, c2, c3] at h ⊢ <;> first | omega | (split <;> omega)
/-- and, or, xor of two numbers by their name -/
def bitF (op : Str) (a b : Nat) : Nat := if op = "and" then a &&& b else if op = "or" then a ||| b else a ^^^ b
/-- does the bit count -/
def bitC (op : Str) (both : Int) : Bool := if op = "and" then decide (both = 2) else if op = "or" then decide (0 < both) else decide (both = 1)
theorem bitF_step (op : Str) (a b k : Nat) : ((bitF op a b % 2 ^ (k + 1) : Nat) : Int) = ((bitF op a b % 2 ^ k : Nat) : Int) + (if bitC op (((a / 2 ^ k % 2 : Nat) : Int) + ((b / 2 ^ k % 2 : Nat) : Int)) = true then (2 : Int) ^ k else 0) := by
  have e : bitF op a b / 2 ^ k % 2 = if bitC op (((a / 2 ^ k % 2 : Nat) : Int) + ((b / 2 ^ k % 2 : Nat) : Int)) = true then 1 else 0 := by
    unfold bitF bitC
    by_cases c1 : op = "and"
    · rw [if_pos c1, if_pos c1, bit_and]
      simp only [decide_eq_true_eq]
      split <;> split <;> omega
    · rw [if_neg c1, if_neg c1]
      by_cases c2 : op = "or"
      · rw [if_pos c2, if_pos c2, bit_or]
        simp only [decide_eq_true_eq]
        split <;> split <;> omega
      · rw [if_neg c2, if_neg c2, bit_xor]
        simp only [decide_eq_true_eq]
        split <;> split <;> omega
  rw [Nat.mod_pow_succ, e]
  have hk : ((2 ^ k : Nat) : Int) = (2 : Int) ^ k := PySem.W.kbt_cast k
  split
  · rw [Nat.mul_one]; omega
  · rw [Nat.mul_zero]; omega
theorem bitF_lt (op : Str) {a b n : Nat} (ha : a < 2 ^ n) (hb : b < 2 ^ n) : bitF op a b < 2 ^ n := by
  unfold bitF
  split
  · exact Nat.and_lt_two_pow a hb
  · split
    · exact Nat.or_lt_two_pow ha hb
    · exact Nat.xor_lt_two_pow ha hb
theorem bitOr_nat (a b : Nat) : Builtin.bitOr (a : Int) (b : Int) = ((a ||| b : Nat) : Int) := by
  show Spec.bitOr (a : Int) (b : Int) = _
  have h1 : ¬ (0 ≤ -(a : Int) - 1) := by omega
  have h2 : ¬ (0 ≤ -(b : Int) - 1) := by omega
  have e1 : (-(-(a : Int) - 1) - 1).toNat = a := by omega
  have e2 : (-(-(b : Int) - 1) - 1).toNat = b := by omega
  unfold Spec.bitOr Spec.bitAnd Spec.bitNot
  rw [decide_eq_false h1, decide_eq_false h2]
  show -(-(((-(-(a : Int) - 1) - 1).toNat ||| (-(-(b : Int) - 1) - 1).toNat : Nat) : Int) - 1) - 1 = _
  rw [e1, e2]
  omega
theorem bitAnd_nat (a b : Nat) : Builtin.bitAnd (a : Int) (b : Int) = ((a &&& b : Nat) : Int) := PySem.W.os_band a b
theorem or_sub_and (a b : Nat) : (a ||| b) - (a &&& b) = a ^^^ b ∧ (a &&& b) ≤ (a ||| b) := by
  -- by bits from below
  have key : ∀ n : Nat, ∀ a b : Nat, a < 2 ^ n → b < 2 ^ n → (a ||| b) = (a ^^^ b) + (a &&& b) := by
    intro n
    induction n with
    | zero =>
      intro a b ha hb
      have : a = 0 := by omega
      have : b = 0 := by omega
      subst_vars
      rfl
    | succ n ih =>
      intro a b ha hb
      have h1 := bit_and a b 0
      have h2 := bit_or a b 0
      have h3 := bit_xor a b 0
      have e1 : (a &&& b) / 2 = (a / 2) &&& (b / 2) := Nat.and_div_two
      have e2 : (a ||| b) / 2 = (a / 2) ||| (b / 2) := Nat.or_div_two
      have e3 : (a ^^^ b) / 2 = (a / 2) ^^^ (b / 2) := Nat.xor_div_two
      have hp : 2 ^ (n + 1) = 2 ^ n * 2 := Nat.pow_succ ..
      have := ih (a / 2) (b / 2) (by omega) (by omega)
      simp only [Nat.pow_zero, Nat.div_one] at h1 h2 h3
      have m1 := Nat.mod_lt a (show 2 > 0 by decide)
      have m2 := Nat.mod_lt b (show 2 > 0 by decide)
      split at h1 <;> split at h2 <;> split at h3 <;> omega
  have hm : ∀ a : Nat, a < 2 ^ a := fun a => Nat.lt_two_pow_self
  have ha : a < 2 ^ (a + b) := Nat.lt_of_lt_of_le (hm a) (Nat.pow_le_pow_right (by decide) (by omega))
  have hb : b < 2 ^ (a + b) := Nat.lt_of_lt_of_le (hm b) (Nat.pow_le_pow_right (by decide) (by omega))
  have := key (a + b) a b ha hb
  omega
theorem bitXor_nat (a b : Nat) : Builtin.bitXor (a : Int) (b : Int) = ((a ^^^ b : Nat) : Int) := by
  show Builtin.bitOr (a : Int) (b : Int) - Builtin.bitAnd (a : Int) (b : Int) = _
  rw [bitOr_nat, bitAnd_nat]
  have := or_sub_and a b
  omega
/-- the word of an op, as the document has it -/
def cmpS (op : Str) (n : Nat) (x y : Int) : Int :=
  if op = "add" then (x + y) % 2 ^ n else if op = "sub" then (x - y) % 2 ^ n else if op = "mul" then (x * y) % 2 ^ n
  else if op = "and" then Builtin.bitAnd x y else if op = "or" then Builtin.bitOr x y else if op = "xor" then Builtin.bitXor x y
  else if op = "less" then (if x < y then 1 else 0) else if op = "equal" then (if x = y then 1 else 0)
  else if (n : Int) ≤ y then 0 else if op = "shl" then (x * 2 ^ y.toNat) % 2 ^ n else x / 2 ^ y.toNat
theorem bitF_cmp {op : Str} (h : op = "and" ∨ op = "or" ∨ op = "xor") (n a b : Nat) : cmpS op n (a : Int) (b : Int) = ((bitF op a b : Nat) : Int) := by
  rcases h with rfl | rfl | rfl
  · exact bitAnd_nat a b
  · exact bitOr_nat a b
  · exact bitXor_nat a b
end My

set_option Elab.async false
set_option linter.all false
set_option maxRecDepth 100000
set_option maxHeartbeats 4000000
/-! all(e for x in xs), any(e for x in xs): the element any expression that gives a truth value, calls of own defs too -/
namespace My
open PySem PySem.Spec PyProof.Rows L2 GxR NdefX GenW
/-- the context of the generator's frame -/
def gcx (X : Cx) (s : Shared) (H : Hp) (A : Around) (N : List Str) (cenv : Env) (fp : List Addr) : Cx :=
  { X with A := A, N := N, s_0 := s, H_0 := H, env := cenv, outer := X.stack, stack := cenv :: X.stack, ex := fp, fn := fun _ => false, calm := true, pn := [], xe := fun _ _ => False }
/-- the names that the element reads of the def around it, with their slots there -/
def Caps (X : Cx) (scope : Scope) : List (Str × Nat) → Prop
  | [] => True
  | p :: r => (X.N[p.2]? = some p.1 ∧ scope.names.lookup p.1 = some .free ∧ (X.env.scope.names.lookup p.1 = some .cell ∨ X.env.scope.names.lookup p.1 = some .free)) ∧ Caps X scope r
def gσ (σ : L2.St) (own : List (Str × Nat)) (v : Option V) : L2.St := v :: own.map fun p => (σ[p.2]?).getD none
def gN (x : Str) (own : List (Str × Nat)) : List Str := x :: own.map (·.1)
theorem caps_at {X : Cx} {scope : Scope} : ∀ {own : List (Str × Nat)} {i : Nat} {p : Str × Nat}, Caps X scope own → own[i]? = some p → X.N[p.2]? = some p.1 ∧ scope.names.lookup p.1 = some .free ∧ (X.env.scope.names.lookup p.1 = some .cell ∨ X.env.scope.names.lookup p.1 = some .free)
  | [], _, _, _, e => by simp at e
  | q :: r, 0, p, h, e => by simp at e; subst e; exact h.1
  | q :: r, i + 1, p, h, e => caps_at (own := r) (i := i) h.2 (by simpa using e)
section
variable {X : Cx} {pins : List (Addr × Obj)} {σ : L2.St} {H : Hp} {s s' : Shared}
/-- the heap as it was -/
theorem inv_same (I : Inv X pins σ H s) (h : s'.heap = s.heap) (ho : s'.os = s.os) (hb : AllBare s'.gens) : Inv X pins σ H s' := by
  obtain ⟨hh, g, d, t, o⟩ := s'
  obtain rfl : hh = s.heap := h
  obtain rfl : o = s.os := ho
  exact I.step (g' := g) (d' := d) (t' := t) (ch := []) (fun _ z => nomatch z) (fun _ _ _ _ _ e _ => e) (fun _ o _ _ _ e _ => ⟨o.slots, e⟩) (fun _ _ _ _ n => n) (fun _ o _ e => ⟨o, e⟩) (fun _ _ e => e) (fun _ _ _ e => e)
    (fun b ps e => ⟨#[], by rw [e]; simp⟩) (fun _ hm => hm) I.hok hb
/-- the frame of the generator begins -/
theorem gen_start {it a : Addr} {go : Obj} {fp : List Addr} {scope : Scope} {x : Str} {own : List (Str × Nat)} {A : Around} {h' : Heap} {bi : Addr} {code : Value} {gg : Array GenState} {tk : Nat}
    (I : Inv X pins σ H s) (hfp : ∀ b ∈ fp, FpOk X pins H b ∧ b < s.heap.objs.size) (S : GenS X.env scope x) (hc : Caps X scope own) (hA : A.handled = none) (hF : A.frames = some (genEnv scope (cloFrom X.env.cells scope.names []) s.heap.objs.size code bi X.env :: X.stack)) (hbi : bi = builtinsNs)
    (hn : h'.Ns s.heap.objs.size fun y => if y = ".0" then some (.ref it) else none) (kp : ∀ b o, s.heap.get? b = some o → (h'.push go).get? b = some o) (hsz : h'.objs.size = s.heap.objs.size + 1) (ha : a = h'.objs.size) (hnc : ∀ v, go.data ≠ .cell v) (hfr : go.isFreed = false) (hg : AllBare gg) :
    Inv (gcx X s H A (gN x own) (genEnv scope (cloFrom X.env.cells scope.names []) s.heap.objs.size code bi X.env) fp) [(a, go)] (gσ σ own none) H { s with gens := gg, toks := tk, heap := h'.push go } := by
  have cm : ∀ {y c}, (cloFrom X.env.cells scope.names []).lookup y = some c → X.env.cells.lookup y = some c := fun {y c} e => clo_cm S.free e
  have okB : (gcx X s H A (gN x own) (genEnv scope (cloFrom X.env.cells scope.names []) s.heap.objs.size code bi X.env) fp).Ok := by
    refine ⟨I.ok.mod, S.kind, I.ok.glob, hbi, Nat.le_refl _, fun y z c e1 e2 => I.ok.inj y z c (cm e1) (cm e2), fun y hy => ?_, fun y c z _ => (by cases z), fun _ => hA, hF, .inr ⟨rfl, rfl⟩, fun b hb => ⟨Nat.ne_of_lt (hfp b hb).2, fun y c e z => (hfp b hb).1.2.2.2.2.1 y c (cm e) z⟩,
      I.bs, Nat.le_trans I.ok.bsz I.sz, fun b o e hb => ?_, fun b hb z => ?_, I.stack, I.stkFree⟩
    · have hy : scope.names.lookup y = some .cell ∨ scope.names.lookup y = some .free := hy
      rcases hy with hy | hy
      · exact absurd rfl (S.cell _ (PySem.mem_of_lookup hy))
      · obtain ⟨c, e⟩ := S.free _ (PySem.mem_of_lookup hy) rfl
        exact ⟨c, clo_has S.free (PySem.mem_of_lookup hy) e⟩
    · rcases (hfp b hb).1.2.2.2.1 with z | z
      · exact I.ok.noex b o e z
      · exact absurd (Nat.lt_of_lt_of_le (Heap.lt_size e) (Nat.le_trans I.ok.bsz z)) (Nat.lt_irrefl _)
    · rcases List.mem_cons.mp (I.stkSub b z) with z | z
      · exact (hfp b hb).1.2.1 z
      · exact (hfp b hb).1.2.2.1 z
  refine ⟨okB, rfl, hg, Un.kept kp, ⟨_, hn.push _, fun i y v e1 e2 _ => ?_⟩, fun y c e => ?_, I.hok.fresh (Nat.le_refl _), fun y c e => I.freeC y c (cm e), fun p hp => ?_, I.hok.kept kp, ?_⟩
  · cases i with
    | zero => cases e2
    | succ i =>
      have e1 : (own.map (·.1))[i]? = some y := e1
      have e2 : (own.map fun p => (σ[p.2]?).getD none)[i]? = some (some v) := e2
      rw [List.getElem?_map] at e1 e2
      cases q : own[i]? with
      | none => rw [q] at e1; cases e1
      | some p =>
        rw [q] at e1 e2
        cases e1
        obtain ⟨hN, hf, hk⟩ := caps_at hc q
        have e3 : σ[p.2]? = some (some v) := by
          have e2 : some ((σ[p.2]?).getD none) = some (some v) := e2
          cases r : σ[p.2]? with
          | none => rw [r] at e2; cases e2
          | some u => rw [r] at e2; exact e2
        obtain ⟨m, _, hl⟩ := I.loc
        obtain ⟨u, r, lk⟩ := hl p.2 p.1 v hN e3 (.inr hk)
        refine ⟨u, r, .inr ⟨.inr hf, ?_⟩⟩
        rcases lk with ⟨k, _⟩ | ⟨_, c, e, o, ho, hd⟩
        · have k : X.env.scope.names.lookup p.1 = some .local := k
          rcases hk with hk | hk <;> (rw [hk] at k; cases k)
        · exact ⟨c, clo_has S.free (PySem.mem_of_lookup hf) e, o, kp c o ho, hd⟩
  · obtain ⟨v, o, ho, hd⟩ := I.cell y c (cm e)
    exact ⟨v, o, kp c o ho, hd⟩
  · have hp : p = (a, go) := by simpa [gcx] using hp
    subst hp
    refine ⟨?_, I.hok.fresh (by rw [ha, hsz]; exact Nat.le_succ _), ?_, fun z => ?_, hnc⟩
    · show (h'.push go).get? a = some go
      rw [ha]
      exact Heap.get?_push_size _ hfr
    · show a ≠ s.heap.objs.size
      rw [ha, hsz]
      exact Nat.succ_ne_self _
    · have hlt : ∀ b, b ∈ frs X.stack → b < s.heap.objs.size := fun b hb => by
        rcases List.mem_cons.mp (I.stkSub b hb) with y | y
        · rw [y]; exact I.lt
        · by_cases q : b < s.heap.objs.size
          · exact q
          · exact absurd y (I.nofs (Nat.le_of_not_lt q))
      have q := hlt a z
      rw [ha, hsz] at q
      exact absurd q (Nat.not_lt.mpr (Nat.le_succ _))
  · simp [gσ, gN, gcx]
end

theorem bne_of : ∀ {a b : Bool}, ¬ a = b → a = !b
  | true, true, h => absurd rfl h
  | true, false, _ => rfl
  | false, true, _ => rfl
  | false, false, h => absurd rfl h
/-! ### the generator's turns -/
section
variable {X : Cx} {al : Bool} {W : Nat → Nat → Hp → Prop} {QF : V → Hp → Prop}
/-- what a turn hands out: the answer is settled, or it goes on -/
def YAll (X' : Cx) (pn : List (Addr × Obj)) (al : Bool) (QF : V → Hp → Prop) : Protocol := fun _ _ v s kap =>
  ∃ σ H, Inv X' pn σ H s ∧ ((v = .bool (!al) ∧ QF (.bl (!al)) H) ∨ (v = .bool al ∧ ∀ s', s'.heap = s.heap → s'.os = s.os → AllBare s'.gens → kap (.send .none) s'))
def PAll (X' : Cx) (pn : List (Addr × Obj)) (al : Bool) (QF : V → Hp → Prop) (_ : Nat) (_ s : Shared) : Prop := ∃ σ H, Inv X' pn σ H s ∧ QF (.bl al) H
/-- one turn of the reading -/
def TAll (σ : L2.St) (own : List (Str × Nat)) (te : TE) (al : Bool) (J : It) (W : Nat → Nat → Hp → Prop) (QF : V → Hp → Prop) : Prop := ∀ i m H, W i m H →
  (J.stop i H ∧ QF (.bl al) H) ∨ (J.go i H ∧ ∃ Nx : Hp → Prop, (∀ H', Nx H' → ∃ m', m' < m ∧ W (i + 1) m' H') ∧ ∀ v H', J.yld i H v H' → te (gσ σ own (some v)) H' fun y H2 => ∃ b, y = .bl b ∧ if b = al then Nx H2 else QF (.bl (!al)) H2)
theorem seg_all {A : Around} {elt iter : Expr} {x : Str} {px gpos : Pos} {scope : Scope} {cenv : Env} {s₁ : Shared} {H₁ : Hp} {own : List (Str × Nat)} {fp : List Addr} {it : Addr} {a : Addr} {go : Obj} {J : It} {tn : Nat → Heap → Prop} {σ : L2.St} {te : TE}
    (hsc : cenv.scope = scope) (hx : scope.names.lookup x = some .local) (hco : scope.isCoroutine = false) (hnd : (gN x own).Nodup) (haf : ∀ b ∈ fp, a ≠ b)
    (T : Turn X.prog X.w X.K (.Name x px) J fp it tn)
    (he : PE (gcx X s₁ H₁ (A.over (.compLoop (.GeneratorExp elt [⟨.Name x px, iter, [], 0⟩] scope gpos) 0 (.ref it) .none cenv) []) (gN x own) cenv fp) elt te)
    (turn : TAll σ own te al J W QF) : ∀ (m n i : Nat) (s₀ s : Shared) (H : Hp) (v₀ : Option V), m < n →
      Inv (gcx X s₁ H₁ (A.over (.compLoop (.GeneratorExp elt [⟨.Name x px, iter, [], 0⟩] scope gpos) 0 (.ref it) .none cenv) []) (gN x own) cenv fp) [(a, go)] (gσ σ own v₀) H s → tn i s.heap → (∀ b ∈ fp, H b = none) → W i m H →
      Seg (model X.prog X.w) A (fun n s₀ r s₂ => r = .ok .next ∧ PAll (gcx X s₁ H₁ (A.over (.compLoop (.GeneratorExp elt [⟨.Name x px, iter, [], 0⟩] scope gpos) 0 (.ref it) .none cenv) []) (gN x own) cenv fp) [(a, go)] al QF n s₀ s₂)
        (YAll (gcx X s₁ H₁ (A.over (.compLoop (.GeneratorExp elt [⟨.Name x px, iter, [], 0⟩] scope gpos) 0 (.ref it) .none cenv) []) (gN x own) cenv fp) [(a, go)] al QF) n s₀
        (.compLoop (.GeneratorExp elt [⟨.Name x px, iter, [], 0⟩] scope gpos) 0 (.ref it) .none cenv)
        ((model X.prog X.w).den (.compLoop (.GeneratorExp elt [⟨.Name x px, iter, [], 0⟩] scope gpos) 0 (.ref it) .none cenv)) [] s := by
  generalize hcd : (Code.compLoop (.GeneratorExp elt [⟨.Name x px, iter, [], 0⟩] scope gpos) 0 (.ref it) .none cenv) = cd at *
  have hcalm : ∀ (Y : Cx), (gcx X s₁ H₁ (A.over cd []) (gN x own) cenv fp).calm = true := fun _ => rfl
  intro m
  induction m using Nat.strongRecOn with
  | _ m ih =>
    intro n i s₀ s H v₀ hmn I st hfn w
    have stat : ∀ {σ' : L2.St} {H' : Hp} {s' : Shared}, Inv (gcx X s₁ H₁ (A.over cd []) (gN x own) cenv fp) [(a, go)] σ' H' s' → (∀ b ∈ fp, H' b = none) → ∀ b ∈ fp, FpOk (gcx X s₁ H₁ (A.over cd []) (gN x own) cenv fp) [(a, go)] H' b := fun {σ' H' s'} I' hn b hb =>
      ⟨hn b hb, (I'.ok.exf b hb).1, I'.ok.exfs b hb, .inl hb, fun x c e => (I'.ok.exf b hb).2 x c e, fun p hp => by
        have hp : p = (a, go) := by simpa [gcx] using hp
        rw [hp]
        exact haf b hb⟩
    have den : (model X.prog X.w).den cd = (compTurn (.GeneratorExp elt [⟨.Name x px, iter, [], 0⟩] scope gpos) 0 (.ref it) .none cenv).onRaise (leaving cenv) := by rw [← hcd]; rfl
    rw [den, compTurn_gen, Sem.onRaise_eq_wrap, hcd]
    refine seg_bind_wrap (wpAny_standAt ?_)
    rcases turn i m H w with ⟨stop, qq⟩ | ⟨gg, Nx, hNx, step⟩
    · refine seg_bind_wrap (thnF (T.done (gcx X s₁ H₁ (A.over cd []) (gN x own) cenv fp) rfl rfl rfl rfl i [(a, go)] s _ H (fun _ _ => False) I (stat I hfn) st stop) fun r s2 ⟨hr, I2⟩ => ?_)
      subst hr
      exact seg_end (.ok .next) ⟨rfl, _, H, I2, qq⟩
    · refine seg_bind_wrap (thnF (T.item (gcx X s₁ H₁ (A.over cd []) (gN x own) cenv fp) rfl rfl rfl rfl i [(a, go)] s _ H (fun _ _ => False) I (stat I hfn) st gg) fun r s2 ⟨u, hr, h2⟩ => ?_)
      subst hr
      refine seg_bind_wrap (thnF h2 fun _ s3 ⟨v, H3, I3, r3, y3, st3, n3⟩ => ?_)
      have I3' := I3.pinned (stat I3 n3) (T.obj _ _ st3)
      have hsx : cenv.scope.names.lookup x = some .local := by rw [hsc]; exact hx
      refine seg_bind_wrap (wpAny_assign_Name (store_ok (i := 0) (x := x) I3' hnd rfl (.inl hsx) r3 (fun s4 I4 => ?_) (.inr hsx)))
      have I4 : Inv (gcx X s₁ H₁ (A.over cd []) (gN x own) cenv fp) ([(a, go)] ++ pinsAt fp s3.heap) (gσ σ own (some v)) H3 s4 := I4
      refine seg_bind_wrap (wpAny_tests_nil ?_)
      simp only [if_true]
      have hy : ∀ v, yieldOut cenv v = yieldValue v := fun v => by simp only [yieldOut, hsc, hco, Bool.false_eq_true, if_false]
      simp only [hy]
      rw [Sem.bind_eq_wrap', Sem.bind_eq_wrap', Sem.wrap_wrap, Sem.wrap_wrap]
      refine seg_wrap (thnF (he.run _ s4 _ H3 _ I4 (step v H3 y3)) fun y s5 ⟨z, H5, I5, r5, b, hz, q5⟩ => ?_)
      subst hz
      obtain rfl : y = .bool b := r5
      obtain ⟨k, rfl⟩ : ∃ k, n = k + 1 := ⟨n - 1, by omega⟩
      refine seg_at (seg_yield rfl rfl rfl ⟨_, H5, I5.unpinned, ?_⟩)
      by_cases hb : b = al
      · subst hb
        rw [if_pos rfl] at q5
        obtain ⟨m', hm', w'⟩ := hNx H5 q5
        refine .inr ⟨rfl, fun s6 e6 o6 b6 => ?_⟩
        have pin' : ∀ b ∈ fp, ∀ o, s3.heap.get? b = some o → s5.heap.get? b = some o ∧ H5 b = none := fun b hb o e =>
          let z := I5.pin (b, o) (List.mem_append_right _ (List.mem_append_right _ (mem_pinsAt hb e)))
          ⟨z.1, z.2.1⟩
        refine seg_again (c' := cd) (by rw [← hcd]; rfl) (ih m' hm' k (i + 1) _ s6 H5 (some v) (by omega) (inv_same I5.unpinned e6 o6 b6) (T.keep _ _ _ st3 fun b hb o e => by rw [e6]; exact (pin' b hb o e).1) (fun b hb => ?_) w')
        obtain ⟨o, e, _⟩ := T.obj _ _ st3 b hb
        exact (pin' b hb o e).2
      · rw [if_neg hb] at q5
        have e : b = !al := bne_of hb
        exact .inl ⟨by rw [e], q5⟩
end
end My

set_option Elab.async false
set_option linter.all false
set_option maxRecDepth 100000
set_option maxHeartbeats 4000000
namespace My
open PySem PySem.Spec PyProof.Rows L2 GxR NdefX GenW
section
variable {Y : Cx} {QF : V → Hp → Prop} {a : Addr} {go : Obj} {g : Nat} {A0 : Around} {Re : Result → Shared → Prop}
theorem pull_all {al : Bool} {n : Nat} {s : Shared} {gs : GenState} {Q : Option Value → Shared → Prop} {E : Value → Shared → Prop} (hh : A0.handled = none) (hroom : A0.depth < recursionLimit) (hgen : ∀ h : Heap, h.get? a = some go → h.IsGen a g)
    (hgs : s.gens[g]? = some gs) (hI : ∃ σ H, Inv Y [(a, go)] σ H s)
    (hgo : gs.Goes (model Y.prog Y.w) A0.in1 (fun n s₀ r s₁ => r = .ok .next ∧ PAll Y [(a, go)] al QF n s₀ s₁) (YAll Y [(a, go)] al QF) n (.send .none) (s.setGen g .running))
    (hN : ∀ σ H s', Inv Y [(a, go)] σ H s' → QF (.bl al) H → Q none s') (hS : ∀ σ H s', Inv Y [(a, go)] σ H s' → QF (.bl (!al)) H → Q (some (.bool (!al))) s')
    (hG : ∀ m gs' s', n = m + 1 → s'.gens[g]? = some gs' → (∃ σ H, Inv Y [(a, go)] σ H s') →
      gs'.Goes (model Y.prog Y.w) A0.in1 (fun n s₀ r s₁ => r = .ok .next ∧ PAll Y [(a, go)] al QF n s₀ s₁) (YAll Y [(a, go)] al QF) m (.send .none) (s'.setGen g .running) → Q (some (.bool al)) s') :
    wpAny (model Y.prog Y.w) A0 (pyNext (.ref a)) Q E s := by
  obtain ⟨σ, H, I⟩ := hI
  have hlt : g + 1 ≤ s.gens.size := by
    obtain ⟨h, _⟩ := Array.getElem?_eq_some_iff.mp hgs
    exact h
  refine wpAny_gsz hlt ?_
  refine wpAny_pyNext_genexpQ (P := PAll Y [(a, go)] al QF) hh I.nolimit hroom (hgen _ (I.pin (a, go) (List.mem_append_right _ List.mem_cons_self)).1) hgs hgo (fun v s₁ gs' hb hy => ?_) (fun s₁ hp h' hk => ?_)
  · intro hz
    obtain ⟨σ1, H1, I1, hv⟩ := hy
    have I2 : Inv Y [(a, go)] σ1 H1 (s₁.setGen g gs') := inv_same I1 rfl rfl (allBare_setGen I1.bare hb)
    rcases hv with ⟨rfl, q⟩ | ⟨rfl, kap⟩
    · exact hS _ _ _ I2 q
    · have e := kap ((s₁.setGen g gs').setGen g .running) rfl rfl (allBare_setGen I2.bare rfl)
      cases n with
      | zero => exact e.elim
      | succ m =>
        have hz' : g < s₁.gens.size := by
          rw [setGen_size] at hz
          exact hz
        exact hG m gs' _ rfl (setGen_at hz') ⟨_, _, I2⟩ e
  · intro _
    obtain ⟨σ1, H1, I1, q⟩ := hp
    exact hN σ1 H1 _ ((inv_same (s' := s₁.setGen g .finished) I1 rfl rfl (allBare_setGen I1.bare rfl)).kept (t' := s₁.toks) hk) q
theorem all_turns (hh : A0.handled = none) (hroom : A0.depth < recursionLimit) (hgen : ∀ h : Heap, h.get? a = some go → h.IsGen a g)
    (hR : ∀ σ H b s, Inv Y [(a, go)] σ H s → QF (.bl b) H → Re (.ok (.ret (.bool b))) s) : ∀ (n : Nat) (s : Shared) (gs : GenState), s.gens[g]? = some gs → (∃ σ H, Inv Y [(a, go)] σ H s) →
      gs.Goes (model Y.prog Y.w) A0.in1.in1 (fun n s₀ r s₁ => r = .ok .next ∧ PAll Y [(a, go)] true QF n s₀ s₁) (YAll Y [(a, go)] true QF) n (.send .none) (s.setGen g .running) →
      codeAny (model Y.prog Y.w) A0 (.builtin "all.loop" ⟨[.ref a], []⟩) Re s := by
  intro n
  induction n with
  | zero =>
    intro s gs hgs hI hgo
    refine codeAny_builtin F.entry_all_loop ?_
    rw [Around.under_plainId F.plain_all_loop _]
    show wpAny _ A0.in1 (pyNext (.ref a) >>= _) _ _ s
    refine wpAny_bind (pull_all (A0 := A0.in1) hh hroom hgen hgs hI hgo (fun σ H s' I q => ?_) (fun σ H s' I q => ?_) fun m gs' s' e _ _ _ => ?_)
    · exact wpAny_bind (wpAny_rule (wpAny_pure (hR σ H true s' I q)))
    · refine wpAny_bind (wpAny_holding (wpAny_truthy_bool ?_))
      refine wpAny_bind (wpAny_letGo ?_)
      exact wpAny_bind (wpAny_rule (wpAny_pure (hR σ H false s' I q)))
    · cases e
  | succ n ih =>
    intro s gs hgs hI hgo
    refine codeAny_builtin F.entry_all_loop ?_
    rw [Around.under_plainId F.plain_all_loop _]
    show wpAny _ A0.in1 (pyNext (.ref a) >>= _) _ _ s
    refine wpAny_bind (pull_all (A0 := A0.in1) hh hroom hgen hgs hI hgo (fun σ H s' I q => ?_) (fun σ H s' I q => ?_) fun m gs' s' e h1 h2 h3 => ?_)
    · exact wpAny_bind (wpAny_rule (wpAny_pure (hR σ H true s' I q)))
    · refine wpAny_bind (wpAny_holding (wpAny_truthy_bool ?_))
      refine wpAny_bind (wpAny_letGo ?_)
      exact wpAny_bind (wpAny_rule (wpAny_pure (hR σ H false s' I q)))
    · obtain rfl : n = m := Nat.succ.inj e
      refine wpAny_bind (wpAny_holding (wpAny_truthy_bool ?_))
      refine wpAny_bind (wpAny_letGo ?_)
      exact wpAny_pure ⟨plainId_quiet F.plain_all_loop _, ih s' gs' h1 h2 h3⟩
theorem any_turns (hh : A0.handled = none) (hroom : A0.depth < recursionLimit) (hgen : ∀ h : Heap, h.get? a = some go → h.IsGen a g)
    (hR : ∀ σ H b s, Inv Y [(a, go)] σ H s → QF (.bl b) H → Re (.ok (.ret (.bool b))) s) : ∀ (n : Nat) (s : Shared) (gs : GenState), s.gens[g]? = some gs → (∃ σ H, Inv Y [(a, go)] σ H s) →
      gs.Goes (model Y.prog Y.w) A0.in1.in1 (fun n s₀ r s₁ => r = .ok .next ∧ PAll Y [(a, go)] false QF n s₀ s₁) (YAll Y [(a, go)] false QF) n (.send .none) (s.setGen g .running) →
      codeAny (model Y.prog Y.w) A0 (.builtin "any.loop" ⟨[.ref a], []⟩) Re s := by
  intro n
  induction n with
  | zero =>
    intro s gs hgs hI hgo
    refine codeAny_builtin F.entry_any_loop ?_
    rw [Around.under_plainId F.plain_any_loop _]
    show wpAny _ A0.in1 (pyNext (.ref a) >>= _) _ _ s
    refine wpAny_bind (pull_all (A0 := A0.in1) hh hroom hgen hgs hI hgo (fun σ H s' I q => ?_) (fun σ H s' I q => ?_) fun m gs' s' e _ _ _ => ?_)
    · exact wpAny_bind (wpAny_rule (wpAny_pure (hR σ H false s' I q)))
    · refine wpAny_bind (wpAny_holding (wpAny_truthy_bool ?_))
      refine wpAny_bind (wpAny_letGo ?_)
      exact wpAny_bind (wpAny_rule (wpAny_pure (hR σ H true s' I q)))
    · cases e
  | succ n ih =>
    intro s gs hgs hI hgo
    refine codeAny_builtin F.entry_any_loop ?_
    rw [Around.under_plainId F.plain_any_loop _]
    show wpAny _ A0.in1 (pyNext (.ref a) >>= _) _ _ s
    refine wpAny_bind (pull_all (A0 := A0.in1) hh hroom hgen hgs hI hgo (fun σ H s' I q => ?_) (fun σ H s' I q => ?_) fun m gs' s' e h1 h2 h3 => ?_)
    · exact wpAny_bind (wpAny_rule (wpAny_pure (hR σ H false s' I q)))
    · refine wpAny_bind (wpAny_holding (wpAny_truthy_bool ?_))
      refine wpAny_bind (wpAny_letGo ?_)
      exact wpAny_bind (wpAny_rule (wpAny_pure (hR σ H true s' I q)))
    · obtain rfl : n = m := Nat.succ.inj e
      refine wpAny_bind (wpAny_holding (wpAny_truthy_bool ?_))
      refine wpAny_bind (wpAny_letGo ?_)
      exact wpAny_pure ⟨plainId_quiet F.plain_any_loop _, ih s' gs' h1 h2 h3⟩
end
end My

set_option Elab.async false
set_option linter.all false
set_option maxRecDepth 100000
set_option maxHeartbeats 4000000
namespace My
open PySem PySem.Spec PyProof.Rows L2 GxR NdefX GenW
/-- all(e for x in ..): P the def's table of code objects; W by the turn and a measure -/
def tGen (al : Bool) (P : Addr) (wi : TI) (own : List (Str × Nat)) (te : TE) : TE := fun σ H Q => wi σ H fun J H1 => TabG H1 P ∧ ∀ H2, Tabbed P H1 H2 → ∃ W : Nat → Nat → Hp → Prop, (∃ m, W 0 m H2) ∧ TAll σ own te al J W Q
/-- the generator's scope is in order -/
def genOk (scope : Scope) (x : Str) : Bool := scope.kind == .function && !scope.isCoroutine && scope.names.all (fun y => y.2 != .cell) && scope.names.lookup (".0" : Str) == some NameKind.local && scope.names.lookup x == some NameKind.local
def freeOk (sc scope : Scope) : Bool := scope.names.all fun y => y.2 != .free || sc.names.lookup y.1 == some NameKind.cell || sc.names.lookup y.1 == some NameKind.free
theorem gens_of {env : Env} {scope : Scope} {x : Str} (h : genOk scope x = true) (hf : freeOk env.scope scope = true) (has : ∀ y, (env.kindOf y = some .cell ∨ env.kindOf y = some .free) → ∃ c, env.cells.lookup y = some c) : GenS env scope x := by
  unfold genOk at h
  simp only [Bool.and_eq_true, beq_iff_eq, Bool.not_eq_true', List.all_eq_true, bne_iff_ne] at h
  obtain ⟨⟨⟨⟨h1, h2⟩, h3⟩, h4⟩, h5⟩ := h
  refine ⟨h1, h2, h3, h4, h5, fun y hy e => ?_⟩
  unfold freeOk at hf
  have q := List.all_eq_true.mp hf y hy
  simp only [Bool.or_eq_true, bne_iff_ne, beq_iff_eq] at q
  refine has y.1 ?_
  rcases q with (q | q) | q
  · exact absurd e q
  · exact .inl q
  · exact .inr q
section
variable {X : Cx} {pins : List (Addr × Obj)} {σ : L2.St} {H : Hp} {s : Shared}
theorem gen_made {al : Bool} {c P : Addr} {elt iter : Expr} {x : Str} {px gpos : Pos} {scope : Scope} {wi : TI} {te : TE} {own : List (Str × Nat)} {k : Nat} {Q : VK} {Q' : Value → Shared → Prop}
    (hr : Room (k + 1) X.A) (hcalm : X.calm = true) (TB : TabB X.base X.mg c P) (hcode : X.env.code = .ref c) (S : GenS X.env scope x) (hc : Caps X scope own) (hnd : (gN x own).Nodup) (hi : PI X (.Name x px) iter wi)
    (he : ∀ (s : Shared) (H : Hp) (A : Around) (cl : List (Str × Addr)) (C : Addr) (code : Value) (bi : Addr) (fp : List Addr), Room k A → PE (gcx X s H A (gN x own) (genEnv scope cl C code bi X.env) fp) elt te)
    (hs : ∀ v, genFold iter X.env v = pure v) (I : Inv X pins σ H s) (h : tGen al P wi own te σ H Q)
    (hQ : ∀ (Y : Cx) (a g : Nat) (go : Obj) (n : Nat) (cs : Code) (s5 : Shared), Y.prog = X.prog → Y.w = X.w → (∀ h : Heap, h.get? a = some go → h.IsGen a g) → s5.gens[g]? = some (.fresh cs) → (∃ σ H, Inv Y [(a, go)] σ H s5) → s5.heap.IsGen a g →
      GenState.Goes (model X.prog X.w) X.A.in1.in1 (fun n s₀ r s₁ => r = .ok .next ∧ PAll Y [(a, go)] al Q n s₀ s₁) (YAll Y [(a, go)] al Q) n (.fresh cs) (.send .none) (s5.setGen g .running) →
      (∀ σ' H' s', Inv Y [(a, go)] σ' H' s' → Inv X pins σ H' s') → Q' (.ref a) s5) :
    wpAny (model X.prog X.w) X.A (eval (.GeneratorExp elt [⟨.Name x px, iter, [], 0⟩] scope gpos) X.env) Q' X.xe s := by
  refine wpAny_GeneratorExp_make S.co (closure_ok S.free) S.cell S.dot S.kind (by have := hr.dp; omega) ?_ hs
  refine thn (hi.run pins s σ H _ I h) fun xv s1 hx => thn hx fun itv s2 h2 => ?_
  obtain ⟨it, fp, tn, J, H2, e, I2, T, st2, f2, ⟨ps, hP, ht⟩, q⟩ := h2
  subst e
  refine ⟨I2.nolimit, ?_⟩
  have hPs : s2.heap.get? P = some { cls := .none, data := .fields ps } := I2.hok P _ hP
  have cd : PySem.W.CodeHd s2.heap c P := TB.code.keeps fun b u e => I2.bk b u e
  have nP : ∀ b ∈ fp, b ≠ P := fun b hb z => by
    have := (f2 b hb).1
    rw [z, hP] at this
    cases this
  have cont : ∀ (code : Value) (s3 : Shared) (H3 : Hp), Inv X pins σ H3 s3 → Tabbed P H2 H3 → (∀ b u, b ≠ P → s2.heap.get? b = some u → s3.heap.get? b = some u) →
      wpAny (model X.prog X.w) X.A (builtinsFor X.env.globals X.env.builtins) (fun bi s₄ =>
        ∀ h', h'.Ns s₄.heap.objs.size (fun y => if y = ".0" then some (.ref it) else none) → Heap.SameBut s₄.heap.objs.size (s₄.heap.push { cls := .type "frame", data := .dict #[] }) h' →
          Q' (.ref h'.objs.size) { s₄ with
            gens := s₄.gens.push (.fresh (.compStart (.GeneratorExp elt [⟨.Name x px, iter, [], 0⟩] scope gpos) 0 (.ref it) .none (genEnv scope (cloFrom X.env.cells scope.names []) s₄.heap.objs.size code bi X.env))),
            toks := s₄.toks + 1 + 1 + 1,
            heap := h'.push { cls := .type "generator", data := .fields #[.int s₄.gens.size 0, .str "<genexpr>" (s₄.toks + 1), .str (X.env.qual ++ "<genexpr>") (s₄.toks + 1 + 1)] } }) X.xe s3 := by
    intro code s3 H3 I3 hT kp3
    obtain ⟨bm, ob, e1, e2, e3, e4, e5, e6, e7, e8⟩ := TB.bm
    refine wpAny_builtinsFor (m := X.mg) (by rw [I3.ok.glob]; exact I3.mod.glob.keeps I3.bk) e1 e2 (I3.bk _ _ e5) e6 e7 e8 ?_
    intro h' hn' hs'
    have keep' : ∀ b o, s3.heap.get? b = some o → h'.get? b = some o := fun b o e => hs'.extBut b o (Nat.ne_of_lt (Heap.lt_size e)) (Heap.get?_push_of_some _ e)
    have hsz : h'.objs.size = s3.heap.objs.size + 1 := by rw [hs'.1, Heap.size_push]
    have ffp : ∀ b ∈ fp, FpOk X pins H3 b ∧ b < s3.heap.objs.size := fun b hb => by
      obtain ⟨o, e, _⟩ := T.obj _ _ st2 b hb
      exact ⟨⟨by rw [hT.2 b (nP b hb)]; exact (f2 b hb).1, (f2 b hb).2⟩, Heap.lt_size (kp3 b o (nP b hb) e)⟩
    have st3 : tn 0 s3.heap := T.keep _ _ _ st2 fun b hb o e => kp3 b o (nP b hb) e
    obtain ⟨W, ⟨m0, w0⟩, turn⟩ := q H3 hT
    generalize hgo : ({ cls := .type "generator", data := .fields #[.int s3.gens.size 0, .str "<genexpr>" (s3.toks + 1), .str (X.env.qual ++ "<genexpr>") (s3.toks + 1 + 1)] } : Obj) = go
    have kp5 : ∀ b o, s3.heap.get? b = some o → (h'.push go).get? b = some o := fun b o e => Heap.get?_push_of_some _ (keep' b o e)
    have hisg : ∀ h : Heap, h.get? h'.objs.size = some go → h.IsGen h'.objs.size s3.gens.size := fun h e => ⟨go, _, _, e, by rw [← hgo], by rw [← hgo], by rw [← hgo]⟩
    have hA : (X.A.in1.in1.over (.compLoop (.GeneratorExp elt [⟨.Name x px, iter, [], 0⟩] scope gpos) 0 (.ref it) .none (genEnv scope (cloFrom X.env.cells scope.names []) s3.heap.objs.size code builtinsNs X.env)) []).frames = some (genEnv scope (cloFrom X.env.cells scope.names []) s3.heap.objs.size code builtinsNs X.env :: X.stack) := by
      show pushEnvs [genEnv scope (cloFrom X.env.cells scope.names []) s3.heap.objs.size code builtinsNs X.env] (pushEnvs [] X.A.frames) = _
      rw [I3.ok.frames]
      rfl
    have hRm : Room k (X.A.in1.in1.over (.compLoop (.GeneratorExp elt [⟨.Name x px, iter, [], 0⟩] scope gpos) 0 (.ref it) .none (genEnv scope (cloFrom X.env.cells scope.names []) s3.heap.objs.size code builtinsNs X.env)) []) := by
      have d := hr.dp
      have u := hr.un
      refine ⟨hr.hd, ?_, ?_⟩
      · show X.A.depth + 0 + 1 + 3 * k + 5 < _
        omega
      · show X.A.units + 1 + 1 + 0 + 3 + 16 * k + 200 < _
        omega
    have I5 := gen_start (it := it) (a := h'.objs.size) (go := go) (fp := fp) (own := own) (A := X.A.in1.in1.over (.compLoop (.GeneratorExp elt [⟨.Name x px, iter, [], 0⟩] scope gpos) 0 (.ref it) .none (genEnv scope (cloFrom X.env.cells scope.names []) s3.heap.objs.size code builtinsNs X.env)) [])
      (gg := s3.gens.push (.fresh (.compStart (.GeneratorExp elt [⟨.Name x px, iter, [], 0⟩] scope gpos) 0 (.ref it) .none (genEnv scope (cloFrom X.env.cells scope.names []) s3.heap.objs.size code builtinsNs X.env)))) (tk := s3.toks + 1 + 1 + 1)
      I3 ffp S hc hr.hd hA rfl hn' kp5 hsz rfl (fun v z => by rw [← hgo] at z; cases z) (by rw [← hgo]; rfl) (I3.bare.push rfl)
    have haf : ∀ b ∈ fp, h'.objs.size ≠ b := fun b hb z => by
      have := (ffp b hb).2
      rw [← z, hsz] at this
      exact absurd this (Nat.not_lt.mpr (Nat.le_succ _))
    refine hQ (gcx X s3 H3 (X.A.in1.in1.over (.compLoop (.GeneratorExp elt [⟨.Name x px, iter, [], 0⟩] scope gpos) 0 (.ref it) .none (genEnv scope (cloFrom X.env.cells scope.names []) s3.heap.objs.size code builtinsNs X.env)) []) (gN x own) (genEnv scope (cloFrom X.env.cells scope.names []) s3.heap.objs.size code builtinsNs X.env) fp) h'.objs.size s3.gens.size go (m0 + 1) _ _ rfl rfl hisg (Array.getElem?_push_size ..) ⟨_, _, I5⟩ (hisg _ (Heap.get?_push_size _ (by rw [← hgo]; rfl))) ⟨rfl, ?_⟩ (fun σ' H' s' I6 => ?_)
    · have loop := seg_all (X := X) (A := X.A.in1.in1) (al := al) (W := W) (QF := Q) (elt := elt) (iter := iter) (x := x) (px := px) (gpos := gpos) (scope := scope) (cenv := genEnv scope (cloFrom X.env.cells scope.names []) s3.heap.objs.size code builtinsNs X.env)
        (s₁ := s3) (H₁ := H3) (own := own) (fp := fp) (it := it) (a := h'.objs.size) (go := go) (J := J) (tn := tn) (σ := σ) (te := te) rfl S.loc S.co hnd haf T (he _ _ _ _ _ _ _ _ hRm) turn m0 (m0 + 1) 0
      have st5 : tn 0 (h'.push go) := T.keep _ _ _ st3 fun b _ o e => kp5 b o e
      have nf5 : ∀ b ∈ fp, H3 b = none := fun b hb => (ffp b hb).1.1
      generalize hs5 : ({ s3 with gens := s3.gens.push (.fresh (.compStart (.GeneratorExp elt [⟨.Name x px, iter, [], 0⟩] scope gpos) 0 (.ref it) .none (genEnv scope (cloFrom X.env.cells scope.names []) s3.heap.objs.size code builtinsNs X.env))), toks := s3.toks + 1 + 1 + 1, heap := h'.push go } : Shared) = s5 at I5 ⊢
      have h5 : s5.heap = h'.push go := by rw [← hs5]
      have I5' := inv_same (s' := s5.setGen s3.gens.size .running) I5 rfl rfl (allBare_setGen I5.bare rfl)
      have lp := loop (s5.setGen s3.gens.size .running) (s5.setGen s3.gens.size .running) H3 none (Nat.lt_succ_self _) I5' (by show tn 0 s5.heap; rw [h5]; exact st5) nf5 w0
      show Seg _ _ _ _ _ _ _ ((compStart (.GeneratorExp elt [⟨.Name x px, iter, [], 0⟩] scope gpos) 0 (.ref it) .none (genEnv scope (cloFrom X.env.cells scope.names []) s3.heap.objs.size code builtinsNs X.env)).onRaise (leaving (genEnv scope (cloFrom X.env.cells scope.names []) s3.heap.objs.size code builtinsNs X.env))) [] _
      unfold compStart
      rw [Sem.onRaise_eq_wrap]
      show Seg _ _ _ _ _ _ _ ((ask >>= _).wrap _ _ _ _) [] _
      refine seg_bind_wrap (wpAny_askSetting ?_)
      have slf : tn 0 (s5.setGen s3.gens.size .running).heap := by
        show tn 0 s5.heap
        rw [h5]
        exact st5
      split
      · exact seg_again rfl lp
      · first
          | exact seg_bind_wrap (wpAny_rule (seg_bind_wrap (wpAny_standAt (seg_bind_wrap (T.self _ 0 _ _ _ slf (seg_again rfl lp))))))
          | (refine seg_bind_wrap (wpAny_rule ?_); show Seg _ _ _ _ _ _ _ ((standAt iter.pos >>= _).wrap _ _ _ _) [] _; exact seg_bind_wrap (wpAny_standAt (seg_bind_wrap (T.self _ 0 _ _ _ slf (seg_again rfl lp)))))
    · exact I3.call' (ch := fp) I6.os I6.base I6.hok I6.bare fun b hb => ⟨(ffp b hb).1.2.2.2.1, (ffp b hb).1.2.1, (ffp b hb).1.2.2.2.2.1, (ffp b hb).1.2.2.2.2.2⟩
  cases hf : codeAmong gpos ps.toList with
  | none =>
    refine wpAny_genexprCodeX hcode (cd.code hPs ht) (cd.tab hPs) hf fun c' h3 tk hx hge hlt hco' _ htab' _ => ?_
    obtain ⟨o1, vs, f1, tf, fl, tg, inF, tx, tt, op, _, _, _, _, _, _, _, _, _, htr, _⟩ := hco'
    have I3 := inv_tab (g' := s2.gens) (d' := s2.drawn) (t' := tk) I2 hP (fun b o hb e => hx b o hb e) htab'.2 I2.bare
    exact cont _ _ _ I3 ⟨⟨_, upd_same, htr⟩, fun b hb => upd_ne hb⟩ fun b u hb e => hx b u hb e
  | some cv =>
    refine wpAny_genexprCode_hit hcode (cd.code hPs ht) hf ?_
    exact cont cv s2 H2 I2 ⟨⟨ps, hP, ht⟩, fun _ _ => rfl⟩ fun _ _ _ e => e
theorem pe_allG {c P : Addr} {elt iter : Expr} {x : Str} {px p pos gpos : Pos} {scope : Scope} {wi : TI} {te : TE} (own : List (Str × Nat)) {k : Nat}
    (hr : Room (k + 1) X.A) (hg : Gl X "all") (hm : X.mg "all" = none) (TB : TabB X.base X.mg c P) (hcode : X.env.code = .ref c) (gk : genOk scope x = true) (fk : freeOk X.env.scope scope = true) (hc : Caps X scope own) (hnd : (gN x own).Nodup) (hcalm : X.calm = true) (hi : PI X (.Name x px) iter wi)
    (he : ∀ (s : Shared) (H : Hp) (A : Around) (cl : List (Str × Addr)) (C : Addr) (code : Value) (bi : Addr) (fp : List Addr), Room k A → PE (gcx X s H A (gN x own) (genEnv scope cl C code bi X.env) fp) elt te)
    (hs : ∀ v, genFold iter X.env v = pure v := by intro _; rfl)
    (hE : starEach [.GeneratorExp elt [⟨.Name x px, iter, [], 0⟩] scope gpos] X.env = (false, eval (.GeneratorExp elt [⟨.Name x px, iter, [], 0⟩] scope gpos) X.env) :: starEach [] X.env := by rfl) :
    PE X (.Call (.Name "all" p) [.GeneratorExp elt [⟨.Name x px, iter, [], 0⟩] scope gpos] [] pos) (tGen true P wi own te) := by
  refine ⟨fun pins s σ H Q I h => ?_⟩
  refine wpAny_Call_Name_kw (ld_blt I hg hm (by decide +kernel : bootBuiltins "all" = some (.builtin "all")) ?_)
  refine PyProof.Rows.callWith_builtin1 ?_ hE (by rfl)
  rw [hE]
  show wpAny _ _ (spliced ((false, eval (.GeneratorExp elt [⟨.Name x px, iter, [], 0⟩] scope gpos) X.env) :: backTo pos (starEach [] X.env))) _ _ s
  refine Calls.spliced_cons (gen_made hr hcalm TB hcode (gens_of gk fk I.ok.has) hc hnd hi he hs I h fun Y a g go n cs s5 hp hw hgen hgs hI hisg hgo hback => ?_)
  refine Calls.spliced_nil ?_
  refine call_function_tree F.kind_all F.plain_all F.entry_all (F.args_all1 _) ?_
  unfold Builtin.«all»
  refine wpAny_bind (m := oneArg "all" _) (wpAny_pure ?_)
  refine wpAny_bind (wpAny_pyIter_gen hisg ?_)
  rw [← hp, ← hw] at hgo ⊢
  exact wpAny_pure ⟨plainId_quiet F.plain_all_loop _, all_turns (A0 := X.A) (QF := Q) hr.hd (by have := hr.dp; omega) hgen (fun σ' H' b s6 I6 q => ⟨.bl b, H', hback _ _ _ I6, rfl, q⟩) n s5 _ hgs hI hgo⟩
theorem pe_anyG {c P : Addr} {elt iter : Expr} {x : Str} {px p pos gpos : Pos} {scope : Scope} {wi : TI} {te : TE} (own : List (Str × Nat)) {k : Nat}
    (hr : Room (k + 1) X.A) (hg : Gl X "any") (hm : X.mg "any" = none) (TB : TabB X.base X.mg c P) (hcode : X.env.code = .ref c) (gk : genOk scope x = true) (fk : freeOk X.env.scope scope = true) (hc : Caps X scope own) (hnd : (gN x own).Nodup) (hcalm : X.calm = true) (hi : PI X (.Name x px) iter wi)
    (he : ∀ (s : Shared) (H : Hp) (A : Around) (cl : List (Str × Addr)) (C : Addr) (code : Value) (bi : Addr) (fp : List Addr), Room k A → PE (gcx X s H A (gN x own) (genEnv scope cl C code bi X.env) fp) elt te)
    (hs : ∀ v, genFold iter X.env v = pure v := by intro _; rfl)
    (hE : starEach [.GeneratorExp elt [⟨.Name x px, iter, [], 0⟩] scope gpos] X.env = (false, eval (.GeneratorExp elt [⟨.Name x px, iter, [], 0⟩] scope gpos) X.env) :: starEach [] X.env := by rfl) :
    PE X (.Call (.Name "any" p) [.GeneratorExp elt [⟨.Name x px, iter, [], 0⟩] scope gpos] [] pos) (tGen false P wi own te) := by
  refine ⟨fun pins s σ H Q I h => ?_⟩
  refine wpAny_Call_Name_kw (ld_blt I hg hm (by decide +kernel : bootBuiltins "any" = some (.builtin "any")) ?_)
  refine PyProof.Rows.callWith_builtin1 ?_ hE (by rfl)
  rw [hE]
  show wpAny _ _ (spliced ((false, eval (.GeneratorExp elt [⟨.Name x px, iter, [], 0⟩] scope gpos) X.env) :: backTo pos (starEach [] X.env))) _ _ s
  refine Calls.spliced_cons (gen_made hr hcalm TB hcode (gens_of gk fk I.ok.has) hc hnd hi he hs I h fun Y a g go n cs s5 hp hw hgen hgs hI hisg hgo hback => ?_)
  refine Calls.spliced_nil ?_
  refine call_function_tree F.kind_any F.plain_any F.entry_any (F.args_any1 _) ?_
  unfold Builtin.«any»
  refine wpAny_bind (m := oneArg "any" _) (wpAny_pure ?_)
  refine wpAny_bind (wpAny_pyIter_gen hisg ?_)
  rw [← hp, ← hw] at hgo ⊢
  exact wpAny_pure ⟨plainId_quiet F.plain_any_loop _, any_turns (A0 := X.A) (QF := Q) hr.hd (by have := hr.dp; omega) hgen (fun σ' H' b s6 I6 q => ⟨.bl b, H', hback _ _ _ I6, rfl, q⟩) n s5 _ hgs hI hgo⟩
end
/-! ### a def whose code object is known -/
structure FunC (K : PySem.W.Frag) (x qual : Str) (st : Stmt) (f : Addr) (fd : FuncData) (c : Addr) : Prop where
  ex : ∃ (oc : Value) (od : Option Addr) (kV doc pm : Value) (an : Option Addr) (ct : Value) (osl : Array (Option Value)),
    fd = PySem.W.fnOf x qual (defArgs st) (defBody st) (defScope st) .none kV doc pm an (.ref c) ct ∧ K.lookup f = some ⟨oc, od, .func fd, osl⟩ ∧ PySem.W.codeIn K (.ref c) qual = true
  kp : PySem.W.keepIn K (.ref f) = true
section
variable {P : Program} {w : World} {K : PySem.W.Frag} {mg : Str → Option Value} {base : Heap}
theorem FunC.fun {x qual : Str} {st : Stmt} {f : Addr} {fd : FuncData} {c : Addr} (F : FunC K x qual st f fd c) : Fun K x qual st f fd :=
  ⟨let ⟨oc, od, kV, doc, pm, an, ct, osl, h⟩ := F.ex; ⟨oc, od, kV, doc, pm, an, .ref c, ct, osl, h⟩, F.kp⟩
theorem FunC.ok {x qual : Str} {st : Stmt} {f : Addr} {fd : FuncData} {c : Addr} {N ps : List Str} {k : Nat} {sp : Sp} (F : FunC K x qual st f fd c) (S : FnScope N ps (defScope st)) (len : ∀ vs H Q E, sp vs H Q E → vs.length = ps.length)
    (hbody : ∀ (A : Around) (outer : List Env) (s : Shared) (H : Hp) (vs : List V) (Q : VK) (E : XK), Room k (A.deeper (envOfC qual (defScope st) s.heap.objs.size f (.ref c))) → sp vs H Q E →
      ∃ t, PSs (cxOf CX0 P w K mg base N qual (defScope st) f (.ref c) A outer s H E).nox (defBody st) t ∧ t { nx := fun _ H' => Q .non H', rt := Q } (start N vs) H) : FnOk P w K mg base CX0 (k + 1) f fd ps sp := by
  obtain ⟨oc, od, kV, doc, pm, an, ct, osl, e, lk, hcd⟩ := F.ex
  cases e
  refine fn_of lk hcd S len fun A outer s H vs Q E hr hsp => ?_
  obtain ⟨t, h, q⟩ := hbody A outer s H vs Q E hr hsp
  exact ⟨t, h.nox, q⟩
theorem func_mk {x qual : Str} {st : Stmt} {f c : Addr} {oc : Value} {od an : Option Addr} {osl : Array (Option Value)} {kV doc pm ct : Value} (l : K.lookup f = some ⟨oc, od, .func (PySem.W.fnOf x qual (defArgs st) (defBody st) (defScope st) .none kV doc pm an (.ref c) ct), osl⟩)
    (h : PySem.W.codeIn K (.ref c) qual = true) (k : PySem.W.keepIn K (.ref f) = true) : FunC K x qual st f (PySem.W.fnOf x qual (defArgs st) (defBody st) (defScope st) .none kV doc pm an (.ref c) ct) c := ⟨⟨oc, od, kV, doc, pm, an, ct, osl, rfl, l, h⟩, k⟩
end
end My

set_option Elab.async false
set_option linter.all false
set_option maxRecDepth 100000
/-! data of ints, texts, truth values, None and tuples; heaps that keep all but some places -/
namespace My
open PySem PySem.Spec PyProof.Rows L2
/-! ### what is kept -/
structure KT (S : List Addr) (H H' : Hp) : Prop where
  kp : ∀ b o, b ∉ S → H b = some o → H' b = some o
  tp : ∀ b xs, H b = some (.tup xs) → H' b = some (.tup xs)
  fz : ∀ b o u, H b = some (.frz o u) → H' b = some (.frz o u)
  th : ∀ b o, H b = some o → ∃ o', H' b = some o'
  hd : ∀ b c t, H b = some (.lst (.ref c :: t)) → ∃ t', H' b = some (.lst (.ref c :: t'))
section
variable {S S' : List Addr} {H H1 H2 H' : Hp} {K : PySem.W.Frag}
theorem KT.refl (S : List Addr) (H : Hp) : KT S H H := ⟨fun _ _ _ e => e, fun _ _ e => e, fun _ _ _ e => e, fun _ o e => ⟨o, e⟩, fun _ _ t e => ⟨t, e⟩⟩
theorem KT.trans (a : KT S H H1) (b : KT S H1 H2) : KT S H H2 :=
  ⟨fun c o n e => b.kp c o n (a.kp c o n e), fun c xs e => b.tp c xs (a.tp c xs e), fun c o u e => b.fz c o u (a.fz c o u e), fun c o e => let ⟨o', e'⟩ := a.th c o e; b.th c o' e', fun c d t e => let ⟨t', e'⟩ := a.hd c d t e; b.hd c d t' e'⟩
theorem KT.mono (a : KT S H H1) (h : ∀ b ∈ S, b ∈ S') : KT S' H H1 := ⟨fun b o n e => a.kp b o (fun z => n (h b z)) e, a.tp, a.fz, a.th, a.hd⟩
theorem KT.new (S : List Addr) {p : Addr} {o : HO} (h : H p = none) : KT S H (upd H p o) :=
  ⟨fun b x _ e => by rw [upd_ne (ne_of_none e h)]; exact e, fun b x e => by rw [upd_ne (ne_of_none e h)]; exact e, fun b x u e => by rw [upd_ne (ne_of_none e h)]; exact e, fun b x e => ⟨x, by rw [upd_ne (ne_of_none e h)]; exact e⟩, fun b c t e => ⟨t, by rw [upd_ne (ne_of_none e h)]; exact e⟩⟩
theorem KT.of_same (a : Same H H1) : KT S H H1 := ⟨fun b o _ e => a b o e, fun b xs e => a b _ e, fun b o u e => a b _ e, fun b o e => ⟨o, a b o e⟩, fun b c t e => ⟨t, a b _ e⟩⟩
/-- a place changes that is no tuple and not locked -/
theorem KT.put {p : Addr} {u o : HO} (hp : p ∈ S) (h : H p = some u) (h1 : ∀ xs, u ≠ .tup xs) (h2 : ∀ o v, u ≠ .frz o v) (h3 : ∀ xs, u ≠ .lst xs) : KT S H (upd H p o) :=
  ⟨fun b x n e => by rw [upd_ne (fun z => n (by rw [z]; exact hp))]; exact e, fun b x e => by
    rw [upd_ne (fun z => by rw [z, h] at e; exact h1 x (Option.some.inj e))]; exact e, fun b x v e => by
    rw [upd_ne (fun z => by rw [z, h] at e; exact h2 x v (Option.some.inj e))]; exact e, fun b x e => by
    by_cases z : b = p
    · exact ⟨o, by rw [z, upd_same]⟩
    · exact ⟨x, by rw [upd_ne z]; exact e⟩, fun b c t e => ⟨t, by rw [upd_ne (fun z => by rw [z, h] at e; exact h3 _ (Option.some.inj e))]; exact e⟩⟩
/-- a place changes that did not stand at the start -/
theorem KT.late {p : Addr} {o : HO} (a : KT S H H1) (h : H p = none) : KT S H (upd H1 p o) :=
  ⟨fun b x n e => by rw [upd_ne (ne_of_none e h)]; exact a.kp b x n e, fun b x e => by rw [upd_ne (ne_of_none e h)]; exact a.tp b x e, fun b x u e => by rw [upd_ne (ne_of_none e h)]; exact a.fz b x u e,
    fun b x e => by rw [upd_ne (ne_of_none e h)]; exact a.th b x e, fun b c t e => by rw [upd_ne (ne_of_none e h)]; exact a.hd b c t e⟩
theorem KT.free (a : KT S H H1) {p : Addr} (h : H1 p = none) : H p = none := by
  cases q : H p with
  | none => rfl
  | some o =>
    obtain ⟨o', e⟩ := a.th p o q
    rw [h] at e
    cases e
theorem KT.tab {P : Addr} (h : GxR.Tabbed P H H1) (t : GxR.TabG H P) (hP : P ∈ S) : KT S H H1 := by
  obtain ⟨ps, e, _⟩ := t
  obtain ⟨⟨ps', e', _⟩, k⟩ := h
  have ne : ∀ b o, H b = some o → (∀ q, o ≠ .tbl q) → b ≠ P := fun b o q n z => by rw [z, e] at q; exact n ps (Option.some.inj q).symm
  refine ⟨fun b o n q => ?_, fun b xs q => ?_, fun b o u q => ?_, fun b o q => ?_, fun b c t q => ⟨t, by rw [k b (ne b _ q (fun _ z => by cases z))]; exact q⟩⟩
  · rw [k b (fun z => n (by rw [z]; exact hP))]; exact q
  · rw [k b (ne b _ q (fun _ z => by cases z))]; exact q
  · rw [k b (ne b _ q (fun _ z => by cases z))]; exact q
  · by_cases z : b = P
    · exact ⟨_, by rw [z]; exact e'⟩
    · exact ⟨o, by rw [k b z]; exact q⟩
theorem KT.sqT (a : KT S H H1) {p : Addr} {xs : List V} (h : SqT K H p xs) : SqT K H1 p xs := by
  rcases h with (h | ⟨o, h⟩) | h
  · exact .inl (.inl (a.tp _ _ h))
  · exact .inl (.inr ⟨o, a.fz _ _ _ h⟩)
  · exact .inr h
theorem KT.sqL (a : KT S H H1) {p : Addr} {xs : List V} (n : p ∉ S) (h : SqL K H p xs) : SqL K H1 p xs := by
  rcases h with (h | ⟨o, h⟩) | h
  · exact .inl (.inl (a.kp _ _ n h))
  · exact .inl (.inr ⟨o, a.fz _ _ _ h⟩)
  · exact .inr h
end
/-! ### data -/
mutual
inductive Rp (K : PySem.W.Frag) (H : Hp) : V → PyData → Prop
  | non : Rp K H .non .none
  | bl (b : Bool) : Rp K H (.bl b) (.bool b)
  | int (i : Int) : Rp K H (.int i) (.int i)
  | str (x : Str) : Rp K H (.str x) (.str x)
  | tup {a : Addr} {xs : List V} {ds : List PyData} : SqT K H a xs → RpA K H xs ds → Rp K H (.ref a) (.tuple ds)
inductive RpA (K : PySem.W.Frag) (H : Hp) : List V → List PyData → Prop
  | nil : RpA K H [] []
  | cons {v : V} {vs : List V} {d : PyData} {ds : List PyData} : Rp K H v d → RpA K H vs ds → RpA K H (v :: vs) (d :: ds)
end
section
variable {K : PySem.W.Frag} {S : List Addr} {H H' : Hp}
mutual
theorem Rp.keep (k : KT S H H') : ∀ {d : PyData} {v : V}, Rp K H v d → Rp K H' v d
  | .none, _, h => by cases h; exact .non
  | .bool b, _, h => by cases h; exact .bl b
  | .int i, _, h => by cases h; exact .int i
  | .str x, _, h => by cases h; exact .str x
  | .list ds, _, h => by cases h
  | .dict ds, _, h => by cases h
  | .tuple ds, _, h => by
    cases h with
    | tup hs ha => exact .tup (k.sqT hs) (RpA.keep k ha)
theorem RpA.keep (k : KT S H H') : ∀ {ds : List PyData} {vs : List V}, RpA K H vs ds → RpA K H' vs ds
  | [], _, h => by cases h; exact .nil
  | d :: ds, _, h => by
    cases h with
    | cons h1 h2 => exact .cons (Rp.keep k h1) (RpA.keep k h2)
end
mutual
theorem Rp.dp : ∀ {d : PyData} {v : V}, Rp K H v d → Dp K H v d
  | .none, _, h => by cases h; exact .non
  | .bool b, _, h => by cases h; exact .bl b
  | .int i, _, h => by cases h; exact .int i
  | .str x, _, h => by cases h; exact .str x
  | .list ds, _, h => by cases h
  | .dict ds, _, h => by cases h
  | .tuple ds, _, h => by
    cases h with
    | tup hs ha => exact .tup hs (RpA.dp ha)
theorem RpA.dp : ∀ {ds : List PyData} {vs : List V}, RpA K H vs ds → DpAll K H vs ds
  | [], _, h => by cases h; exact .nil
  | d :: ds, _, h => by
    cases h with
    | cons h1 h2 => exact .cons (Rp.dp h1) (RpA.dp h2)
end
theorem RpA.length : ∀ {ds : List PyData} {vs : List V}, RpA K H vs ds → vs.length = ds.length
  | [], _, h => by cases h; rfl
  | d :: ds, _, h => by
    cases h with
    | cons h1 h2 => rw [List.length_cons, List.length_cons, RpA.length h2]
theorem RpA.get : ∀ {ds : List PyData} {vs : List V} {i : Nat} {v : V}, RpA K H vs ds → vs[i]? = some v → ∃ d, ds[i]? = some d ∧ Rp K H v d
  | [], _, i, v, h, e => by cases h; simp at e
  | d :: ds, _, i, v, h, e => by
    cases h with
    | cons h1 h2 =>
      cases i with
      | zero => simp at e; subst e; exact ⟨d, rfl, h1⟩
      | succ i =>
        obtain ⟨d', e', r⟩ := RpA.get h2 (i := i) (v := v) (by simpa using e)
        exact ⟨d', by simpa using e', r⟩
theorem RpA.app : ∀ {ds es : List PyData} {vs us : List V}, RpA K H vs ds → RpA K H us es → RpA K H (vs ++ us) (ds ++ es)
  | [], _, _, _, h, g => by cases h; exact g
  | d :: ds, _, _, _, h, g => by
    cases h with
    | cons h1 h2 => exact .cons h1 (RpA.app h2 g)
theorem RpA.snoc {ds : List PyData} {vs : List V} {v : V} {d : PyData} (h : RpA K H vs ds) (g : Rp K H v d) : RpA K H (vs ++ [v]) (ds ++ [d]) := h.app (.cons g .nil)
theorem RpA.take : ∀ {ds : List PyData} {vs : List V} (n : Nat), RpA K H vs ds → RpA K H (vs.take n) (ds.take n)
  | _, _, 0, _ => by simp only [List.take_zero]; exact .nil
  | [], _, n + 1, h => by cases h; simp only [List.take_nil]; exact .nil
  | d :: ds, _, n + 1, h => by
    cases h with
    | cons h1 h2 => rw [List.take_succ_cons, List.take_succ_cons]; exact .cons h1 (RpA.take n h2)
theorem RpA.drop : ∀ {ds : List PyData} {vs : List V} (n : Nat), RpA K H vs ds → RpA K H (vs.drop n) (ds.drop n)
  | _, _, 0, h => h
  | [], _, n + 1, h => by cases h; simp only [List.drop_nil]; exact .nil
  | d :: ds, _, n + 1, h => by
    cases h with
    | cons h1 h2 => rw [List.drop_succ_cons, List.drop_succ_cons]; exact RpA.drop n h2
/-- a tuple just made -/
theorem Rp.made {p : Addr} {vs : List V} {ds : List PyData} (hp : H p = none) (h : RpA K H vs ds) : Rp K (upd H p (.tup vs)) (.ref p) (.tuple ds) := .tup (SqT.of upd_same) (h.keep (KT.new [] hp))
theorem Rp.inv {v : V} {ds : List PyData} (h : Rp K H v (.tuple ds)) : ∃ a xs, v = .ref a ∧ SqT K H a xs ∧ RpA K H xs ds := by
  cases h with
  | tup hs ha => exact ⟨_, _, rfl, hs, ha⟩
theorem RpA.inv {vs : List V} {d : PyData} {ds : List PyData} (h : RpA K H vs (d :: ds)) : ∃ v r, vs = v :: r ∧ Rp K H v d ∧ RpA K H r ds := by
  cases h with
  | cons h1 h2 => exact ⟨_, _, rfl, h1, h2⟩
theorem RpA.inv0 {vs : List V} (h : RpA K H vs []) : vs = [] := by cases h; rfl
theorem Rp.sInv {v : V} {x : Str} (h : Rp K H v (.str x)) : v = .str x := by cases h; rfl
theorem Rp.iInv {v : V} {x : Int} (h : Rp K H v (.int x)) : v = .int x := by cases h; rfl
end
end My

set_option Elab.async false
set_option linter.all false
set_option maxRecDepth 100000
set_option maxHeartbeats 4000000
namespace My
open PySem PySem.Spec PyProof.Rows L2
theorem tuple_mul1 (l : Addr) (items : Array Value) (n : Nat) (dd : Option Addr) (sl : Array (Option Value)) (x : Int) (u : Tok) (c0 : (decide (x < -(2 ^ 63)) || decide (x ≥ 2 ^ 63)) = false) (c1 : (items.isEmpty || x == 1) = true) :
    Meets (Builtin.«tuple.__mul__» ⟨[.ref l, .int x u], []⟩) (fun _ R s => s.heap.get? l = some { cls := .type "tuple", dict := dd, data := .seq items n, slots := sl } ∧
      R (.ok (.ret (Value.ref l))) s) :=
  .of_wp fun prog w A R s h => by
    obtain ⟨hp, g, d, tk, os⟩ := s
    obtain ⟨hl, h⟩ := h
    have f1 := AutoSeq1.idx_int
    wp_walk using wpAny_loadPart' hl
    repeat (first
      | (refine wpAny_ite_false (decide_eq_false (by rw [c0]; exact Bool.false_ne_true)) ?_; wp_walk using wpAny_loadPart' hl)
      | (refine wpAny_ite_true (decide_eq_true c1) ?_; wp_walk using wpAny_loadPart' hl))
    exact ⟨_, rfl, h⟩
/-- (x,) * k, k from 1 on: the same tuple for 1, else a new one -/
def rRepZ (K : PySem.W.Frag) : R2 := fun x y H Q => ∃ l k xs, x = .ref l ∧ y = .int k ∧ SqT K H l xs ∧ xs ≠ [] ∧ 1 ≤ k ∧ k ≤ 1000 ∧ xs.length ≤ 1000 ∧ (k = 1 → Q (.ref l) H) ∧ (2 ≤ k → ∀ p, H p = none → Q (.ref p) (upd H p (.tup (List.replicate k.toNat xs).flatten)))
section
variable {X : Cx} {K : PySem.W.Frag}
theorem op_repZ (h : X.K = K) : OpR X (binaryOp .Mult) (rRepZ K) := by
  subst h
  intro pins s σ H x y v u Q I rx ry h
  obtain ⟨l, k, xs, rfl, rfl, hT, hne, h1, h2, hz, q1, q2⟩ := h
  by_cases hk : k = 1
  · subst hk
    have q := q1 rfl
    cases rx
    obtain ⟨t, rfl⟩ := ry
    obtain ⟨its, r, ⟨⟨cls, dd, data, sl⟩, ho, hc, n, hd⟩, hs⟩ := I.tuple hT
    simp only at hc hd
    subst hc hd
    refine wpAny_binaryOp_repeat_ref (T := "tuple") (U := "int") (by decide) ⟨_, ho, rfl⟩ (fun s' => typeIs_int s' 1 t) noFill_tuple_mul F.fills_int_mul F.slot_int_rmul repeat_tuple F.slot_int_index.lookup
      (call_meets F.slot_int_rmul (typeIs_int s 1 t) F.entry_int_rmul (F.args_int_rmul_2 _ _) (int_rmul_tuple 1 t l its.toArray n dd sl)
        ⟨ho, rfl, ⟨_, ho, rfl⟩, call_meets F.slot_tuple_mul ⟨_, ho, rfl⟩ F.entry_tuple_mul (F.args_tuple_mul_2 _ _) (tuple_mul1 l its.toArray n dd sl 1 t (by decide) (by simp)) ⟨ho, ?_⟩⟩)
    exact ⟨.ref l, H, I, rfl, q⟩
  · exact op_repT pins s σ H _ _ v u Q I rx ry ⟨l, k, xs, rfl, rfl, hT, hne, by omega, h2, hz, q2 (by omega)⟩
end
/-- the truth of the name in the i-th slot -/
theorem pt_truthK {X : Cx} {K : PySem.W.Frag} (h : X.K = K) (i : Nat) {x : Str} {pos : Pos} (hN : X.N[i]? = some x := by rfl) (hv : Vis X.env.scope x := by first | exact Or.inl rfl | exact Or.inr (Or.inl rfl) | exact Or.inr (Or.inr rfl)) (hd : (x == ("__debug__" : Str)) = false := by decide)
    (hcd : (x == ("__classdict__" : Str)) = false := by decide) : PT X (.Name x pos) (fun σ H Q => tVar i σ H fun x H' => ∃ k, TruV K x H' k ∧ Q k H') := by
  subst h
  exact pt_truth (pv i hN hv hd hcd) (by intro _; rfl)
end My

set_option Elab.async false
set_option linter.all false
set_option maxRecDepth 100000
/-! the end of a row whose defs hold generator expressions -/
namespace My
open PySem PySem.Spec PyProof.Rows L2
/-- what the head tells of the defs' code objects: their tables are empty -/
def RecTabs (q : Program) (mg : Str → Option Value) (h : Heap) : Prop := ∀ d ∈ recsOf q, ∃ a o fd c P, mg d.name = some (.ref a) ∧ h.get? a = some o ∧ o.data = .func fd ∧ fd.code = .ref c ∧ h.IsCode c P #[] ∧ h.TableAt c P #[]
theorem walk_ofG {l : PySem.W.OpenLaw} {n k : Nat} {q : Program} {loose : List Str} {XP : (Str → Option Value) → Heap → Prop} {YP : World → Heap → Prop} {d : DefRec} {K : Params → PySem.W.Frag} {x : Str}
    (hn : l.most = some n) (hn2 : n ≤ sizeLine) (hdf : d.params.defaults = []) (hr : Room k callerA) (hY : ∀ (w : World) (h : Heap), YP w h → (K w.params).In h)
    (F : ∀ (w : World) (mg : Str → Option Value) (fa : Addr) (h : Heap), (K w.params).In h → h.Ns mainGlobals mg → mg d.name = some (.ref fa) → RecTabs q mg h → LamX.LawAtS l w (K w.params) CX0 k n x mg fa h) :
    PySem.W.WalkO q loose XP YP l.row.toRowW d [] (fun f vs => PySem.call f vs) := by
  refine Att.attach_callB hn hdf fun w s₀ s₁ mg mb fa o pm cd doc a vs ns G Y ho hd hcd hmg hobj hints hlen hbits hg => ?_
  have KX := hY w _ Y
  obtain ⟨fd, cs, sp, hT, nT, C, hb, hsp, hF⟩ := F w mg fa _ KX G.T.g hmg G.T.tab
  exact LamX.law_callTs KX G.T.g G.T.b G.T.builtins G.T.nolimit hg hT nT C G.T.bmain hobj hints (Nat.le_trans hlen hn2) hr hF hb (fun H hH hS => hsp H a ns hlen hbits hH hS) fun H e s' h => h
/-- the table of the code object at c -/
def codeTab (K : PySem.W.Frag) (c : Addr) : Option Addr := match K.lookup c with
  | some ⟨_, _, .fields vs, _⟩ => (match (vs[11]? : Option Value) with | some (.ref P) => some P | _ => none)
  | _ => none
/-- the table of the def that bears this name stands empty -/
theorem tab_of {q : Program} {mg : Str → Option Value} {h : Heap} {K : PySem.W.Frag} {nm : Str} {f c P : Addr} {oc : Value} {od : Option Addr} {fd : FuncData} {osl : Array (Option Value)} (T : RecTabs q mg h) (X : K.In h)
    (hrec : ((recsOf q).any fun e => e.name == nm) = true) (hm : mg nm = some (.ref f)) (lk : K.lookup f = some ⟨oc, od, .func fd, osl⟩) (hc : fd.code = .ref c) (hd : codeTab K c = some P) : h.get? P = some { cls := .none, data := .fields #[] } := by
  obtain ⟨d, hd1, e⟩ := List.any_eq_true.mp hrec
  have e : d.name = nm := beq_iff_eq.mp e
  obtain ⟨a, o, fd', c', P', h1, h2, h3, h4, h5, h6⟩ := T d hd1
  rw [e, hm] at h1
  cases h1
  rw [X _ _ lk] at h2
  cases h2
  cases h3
  rw [hc] at h4
  cases h4
  obtain ⟨⟨oc', vc, e1, _, e3, e4⟩, hP⟩ := h6
  unfold codeTab at hd
  split at hd
  · rename_i vs _ hk
    rw [X _ _ hk] at e1
    cases e1
    cases e3
    rw [e4] at hd
    cases hd
    exact hP
  · cases hd
/-- the code object's fields are in order -/
def hdOk (vs : Array Value) (c P : Addr) : Bool := (match (vs[11]? : Option Value) with | some (.ref P') => P' == P | _ => false) &&
  (match vs.getD 18 .none with | .str _ _ => true | _ => false) && (match vs.getD 7 .none with | .int _ _ => true | _ => false) &&
  (match vs.getD 9 .none with | .bool _ => true | _ => false) && (match vs.getD 10 .none with | .int _ _ => true | _ => false) && c != P
theorem codeHd_mk {K : PySem.W.Frag} {c P : Addr} {vs : Array Value} {dd : Option Addr} {sl : Array (Option Value)} (lk : K.lookup c = some ⟨.type "code", dd, .fields vs, sl⟩) (_ : vs[11]? = some (.ref P)) (h : hdOk vs c P = true) : PySem.W.codeHdIn K c P = true := by
  unfold PySem.W.codeHdIn
  rw [lk]
  exact h
theorem codeTab_mk {K : PySem.W.Frag} {c P : Addr} {vs : Array Value} {dd : Option Addr} {sl : Array (Option Value)} (lk : K.lookup c = some ⟨.type "code", dd, .fields vs, sl⟩) (h : vs[11]? = some (.ref P)) : codeTab K c = some P := by
  unfold codeTab
  rw [lk]
  show (match (vs[11]? : Option Value) with | some (.ref P) => some P | _ => none) = _
  rw [h]
end My

set_option Elab.async false
set_option linter.all false
set_option maxRecDepth 100000
namespace My
open PySem PySem.Spec PyProof.Rows L2
/-! small steps of a reading -/
theorem ite_f {c A B : Prop} [Decidable c] (h : ¬ c) (q : B) : if c then A else B := by rw [if_neg h]; exact q
theorem ite_t {c A B : Prop} [Decidable c] (h : c) (q : A) : if c then A else B := by rw [if_pos h]; exact q
theorem dstr_ne {a b : Str} (h : ¬ a = b) : ¬ decide (V.str a = V.str b) = true := fun z => h (V.str.inj (of_decide_eq_true z))
theorem dstr_eq {a b : Str} (h : a = b) : decide (V.str a = V.str b) = true := decide_eq_true (by rw [h])
theorem dint_ne {a b : Int} (h : ¬ a = b) : ¬ decide (V.int a = V.int b) = true := fun z => h (V.int.inj (of_decide_eq_true z))
theorem dint_eq {a b : Int} (h : a = b) : decide (V.int a = V.int b) = true := decide_eq_true (by rw [h])
theorem dget_s {H : Hp} {a : Addr} {kvs : List (Key × V)} {x : Str} {v : V} (e : H a = some (.dK kvs)) (h : valV kvs (.inr x) = some v) : DGet H a (.str x) (some v) := by
  rw [← h]
  exact DGet.k (k := Sum.inr x) e
theorem dget_f {H : Hp} {a : Addr} {o : Obj} {kvs : List (Key × V)} {x : Str} {v : V} (e : H a = some (.frz o (.dK kvs))) (h : valV kvs (.inr x) = some v) : DGet H a (.str x) (some v) := by
  rw [← h]
  exact .inl ⟨kvs, .inr x, .inr ⟨o, e⟩, rfl, rfl⟩
theorem not_bl {b : Bool} (h : b = false) : ¬ b = true := by rw [h]; exact Bool.false_ne_true
end My
namespace My
open PySem PySem.Spec PyProof.Rows L2
theorem or_bl {a b : Bool} {p : Prop} (h : ¬ a = true) (g : b = true ∨ p) : b = true ∨ p := g
theorem dp_strL {K : PySem.W.Frag} {H : Hp} : ∀ xs : List Str, DpAll K H (xs.map V.str) (xs.map PyData.str)
  | [] => .nil
  | x :: r => .cons (.str x) (dp_strL r)
theorem layAll_strs : ∀ xs : List Str, (∀ x ∈ xs, (PyData.str x).canLay0 = true) → PyData.canLayAll0 (xs.map PyData.str) = true
  | [], _ => rfl
  | x :: r, h => by
    show (PyData.canLay0 (.str x) && PyData.canLayAll0 (r.map PyData.str)) = true
    rw [layAll_strs r (fun y hy => h y (List.mem_cons_of_mem _ hy)), Bool.and_true]
    exact h x List.mem_cons_self
theorem depthAll_strs : ∀ xs : List Str, PyData.depthAll (xs.map PyData.str) = 0
  | [] => rfl
  | x :: r => by
    show max (PyData.depth (.str x)) (PyData.depthAll (r.map PyData.str)) = 0
    rw [depthAll_strs r]
    rfl
theorem shaped_strs (xs : List Str) (h : ∀ x ∈ xs, (PyData.str x).canLay0 = true) : SeqAt.shaped (.list (xs.map PyData.str)) = true := by
  unfold SeqAt.shaped
  rw [Bool.and_eq_true]
  refine ⟨layAll_strs xs h, decide_eq_true ?_⟩
  show PyData.depthAll (xs.map PyData.str) + 1 ≤ 64
  rw [depthAll_strs]
  decide
theorem eqv_nil (xs : List PyData) : PyData.eqv (.list xs) (.list []) = xs.isEmpty := by
  cases xs with
  | nil => rfl
  | cons x r => rfl
/-! a statement laid open -/
theorem seq_asg_op {r : R2} {ta tb : TE} {g : TG} {u : TS} {D : Ends} {σ : L2.St} {H : Hp} (h : ta σ H fun x H1 => tb σ H1 fun y H2 => r x y H2 fun v H3 => g v σ H3 (u D)) : tSeq (tAsg (tOp r ta tb) g) u D σ H := h
theorem seq_asg {te : TE} {g : TG} {u : TS} {D : Ends} {σ : L2.St} {H : Hp} (h : te σ H fun v H3 => g v σ H3 (u D)) : tSeq (tAsg te g) u D σ H := h
theorem seq_any {t u : TS} {D : Ends} {σ : L2.St} {H : Hp} (h : t { D with nx := u D } σ H) : tSeq t u D σ H := h
end My
namespace My
open PySem PySem.Spec PyProof.Rows L2
/-! the same operators, the written part by its name: within a comprehension's block -/
section
variable {X : Cx} {K : PySem.W.Frag}
theorem opNI (h : X.K = K) : OpR X (compareOp .NotIn) (rIn K true) := by subst h; exact op_notIn_seq
theorem opIN (h : X.K = K) : OpR X (compareOp .In) (rIn K false) := by subst h; exact op_in_seq
theorem ixL (h : X.K = K) : IxR X (rIxL K) := by subst h; exact ix_list
theorem ixT (h : X.K = K) : IxR X (rIxT K) := by subst h; exact ix_tup
theorem ixQ (h : X.K = K) : IxR X (rIx K) := by subst h; exact ix_seq
theorem opED (h : X.K = K) (hu : X.A.units + 64 < cLine) : OpR X (compareOp .Eq) (rEqD K) := by subst h; exact op_eqD hu
theorem opND (h : X.K = K) (hu : X.A.units + 64 < cLine) : OpR X (compareOp .NotEq) (rNeD K) := by subst h; exact op_neD hu
theorem slL (h : X.K = K) : SlR X (rSlL K) := by subst h; exact sl_list
theorem slT (h : X.K = K) : SlR X (rSlA K) := by subst h; exact sl_tupA
theorem catT (h : X.K = K) : OpR X (binaryOp .Add) (rCatA K) := by subst h; exact op_catA
theorem lnQ (h : X.K = K) : CallR X (.builtin "len") (fun xs H Q => ∃ p ys, xs = [.ref p] ∧ (SqL K H p ys ∨ SqT K H p ys) ∧ Q (.int ys.length) H) := by subst h; exact call_len_seq
theorem lsO (h : X.K = K) : CallR X (.type "list") (fun xs H Q => ∃ p ys, xs = [.ref p] ∧ (SqL K H p ys ∨ SqT K H p ys) ∧ ∀ l, H l = none → Q (.ref l) (upd H l (.lst ys))) := by subst h; exact call_list_of
theorem tpO (h : X.K = K) : CallR X (.type "tuple") (fun xs H Q => ∃ p ys, xs = [.ref p] ∧ ((SqL K H p ys ∧ ∀ l, H l = none → Q (.ref l) (upd H l (.tup ys))) ∨ (SqT K H p ys ∧ Q (.ref p) H))) := by subst h; exact call_tuple_of
theorem isI (h : X.K = K) : CallR X (.builtin "isinstance") (rIsi K) := by subst h; exact call_isi
end
end My
namespace My
open PySem PySem.Spec PyProof.Rows L2
/-! a walk over a list or a tuple, as it comes -/
section
variable {X : Cx} {tg : Expr}
def iSeq (K : PySem.W.Frag) (tl : TE) : TI := fun σ H R => tl σ H fun x H1 => ∃ (a : Addr) (xs : List V) (G : Hp → Prop), x = .ref a ∧ ((G = fun H => SqL K H a xs) ∨ (G = fun H => SqT K H a xs)) ∧ G H1 ∧ ∀ J, Walk J xs.length G (YAt xs) → R J H1
theorem pi_seq {l : Expr} {tl : TE} (hl : PE X l tl) : PI X tg l (iSeq X.K tl) := by
  refine ⟨fun pins s σ H R I h => ?_⟩
  refine thn (hl.run pins s σ H _ I h) fun v s1 ⟨x, H1, I1, r1, q1⟩ => ?_
  obtain ⟨a, xs, G, e, hG, g1, q⟩ := q1
  subst e
  cases r1
  have fp : ∀ b ∈ [s1.heap.objs.size], FpOk X pins H1 b := fun b hb => by
    rw [List.mem_singleton.mp hb]
    exact I1.fpOk (Nat.le_refl _) (I1.hok.fresh (Nat.le_refl _))
  rcases hG with rfl | rfl
  · have hq : SqL X.K H1 a xs := g1
    obtain ⟨its, _, p, _⟩ := I1.list hq
    refine wpAny_pyIter_list p.isList ?_
    exact ⟨_, _, _, _, H1, rfl, I1.kept (t' := s1.toks) fun b o e => Heap.get?_push_of_some _ e, turn_list a _, ⟨_, Heap.get?_push_size _ rfl, rfl, rfl⟩, fp, q _ walk_list⟩
  · have hq : SqT X.K H1 a xs := g1
    obtain ⟨its, _, p, _⟩ := I1.tuple hq
    refine wpAny_pyIter_tuple (show s1.heap.IsTuple a its.toArray from p) ?_
    exact ⟨_, _, _, _, H1, rfl, I1.kept (t' := s1.toks) fun b o e => Heap.get?_push_of_some _ e, turn_tuple a _, ⟨_, Heap.get?_push_size _ rfl, rfl, rfl⟩, fp, q _ walk_tup⟩
end
theorem lookup_memG {β : Type} {nm : List (Str × β)} (nd : (nm.map (·.1)).Nodup) {x : Str} {s : β} (h : (x, s) ∈ nm) : nm.lookup x = some s := by
  induction nm with
  | nil => cases h
  | cons p r ih =>
    obtain ⟨y, t⟩ := p
    rw [List.map_cons, List.nodup_cons] at nd
    rcases List.mem_cons.mp h with e | h
    · cases e
      rw [List.lookup_cons_self]
    · have ne : ¬ x = y := fun z => nd.1 (by rw [← z]; exact List.mem_map.mpr ⟨_, h, rfl⟩)
      rw [List.lookup_cons]
      have : (x == y) = false := by simpa using ne
      rw [this]
      exact ih nd.2 h
end My

set_option Elab.async false
set_option linter.all false
set_option maxRecDepth 100000
/-! methods of built-in types within a comprehension -/
namespace My
open PySem PySem.Spec PyProof.Rows L2
section
variable {X : Cx} {K : PySem.W.Frag} {o e : Expr} {es : List Expr} {to : TE} {t : TA} {name : Str} {apos cpos : Pos} {T id : String} {r : V → List V → Hp → VK → Prop}
theorem pe_bmK (h : X.K = K) (pa : PlainAttrs T) (slot : Slot T name id) (hty : typeOf (.builtin id) = pure (.type "method_descriptor")) (hm : MtR X id r) (ho : PE X o to) (ha : PA X (e :: es) t) (hbase : attributeBase o name X.env (eval o X.env) = eval o X.env := by rfl)
    (hfew : ((backTo cpos (starEach (e :: es) X.env)).all (fun x => !x.1) && (backToKw cpos (keywordEach [] X.env)).all (fun x => x.1.isSome) && decide ((e :: es).length + ([] : List Keyword).length + (if ([] : List Keyword).isEmpty then 0 else 1) < 30)) = true := by rfl)
    (hline : (apos.endLine == cpos.line) = true := by rfl) (hs : starEach (e :: es) X.env = (false, eval e X.env) :: starEach es X.env := by rfl) (hplain : (backTo cpos (starEach es X.env)).any (·.1) = false := by rfl) :
    PE X (.Call (.Attribute o name apos) (e :: es) [] cpos) (tBM K T r to t) := by
  subst h
  exact pe_bm pa slot hty hm ho ha hbase hfew hline hs hplain
/-- the truth of any expression -/
def tTru (K : PySem.W.Frag) (ta : TE) : TT := fun σ H Q => ta σ H fun x H' => ∃ k, TruV K x H' k ∧ Q k H'
theorem pt_truthE {a : Expr} {ta : TE} (h : X.K = K) (ha : PE X a ta) (he : ∀ whole, isTrue a X.env whole = (do let v ← whole; standAt a.pos; holding [v] (truthy v))) : PT X a (tTru K ta) := by
  subst h
  exact pt_truth ha he
end
end My

set_option Elab.async false
set_option linter.all false
set_option maxRecDepth 100000
set_option maxHeartbeats 2000000
/-! enumerate over a tuple -/
namespace My
open PySem PySem.Spec PyProof.Rows L2
open AutoSeq1 (wpAny_loadPart')
theorem meets_en {v : Value} {o : Obj} {B : Heap → Prop} (b : Begins v o B) : Meets (Builtin.«enumerate.__new__» ⟨[.type "enumerate", v], []⟩)
    (fun _ R s => B s.heap ∧ R (.ok (.ret (.ref (s.heap.push o).objs.size))) { s with heap := (s.heap.push o).push { cls := .type "enumerate", data := .fields #[.none, .bool false, .ref s.heap.objs.size, rawInt 0, .none, .none] } }) :=
  .of_wp fun prog w A R s h => by
    obtain ⟨hp, g, d, tk, os⟩ := s
    obtain ⟨h1, h⟩ := h
    have sb := sub_enumerate
    have it : ∀ {A' : Around} {E : Value → Shared → Prop} {Q : Value → Shared → Prop}, Q (.ref hp.objs.size) ⟨hp.push o, g, d, tk, os⟩ → wpAny (model prog w) A' (pyIter v) Q E ⟨hp, g, d, tk, os⟩ := fun q => b.iter prog w _ _ ⟨hp, g, d, tk, os⟩ _ h1 q
    wp_walk using it
    refine wpAny_stack_any fun u => wpAny_pure ?_
    split
    · rename_i c _ _ _ _ _
      cases (c == Value.type "enumerate") <;> (wp_walk using it; exact ⟨_, rfl, h⟩)
    · wp_walk using it
      exact ⟨_, rfl, h⟩
section
variable {prog : Program} {w : World} {A : Around} {E : Value → Shared → Prop} {s : Shared}
theorem call_en {v : Value} {o : Obj} {B : Heap → Prop} {Q : Value → Shared → Prop} (b : Begins v o B) (h1 : B s.heap)
    (h : ∀ h', IsEnum h' (s.heap.objs.size + 1) s.heap.objs.size 0 .none → h'.get? s.heap.objs.size = some o → (∀ c u, s.heap.get? c = some u → h'.get? c = some u) → Q (.ref (s.heap.objs.size + 1)) { s with heap := h' }) :
    wpAny (model prog w) A (call (.type "enumerate") [v]) Q E s := by
  refine callType_new F.called_enumerate (by decide) (F.typeCall_enumerate_1 _) (F.newCall_enumerate_1 _) (fun u => F.args_object_init_2 u _) F.entry_enumerate_new (meets_en b) ⟨h1, ?_⟩
  have z : (s.heap.push o).objs.size = s.heap.objs.size + 1 := Heap.size_push ..
  have e := Heap.get?_push_size (s.heap.push o) (o := { cls := .type "enumerate", data := .fields #[.none, .bool false, .ref s.heap.objs.size, rawInt 0, .none, .none] }) rfl
  rw [z] at e
  show _ ∧ _
  rw [z]
  exact ⟨⟨_, e, rfl⟩, h _ e (Heap.get?_push_of_some _ (Heap.get?_push_size _ b.free)) fun c u x => Heap.get?_push_of_some _ (Heap.get?_push_of_some _ x)⟩
end
/-- the tuple at a, each item in a new pair -/
def IteT (K : PySem.W.Frag) (a : Addr) : It where
  go := fun i H => ∃ (xs : List V) (x : V), SqT K H a xs ∧ xs[i]? = some x
  yld := fun i H v H' => ∃ T x, v = .ref T ∧ H T = none ∧ H' = upd H T (.tup [.int (i : Nat), x]) ∧ ∀ xs, SqT K H a xs → xs[i]? = some x
  stop := fun i H => ∃ xs : List V, SqT K H a xs ∧ xs.length ≤ i
theorem turn_enT {P : Program} {w : World} {K : PySem.W.Frag} {elts : List Expr} {kk : Nat} {tpos : Pos} (a e it : Addr) (hne : e ≠ it) (hea : e ≠ a) (hai : a ≠ it) :
    Turn P w K (.Tuple elts kk tpos) (IteT K a) [e, it] e (fun i h => (∃ old, IsEnum h e it ((i : Nat) : Int) old) ∧ h.IsTupleIter it a i) where
  mem := List.mem_cons_self
  obj := fun i h st b hb => by
    obtain ⟨⟨old, he⟩, o, ho, _, hd⟩ := st
    rcases List.mem_cons.mp hb with z | z
    · rw [z]; exact ⟨_, he, fun v q => nomatch q⟩
    · rw [List.mem_singleton.mp z]; exact ⟨o, ho, fun v q => by rw [hd] at q; cases q⟩
  keep := fun i h h' ⟨⟨old, he⟩, hi⟩ k => ⟨⟨old, k e (by simp) _ he⟩, hi.at fun o q => k it (by simp) o q⟩
  item := by
    intro X hP hw hK hc i pins s σ H E I hf st hg
    subst hP hw hK
    obtain ⟨⟨old, he⟩, hit⟩ := st
    obtain ⟨xs, x, hq, hx⟩ := hg
    obtain ⟨its, rv, ⟨po, p⟩, hz⟩ := I.tuple hq
    obtain ⟨u, hu, ru⟩ := rv.get hx
    have hi : i < its.toArray.size := by
      rw [List.size_toArray]
      exact (List.getElem?_eq_some_iff.mp hu).1
    have hel := Heap.lt_size he
    have hil : it < s.heap.objs.size := let ⟨_, q, _⟩ := hit; Heap.lt_size q
    have D : Draws X.prog X.w X.A.in1 it [it, a] its.toArray.size (fun i v => its.toArray[i]? = some v) (fun i h => h.IsTupleIter it a i ∧ h.IsTuple a its.toArray) := Draws.tuple (A := X.A.in1) (I.ok.hd hc) it a hai its.toArray
    refine wpAny_pyNext_enum_itemD (n := its.toArray.size) D he ⟨hit, ⟨po, p⟩⟩ hi hne (fun z => (List.mem_cons.mp z).elim hne fun z => hea (List.mem_singleton.mp z)) fun y h' tk hy ho hst hT hsz hk => ?_
    have hy : y = u := by
      have : its.toArray[i]? = some u := by simpa using hu
      exact Option.some.inj (hy.symm.trans this)
    subst hy
    refine ⟨_, rfl, wpAny_letOwnedTupleGo_enum (s := { s with heap := h', toks := tk + 1 }) ho fun h'' he' sb => ?_⟩
    have nT : s.heap.objs.size ≠ e := Nat.ne_of_gt hel
    have hT2 := (sb.2 _ nT).trans hT
    have new : ObjOk X.prog X.w (upd H s.heap.objs.size (.tup [.int (i : Nat), x])) h'' s.heap.objs.size (.tup [.int (i : Nat), x]) :=
      ⟨(by show 2 ≤ sizeLine; decide), [.int i tk, y], .cons ⟨_, rfl⟩ (.cons ru .nil), ⟨_, hT2, rfl, _, rfl⟩⟩
    have I1 : Inv X pins σ (upd H s.heap.objs.size (.tup [.int (i : Nat), x])) { s with heap := h'', toks := tk + 1 } :=
      I.turnedNew (ch := [e, it]) (fun b ob hb q => by
        have n1 : b ≠ e := fun z => hb (by rw [z]; simp)
        have n2 : b ≠ it := fun z => hb (by rw [z]; simp)
        exact (sb.2 b n1).trans (hk b ob n1 n2 q)) hf (Nat.le_refl _) new
    refine ⟨.ref s.heap.objs.size, _, I1, rfl, ⟨_, x, rfl, I.hok.fresh (Nat.le_refl _), rfl, fun ys hy => (I.tuple_inj hy hq) ▸ hx⟩, ⟨⟨y, ?_⟩, hst.1.at fun o q => (sb.2 it (Ne.symm hne)).trans q⟩, fun b hb => ?_⟩
    · have e1 : ((i + 1 : Nat) : Int) = (i : Int) + 1 := by omega
      rw [e1]; exact he'
    · have hb' : b ≠ s.heap.objs.size := by
        rcases List.mem_cons.mp hb with z | z
        · rw [z]; exact Nat.ne_of_lt hel
        · rw [List.mem_singleton.mp z]; exact Nat.ne_of_lt hil
      rw [upd_ne hb']
      exact (hf b hb).1
  done := by
    intro X hP hw hK hc i pins s σ H E I hf st hg
    subst hP hw hK
    obtain ⟨⟨old, he⟩, hit⟩ := st
    obtain ⟨xs, hq, hx⟩ := hg
    obtain ⟨its, rv, ⟨po, p⟩, hz⟩ := I.tuple hq
    obtain ⟨f0, f1, f2, f3, f4, f5⟩ := hf it (by simp)
    have D : wpAny (model X.prog X.w) X.A (pyNext (.ref e)) (fun r s1 => r = none ∧ Inv X pins σ H s1) E s := by
      have hT : s.TypeIs (.ref e) "enumerate" := ⟨_, he, rfl⟩
      unfold pyNext
      refine wpAny_bind (wpAny_attempt (wpAny_callSpecial?_slot (name := Str.ofString "__next__") hT F.slot_enumerate_next (wpAny_call_entry F.slot_enumerate_next hT F.entry_enumerate_next ?_ (F.args_enumerate_next_1 _))))
      show wpAny _ _ (field (.ref e) 2 >>= _) _ _ _
      refine wpAny_bind (wpAny_field he rfl (x := .ref it) rfl (wpAny_bind ?_))
      refine RZ.nextOf_tuple_end (I.ok.hd hc) hit ⟨po, p⟩ (by have := rv.length; simp; omega) fun h' x hx' hs => ?_
      obtain ⟨o, ho, hc'⟩ := hs
      exact wpAny_bind (wpAny_isInstance (T := "StopIteration") (b := true) ⟨o, ho, hc'⟩ isSubtype_stop (wpAny_pure ⟨rfl, I.turned (t' := s.toks) (fun b o hb q => hx' b o hb q) f0 f1 f3 f4 f5⟩))
    exact D
  self := fun A i s Q E st h => let ⟨⟨_, he⟩, _⟩ := st; wpAny_pyIter_enum he h
def iEnT (K : PySem.W.Frag) (ta : TA) : TI := fun σ H R => ta σ H fun vs H1 => ∃ a xs, vs = [.ref a] ∧ SqT K H1 a xs ∧ R (IteT K a) H1
theorem pi_enT {X : Cx} {e : Expr} {ta : TA} {p pos tpos : Pos} {elts : List Expr} {kk : Nat} (hg : Gl X "enumerate") (hm : X.mg "enumerate" = none) (ha : PA X [e] ta) (hs : starEach [e] X.env = [(false, eval e X.env)] := by rfl) :
    PI X (.Tuple elts kk tpos) (.Call (.Name "enumerate" p) [e] [] pos) (iEnT X.K ta) := by
  refine ⟨fun pins s σ H R I h => Call_ (ld_blt I hg hm boot_enumerate (PyProof.Rows.callWith_type1 (thn (ha.run pos pins s σ H _ I h) fun us s1 ⟨vs, H1, I1, r1, q1⟩ => ?_) hs rfl))⟩
  obtain ⟨a, xs, rfl, hq, q⟩ := q1
  cases r1 with
  | cons r rr =>
    cases rr
    cases r
    obtain ⟨its, rv, ⟨po, p'⟩, hz⟩ := I1.tuple hq
    have hal : a < s1.heap.objs.size := let ⟨q', _⟩ := p'; Heap.lt_size q'
    refine call_en (begins_tuple a its.toArray) ⟨po, p'⟩ fun h' he hit hk => wpAny_pyIter_enum he ?_
    refine ⟨s1.heap.objs.size + 1, [s1.heap.objs.size + 1, s1.heap.objs.size], _, _, H1, rfl, I1.kept (t' := s1.toks) hk, turn_enT a (s1.heap.objs.size + 1) s1.heap.objs.size (Nat.succ_ne_self _) (Nat.ne_of_gt (Nat.lt_succ_of_lt hal)) (Nat.ne_of_lt hal), ⟨⟨.none, he⟩, ⟨_, hit, rfl, rfl⟩⟩, fun b hb => ?_, q⟩
    have hle : s1.heap.objs.size ≤ b := by
      rcases List.mem_cons.mp hb with z | z
      · rw [z]; exact Nat.le_add_right _ _
      · rw [List.mem_singleton.mp z]; exact Nat.le_refl _
    exact I1.fpOk hle (I1.hok.fresh hle)
theorem walk_enT {K : PySem.W.Frag} {a : Addr} {xs : List V} : Walk (IteT K a) xs.length (fun H => SqT K H a xs) (YPair (fun i => some (.int (i : Nat))) (fun i => xs[i]?)) where
  goes := fun i _ hi q => ⟨xs, xs[i], q, by simp [hi]⟩
  stops := fun _ q => ⟨xs, q, Nat.le_refl _⟩
  yields := fun i H v H' _ q ⟨T, x, h1, h2, h3, h4⟩ => ⟨T, .int (i : Nat), x, h1, h2, h3, rfl, h4 xs q⟩
end My

set_option Elab.async false
set_option linter.all false
set_option maxRecDepth 100000
/-! a call of a name that holds one of several defs, told where it is called -/
namespace My
open PySem PySem.Spec PyProof.Rows L2
def tCallH (P : Program) (w : World) (K : PySem.W.Frag) (mg : Str → Option Value) (base : Heap) (k i : Nat) (t : TA) : TE := fun σ H Q => ∃ f sp, σ[i]? = some (some (.ref f)) ∧ Held P w K mg base k f sp ∧ t σ H fun vs H1 => sp vs H1 Q fun _ _ _ => False
theorem pe_callH {X : Cx} {k i : Nat} {x : Str} {p pos : Pos} {e : Expr} {es : List Expr} {t : TA} (hr : Room k X.A) (hN : X.N[i]? = some x) (hv : Vis X.env.scope x) (ha : PA X (e :: es) t)
    (h1 : (x == Str.ofString "__debug__") = false := by rfl) (h2 : (x == Str.ofString "__classdict__") = false := by rfl) (h3 : starEach (e :: es) X.env = (false, eval e X.env) :: starEach es X.env := by rfl) (h4 : ((backTo pos (starEach es X.env)).any fun x => x.1) = false := by rfl) :
    PE X (.Call (.Name x p) (e :: es) [] pos) (tCallH X.prog X.w X.K X.mg X.base k i t) :=
  ⟨fun pins s σ H Q I h => by
    obtain ⟨f, sp, hf, hh, ht⟩ := h
    refine (pe_callA (S := fun g => if g = f then some sp else none) (fun g sp' e => ?_) hr hN hv ha h1 h2 h3 h4).run pins s σ H Q I ⟨f, sp, hf, if_pos rfl, ht⟩
    by_cases z : g = f
    · rw [if_pos z] at e
      cases e
      rw [z]
      exact hh
    · rw [if_neg z] at e
      cases e⟩
theorem Held.of {P : Program} {w : World} {K : PySem.W.Frag} {mg : Str → Option Value} {base : Heap} {k k' : Nat} {f : Addr} {fd : FuncData} {ps : List Str} {sp : Sp} (F : FnOk P w K mg base CX0 k f fd ps sp) (hk : PySem.W.keepIn K (.ref f) = true) (hb : L2.Binds K fd ps []) (h : k ≤ k') : Held P w K mg base k' f sp :=
  ⟨fd, ps, ⟨F.len, fun A outer s H args us vs Q E r => F.run A outer s H args us vs Q E (r.mono h)⟩, hk, hb⟩
theorem fun_kbn {K : PySem.W.Frag} {x qual : Str} {st : Stmt} {f : Addr} {fd : FuncData} {ps ks : List Str} {n : Nat} (F : Fun K x qual st f fd)
    (h : ∀ (kV doc pm : Value) (an : Option Addr) (cdv ct : Value) (us ws : List Value), us.length = n → ws.length = ks.length → bindArgs (PySem.W.fnOf x qual (defArgs st) (defBody st) (defScope st) .none kV doc pm an cdv ct) { pos := us, kw := ks.zip ws } = pure (ps.zip (us ++ ws))) :
    KBn K fd ps n ks (fun us ws => us ++ ws) (fun vs zs => vs ++ zs) := by
  obtain ⟨oc, od, kV, doc, pm, an, cdv, ct, osl, rfl, _, _⟩ := F.ex
  exact ⟨fun s us ws _ hu hw => .of_eq (h kV doc pm an cdv ct us ws hu hw), fun a b => a.append b⟩
end My

set_option Elab.async false
set_option linter.all false
set_option maxRecDepth 100000
/-! a law's own def, called from the top: no text is being shown there, so repr of data can be read -/
namespace My
open PySem PySem.Spec PyProof.Rows L2
theorem call_reprD {X : Cx} (hg : X.A.guards = some []) (hu : X.A.units + 70 < cLine) : CallR X (.builtin "repr") (fun xs H Q => ∃ (a : Addr) (d : PyData), xs = [.ref a] ∧ Dp X.K H (.ref a) d ∧ d.showable = true ∧ d.hasDict = false ∧ d.depth ≤ 64 ∧ d.shown.length ≤ sizeLine ∧ Q (.str d.shown) H) :=
  fun pins s σ H xs us Q I hv h => by
    obtain ⟨a, d, rfl, hd, hs, hdi, hdp, hl, q⟩ := h
    cases hv with
    | cons h1 h2 =>
      cases h2
      have h1 : _ = Value.ref a := h1
      subst h1
      obtain ⟨as, r⟩ := Dp.reads I d _ (Value.ref a) hd rfl
      exact repr_of_reads' r hs (fun z => by rw [hdi] at z; cases z) hg (by omega) (fun _ _ e => e) (fun h' u tk hk => ⟨.str d.shown, H, I.kept hk, ⟨u, rfl⟩, q⟩) hl
theorem u70 {k : Nat} {A : Around} (h : Room k A) : A.units + 70 < cLine := by
  have := h.un
  omega
/-- the promise of a def that is called from the top -/
def FnTop (P : Program) (w : World) (K : PySem.W.Frag) (mg : Str → Option Value) (base : Heap) (f : Addr) (fd : FuncData) (ps : List Str) (sp : Sp) : Prop :=
  ∀ (s : Shared) (H : Hp) (args : Args) (us : List Value) (vs : List V) (Q : VK) (E : XK), Env0 P w K mg base callerA [] s H → BindsTo s fd args (ps.zip us) → Vals vs us → sp vs H Q E → codeAny (model P w) callerA (Code.call (.ref f) args) (CR CX0 [] P w H s Q E) s
theorem fun_top {P : Program} {w : World} {K : PySem.W.Frag} {mg : Str → Option Value} {base : Heap} {x qual : Str} {st : Stmt} {f : Addr} {fd : FuncData} {N ps : List Str} {k : Nat} {sp : Sp} (F : Fun K x qual st f fd) (S : FnScope N ps (defScope st)) (hr : Room (k + 1) callerA)
    (len : ∀ vs H Q E, sp vs H Q E → vs.length = ps.length)
    (hbody : ∀ (cdv : Value) (s : Shared) (H : Hp) (vs : List V) (Q : VK) (E : XK), Room k (callerA.deeper (envOfC qual (defScope st) s.heap.objs.size f cdv)) → sp vs H Q E →
      ∃ t, PSs (cxOf CX0 P w K mg base N qual (defScope st) f cdv callerA [] s H E).nox (defBody st) t ∧ t { nx := fun _ H' => Q .non H', rt := Q } (L2.start N vs) H) : FnTop P w K mg base f fd ps sp := by
  intro s H args us vs Q E e0 hb r hsp
  obtain ⟨oc, od, kV, doc, pm, an, cdv, ct, osl, rfl, lk, hcd⟩ := F.ex
  have hl := len vs H Q E hsp
  have KX := PySem.W.Frag.In.keeps e0.mod.kin fun b o e => (e0.bs b o e).1
  have lim := Heap.NoLimit.keeps e0.mod.nolimit fun b o e => (e0.bs b o e).1
  refine codeAny_call_function hr.depth (KX f _ lk) rfl S.co S.gen rfl (PySem.W.codeRec_of KX hcd) (hb _ _ _ _ ?_)
  refine wpAny_newFunctionEnv_cells S.kind (fun y hy => ?_) fun env he s1 hc => ?_
  · rcases S.par y.1 (List.of_mem_zip hy).1 with q | q
    · exact .inl q
    · exact .inr ⟨q, PySem.W.cellsFrom_some _ _ _ (.inl q)⟩
  · subst he
    refine ⟨Heap.NoLimit.keeps lim hc.toInCall.keep, codeAny_func ?_⟩
    obtain ⟨t, ht, hq⟩ := hbody cdv s H vs Q E (hr.deeper _) hsp
    have I := inv_start (CX := CX0) (E := E) S hr.hd e0 hl r hc
    refine wpAny_mono ((PSs.nox ht).run [] s1 (L2.start N vs) H { nx := fun _ H' => Q .non H', rt := Q } I hq) (fun fl s' hs => ?_) (fun e s' h => h)
    cases fl with
    | next =>
      obtain ⟨σ', H', J, q⟩ := hs
      exact ⟨.non, H', J.os, J.bare, J.base, J.hok, rfl, q⟩
    | brk =>
      obtain ⟨σ', H', J, q⟩ := hs
      exact q.elim
    | cont =>
      obtain ⟨σ', H', J, q⟩ := hs
      exact q.elim
    | ret u =>
      obtain ⟨v, σ', H', J, rv, q⟩ := hs
      exact ⟨v, H', J.os, J.bare, J.base, J.hok, rv, q⟩
theorem law_top {P : Program} {w : World} {K : PySem.W.Frag} {mg mb : Str → Option Value} {fa a : Addr} {fd : FuncData} {x : Str} {sp : Sp} {s₁ : Shared} {vs : List Value} {ns : List Int} (KX : K.In s₁.heap) (hns : s₁.heap.Ns mainGlobals mg) (hb : s₁.heap.Ns builtinsNs mb)
    (hbb : ∀ y : Str, y ≠ Str.ofString "__name__" → mb y = bootBuiltins y) (hlim : s₁.heap.NoLimit) (hg : s₁.gens = #[]) (ha : s₁.heap.get? a = some { cls := .type "list", data := .seq vs.toArray }) (hi : IntsAre vs ns) (hl : ns.length ≤ sizeLine)
    (F : ∀ base : Heap, K.In base → base.Ns mainGlobals mg → FnTop P w K mg base fa fd [x] sp) (hbind : ∀ (s : Shared) (u : Value), BindsTo s fd { pos := [u] } [(x, u)]) (hsp : ∀ H : Hp, Only H → SqL K H a (ns.map V.int) → sp [.ref a] H (fun v _ => v = .bl true) (fun _ _ _ => False)) :
    codeAny (model P w) callerA (Code.call (.ref fa) { pos := [.ref a] }) (fun r s' => r = .ok (.ret (.bool true)) ∧ OldK s₁.heap s'.heap ∧ s'.os = s₁.os ∧ AllBare s'.gens) s₁ := by
  have rv := vals_ints hi
  have lenV := IntsAre.length hi
  have core : ∀ H : Hp, Only H → SqL K H a (ns.map V.int) → HOk P w H s₁.heap → (∀ b, H b ≠ none → b = a) → (H a ≠ none → K.lookup a = none) →
      codeAny (model P w) callerA (Code.call (.ref fa) { pos := [.ref a] }) (fun r s' => r = .ok (.ret (.bool true)) ∧ OldK s₁.heap s'.heap ∧ s'.os = s₁.os ∧ AllBare s'.gens) s₁ := by
    intro H hO hS hok hA hK
    have noA : ∀ {b : Addr} {o : Obj} {es : Array DictEntry} {ep : Nat}, s₁.heap.get? b = some o → o.data = .dict es ep → H b = none := by
      intro b o es ep e d
      cases q : H b with
      | none => rfl
      | some u =>
        have e' := hA b (by rw [q]; simp)
        subst e'
        rw [ha] at e
        cases e
        cases d
    have nsK : ∀ {b : Addr} {m : Str → Option Value}, s₁.heap.Ns b m → (hidT s₁.heap H).Ns b m := by
      rintro b m ⟨o, es, ep, e, d, r⟩
      exact ⟨o, es, ep, hidT_get e (noA e d), d, r⟩
    have hKb : K.In (hidT s₁.heap H) := by
      intro b o e
      refine hidT_get (KX b o e) ?_
      cases q : H b with
      | none => rfl
      | some u =>
        have e' := hA b (by rw [q]; simp)
        subst e'
        rw [hK (by rw [q]; simp)] at e
        cases e
    have hM : L2.Mod K mg (hidT s₁.heap H) := ⟨hKb, nsK hns, ⟨mb, nsK hb, hbb⟩, let ⟨mc, h1, h2⟩ := hlim; ⟨mc, nsK h1, h2⟩⟩
    have e0 : Env0 P w K mg (hidT s₁.heap H) callerA [] s₁ H := ⟨rfl, hM, fun b o e => of_hidT e, Nat.le_of_eq (hidT_size s₁.heap H), trivial, fun b h => (nomatch h), hok, AllBare.of_eq hg⟩
    refine codeAny_mono (F (hidT s₁.heap H) hKb (nsK hns) s₁ H { pos := [.ref a] } [.ref a] [.ref a] (fun v _ => v = .bl true) (fun _ _ _ => False) e0 (hbind s₁ (.ref a)) (Paired.cons rfl Paired.nil) (hsp H hO hS)) fun r s' h => ?_
    cases r with
    | error e => exact h.elim
    | ok fl =>
      cases fl with
      | next => exact h.elim
      | brk => exact h.elim
      | cont => exact h.elim
      | ret u =>
        obtain ⟨v, H', os, bare, un, hok', r', q⟩ := h
        have q : v = .bl true := q
        subst q
        have r' : u = Value.bool true := r'.symm ▸ rfl
        subst r'
        refine ⟨rfl, OldK.of_keep fun b o e => ?_, os, bare⟩
        cases q : H b with
        | none => exact un.keep b o e q (by simp [frs]) (by simp)
        | some u =>
          rcases hO b with z | ⟨ob, xs, z⟩
          · rw [z] at q
            cases q
          · have e1 := (hok b _ z).1
            have e2 := (hok' b _ (un.frzs b _ _ z)).1
            rw [e1] at e
            cases e
            exact e2
  cases hk : K.lookup a with
  | none =>
    refine core (fun b => if b = a then some (.frz { cls := .type "list", data := .seq vs.toArray } (.lst (ns.map V.int))) else none) (fun b => ?_) (.inl (.inr ⟨_, if_pos rfl⟩)) (fun b u z => ?_) (fun b z => ?_) fun _ => hk
    · by_cases h : b = a
      · exact .inr ⟨_, _, if_pos h⟩
      · exact .inl (if_neg h)
    · by_cases h : b = a
      · subst h
        have z : (if b = b then some (HO.frz { cls := .type "list", data := .seq vs.toArray } (.lst (ns.map V.int))) else none) = some u := z
        rw [if_pos rfl] at z
        cases z
        exact ⟨ha, by rw [List.length_map]; exact hl, vs, 0, rv, ha⟩
      · have z : (if b = a then some (HO.frz { cls := .type "list", data := .seq vs.toArray } (.lst (ns.map V.int))) else none) = some u := z
        rw [if_neg h] at z
        cases z
    · by_cases h : b = a
      · exact h
      · exact absurd (if_neg h) z
  | some o =>
    have e := KX a o hk
    rw [ha] at e
    cases e
    refine core (fun _ => none) (fun _ => .inl rfl) (.inr ⟨_, vs.toArray, 0, hk, rfl, rfl, rfl, ?_, ?_⟩) (fun b u z => (nomatch z)) (fun b z => absurd rfl z) fun z => absurd rfl z
    · rw [List.size_toArray, lenV]
      exact hl
    · exact rv
theorem walk_top {l : PySem.W.OpenLaw} {n : Nat} {q : Program} {loose : List Str} {XP : (Str → Option Value) → Heap → Prop} {YP : World → Heap → Prop} {d : DefRec} {K : Params → PySem.W.Frag} {sp : World → Sp} {x : Str}
    (hn : l.most = some n) (hn2 : n ≤ sizeLine) (hdf : d.params.defaults = []) (hY : ∀ (w : World) (h : Heap), YP w h → (K w.params).In h)
    (F : ∀ (w : World) (mg : Str → Option Value) (fa : Addr) (h : Heap), (K w.params).In h → h.Ns mainGlobals mg → mg d.name = some (.ref fa) → ∃ fd, (∀ (s : Shared) (u : Value), BindsTo s fd { pos := [u] } [(x, u)]) ∧ ∀ base : Heap, (K w.params).In base → base.Ns mainGlobals mg → FnTop l.prog w (K w.params) mg base fa fd [x] (sp w))
    (hsp : ∀ (w : World) (H : Hp) (a : Addr) (ns : List Int), ns.length ≤ n → Only H → SqL (K w.params) H a (ns.map V.int) → sp w [.ref a] H (fun v _ => v = .bl true) (fun _ _ _ => False)) :
    PySem.W.WalkO q loose XP YP l.row.toRowW d [] (fun f vs => PySem.call f vs) := by
  refine Att.attach_call hn hdf fun w s₀ s₁ mg mb fa o pm cd doc a vs ns G Y ho hd hcd hmg hobj hints hlen hg => ?_
  have KX := hY w _ Y
  obtain ⟨fd, hb, hF⟩ := F w mg fa _ KX G.T.g hmg
  exact law_top KX G.T.g G.T.b G.T.builtins G.T.nolimit hg hobj hints (Nat.le_trans hlen hn2) hF hb fun H hO hS => hsp w H a ns hlen hO hS
end My

set_option linter.all false
/-! pebbles: the moves' own walk -/
namespace My
def newSt (st : List Int) (m : Int) : List Int := if m > 0 then st ++ [(m.natAbs : Int)] else st.filter fun x => decide (x ≠ (m.natAbs : Int))
/-- a move on the chain: the places where pebbles stand, in the order in which they came -/
def stepW (n room : Int) (st : List Int) (m : Int) : Option (List Int) :=
  if ¬ (1 ≤ (m.natAbs : Int) ∧ (m.natAbs : Int) ≤ n) ∨ ((m.natAbs : Int) > 1 ∧ (m.natAbs : Int) - 1 ∉ st) then none
  else if decide (m > 0) = decide ((m.natAbs : Int) ∈ st) then none
  else if ((newSt st m).length : Int) > room then none
  else some (newSt st m)
def foldW (n room : Int) : List Int → List Int → Option (List Int)
  | [], st => some st
  | m :: r, st => (stepW n room st m).bind (foldW n room r)
def walkF (n room : Int) (ms : List Int) : Bool := match foldW n room ms [] with
  | some st => decide (st = [n])
  | none => false
theorem foldW_app (n room : Int) : ∀ (a b st : List Int), foldW n room (a ++ b) st = (foldW n room a st).bind (foldW n room b)
  | [], _, _ => rfl
  | m :: r, b, st => by
    show (stepW n room st m).bind (foldW n room (r ++ b)) = ((stepW n room st m).bind (foldW n room r)).bind _
    cases h : stepW n room st m with
    | none => rfl
    | some s => exact foldW_app n room r b s
theorem fold_next {n room : Int} {ms st : List Int} {i : Nat} {m : Int} (hm : ms[i]? = some m) (h : foldW n room (ms.take i) [] = some st) : foldW n room (ms.take (i + 1)) [] = stepW n room st m := by
  rw [List.take_succ, hm, foldW_app, h]
  show (stepW n room st m).bind (foldW n room []) = _
  cases stepW n room st m <;> rfl
theorem fold_stop {n room : Int} {ms st : List Int} {i : Nat} {m : Int} (hm : ms[i]? = some m) (h : foldW n room (ms.take i) [] = some st) (hs : stepW n room st m = none) : walkF n room ms = false := by
  have e : foldW n room ms [] = none := by
    have h1 := fold_next hm h
    rw [hs] at h1
    have : ms = ms.take (i + 1) ++ ms.drop (i + 1) := (List.take_append_drop ..).symm
    rw [this, foldW_app, h1]
    rfl
  unfold walkF
  rw [e]
/-- what the standing pebbles are -/
structure StOk (n : Int) (st : List Int) : Prop where
  nd : st.Nodup
  pos : ∀ x ∈ st, 1 ≤ x ∧ x ≤ n
theorem stepW_ok {n room : Int} {st s2 : List Int} {m : Int} (h : StOk n st) (e : stepW n room st m = some s2) : StOk n s2 ∧ (s2.length : Int) ≤ room := by
  unfold stepW at e
  by_cases h1 : ¬ (1 ≤ (m.natAbs : Int) ∧ (m.natAbs : Int) ≤ n) ∨ ((m.natAbs : Int) > 1 ∧ (m.natAbs : Int) - 1 ∉ st)
  · rw [if_pos h1] at e
    cases e
  · rw [if_neg h1] at e
    by_cases h2 : decide (m > 0) = decide ((m.natAbs : Int) ∈ st)
    · rw [if_pos h2] at e
      cases e
    · rw [if_neg h2] at e
      by_cases h3 : ((newSt st m).length : Int) > room
      · rw [if_pos h3] at e
        cases e
      · rw [if_neg h3] at e
        have e := Option.some.inj e
        rw [← e]
        have hb : 1 ≤ (m.natAbs : Int) ∧ (m.natAbs : Int) ≤ n := Decidable.byContradiction fun z => h1 (.inl z)
        refine ⟨?_, by omega⟩
        unfold newSt
        by_cases hm : m > 0
        · rw [if_pos hm]
          have hn : (m.natAbs : Int) ∉ st := fun z => h2 (by rw [decide_eq_true hm, decide_eq_true z])
          refine ⟨List.nodup_append.mpr ⟨h.nd, List.pairwise_singleton _ _, fun a ha b hb z => hn (by rw [List.mem_singleton.mp hb] at z; rw [← z]; exact ha)⟩, fun x hx => ?_⟩
          rcases List.mem_append.mp hx with hx | hx
          · exact h.pos x hx
          · rw [List.mem_singleton.mp hx]
            exact hb
        · rw [if_neg hm]
          exact ⟨h.nd.filter _, fun x hx => h.pos x (List.mem_filter.mp hx).1⟩
theorem foldW_ok {n room : Int} : ∀ {ms st s2 : List Int}, StOk n st → (st.length : Int) ≤ room → foldW n room ms st = some s2 → StOk n s2 ∧ (s2.length : Int) ≤ room
  | [], st, s2, h, hl, e => by
    cases e
    exact ⟨h, hl⟩
  | m :: r, st, s2, h, hl, e => by
    have e : (stepW n room st m).bind (foldW n room r) = some s2 := e
    cases g : stepW n room st m with
    | none => rw [g] at e; cases e
    | some s =>
      rw [g] at e
      obtain ⟨a, b⟩ := stepW_ok h g
      exact foldW_ok a b e
/-! ### the least numbers of moves -/
abbrev NEV : Int := 1000000000000
def minF : List Int → Int
  | [] => 0
  | [x] => x
  | x :: y :: r => min x (minF (y :: r))
theorem minF_mem : ∀ {l : List Int}, l ≠ [] → minF l ∈ l
  | [], h => absurd rfl h
  | [x], _ => List.mem_singleton.mpr rfl
  | x :: y :: r, _ => by
    show min x (minF (y :: r)) ∈ _
    have := minF_mem (l := y :: r) (by simp)
    rcases Int.le_total x (minF (y :: r)) with h | h
    · rw [Int.min_eq_left h]
      exact List.mem_cons_self
    · rw [Int.min_eq_right h]
      exact List.mem_cons_of_mem _ this
theorem minF_le : ∀ {l : List Int} {x : Int}, x ∈ l → minF l ≤ x
  | [], _, h => by cases h
  | [y], x, h => by
    rw [List.mem_singleton.mp h]
    exact Int.le_refl _
  | y :: z :: r, x, h => by
    show min y (minF (z :: r)) ≤ x
    rcases List.mem_cons.mp h with h | h
    · rw [h]
      exact Int.min_le_left ..
    · exact Int.le_trans (Int.min_le_right ..) (minF_le h)
theorem minF_is {l : List Int} {m : Int} (hm : m ∈ l) (hle : ∀ x ∈ l, m ≤ x) : m = minF l :=
  Int.le_antisymm (hle _ (minF_mem (fun z => by rw [z] at hm; cases hm))) (minF_le hm)
def rowT (f : Nat → Int) : Nat → List Int
  | 0 => [NEV]
  | 1 => [NEV, 1]
  | l + 2 => rowT f (l + 1) ++ [minF (((List.range (l + 1)).map fun i => (rowT f (l + 1)).getD (i + 1) 0 + f (l + 2 - (i + 1)) + f (i + 1)) ++ [NEV])]
def Et : Nat → Nat → Int
  | 0, _ => NEV
  | p + 1, l => (rowT (Et p) l).getD l 0
theorem rowT_len (f : Nat → Int) : ∀ l, (rowT f l).length = l + 1
  | 0 => rfl
  | 1 => rfl
  | l + 2 => by rw [rowT, List.length_append, rowT_len f (l + 1)]; rfl
theorem rowT_pre (f : Nat → Int) (i : Nat) : ∀ l, i ≤ l → (rowT f l).getD i 0 = (rowT f i).getD i 0
  | 0, h => by
    have : i = 0 := by omega
    rw [this]
  | 1, h => by
    have : i = 0 ∨ i = 1 := by omega
    rcases this with z | z <;> rw [z] <;> rfl
  | l + 2, h => by
    rcases Nat.eq_or_lt_of_le h with z | z
    · rw [z]
    · rw [rowT, ← rowT_pre f i (l + 1) (by omega), List.getD_eq_getElem?_getD, List.getElem?_append_left (by rw [rowT_len]; omega), ← List.getD_eq_getElem?_getD]
def rowE (p n : Nat) : List Int := (List.range (n + 1)).map (Et p)
theorem rowE_len (p n : Nat) : (rowE p n).length = n + 1 := by
  unfold rowE
  rw [List.length_map, List.length_range]
theorem rowE_get {p n i : Nat} (h : i ≤ n) : (rowE p n)[i]? = some (Et p i) := by
  unfold rowE
  rw [List.getElem?_map, List.getElem?_range (by omega)]
  rfl
theorem rowE_next (p n : Nat) : rowT (Et p) n = rowE (p + 1) n := by
  refine List.ext_getElem? fun i => ?_
  rcases Nat.lt_or_ge i (n + 1) with h | h
  · rw [rowE_get (by omega)]
    show _ = some ((rowT (Et p) i).getD i 0)
    rw [← rowT_pre (Et p) i n (by omega), List.getD_eq_getElem?_getD, List.getElem?_eq_getElem (by rw [rowT_len]; exact h)]
    rfl
  · rw [List.getElem?_eq_none (by rw [rowT_len]; exact h), List.getElem?_eq_none (by rw [rowE_len]; exact h)]
theorem rowE_zero (n : Nat) : rowE 0 n = List.replicate (n + 1) NEV := by
  unfold rowE
  refine List.eq_replicate_iff.mpr ⟨by rw [List.length_map, List.length_range], fun x hx => ?_⟩
  obtain ⟨i, _, rfl⟩ := List.mem_map.mp hx
  rfl
theorem Et_one (p : Nat) : Et (p + 1) 1 = 1 := rfl
theorem Et_step (p l : Nat) : Et (p + 1) (l + 2) = minF (((List.range (l + 1)).map fun i => Et (p + 1) (i + 1) + Et p (l + 2 - (i + 1)) + Et p (i + 1)) ++ [NEV]) := by
  show (rowT (Et p) (l + 2)).getD (l + 2) 0 = _
  rw [rowT, List.getD_eq_getElem?_getD, List.getElem?_append_right (by rw [rowT_len]; omega), rowT_len, Nat.sub_self]
  show minF _ = minF _
  congr 2
  refine List.map_congr_left fun i hi => ?_
  have := List.mem_range.mp hi
  rw [rowT_pre (Et p) (i + 1) (l + 1) (by omega)]
  rfl
def fitM (p l i : Nat) : Bool := decide (Et p (i + 1) + Et (p - 1) (l - (i + 1)) + Et (p - 1) (i + 1) = Et p l)
def bestM (p l : Nat) : Nat := match (List.range (l - 1)).find? (fitM p l) with
  | some i => i + 1
  | none => l
def leastM (room n : Nat) : Int := if Et room n < NEV then Et room n else -1
theorem bestM_none {p l : Nat} (h : ∀ k < l - 1, fitM p l k = false) : bestM p l = l := by
  have : (List.range (l - 1)).find? (fitM p l) = none := List.find?_eq_none.mpr fun x hx => by
    rw [h x (List.mem_range.mp hx)]
    decide
  unfold bestM
  rw [this]
theorem find_range {f : Nat → Bool} {i : Nat} (hf : f i = true) (hno : ∀ k < i, f k = false) : ∀ n, i < n → (List.range n).find? f = some i
  | 0, h => by omega
  | n + 1, h => by
    rw [List.range_succ, List.find?_append]
    rcases Nat.lt_or_ge i n with z | z
    · rw [find_range hf hno n z]
      rfl
    · have e : i = n := by omega
      have : (List.range n).find? f = none := List.find?_eq_none.mpr fun x hx => by
        rw [hno x (by rw [e]; exact List.mem_range.mp hx)]
        decide
      rw [this, ← e]
      show ([i].find? f) = _
      rw [List.find?_cons, hf]
theorem bestM_some {p l i : Nat} (hi : i < l - 1) (hf : fitM p l i = true) (hno : ∀ k < i, fitM p l k = false) : bestM p l = i + 1 := by
  unfold bestM
  rw [find_range hf hno _ hi]
/-! ### the row of moves -/
def pebF : Nat → Nat → Nat → Nat → Bool → List Int
  | 0, _, _, _, _ => []
  | f + 1, p, l, at_, b => if l = 1 then [if b then (at_ : Int) + 1 else -(at_ : Int) - 1] else
    if b then pebF f p (bestM p l) at_ true ++ pebF f (p - 1) (l - bestM p l) (at_ + bestM p l) true ++ pebF f (p - 1) (bestM p l) at_ false
    else pebF f (p - 1) (bestM p l) at_ true ++ pebF f (p - 1) (l - bestM p l) (at_ + bestM p l) false ++ pebF f p (bestM p l) at_ false
def pebG (p l at_ : Nat) (b : Bool) : List Int := pebF l p l at_ b
theorem minF_le2 {l : List Int} {a b : Int} (ha : ∀ x ∈ l, a ≤ x) (hb : l ≠ []) : a ≤ minF l := ha _ (minF_mem hb)
theorem Et_pos : ∀ p l, 1 ≤ Et p l
  | 0, l => by
    show (1 : Int) ≤ NEV
    decide
  | p + 1, 0 => by
    show (1 : Int) ≤ NEV
    decide
  | p + 1, 1 => Int.le_refl _
  | p + 1, l + 2 => by
    rw [Et_step]
    refine minF_le2 (b := 0) (fun x hx => ?_) (by simp)
    rcases List.mem_append.mp hx with h | h
    · obtain ⟨i, hi, rfl⟩ := List.mem_map.mp h
      have hi := List.mem_range.mp hi
      have h1 := Et_pos (p + 1) (i + 1)
      have h2 := Et_pos p (l + 2 - (i + 1))
      have h3 := Et_pos p (i + 1)
      omega
    · rw [List.mem_singleton.mp h]
      decide
termination_by p l => (p, l)
theorem Et_zero (l : Nat) : Et 0 l = NEV := rfl
/-- the middle of a row that there is -/
theorem best_ok {p l : Nat} (hl : 2 ≤ l) (he : Et (p + 1) l < NEV) : 1 ≤ bestM (p + 1) l ∧ bestM (p + 1) l < l ∧ Et (p + 1) (bestM (p + 1) l) + Et p (l - bestM (p + 1) l) + Et p (bestM (p + 1) l) = Et (p + 1) l := by
  obtain ⟨l, rfl⟩ : ∃ k, l = k + 2 := ⟨l - 2, by omega⟩
  have hm := minF_mem (l := ((List.range (l + 1)).map fun i => Et (p + 1) (i + 1) + Et p (l + 2 - (i + 1)) + Et p (i + 1)) ++ [NEV]) (by simp)
  rw [← Et_step] at hm
  rcases List.mem_append.mp hm with h | h
  · obtain ⟨i, hi, e⟩ := List.mem_map.mp h
    cases g : (List.range (l + 2 - 1)).find? (fitM (p + 1) (l + 2)) with
    | none => exact absurd (decide_eq_true e) (List.find?_eq_none.mp g i hi)
    | some j =>
      have hj := List.find?_some g
      have hjm := List.mem_range.mp (List.mem_of_find?_eq_some g)
      have : bestM (p + 1) (l + 2) = j + 1 := by
        unfold bestM
        rw [g]
      rw [this]
      exact ⟨by omega, by omega, of_decide_eq_true hj⟩
  · rw [List.mem_singleton.mp h] at he
    exact absurd he (Int.lt_irrefl _)
/-- the parts of a row -/
structure BstOk (p l m : Nat) : Prop where
  m1 : 1 ≤ m
  ml : m < l
  p1 : 1 ≤ p - 1
  e1 : Et p m < NEV
  e2 : Et (p - 1) (l - m) < NEV
  e3 : Et (p - 1) m < NEV
  s : Et p m + Et (p - 1) (l - m) + Et (p - 1) m = Et p l
theorem bst {p l : Nat} (hp : 1 ≤ p) (hl : 2 ≤ l) (he : Et p l < NEV) : BstOk p l (bestM p l) := by
  obtain ⟨p, rfl⟩ : ∃ k, p = k + 1 := ⟨p - 1, by omega⟩
  obtain ⟨a, b, c⟩ := best_ok hl he
  have h1 := Et_pos (p + 1) (bestM (p + 1) l)
  have h2 := Et_pos p (l - bestM (p + 1) l)
  have h3 := Et_pos p (bestM (p + 1) l)
  refine ⟨a, b, ?_, by omega, by show Et p _ < _; omega, by show Et p _ < _; omega, c⟩
  cases p with
  | zero =>
    have := Et_zero (bestM (0 + 1) l)
    rw [this] at c
    omega
  | succ p => show 1 ≤ p + 1; omega
theorem pebF_fuel : ∀ {f p l at_ : Nat} {b : Bool}, 1 ≤ p → 1 ≤ l → Et p l < NEV → l ≤ f → pebF f p l at_ b = pebG p l at_ b := by
  intro f
  induction f using Nat.strongRecOn with
  | _ f ih =>
    intro p l at_ b hp hl he hf
    cases f with
    | zero => omega
    | succ f =>
      unfold pebG
      cases l with
      | zero => omega
      | succ l =>
        rw [pebF, pebF]
        by_cases h1 : l + 1 = 1
        · rw [if_pos h1, if_pos h1]
        · rw [if_neg h1, if_neg h1]
          have B := bst hp (by omega) he
          obtain ⟨m1, ml, p1, e1, e2, e3, _⟩ := B
          generalize bestM p (l + 1) = m at m1 ml e1 e2 e3
          have g1 : ∀ b' : Bool, pebF l p m at_ b' = pebF f p m at_ b' := fun b' => by
            rw [ih f (by omega) hp m1 e1 (by omega)]
            rcases Nat.lt_or_ge l f with z | z
            · exact ih l (by omega) hp m1 e1 (by omega)
            · have : l = f := by omega
              rw [this]
              exact ih f (by omega) hp m1 e1 (by omega)
          have g2 : ∀ b' : Bool, pebF l (p - 1) (l + 1 - m) (at_ + m) b' = pebF f (p - 1) (l + 1 - m) (at_ + m) b' := fun b' => by
            rw [ih f (by omega) p1 (by omega) e2 (by omega)]
            exact ih l (by omega) p1 (by omega) e2 (by omega)
          have g3 : ∀ b' : Bool, pebF l (p - 1) m at_ b' = pebF f (p - 1) m at_ b' := fun b' => by
            rw [ih f (by omega) p1 m1 e3 (by omega)]
            exact ih l (by omega) p1 m1 e3 (by omega)
          rw [g1, g2, g3, g1, g2, g3]
theorem pebG_one (p at_ : Nat) (b : Bool) : pebG p 1 at_ b = [if b then (at_ : Int) + 1 else -(at_ : Int) - 1] := rfl
theorem pebG_step {p l at_ : Nat} {b : Bool} (hp : 1 ≤ p) (hl : 2 ≤ l) (he : Et p l < NEV) : pebG p l at_ b =
    if b then pebG p (bestM p l) at_ true ++ pebG (p - 1) (l - bestM p l) (at_ + bestM p l) true ++ pebG (p - 1) (bestM p l) at_ false
    else pebG (p - 1) (bestM p l) at_ true ++ pebG (p - 1) (l - bestM p l) (at_ + bestM p l) false ++ pebG p (bestM p l) at_ false := by
  have B := bst hp hl he
  obtain ⟨k, rfl⟩ : ∃ k, l = k + 1 := ⟨l - 1, by omega⟩
  have e : pebG p (k + 1) at_ b = pebF (k + 1) p (k + 1) at_ b := rfl
  rw [e, pebF, if_neg (by omega)]
  obtain ⟨m1, ml, p1, e1, e2, e3, _⟩ := B
  rw [pebF_fuel hp m1 e1 (by omega), pebF_fuel p1 (by omega) e2 (by omega), pebF_fuel p1 m1 e3 (by omega), pebF_fuel hp m1 e1 (by omega), pebF_fuel p1 (by omega) e2 (by omega), pebF_fuel p1 m1 e3 (by omega)]
theorem pebG_len : ∀ (l : Nat) {p at_ : Nat} {b : Bool}, 1 ≤ p → 1 ≤ l → Et p l < NEV → ((pebG p l at_ b).length : Int) = Et p l := by
  intro l
  induction l using Nat.strongRecOn with
  | _ l ih =>
    intro p at_ b hp hl he
    rcases Nat.lt_or_ge 1 l with h | h
    · have B := bst hp h he
      rw [pebG_step hp h he, ← B.s]
      have l1 := fun (b' : Bool) => ih _ B.ml (at_ := at_) (b := b') hp B.m1 B.e1
      have l2 := fun (b' : Bool) => ih (l - bestM p l) (by have := B.m1; omega) (at_ := at_ + bestM p l) (b := b') B.p1 (by have := B.ml; omega) B.e2
      have l3 := fun (b' : Bool) => ih _ B.ml (at_ := at_) (b := b') B.p1 B.m1 B.e3
      cases b
      · have h1 := l1 false
        have h2 := l2 false
        have h3 := l3 true
        show (((pebG (p - 1) (bestM p l) at_ true ++ pebG (p - 1) (l - bestM p l) (at_ + bestM p l) false ++ pebG p (bestM p l) at_ false).length : Nat) : Int) = _
        rw [List.length_append, List.length_append]
        omega
      · have h1 := l1 true
        have h2 := l2 true
        have h3 := l3 false
        show (((pebG p (bestM p l) at_ true ++ pebG (p - 1) (l - bestM p l) (at_ + bestM p l) true ++ pebG (p - 1) (bestM p l) at_ false).length : Nat) : Int) = _
        rw [List.length_append, List.length_append]
        omega
    · have : l = 1 := by omega
      subst this
      obtain ⟨k, rfl⟩ : ∃ k, p = k + 1 := ⟨p - 1, by omega⟩
      rw [pebG_one, Et_one]
      rfl
end My

set_option Elab.async false
set_option linter.all false
set_option maxRecDepth 100000
namespace My
open PySem PySem.Spec PyProof.Rows L2
def topS (i : Nat) : Stmt := PySem.Challenge.pw_backrun_k10_pebbles_on_a_chain.main.body.getD i (.Pass ⟨0, 0, 0, 0⟩)
abbrev s_is_whole : Stmt := topS 4
abbrev N_is_whole : List Str := ["value"]
theorem sc_is_whole : FnScope N_is_whole ["value"] (defScope s_is_whole) := ⟨rfl, rfl, rfl, by decide +kernel, rfl, by decide +kernel, by decide +kernel⟩
abbrev s_is_integer : Stmt := topS 5
abbrev N_is_integer : List Str := ["value", "low", "high"]
theorem sc_is_integer : FnScope N_is_integer ["value", "low", "high"] (defScope s_is_integer) := ⟨rfl, rfl, rfl, by decide +kernel, rfl, by decide +kernel, by decide +kernel⟩
abbrev s_is_pebbling : Stmt := topS 8
abbrev N_is_pebbling : List Str := ["n", "room", "moves", "standing", "move"]
theorem sc_is_pebbling : FnScope N_is_pebbling ["n", "room", "moves"] (defScope s_is_pebbling) := ⟨rfl, rfl, rfl, by decide +kernel, rfl, by decide +kernel, by decide +kernel⟩
abbrev s_least_table : Stmt := topS 11
abbrev N_least_table : List Str := ["n", "room", "table", "pebbles", "below", "row", "length", "m"]
theorem sc_least_table : FnScope N_least_table ["n", "room"] (defScope s_least_table) := ⟨rfl, rfl, rfl, by decide +kernel, rfl, by decide +kernel, by decide +kernel⟩
abbrev s_best_middle : Stmt := topS 12
abbrev N_best_middle : List Str := ["table", "length", "pebbles", "row", "below", "middle"]
theorem sc_best_middle : FnScope N_best_middle ["table", "length", "pebbles"] (defScope s_best_middle) := ⟨rfl, rfl, rfl, by decide +kernel, rfl, by decide +kernel, by decide +kernel⟩
abbrev s_least_moves : Stmt := topS 9
abbrev N_least_moves : List Str := ["n", "room", "least"]
theorem sc_least_moves : FnScope N_least_moves ["n", "room"] (defScope s_least_moves) := ⟨rfl, rfl, rfl, by decide +kernel, rfl, by decide +kernel, by decide +kernel⟩
abbrev s_pebbling : Stmt := topS 10
abbrev N_pebbling : List Str := ["n", "room", "table", "moves", "waiting", "place", "length", "pebbles", "is_forward", "middle", "rows"]
theorem sc_pebbling : FnScope N_pebbling ["n", "room"] (defScope s_pebbling) := ⟨rfl, rfl, rfl, by decide +kernel, rfl, by decide +kernel, by decide +kernel⟩
abbrev s_z_draw : Stmt := topS 14
abbrev N_z_draw : List Str := ["script", "seed", "cell"]
theorem sc_z_draw : FnScope N_z_draw ["script"] (defScope s_z_draw) := ⟨rfl, rfl, rfl, by decide +kernel, rfl, by decide +kernel, by decide +kernel⟩
abbrev s_z_take : Stmt := topS 15
abbrev N_z_take : List Str := ["draw", "many", "found"]
theorem sc_z_take : FnScope N_z_take ["draw", "many"] (defScope s_z_take) := ⟨rfl, rfl, rfl, by decide +kernel, rfl, by decide +kernel, by decide +kernel⟩
abbrev s_z_walk : Stmt := topS 34
abbrev N_z_walk : List Str := ["n", "room", "moves", "standing", "move", "place", "other"]
theorem sc_z_walk : FnScope N_z_walk ["n", "room", "moves"] (defScope s_z_walk) := ⟨rfl, rfl, rfl, by decide +kernel, rfl, by decide +kernel, by decide +kernel⟩
abbrev s_z_search : Stmt := topS 35
abbrev N_z_search : List Str := ["n", "room", "goal", "far", "row", "after", "here", "place", "bit", "other", "many", "k"]
theorem sc_z_search : FnScope N_z_search ["n", "room"] (defScope s_z_search) := ⟨rfl, rfl, rfl, by decide +kernel, rfl, by decide +kernel, by decide +kernel⟩
abbrev s_law : Stmt := topS 36
abbrev N_law : List Str := ["script", "draw", "n", "room", "least", "moves", "j", "at", "other"]
theorem sc_law : FnScope N_law ["script"] (defScope s_law) := ⟨rfl, rfl, rfl, by decide +kernel, rfl, by decide +kernel, by decide +kernel⟩
/-- what the top has left -/
structure Txt (K : PySem.W.Frag) (mg : Str → Option Value) where
  f_is_whole : Addr
  d_is_whole : FuncData
  F_is_whole : Fun K "is_whole" "is_whole" s_is_whole f_is_whole d_is_whole
  g_is_whole : mg "is_whole" = some (.ref f_is_whole)
  b_is_whole : Binds K d_is_whole ["value"] []
  f_is_integer : Addr
  d_is_integer : FuncData
  F_is_integer : Fun K "is_integer" "is_integer" s_is_integer f_is_integer d_is_integer
  g_is_integer : mg "is_integer" = some (.ref f_is_integer)
  b_is_integer : Binds K d_is_integer ["value", "low", "high"] []
  f_is_pebbling : Addr
  d_is_pebbling : FuncData
  F_is_pebbling : Fun K "is_pebbling" "is_pebbling" s_is_pebbling f_is_pebbling d_is_pebbling
  g_is_pebbling : mg "is_pebbling" = some (.ref f_is_pebbling)
  b_is_pebbling : Binds K d_is_pebbling ["n", "room", "moves"] []
  f_least_table : Addr
  d_least_table : FuncData
  F_least_table : Fun K "least_table" "least_table" s_least_table f_least_table d_least_table
  g_least_table : mg "least_table" = some (.ref f_least_table)
  b_least_table : Binds K d_least_table ["n", "room"] []
  f_best_middle : Addr
  d_best_middle : FuncData
  F_best_middle : Fun K "best_middle" "best_middle" s_best_middle f_best_middle d_best_middle
  g_best_middle : mg "best_middle" = some (.ref f_best_middle)
  b_best_middle : Binds K d_best_middle ["table", "length", "pebbles"] []
  f_least_moves : Addr
  d_least_moves : FuncData
  F_least_moves : Fun K "least_moves" "least_moves" s_least_moves f_least_moves d_least_moves
  g_least_moves : mg "least_moves" = some (.ref f_least_moves)
  b_least_moves : Binds K d_least_moves ["n", "room"] []
  f_pebbling : Addr
  d_pebbling : FuncData
  F_pebbling : Fun K "pebbling" "pebbling" s_pebbling f_pebbling d_pebbling
  g_pebbling : mg "pebbling" = some (.ref f_pebbling)
  b_pebbling : Binds K d_pebbling ["n", "room"] []
  f_z_draw : Addr
  d_z_draw : FuncData
  F_z_draw : Fun K "_law_draw" "_law_draw" s_z_draw f_z_draw d_z_draw
  g_z_draw : mg "_law_draw" = some (.ref f_z_draw)
  b_z_draw : Binds K d_z_draw ["script"] []
  f_z_take : Addr
  d_z_take : FuncData
  F_z_take : Fun K "_law_take" "_law_take" s_z_take f_z_take d_z_take
  g_z_take : mg "_law_take" = some (.ref f_z_take)
  b_z_take : Binds K d_z_take ["draw", "many"] []
  f_z_walk : Addr
  d_z_walk : FuncData
  F_z_walk : Fun K "_law_walk" "_law_walk" s_z_walk f_z_walk d_z_walk
  g_z_walk : mg "_law_walk" = some (.ref f_z_walk)
  b_z_walk : Binds K d_z_walk ["n", "room", "moves"] []
  f_z_search : Addr
  d_z_search : FuncData
  F_z_search : Fun K "_law_search" "_law_search" s_z_search f_z_search d_z_search
  g_z_search : mg "_law_search" = some (.ref f_z_search)
  b_z_search : Binds K d_z_search ["n", "room"] []
  f_law : Addr
  d_law : FuncData
  F_law : Fun K "law" "law" s_law f_law d_law
  g_law : mg "law" = some (.ref f_law)
  m_abs : mg "abs" = none
  m_bool : mg "bool" = none
  m_int : mg "int" = none
  m_isinstance : mg "isinstance" = none
  m_len : mg "len" = none
  m_min : mg "min" = none
  m_range : mg "range" = none
  x_a : Addr
  x_g : mg "ChainError" = some (.ref x_a)
  x_x : PySem.W.excIn K x_a [.type "ValueError", .type "Exception", .type "BaseException", .type "object"] "ValueError.__new__" = true
  x_k : PySem.W.keepIn K (.ref x_a) = true
  x_b : PySem.W.subIn K (.ref x_a) (.type "BaseException") = some true
  x_t : PySem.W.typeIn K (.ref x_a) = some (.type "type")
  x_i : PySem.W.isClsIn K x_a = true
  x_s : PySem.W.subIn K (.ref x_a) (.ref x_a) = some true
  k_NEVER : Tok
  m_NEVER : mg "NEVER" = some (.int 1000000000000 k_NEVER)

section
variable {P : Program} {w : World} {K : PySem.W.Frag} {mg : Str → Option Value} {base : Heap}
/-! ### the draw -/
/-- the cells stay where they are -/
def Cs (p : Addr) (H H' : Hp) : Prop := ∀ c t, H p = some (.lst (.ref c :: t)) → ∃ t', H' p = some (.lst (.ref c :: t'))
theorem Cs.refl (p : Addr) (H : Hp) : Cs p H H := fun _ t e => ⟨t, e⟩
theorem Cs.trans {p : Addr} {H H1 H2 : Hp} (a : Cs p H H1) (b : Cs p H1 H2) : Cs p H H2 := fun c t e => let ⟨t', e'⟩ := a c t e; b c t' e'
theorem Cs.new {p q : Addr} {H : Hp} {o : HO} (h : H q = none) : Cs p H (upd H q o) := fun c t e => ⟨t, by rw [upd_ne (ne_of_none e h)]; exact e⟩
/-- a number from 0 to m - 1, the draw turned -/
def spTake : Sp := fun vs H Q _ => ∃ (p : Addr) (m : Int), vs = [.ref p, .int m] ∧ DrawAt H p ∧ 0 < m ∧ m ≤ 2 ^ 40 ∧ ∀ (r : Int) (H' : Hp), 0 ≤ r → r < m → KeepBut p H H' → Cs p H H' → DrawAt H' p → Q (.int r) H'
theorem ok_z_take (T : Txt K mg) : FnOk P w K mg base CX0 1 T.f_z_take T.d_z_take ["draw", "many"] spTake := by
  refine T.F_z_take.ok sc_z_take (fun vs H Q E h => ?_) (fun cdv A outer s H vs Q E hr h => ?_)
  · obtain ⟨p, m, rfl, _⟩ := h
    rfl
  · obtain ⟨p, m, rfl, ⟨c, cells, pos, rest, seed, D⟩, hm, hm2, q⟩ := h
    have hc0 := D.hp
    refine ⟨_, (pss_cons (ps_cut (ps_if (pt_cmpR op_eq (pe_ix ix_list (pv 0) pe_int (fun _ _ => rfl)) pe_int (nomark _))
        (pss_cons (ps_asg (pe_op op_add (pe_ix ix_list (pv 0) pe_int (fun _ _ => rfl)) pe_int) (pg_sub (pv 0) pe_int set_list))
        (pss_cons (ps_cut (ps_if (pt_cmpR op_lt (pe_ix ix_list (pv 0) pe_int (fun _ _ => rfl)) (pe_callB call_len_seq (by rfl) T.m_len (by decide +kernel) (pa_cons (pe_ix ix_list (pv 0) pe_int (fun _ _ => rfl)) pa_nil)) (nomark _))
          (pss_one (ps_asg (pe_ix ix_list (pe_ix ix_list (pv 0) pe_int (fun _ _ => rfl)) (pe_ix ix_list (pv 0) pe_int (fun _ _ => rfl)) (fun _ _ => rfl)) (pg_sub (pv 0) pe_int set_list)))
          pss_nil))
        (pss_one (ps_if (pt_cmpR op_eq (pe_ix ix_list (pv 0) pe_int (fun _ _ => rfl)) pe_int (nomark _))
          (pss_cons (ps_asg (pe_op op_modN (pe_callTy call_int1 (by rfl) T.m_int (by decide +kernel) (pa_cons (pe_op op_add (pe_op op_mul (pe_ix ix_list (pv 0) pe_int (fun _ _ => rfl)) pe_int) pe_int) pa_nil)) pe_int) (pg_sub (pv 0) pe_int set_list))
          (pss_one (ps_asg (pe_ix ix_list (pv 0) pe_int (fun _ _ => rfl)) (pg_sub (pv 0) pe_int set_list))))
          pss_nil))))
        pss_nil))
      (pss_cons (ps_set (i := 2) sc_z_take.nd rfl (Or.inl rfl) (pe_op op_modN (pe_callTy call_int1 (by rfl) T.m_int (by decide +kernel) (pa_cons (pe_ix ix_list (pv 0) pe_int (fun _ _ => rfl)) pa_nil)) (pv 1)))
      (pss_cons (ps_asg (pe_op op_fdivW (pe_ix ix_list (pv 0) pe_int (fun _ _ => rfl)) (pv 1)) (pg_sub (pv 0) pe_int set_list))
      (pss_one (ps_ret (pv 2)))))), ?_⟩
    refine ⟨fun σ H1 => ∃ pos rest seed, σ = [some (.ref p), some (.int m), none] ∧ DrawIs H1 p c cells pos rest seed ∧ KeepBut p H H1, ?_, ?_⟩
    · -- draw[2] == 0
      refine ⟨_, rfl, _, _, _, _, rfl, rfl, SqL.of D.hp, rfl, rfl, _, rfl, ite2 (fun e => ?_) (fun e => ?_)⟩
      · -- draw[1] = draw[1] + 1
        refine ⟨_, rfl, _, _, _, _, rfl, rfl, SqL.of D.hp, rfl, _, _, rfl, rfl, _, rfl, _, _, _, 1, rfl, rfl, D.hp, rfl, ?_⟩
        have h1 := D.po
        have D1 : DrawIs (upd H p (.lst [.ref c, .int (pos + 1), .int rest, .int seed])) p c cells (pos + 1) rest seed := D.put (by omega) D.re D.s0 D.s1
        have k1 : KeepBut p H (upd H p (.lst [.ref c, .int (pos + 1), .int rest, .int seed])) := .put _ _ _
        refine ⟨fun σ H1 => ∃ rest, σ = [some (.ref p), some (.int m), none] ∧ DrawIs H1 p c cells (pos + 1) rest seed ∧ KeepBut p H H1, ?_, ?_⟩
        · -- draw[1] < len(draw[0])
          refine ⟨_, rfl, _, _, _, _, rfl, rfl, SqL.of D1.hp, rfl, _, rfl, _, _, _, _, rfl, rfl, SqL.of D1.hp, rfl, _, _, rfl, .inl (SqL.of D1.hc), _, _, rfl, rfl, _, rfl, ite2 (fun e => ?_) (fun e => ?_)⟩
          · have e1 : pos + 1 < ((cells.map V.int).length : Int) := of_decide_eq_true e
            rw [List.length_map] at e1
            obtain ⟨n, hn⟩ := int_nat (show 0 ≤ pos + 1 by omega)
            have hn2 : n < cells.length := by omega
            refine ⟨_, rfl, _, _, _, _, rfl, rfl, SqL.of D1.hp, rfl, _, rfl, _, _, _, _, rfl, rfl, SqL.of D1.hp, rfl, _, _, _, .int cells[n], rfl, rfl, SqL.of D1.hc, ?_, _, rfl, _, _, _, 2, rfl, rfl, D1.hp, rfl, ?_⟩
            · rw [hn]
              exact atI_nat (by rw [List.getElem?_map, List.getElem?_eq_getElem hn2]; rfl)
            · exact ⟨_, rfl, D1.put D1.po (D1.nn _ (List.getElem_mem hn2)) D1.s0 D1.s1, k1.trans (.put _ _ _)⟩
          · exact ⟨rest, rfl, D1, k1⟩
        · rintro σ H1 ⟨rest1, rfl, D2, k2⟩
          -- draw[2] == 0
          refine ⟨_, rfl, _, _, _, _, rfl, rfl, SqL.of D2.hp, rfl, rfl, _, rfl, ite2 (fun e => ?_) (fun e => ?_)⟩
          · have s0 := D2.s0
            have s1 := D2.s1
            refine ⟨_, rfl, _, _, _, _, rfl, rfl, SqL.of D2.hp, rfl, _, _, rfl, rfl, .inl ⟨by omega, by omega⟩, _, _, rfl, rfl, .inl ⟨_, rfl, _, _, rfl, rfl, (show (2147483647 : Int) ≠ 0 by decide), _, rfl, _, _, _, 3, rfl, rfl, D2.hp, rfl, ?_⟩⟩
            have f0 : 0 ≤ (seed * 48271 + 11).fmod 2147483647 := fmod_lo (by decide)
            have f1 : (seed * 48271 + 11).fmod 2147483647 < 2147483647 := fmod_hi (by decide)
            have D3 := D2.put (seed' := (seed * 48271 + 11).fmod 2147483647) D2.po D2.re f0 f1
            refine ⟨_, rfl, _, _, _, _, rfl, rfl, SqL.of D3.hp, rfl, _, rfl, _, _, _, 2, rfl, rfl, D3.hp, rfl, ?_⟩
            exact ⟨_, _, _, rfl, D3.put D3.po f0 f0 f1, (k2.trans (.put _ _ _)).trans (.put _ _ _)⟩
          · exact ⟨_, _, _, rfl, D2, k2⟩
      · exact ⟨_, _, _, rfl, D, .refl _ _⟩
    · rintro σ H1 ⟨pos, rest, seed, rfl, D, k⟩
      -- found = int(draw[2]) % many; draw[2] = draw[2] // many
      refine ⟨_, rfl, _, _, _, _, rfl, rfl, SqL.of D.hp, rfl, .inl ⟨_, rfl, _, rfl, _, _, rfl, rfl, (by omega), ?_⟩⟩
      refine ⟨_, rfl, _, _, _, _, rfl, rfl, SqL.of D.hp, rfl, _, rfl, _, _, rfl, rfl, wide_div (b := 41) hm (by omega) (by decide) (by decide), _, rfl, _, _, _, 2, rfl, rfl, D.hp, rfl, ?_⟩
      exact ⟨_, rfl, q _ _ (fmod_lo hm) (fmod_hi hm) (k.trans (.put _ _ _)) (fun c' t e => by rw [hc0] at e; cases e; exact ⟨_, upd_same⟩) ⟨_, _, _, _, _, D.put D.po (div_lo D.re hm) D.s0 D.s1⟩⟩
theorem drawAt_isl {H : Hp} {p : Addr} (D : DrawAt H p) : ∃ xs, H p = some (.lst xs) := by
  obtain ⟨c, cells, pos, rest, seed, d⟩ := D
  exact ⟨_, d.hp⟩
theorem KT.of_but {H H' : Hp} {p : Addr} (D : DrawAt H p) (D' : DrawAt H' p) (k : KeepBut p H H') (cs : Cs p H H') : KT [p] H H' := by
  obtain ⟨xs, e⟩ := (drawAt_isl D)
  obtain ⟨ys, e'⟩ := (drawAt_isl D')
  have ne : ∀ b o, H b = some o → (∀ q, o ≠ .lst q) → b ≠ p := fun b o q n z => by rw [z, e] at q; exact n xs (Option.some.inj q).symm
  refine ⟨fun b o n q => k b o (fun z => n (by rw [z]; exact List.mem_singleton.mpr rfl)) q, fun b xs q => k b _ (ne b _ q fun _ z => by cases z) q, fun b o u q => k b _ (ne b _ q fun _ z => by cases z) q, fun b o q => ?_, fun b c t q => ?_⟩
  rotate_left
  · by_cases z : b = p
    · subst z
      exact cs c t q
    · exact ⟨t, k b _ z q⟩
  by_cases z : b = p
  · exact ⟨_, by rw [z]; exact e'⟩
  · exact ⟨o, k b o z q⟩
/-- the draw is led on: all else stays -/
structure GS (dr : Addr) (H H' : Hp) : Prop where
  k : KT [dr] H H'
  d : DrawAt H' dr
  c : Cs dr H H'
theorem GS.trans {dr : Addr} {H H1 H2 : Hp} (a : GS dr H H1) (b : GS dr H1 H2) : GS dr H H2 := ⟨a.k.trans b.k, b.d, a.c.trans b.c⟩
theorem GS.new {dr p : Addr} {H : Hp} {o : HO} (D : DrawAt H dr) (h : H p = none) : GS dr H (upd H p o) := ⟨KT.new _ h, D.upd h, .new h⟩
theorem GS.refl {dr : Addr} {H : Hp} (D : DrawAt H dr) : GS dr H H := ⟨KT.refl _ _, D, .refl _ _⟩
theorem GS.late {dr p : Addr} {H H1 : Hp} {o : HO} (a : GS dr H H1) (D : DrawAt H dr) (h : H p = none) : GS dr H (upd H1 p o) := by
  obtain ⟨u, e⟩ := D.some
  have n : dr ≠ p := ne_of_none e h
  obtain ⟨c, cells, pos, rest, seed, d⟩ := id D
  have hp1 : H1 p = none ∨ ∃ o', H1 p = some o' := by cases e : H1 p <;> simp
  refine ⟨a.k.late h, ?_, fun c' t e' => ?_⟩
  · obtain ⟨c1, cells1, pos1, rest1, seed1, d1⟩ := a.d
    obtain ⟨t', e1⟩ := a.c _ _ d.hp
    have hc1 : c1 = c := by
      have := d1.hp.symm.trans e1
      simp at this
      exact this.1
    subst hc1
    have nc : c1 ≠ p := fun z => by
      have := d.hc
      rw [z, h] at this
      cases this
    exact ⟨c1, cells1, pos1, rest1, seed1, ⟨by rw [upd_ne n]; exact d1.hp, by rw [upd_ne nc]; exact d1.hc, d1.nn, d1.po, d1.re, d1.s0, d1.s1⟩⟩
  · obtain ⟨t', e1⟩ := a.c c' t e'
    exact ⟨t', by rw [upd_ne n]; exact e1⟩
def spTakeG : Sp := fun vs H Q _ => ∃ (p : Addr) (m : Int), vs = [.ref p, .int m] ∧ DrawAt H p ∧ 0 < m ∧ m ≤ 2 ^ 40 ∧ ∀ (r : Int) (H' : Hp), 0 ≤ r → r < m → GS p H H' → Q (.int r) H'
theorem okG_z_take (T : Txt K mg) : FnOk P w K mg base CX0 1 T.f_z_take T.d_z_take ["draw", "many"] spTakeG :=
  (ok_z_take T).imp fun vs H Q E ⟨p, m, h1, h2, h3, h4, h5⟩ => ⟨p, m, h1, h2, h3, h4, fun r H' r0 r1 k c D => h5 r H' r0 r1 ⟨KT.of_but h2 D k c, D, c⟩⟩
theorem sz1 : (1 : Nat) ≤ sizeLine := by decide
theorem sz2 : (2 : Nat) ≤ sizeLine := by decide
end

section
variable {P : Program} {w : World} {K : PySem.W.Frag} {mg : Str → Option Value} {base : Heap}
def spDraw (K : PySem.W.Frag) : Sp := fun vs H Q _ => ∃ (a : Addr) (ns : List Int), vs = [.ref a] ∧ SqL K H a (ns.map V.int) ∧ ns.length ≤ 63 ∧ ∀ (H' : Hp) (p : Addr), Same H H' → H p = none → DrawAt H' p → Q (.ref p) H'
def absI (i : Int) : Int := if i < 0 then -i else i
theorem absI_nn (i : Int) : 0 ≤ absI i := by
  unfold absI
  split <;> omega
theorem ok_z_draw (T : Txt K mg) : FnOk P w K mg base CX0 1 T.f_z_draw T.d_z_draw ["script"] (spDraw K) := by
  refine T.F_z_draw.ok sc_z_draw (fun vs H Q E h => ?_) (fun cdv A outer s H vs Q E hr h => ?_)
  · obtain ⟨a, ns, rfl, _⟩ := h
    rfl
  · obtain ⟨a, ns, rfl, hS, hlen, q⟩ := h
    have itm : ∀ (i : Nat) (x : V), (ns.map V.int)[i]? = some x → ∃ z, ns[i]? = some z ∧ x = V.int z := fun i x e => by
      rw [List.getElem?_map] at e
      cases e2 : ns[i]? with
      | none => rw [e2] at e; cases e
      | some z => rw [e2] at e; exact ⟨z, rfl, (Option.some.inj e).symm⟩
    refine ⟨_, (pss_cons (ps_set (i := 1) sc_z_draw.nd rfl (Or.inl rfl) pe_int)
      (pss_cons (ps_for PassesOwn.never rfl (pi_list (pv 0)) (pg_name (i := 2) sc_z_draw.nd rfl (Or.inl rfl))
        (pss_one (ps_set (i := 1) sc_z_draw.nd rfl (Or.inl rfl) (pe_op op_modN (pe_callTy call_int1 (by rfl) T.m_int (by decide +kernel) (pa_cons (pe_op op_add (pe_op op_add (pe_op op_mul (pv 1) pe_int) (pe_op op_modN (pe_callB call_abs (by rfl) T.m_abs (by decide +kernel) (pa_cons (pe_callTy call_int1 (by rfl) T.m_int (by decide +kernel) (pa_cons (pv 2) pa_nil)) pa_nil)) pe_int)) pe_int) pa_nil)) pe_int))))
      (pss_one (ps_ret (pe_lst (pa_cons (pe_lc (own := [("cell", 2)]) (g := gName 2) (by rfl) sc_z_draw.nd (pi_list (pv 0)) (blkOk_by (own := [("cell", 2)]) (N := N_z_draw) (sc := defScope s_z_draw) (by decide +kernel)) (fun _ _ _ _ _ => (pg_name (i := 2) sc_z_draw.nd rfl (Or.inl rfl))) (fun _ _ _ _ _ => pts_nil) (fun _ _ _ _ _ => (pe_callB call_abs (by rfl) T.m_abs (by decide +kernel) (pa_cons (pe_callTy call_int1 (by rfl) T.m_int (by decide +kernel) (pa_cons (pv 2) pa_nil)) pa_nil)))) (pa_cons (pe_un un_neg pe_int) (pa_cons pe_int (pa_cons (pv 1) pa_nil))))))))), ?_⟩
    refine ⟨_, rfl, a, rfl, ⟨_, hS⟩, for_list (xs := ns.map V.int) (fun i σ H1 => ∃ (seed : Int) (c : Option V), σ = [some (.ref a), some (.int seed), c] ∧ H1 = H ∧ 0 ≤ seed ∧ seed < 2147483647) ⟨7, none, rfl, rfl, by decide, by decide⟩ ?_ ?_ ?_⟩
    · rintro i σ H1 _ ⟨_, _, _, rfl, _⟩
      exact hS
    · rintro i x σ H1 hx ⟨seed, c, rfl, rfl, s0, s1⟩
      obtain ⟨z, hz, rfl⟩ := itm i x hx
      refine ⟨_, rfl, _, _, rfl, rfl, .inl ⟨by omega, by omega⟩, _, rfl, .inl ⟨_, rfl, _, rfl, _, _, rfl, rfl, (show (65521 : Int) ≠ 0 by decide), _, _, rfl, rfl, _, _, rfl, rfl, .inl ⟨_, rfl, _, _, rfl, rfl, (show (2147483647 : Int) ≠ 0 by decide), ?_⟩⟩⟩
      exact ⟨_, _, rfl, rfl, fmod_lo (by decide), fmod_hi (by decide)⟩
    · rintro σ H1 ⟨seed, c, rfl, rfl, s0, s1⟩
      -- the cells
      refine ⟨_, rfl, a, rfl, ⟨_, hS⟩, fun D hD => lc_list (xs := ns.map V.int) (fun i H2 => ∃ acc : List Int, Same H1 H2 ∧ H2 D = some (.lst (acc.map V.int)) ∧ acc.length = i ∧ ∀ x ∈ acc, 0 ≤ x) ⟨[], same_upd hD, upd_same, rfl, fun _ z => nomatch z⟩ ?_ ?_ ?_⟩
      · rintro i H2 _ ⟨acc, sm, _⟩
        exact sm.seq hS
      · rintro i x H2 hx ⟨acc, sm, hA, hl, hn⟩
        obtain ⟨z, hz, rfl⟩ := itm i x hx
        have hi : i < ns.length := (List.getElem?_eq_some_iff.mp hz).1
        refine ⟨rfl, ⟨_, rfl, .inl ⟨_, rfl, _, rfl, _, hA, small1000 (by rw [List.length_map]; omega), acc ++ [absI z], fun b o e => ?_, ?_, ?_, fun x hx => ?_⟩⟩⟩
        · rw [upd_ne (ne_of_none e hD)]
          exact sm _ _ e
        · rw [upd_same, List.map_append]
          rfl
        · rw [List.length_append, hl]; rfl
        · rcases List.mem_append.mp hx with h | h
          · exact hn x h
          · rw [List.mem_singleton.mp h]
            exact absI_nn z
      · rintro H2 ⟨acc, sm, hA, hl, hn⟩
        refine ⟨_, rfl, _, rfl, (by show 4 ≤ sizeLine; decide), fun p hp => ?_⟩
        refine q _ p (sm.trans (same_upd hp)) (sm.free hp) ⟨D, acc, -1, 0, seed, ⟨upd_same, ?_, hn, by decide, by decide, s0, s1⟩⟩
        rw [upd_ne (ne_of_none hA hp)]
        exact hA
/-! ### the law -/
theorem atI_in {α : Type} {xs : List α} {r : Int} (h0 : 0 ≤ r) (h1 : r < xs.length) : ∃ v, atI xs r = some v ∧ v ∈ xs := by
  obtain ⟨n, rfl⟩ := int_nat h0
  have hn : n < xs.length := by omega
  exact ⟨xs[n], atI_nat (List.getElem?_eq_getElem hn), List.getElem_mem hn⟩
end

/-! ### kinds of values -/
def isIr (lo hi : Int) : PyData → Bool
  | .int i => decide (lo ≤ i) && decide (i ≤ hi)
  | _ => false
def isTupD : PyData → Bool
  | .tuple _ => true
  | _ => false
def isIntD : PyData → Bool
  | .int _ => true
  | .bool _ => true
  | _ => false
def isBoolD : PyData → Bool
  | .bool _ => true
  | _ => false
section
variable {K : PySem.W.Frag} {H : Hp} {v : V} {d : PyData} {Q : VK}
theorem tyx_tup {H : Hp} {a : Addr} {xs : List V} (h : SqT K H a xs) : TyX K H (.ref a) (.type "tuple") := by
  rcases h with (h | ⟨o, h⟩) | ⟨o, _, _, h, c, _⟩
  · exact .base (.tup h)
  · exact .fTuple h
  · exact .kTuple h c
theorem isi_tup (h : Rp K H v d) : ∃ t, TyX K H v t ∧ PySem.W.kitOne K t (.type "tuple") = some (isTupD d) := by
  cases d with
  | none => cases h; exact ⟨_, .base .non, kit_ty (r := false) (by decide +kernel)⟩
  | bool b => cases h; exact ⟨_, .base (.bl b), kit_ty (r := false) (by decide +kernel)⟩
  | int b => cases h; exact ⟨_, .base (.int b), kit_ty (r := false) (by decide +kernel)⟩
  | str b => cases h; exact ⟨_, .base (.str b), kit_ty (r := false) (by decide +kernel)⟩
  | list ds => cases h
  | dict ds => cases h
  | tuple ds =>
    obtain ⟨a, xs, rfl, hs, _⟩ := h.inv
    exact ⟨_, tyx_tup hs, kit_ty (r := true) (by decide +kernel)⟩
theorem isi_int (h : Rp K H v d) : ∃ t, TyX K H v t ∧ PySem.W.kitOne K t (.type "int") = some (isIntD d) := by
  cases d with
  | none => cases h; exact ⟨_, .base .non, kit_ty (r := false) (by decide +kernel)⟩
  | bool b => cases h; exact ⟨_, .base (.bl b), kit_ty (r := true) (by decide +kernel)⟩
  | int b => cases h; exact ⟨_, .base (.int b), kit_ty (r := true) (by decide +kernel)⟩
  | str b => cases h; exact ⟨_, .base (.str b), kit_ty (r := false) (by decide +kernel)⟩
  | list ds => cases h
  | dict ds => cases h
  | tuple ds =>
    obtain ⟨a, xs, rfl, hs, _⟩ := h.inv
    exact ⟨_, tyx_tup hs, kit_ty (r := false) (by decide +kernel)⟩
theorem isi_bool (h : Rp K H v d) : ∃ t, TyX K H v t ∧ PySem.W.kitOne K t (.type "bool") = some (isBoolD d) := by
  cases d with
  | none => cases h; exact ⟨_, .base .non, kit_ty (r := false) (by decide +kernel)⟩
  | bool b => cases h; exact ⟨_, .base (.bl b), kit_ty (r := true) (by decide +kernel)⟩
  | int b => cases h; exact ⟨_, .base (.int b), kit_ty (r := false) (by decide +kernel)⟩
  | str b => cases h; exact ⟨_, .base (.str b), kit_ty (r := false) (by decide +kernel)⟩
  | list ds => cases h
  | dict ds => cases h
  | tuple ds =>
    obtain ⟨a, xs, rfl, hs, _⟩ := h.inv
    exact ⟨_, tyx_tup hs, kit_ty (r := false) (by decide +kernel)⟩
end
def spWhK (K : PySem.W.Frag) : Sp := fun vs H Q _ => ∃ (v : V) (d : PyData), vs = [v] ∧ Rp K H v d ∧ Q (.bl (isIntD d && !isBoolD d)) H
def spIsI (K : PySem.W.Frag) : Sp := fun vs H Q _ => ∃ (v : V) (lo hi : Int) (d : PyData), vs = [v, .int lo, .int hi] ∧ Rp K H v d ∧ Q (.bl (isIr lo hi d)) H
section
variable {P : Program} {w : World} {K : PySem.W.Frag} {mg : Str → Option Value} {base : Heap}
theorem ok_is_whole (T : Txt K mg) : FnOk P w K mg base CX0 1 T.f_is_whole T.d_is_whole ["value"] (spWhK K) := by
  refine T.F_is_whole.ok sc_is_whole (fun vs H Q E h => ?_) (fun cdv A outer s H vs Q E hr h => ?_)
  · obtain ⟨v, d, rfl, _⟩ := h
    rfl
  · obtain ⟨v, d, rfl, hv, q⟩ := h
    refine ⟨_, (pss_one (ps_ret (pe_and (pe_callB call_isi (by rfl) T.m_isinstance (by decide +kernel) (pa_cons (pv 0) (pa_cons (pe_bltn (v := .ty "int") (by rfl) T.m_int (by decide +kernel) rfl) pa_nil))) (pe_one (pe_not (pe_callB call_isi (by rfl) T.m_isinstance (by decide +kernel) (pa_cons (pv 0) (pa_cons (pe_bltn (v := .ty "bool") (by rfl) T.m_bool (by decide +kernel) rfl) pa_nil)))))))), ?_⟩
    obtain ⟨t1, y1, k1⟩ := isi_int hv
    obtain ⟨t2, y2, k2⟩ := isi_bool hv
    refine ⟨_, rfl, _, _, _, _, _, rfl, .ty "int", y1, k1, _, rfl, ?_⟩
    cases d with
    | none => exact ite_f (fun z => by cases z) q
    | str b => exact ite_f (fun z => by cases z) q
    | list ds => cases hv
    | dict ds => cases hv
    | tuple ds => exact ite_f (fun z => by cases z) q
    | bool b => exact ite_t rfl ⟨_, rfl, _, _, _, _, _, rfl, .ty "bool", y2, k2, _, rfl, q⟩
    | int b => exact ite_t rfl ⟨_, rfl, _, _, _, _, _, rfl, .ty "bool", y2, k2, _, rfl, q⟩
theorem ok_is_integer (T : Txt K mg) : FnOk P w K mg base CX0 2 T.f_is_integer T.d_is_integer ["value", "low", "high"] (spIsI K) := by
  have G_is_whole := ok_is_whole (P := P) (w := w) (base := base) T
  refine T.F_is_integer.ok sc_is_integer (fun vs H Q E h => ?_) (fun cdv A outer s H vs Q E hr h => ?_)
  · obtain ⟨v, lo, hi, d, rfl, _⟩ := h
    rfl
  · obtain ⟨v, lo, hi, d, rfl, hv, q⟩ := h
    refine ⟨_, (pss_one (ps_ret (pe_and (pe_call G_is_whole (hr.mono (by omega)) (by rfl) T.g_is_whole T.F_is_whole.kp T.b_is_whole .nil pass0 (pa_cons (pv 0) pa_nil)) (pe_one (pe_chain op_le op_le (pv 1) (pv 0) (pv 2)))))), ?_⟩
    refine ⟨_, rfl, v, d, rfl, hv, _, rfl, ?_⟩
    cases d with
    | none => exact ite_f (fun z => by cases z) q
    | str b => exact ite_f (fun z => by cases z) q
    | list ds => cases hv
    | dict ds => cases hv
    | tuple ds => exact ite_f (fun z => by cases z) q
    | bool b => exact ite_f (fun z => by cases z) q
    | int b =>
      cases hv
      refine ite_t rfl ?_
      refine ⟨_, rfl, _, rfl, _, _, rfl, rfl, _, rfl, ?_⟩
      have q : Q (.bl (decide (lo ≤ b) && decide (b ≤ hi))) H := q
      by_cases h : lo ≤ b
      · rw [decide_eq_true h, Bool.true_and] at q
        exact ite_t (decide_eq_true h) ⟨_, rfl, _, _, rfl, rfl, q⟩
      · rw [decide_eq_false h, Bool.false_and] at q
        exact ite_f (by rw [decide_eq_false h]; decide) q
end

end My

set_option Elab.async false
set_option linter.all false
set_option maxRecDepth 100000
namespace My
open PySem PySem.Spec PyProof.Rows L2
/-! ### the program's pebbles -/
def kvB (ks : List Int) : List (L2.Key × V) := ks.map fun k => (Sum.inl k, V.bl true)
theorem kvB_val (ks : List Int) (k : Int) : valV (kvB ks) (Sum.inl k) = if k ∈ ks then some (V.bl true) else none := by
  unfold valV kvB
  rw [List.find?_map]
  by_cases h : k ∈ ks
  · rw [if_pos h]
    cases e : ks.find? ((fun kv : L2.Key × V => decide (kv.1 = Sum.inl k)) ∘ fun k => (Sum.inl k, V.bl true)) with
    | none =>
      have := List.find?_eq_none.mp e k h
      exact absurd (decide_eq_true rfl) this
    | some x => rfl
  · rw [if_neg h]
    have : ks.find? ((fun kv : L2.Key × V => decide (kv.1 = Sum.inl k)) ∘ fun k => (Sum.inl k, V.bl true)) = none := by
      rw [List.find?_eq_none]
      intro x hx z
      have z : (Sum.inl x : L2.Key) = Sum.inl k := of_decide_eq_true z
      exact h (by rw [← Sum.inl.inj z]; exact hx)
    rw [this]
    rfl
theorem kvB_put {ks : List Int} {k : Int} (h : k ∉ ks) : putK (kvB ks) (Sum.inl k) (V.bl true) = kvB (ks ++ [k]) := by
  unfold putK
  have : kvB (ks ++ [k]) = kvB ks ++ [(Sum.inl k, V.bl true)] := by
    unfold kvB
    rw [List.map_append]
    rfl
  rw [this]
  refine if_neg fun z => ?_
  obtain ⟨x, hx, e⟩ := List.any_eq_true.mp z
  obtain ⟨p, hp, rfl⟩ := List.mem_map.mp hx
  have e : (Sum.inl p : L2.Key) = Sum.inl k := of_decide_eq_true e
  exact h (by rw [← Sum.inl.inj e]; exact hp)
theorem kvB_drop (ks : List Int) (k : Int) : dropK (kvB ks) (Sum.inl k) = kvB (ks.filter fun x => decide (x ≠ k)) := by
  unfold dropK kvB
  rw [List.filter_map]
  congr 1
  refine List.filter_congr fun x _ => ?_
  by_cases h : x = k
  · subst h
    show decide ((Sum.inl x : L2.Key) ≠ Sum.inl x) = _
    rw [decide_eq_false (fun z => z rfl), decide_eq_false (fun z => z rfl)]
  · rw [decide_eq_true h]
    exact decide_eq_true fun z => h (Sum.inl.inj z)
def spPebb : Sp := fun vs H Q _ => ∃ (a : Addr) (n room : Int) (ms : List Int), vs = [.int n, .int room, .ref a] ∧ 1 ≤ n ∧ n ≤ 1000 ∧ 0 ≤ room ∧ room ≤ 1000 ∧ ms.length ≤ 100000 ∧ H a = some (.lst (ms.map V.int)) ∧ ∀ H', KT [] H H' → Q (.bl (walkF n room ms)) H'
section
variable {P : Program} {w : World} {K : PySem.W.Frag} {mg : Str → Option Value} {base : Heap}
set_option maxHeartbeats 4000000 in
theorem ok_is_pebbling (T : Txt K mg) : FnOk P w K mg base CX0 3 T.f_is_pebbling T.d_is_pebbling ["n", "room", "moves"] spPebb := by
  have G_is_integer := ok_is_integer (P := P) (w := w) (base := base) T
  refine T.F_is_pebbling.ok sc_is_pebbling (fun vs H Q E h => ?_) (fun cdv A outer s H vs Q E hr h => ?_)
  · obtain ⟨a, n, room, ms, rfl, _⟩ := h
    rfl
  · obtain ⟨a, n, room, ms, rfl, hn1, hn, hr0, hr1, hlm, ha, q⟩ := h
    refine ⟨_, (pss_cons (ps_set (i := 3) sc_is_pebbling.nd rfl (Or.inl rfl) (pe_disp (pps_cons pe_int pe_bl pps_nil) (by rfl) (by rfl) (fun z => by cases z) (by decide)))
      (pss_cons (ps_for PassesOwn.never rfl (pi_list (pv 2)) (pg_name (i := 4) sc_is_pebbling.nd rfl (Or.inl rfl))
        (pss_cons (ps_if (PW.pt (pw_or (pt_not (pt_val (pe_call G_is_integer (hr.mono (by omega)) (by rfl) T.g_is_integer T.F_is_integer.kp T.b_is_integer .nil pass0 (pa_cons (pv 4) (pa_cons (pe_un un_neg (pv 0)) (pa_cons (pv 0) pa_nil)))))) (pw_or1 (pt_cmp (pc_dnotin (hu_of hr) (pe_op op_sub (pe_callB call_abs (by rfl) T.m_abs (by decide +kernel) (pa_cons (pv 4) pa_nil)) pe_int) (pv 3))))))
          (pss_one (ps_ret pe_bl))
          pss_nil)
        (pss_cons (ps_if (pt_cmpR op_eq (pe_cmpR op_gt (pv 4) pe_int (nomark _)) (pe_cmp (pc_din (hu_of hr) (pe_callB call_abs (by rfl) T.m_abs (by decide +kernel) (pa_cons (pv 4) pa_nil)) (pv 3)) rfl) (nomark _))
          (pss_one (ps_ret pe_bl))
          pss_nil)
        (pss_cons (ps_cut (ps_if (pt_cmpR op_gt (pv 4) pe_int (nomark _))
          (pss_one (ps_dput (hu_of hr) (pv 3) (pv 4) pe_bl rfl))
          (pss_one (ps_ddel (pv 3) (pe_un un_neg (pv 4))))))
        (pss_one (ps_if (pt_cmpR op_gt (pe_op op_sub (pe_callB call_lenD (by rfl) T.m_len (by decide +kernel) (pa_cons (pv 3) pa_nil)) pe_int) (pv 1) (nomark _))
          (pss_one (ps_ret pe_bl))
          pss_nil))))))
      (pss_one (ps_ret (pe_and (pe_cmpR op_eq (pe_callB call_lenD (by rfl) T.m_len (by decide +kernel) (pa_cons (pv 3) pa_nil)) pe_int (nomark _)) (pe_one (pe_cmp (pc_din (hu_of hr) (pv 0) (pv 3)) rfl))))))), ?_⟩
    refine fun W nW => ?_
    have haW : a ≠ W := ne_of_none ha nW
    refine ⟨upd_same, [(Sum.inl 0, V.bl true)], rfl, by decide, ?_⟩
    have em : mergeK [] [((Sum.inl 0 : L2.Key), V.bl true)] = kvB [0] := by kernel_rfl
    rw [em]
    have k0 : KT [] H (upd (upd H W (.dK [])) W (.dK (kvB [0]))) := (KT.new [] nW).late nW
    have hW0 : (upd (upd H W (.dK [])) W (.dK (kvB [0]))) W = some (.dK (kvB [0])) := upd_same
    generalize upd (upd H W (.dK [])) W (.dK (kvB [0])) = H0 at k0 hW0 ⊢
    refine ⟨_, rfl, a, rfl, ⟨_, SqL.of (k0.kp _ _ (by simp) ha)⟩, ?_⟩
    refine for_it (walk_list (K := K) (a := a) (xs := ms.map V.int)) (fun i σ H1 => ∃ (x4 : Option V) (st : List Int), σ = [some (.int n), some (.int room), some (.ref a), some (.ref W), x4] ∧ KT [] H H1 ∧ H1 W = some (.dK (kvB (0 :: st))) ∧ foldW n room (ms.take i) [] = some st ∧ StOk n st ∧ (st.length : Int) ≤ room) ?_ ?_ ?_ ?_
    · exact ⟨none, [], rfl, k0, hW0, rfl, ⟨List.nodup_nil, fun x h => nomatch h⟩, hr0⟩
    · rintro i σ H1 _ ⟨_, _, _, k, _⟩
      exact SqL.of (k.kp _ _ (by simp) ha)
    · rintro i x σ H1 H2 hi ⟨x4, st, rfl, k, hW, hf, hst, hlst⟩ ⟨rfl, hx⟩
      obtain ⟨m, hm, rfl⟩ : ∃ m, ms[i]? = some m ∧ x = .int m := by
        rw [List.getElem?_map] at hx
        cases e : ms[i]? with
        | none => rw [e] at hx; cases hx
        | some m => rw [e] at hx; exact ⟨m, rfl, (Option.some.inj hx).symm⟩
      have stop : stepW n room st m = none → Q (.bl false) H2 := fun hs => by
        have := q H2 k
        rw [fold_stop hm hf hs] at this
        exact this
      have next := fold_next hm hf
      refine ⟨_, rfl, _, rfl, _, rfl, _, rfl, ?_⟩
      refine ⟨_, _, _, _, rfl, .int m, _, rfl, ?_⟩
      have eI : isIr (-n) n (.int m) = (decide (-n ≤ m) && decide (m ≤ n)) := rfl
      rw [eI]
      have e1 : ∀ {c : Prop} [Decidable c], (¬ c) → (if (true : Bool) = false then c else c) = c := fun _ => by simp
      clear e1
      by_cases h1 : -n ≤ m ∧ m ≤ n
      · rw [decide_eq_true h1.1, decide_eq_true h1.2]
        refine (if_neg (by decide)).mpr ?_
        refine ⟨_, rfl, m, rfl, _, _, rfl, rfl, _, rfl, W, _, rfl, DGet.k (k := Sum.inl _) hW, _, rfl, ?_⟩
        have eabs : (if m < 0 then -m else m) = (m.natAbs : Int) := by split <;> omega
        rw [eabs, kvB_val]
        by_cases h2 : (m.natAbs : Int) - 1 ∈ 0 :: st
        · rw [if_pos h2]
          refine (if_neg (by decide)).mpr ?_
          refine ⟨_, rfl, _, _, rfl, rfl, _, rfl, m, rfl, _, rfl, W, _, rfl, DGet.k (k := Sum.inl _) hW, rfl, _, rfl, ?_⟩
          rw [eabs, kvB_val]
          have hb : 1 ≤ (m.natAbs : Int) ∧ (m.natAbs : Int) ≤ n := by
            rcases List.mem_cons.mp h2 with z | z
            · omega
            · have := (hst.pos _ z).1
              omega
          have c1 : ¬ (¬ (1 ≤ (m.natAbs : Int) ∧ (m.natAbs : Int) ≤ n) ∨ ((m.natAbs : Int) > 1 ∧ (m.natAbs : Int) - 1 ∉ st)) := by
            rintro (z | ⟨z1, z2⟩)
            · exact z hb
            · rcases List.mem_cons.mp h2 with y | y
              · omega
              · exact z2 y
          have em2 : ((m.natAbs : Int) ∈ 0 :: st) ↔ (m.natAbs : Int) ∈ st := by
            rw [List.mem_cons]
            exact ⟨fun z => z.resolve_left (by omega), .inr⟩
          have ebl : ∀ (b : Bool), decide (V.bl (decide (0 < m)) = V.bl b) = decide (decide (m > 0) = b) := fun b => by
            by_cases z : decide (m > 0) = b
            · rw [decide_eq_true z]
              exact decide_eq_true (by rw [← z])
            · rw [decide_eq_false z]
              exact decide_eq_false fun y => z (V.bl.inj y)
          have eo : (if (m.natAbs : Int) ∈ 0 :: st then some (V.bl true) else none).isSome = decide ((m.natAbs : Int) ∈ st) := by
            by_cases z : (m.natAbs : Int) ∈ st
            · rw [if_pos (em2.mpr z), decide_eq_true z]
              rfl
            · rw [if_neg (fun y => z (em2.mp y)), decide_eq_false z]
              rfl
          rw [eo, ebl]
          by_cases h3 : decide (m > 0) = decide ((m.natAbs : Int) ∈ st)
          · rw [decide_eq_true h3]
            refine (if_pos rfl).mpr ?_
            refine stop ?_
            unfold stepW
            rw [if_neg c1, if_pos h3]
          · rw [decide_eq_false h3]
            refine (if_neg (by decide)).mpr ?_
            have hstep : stepW n room st m = if ((newSt st m).length : Int) > room then none else some (newSt st m) := by
              unfold stepW
              rw [if_neg c1, if_neg h3]
            refine ⟨fun σ' H' => σ' = [some (.int n), some (.int room), some (.ref a), some (.ref W), some (.int m)] ∧ KT [] H H' ∧ H' W = some (.dK (kvB (0 :: newSt st m))), ?_, ?_⟩
            · refine ⟨_, rfl, _, _, rfl, rfl, _, rfl, ite2 (fun e => ?_) (fun e => ?_)⟩
              · have hm0 : m > 0 := of_decide_eq_true e
                have hn0 : (m.natAbs : Int) ∉ st := fun z => h3 (by rw [decide_eq_true hm0, decide_eq_true z])
                have hmm : (m.natAbs : Int) = m := by omega
                have hlen : (kvB (0 :: st)).length < sizeLine := by
                  unfold kvB
                  rw [List.length_map, List.length_cons]
                  exact Nat.lt_of_le_of_lt (by omega : _ ≤ 2000) (by decide)
                refine ⟨_, rfl, _, rfl, W, _, rfl, DPut.k (k := Sum.inl m) hW hlen, rfl, k.late nW, ?_⟩
                rw [upd_same]
                have hnm : m ∉ 0 :: st := fun z => by
                  rcases List.mem_cons.mp z with y | y
                  · omega
                  · exact hn0 (by rw [hmm]; exact y)
                rw [kvB_put hnm]
                unfold newSt
                rw [if_pos hm0, hmm]
                rfl
              · have hm0 : ¬ m > 0 := fun z => e (decide_eq_true z)
                have hn0 : (m.natAbs : Int) ∈ st := Decidable.byContradiction fun z => h3 (by rw [decide_eq_false hm0, decide_eq_false z])
                have hmm : (m.natAbs : Int) = -m := by omega
                refine ⟨_, rfl, _, rfl, _, rfl, W, _, Sum.inl (-m), rfl, hW, rfl, ?_, rfl, k.late nW, ?_⟩
                · rw [kvB_val, if_pos (List.mem_cons_of_mem _ (by rw [← hmm]; exact hn0))]
                  rfl
                rw [upd_same, kvB_drop, ← hmm]
                unfold newSt
                rw [if_neg hm0]
                have : (0 :: st).filter (fun x => decide (x ≠ (m.natAbs : Int))) = 0 :: st.filter (fun x => decide (x ≠ (m.natAbs : Int))) := by
                  rw [List.filter_cons, if_pos (decide_eq_true (by omega))]
                rw [this]
            · rintro σ' H' ⟨rfl, k', hW'⟩
              have hl1 : (((kvB (0 :: newSt st m)).length : Nat) : Int) - 1 = (newSt st m).length := by
                unfold kvB
                rw [List.length_map, List.length_cons]
                omega
              refine ⟨_, rfl, W, _, rfl, hW', _, _, rfl, rfl, _, rfl, _, _, rfl, rfl, _, rfl, ?_⟩
              rw [hl1]
              by_cases h4 : ((newSt st m).length : Int) > room
              · refine (if_pos (decide_eq_true h4)).mpr ?_
                have hs : stepW n room st m = none := by rw [hstep, if_pos h4]
                have := q H' k'
                rw [fold_stop hm hf hs] at this
                exact this
              · refine (if_neg (by rw [decide_eq_false h4]; decide)).mpr ?_
                have hs : stepW n room st m = some (newSt st m) := by rw [hstep, if_neg h4]
                obtain ⟨o1, o2⟩ := stepW_ok hst hs
                exact ⟨_, newSt st m, rfl, k', hW', by rw [next, hs], o1, o2⟩
        · rw [if_neg h2]
          refine (if_pos (by decide)).mpr ?_
          refine stop ?_
          unfold stepW
          refine if_pos ?_
          by_cases z : (m.natAbs : Int) = 0
          · exact .inl fun y => by omega
          · refine .inr ⟨?_, fun y => h2 (List.mem_cons_of_mem _ y)⟩
            have : (m.natAbs : Int) - 1 ≠ 0 := fun y => h2 (by rw [y]; exact List.mem_cons_self)
            omega
      · have eF : (decide (-n ≤ m) && decide (m ≤ n)) = false := by
          rw [Bool.and_eq_false_iff]
          by_cases z : -n ≤ m
          · exact .inr (decide_eq_false fun y => h1 ⟨z, y⟩)
          · exact .inl (decide_eq_false z)
        rw [eF]
        refine (if_pos (by decide)).mpr ?_
        refine (if_pos rfl).mpr ?_
        refine stop ?_
        unfold stepW
        exact if_pos (.inl fun z => h1 (by omega))
    · rintro σ H1 ⟨x4, st, rfl, k, hW, hf, hst, hlst⟩
      rw [List.length_map, List.take_length] at hf
      have hr : walkF n room ms = decide (st = [n]) := by unfold walkF; rw [hf]
      have q1 := q H1 k
      rw [hr] at q1
      have hl1 : (((kvB (0 :: st)).length : Nat) : Int) = st.length + 1 := by
        unfold kvB
        rw [List.length_map, List.length_cons]
        omega
      refine ⟨_, rfl, W, _, rfl, hW, rfl, _, rfl, ?_⟩
      rw [hl1]
      by_cases h5 : st.length = 1
      · have e5 : ((st.length : Nat) : Int) + 1 = 2 := by omega
        rw [e5]
        refine (if_pos (by decide)).mpr ?_
        refine ⟨_, rfl, _, rfl, W, _, rfl, DGet.k (k := Sum.inl n) hW, ?_⟩
        rw [kvB_val]
        have e6 : (if n ∈ 0 :: st then some (V.bl true) else none).isSome = decide (st = [n]) := by
          match st, h5 with
          | [x], _ =>
            by_cases z : x = n
            · subst z
              rw [if_pos (by simp), decide_eq_true rfl]
              rfl
            · rw [if_neg (fun y => ?_), decide_eq_false (fun y => z (List.cons.inj y).1)]
              · rfl
              · rcases List.mem_cons.mp y with y | y
                · omega
                · exact z (List.mem_singleton.mp y).symm
        rw [e6]
        exact q1
      · refine (if_neg (by rw [decide_eq_false (fun z => h5 (by have := V.int.inj z; omega))]; decide)).mpr ?_
        rw [decide_eq_false (fun z => h5 (by rw [z]; rfl))] at q1
        exact q1
end

end My

set_option Elab.async false
set_option linter.all false
set_option maxRecDepth 100000
namespace My
open PySem PySem.Spec PyProof.Rows L2
/-! ### lists of numbers as data -/
theorem flat_ints : ∀ xs : List Int, (xs.map V.int).all flatV = true
  | [] => rfl
  | x :: r => by rw [List.map_cons, List.all_cons, flat_ints r]; rfl
theorem inV_ints (x : Int) : ∀ xs : List Int, inV (V.int x) (xs.map V.int) = decide (x ∈ xs)
  | [] => by simp [inV]
  | y :: r => by
    have ih := inV_ints x r
    have e : inV (V.int x) ((y :: r).map V.int) = (eqV (V.int y) (V.int x) || inV (V.int x) (r.map V.int)) := rfl
    rw [e, ih]
    have : eqV (V.int y) (V.int x) = decide (x = y) := by
      show decide (y = x) = _
      by_cases h : x = y
      · rw [h]
      · rw [decide_eq_false h, decide_eq_false (fun z => h z.symm)]
    rw [this]
    by_cases h : x = y <;> simp [h]
theorem dp_ints {K : PySem.W.Frag} {H : Hp} : ∀ xs : List Int, DpAll K H (xs.map V.int) (xs.map PyData.int)
  | [] => .nil
  | x :: r => .cons (.int x) (dp_ints r)
theorem lay_ints : ∀ xs : List Int, PyData.canLayAll0 (xs.map PyData.int) = true
  | [] => rfl
  | x :: r => by
    show (PyData.canLay0 (.int x) && PyData.canLayAll0 (r.map PyData.int)) = true
    rw [lay_ints r]
    rfl
theorem deep_ints : ∀ xs : List Int, PyData.depthAll (xs.map PyData.int) = 0
  | [] => rfl
  | x :: r => by
    show max (PyData.depth (.int x)) (PyData.depthAll (r.map PyData.int)) = 0
    rw [deep_ints r]
    rfl
theorem shaped_ints (xs : List Int) : SeqAt.shaped (.list (xs.map PyData.int)) = true := by
  unfold SeqAt.shaped
  rw [Bool.and_eq_true]
  refine ⟨lay_ints xs, decide_eq_true ?_⟩
  show PyData.depthAll (xs.map PyData.int) + 1 ≤ 64
  rw [deep_ints]
  decide
theorem eqv_all_ints : ∀ xs ys : List Int, PyData.eqvAll (xs.map PyData.int) (ys.map PyData.int) = decide (xs = ys)
  | [], [] => rfl
  | [], _ :: _ => rfl
  | _ :: _, [] => rfl
  | x :: r, y :: s => by
    show ((x == y) && PyData.eqvAll (r.map PyData.int) (s.map PyData.int)) = _
    rw [eqv_all_ints r s]
    by_cases h : x = y
    · subst h
      simp
    · rw [beq_eq_false_iff_ne.mpr h, decide_eq_false (fun z => h (List.cons.inj z).1)]
      rfl
theorem eqv_ints (xs ys : List Int) : PyData.eqv (.list (xs.map PyData.int)) (.list (ys.map PyData.int)) = decide (xs = ys) := eqv_all_ints xs ys

section
variable {P : Program} {w : World} {K : PySem.W.Frag} {mg : Str → Option Value} {base : Heap}
set_option maxHeartbeats 4000000 in
theorem ok_z_walk (T : Txt K mg) : FnOk P w K mg base CX0 1 T.f_z_walk T.d_z_walk ["n", "room", "moves"] spPebb := by
  refine T.F_z_walk.ok sc_z_walk (fun vs H Q E h => ?_) (fun cdv A outer s H vs Q E hr h => ?_)
  · obtain ⟨a, n, room, ms, rfl, _⟩ := h
    rfl
  · obtain ⟨a, n, room, ms, rfl, hn1, hn, hr0, hr1, hlm, ha, q⟩ := h
    refine ⟨_, (pss_cons (ps_set (i := 3) sc_z_walk.nd rfl (Or.inl rfl) (pe_lst pa_nil))
      (pss_cons (ps_for PassesOwn.never rfl (pi_list (pv 2)) (pg_name (i := 4) sc_z_walk.nd rfl (Or.inl rfl))
        (pss_cons (ps_set (i := 5) sc_z_walk.nd rfl (Or.inr rfl) (pe_callB call_abs (by rfl) T.m_abs (by decide +kernel) (pa_cons (pv 4) pa_nil)))
        (pss_cons (ps_if (pt_cut (PW.pt (pw_or (pt_not (pt_chain op_le op_le pe_int (pv 5) (pv 0))) (pw_or1 (PW.pt (pw_and (pt_cmpR op_gt (pv 5) pe_int (nomark _)) (pw_and1 (pt_cmpR op_notIn_seq (pe_op op_sub (pv 5) pe_int) (pv 3) (by rfl)))))))))
          (pss_one (ps_ret pe_bl))
          pss_nil)
        (pss_cons (ps_if (pt_cmpR op_eq (pe_cmpR op_gt (pv 4) pe_int (nomark _)) (pe_cmpR op_in_seq (pv 5) (pv 3) (by rfl)) (nomark _))
          (pss_one (ps_ret pe_bl))
          pss_nil)
        (pss_cons (ps_set (i := 3) sc_z_walk.nd rfl (Or.inl rfl) (pe_cut (pe_ifExp (pt_cmpR op_gt (pv 4) pe_int (nomark _)) (pe_op op_cat (pv 3) (pe_lst (pa_cons (pv 5) pa_nil))) (pe_lc (own := [("other", 6)]) (g := gName 6) (by rfl) sc_z_walk.nd (pi_list (pv 3)) (blkOk_by (own := [("other", 6)]) (N := N_z_walk) (sc := defScope s_z_walk) (by decide +kernel)) (fun _ _ _ _ _ => (pg_name (i := 6) sc_z_walk.nd rfl (Or.inl rfl))) (fun _ _ _ _ _ => (pts_one (pt_cmpR op_ne (pv 6) (pv 5) (nomark _)))) (fun _ _ _ _ _ => (pv 6))))))
        (pss_one (ps_if (pt_cmpR op_gt (pe_callB call_len_seq (by rfl) T.m_len (by decide +kernel) (pa_cons (pv 3) pa_nil)) (pv 1) (nomark _))
          (pss_one (ps_ret pe_bl))
          pss_nil)))))))
      (pss_one (ps_ret (pe_cmpR (op_eqD hr.units) (pv 3) (pe_lst (pa_cons (pv 0) pa_nil)) (nomark _)))))), ?_⟩
    refine ⟨Nat.zero_le _, fun S0 nS0 => ?_⟩
    have k0 : KT [] H (upd H S0 (.lst [])) := KT.new [] nS0
    have hS0 : (upd H S0 (.lst [])) S0 = some (.lst (([] : List Int).map V.int)) := upd_same
    generalize upd H S0 (.lst []) = H0 at k0 hS0 ⊢
    refine ⟨_, rfl, a, rfl, ⟨_, SqL.of (k0.kp _ _ (by simp) ha)⟩, ?_⟩
    refine for_it (walk_list (K := K) (a := a) (xs := ms.map V.int)) (fun i σ H1 => ∃ (x4 x5 : Option V) (S : Addr) (st : List Int), σ = [some (.int n), some (.int room), some (.ref a), some (.ref S), x4, x5, none] ∧ KT [] H H1 ∧ H1 S = some (.lst (st.map V.int)) ∧ foldW n room (ms.take i) [] = some st ∧ StOk n st ∧ (st.length : Int) ≤ room) ?_ ?_ ?_ ?_
    · exact ⟨none, none, S0, [], rfl, k0, hS0, rfl, ⟨List.nodup_nil, fun x h => nomatch h⟩, hr0⟩
    · rintro i σ H1 _ ⟨_, _, _, _, _, k, _⟩
      exact SqL.of (k.kp _ _ (by simp) ha)
    · rintro i x σ H1 H2 hi ⟨x4, x5, S, st, rfl, k, hS, hf, hst, hlst⟩ ⟨rfl, hx⟩
      obtain ⟨m, hm, rfl⟩ : ∃ m, ms[i]? = some m ∧ x = .int m := by
        rw [List.getElem?_map] at hx
        cases e : ms[i]? with
        | none => rw [e] at hx; cases hx
        | some m => rw [e] at hx; exact ⟨m, rfl, (Option.some.inj hx).symm⟩
      have stop : stepW n room st m = none → Q (.bl false) H2 := fun hs => by
        have := q H2 k
        rw [fold_stop hm hf hs] at this
        exact this
      have next := fold_next hm hf
      have eabs : (if m < 0 then -m else m) = (m.natAbs : Int) := by split <;> omega
      refine ⟨_, rfl, m, rfl, ?_⟩
      rw [eabs]
      obtain ⟨pl, hpl⟩ : ∃ pl : Int, (m.natAbs : Int) = pl := ⟨_, rfl⟩
      have hp0 : 0 ≤ pl := by omega
      have hp1 : pl = m ∨ pl = -m := by omega
      rw [hpl]
      refine ⟨fun b H' => b = decide (¬ (1 ≤ pl ∧ pl ≤ n) ∨ (pl > 1 ∧ pl - 1 ∉ st)) ∧ H' = H2, ?_, ?_⟩
      · refine ⟨_, rfl, _, _, rfl, rfl, _, rfl, ?_⟩
        by_cases ha1 : 1 ≤ pl
        · refine (if_pos (decide_eq_true ha1)).mpr ?_
          refine ⟨_, rfl, _, _, rfl, rfl, _, rfl, ?_⟩
          by_cases ha2 : pl ≤ n
          · rw [decide_eq_true ha2]
            refine (if_neg (by decide)).mpr ?_
            refine ⟨_, rfl, _, _, rfl, rfl, _, rfl, ?_⟩
            by_cases ha3 : 1 < pl
            · refine (if_pos (decide_eq_true ha3)).mpr ?_
              refine ⟨_, rfl, _, _, rfl, rfl, _, rfl, S, _, rfl, .inl (SqL.of hS), rfl, flat_ints _, _, rfl, ?_, rfl⟩
              rw [inV_ints]
              by_cases ha4 : pl - 1 ∈ st
              · rw [decide_eq_true ha4, decide_eq_false (fun z => z.elim (fun y => y ⟨ha1, ha2⟩) fun y => y.2 ha4)]
                rfl
              · rw [decide_eq_false ha4, decide_eq_true (.inr ⟨ha3, ha4⟩)]
                rfl
            · refine (if_neg (by rw [decide_eq_false ha3]; decide)).mpr ?_
              exact ⟨(decide_eq_false (fun z => z.elim (fun y => y ⟨ha1, ha2⟩) fun y => ha3 y.1)).symm, rfl⟩
          · rw [decide_eq_false ha2]
            refine (if_pos (by decide)).mpr ?_
            exact ⟨(decide_eq_true (.inl fun z => ha2 z.2)).symm, rfl⟩
        · refine (if_neg (by rw [decide_eq_false ha1]; decide)).mpr ?_
          refine ⟨_, rfl, ?_⟩
          refine (if_pos rfl).mpr ?_
          exact ⟨(decide_eq_true (.inl fun z => ha1 z.1)).symm, rfl⟩
      · rintro b H' ⟨rfl, rfl⟩
        by_cases c1 : ¬ (1 ≤ pl ∧ pl ≤ n) ∨ (pl > 1 ∧ pl - 1 ∉ st)
        · refine (if_pos (decide_eq_true c1)).mpr ?_
          refine stop ?_
          unfold stepW
          rw [hpl]
          exact if_pos c1
        · refine (if_neg (by rw [decide_eq_false c1]; decide)).mpr ?_
          refine ⟨_, rfl, _, _, rfl, rfl, _, rfl, _, rfl, S, _, rfl, .inl (SqL.of hS), rfl, flat_ints _, rfl, _, rfl, ?_⟩
          rw [inV_ints]
          have ebl : decide (V.bl (decide (0 < m)) = V.bl (if false = true then !decide (pl ∈ st) else decide (pl ∈ st))) = decide (decide (m > 0) = decide (pl ∈ st)) := by
            rw [if_neg (by decide)]
            by_cases z : decide (m > 0) = decide (pl ∈ st)
            · rw [decide_eq_true z]
              exact decide_eq_true (by rw [← z])
            · rw [decide_eq_false z]
              exact decide_eq_false fun y => z (V.bl.inj y)
          rw [ebl]
          by_cases h3 : decide (m > 0) = decide (pl ∈ st)
          · rw [decide_eq_true h3]
            refine (if_pos rfl).mpr ?_
            refine stop ?_
            unfold stepW
            rw [hpl, if_neg c1, if_pos h3]
          · rw [decide_eq_false h3]
            refine (if_neg (by decide)).mpr ?_
            have hstep : stepW n room st m = if ((newSt st m).length : Int) > room then none else some (newSt st m) := by
              unfold stepW
              rw [hpl, if_neg c1, if_neg h3]
            have hst1000 : st.length ≤ 1000 := by omega
            refine ⟨fun v H' => ∃ S', v = .ref S' ∧ KT [] H H' ∧ H' S' = some (.lst ((newSt st m).map V.int)), ?_, ?_⟩
            · refine ⟨_, rfl, _, _, rfl, rfl, _, rfl, ite2 (fun e => ?_) (fun e => ?_)⟩
              · have hm0 : m > 0 := of_decide_eq_true e
                refine ⟨_, rfl, _, rfl, sz1, fun l1 n1 => ?_⟩
                have k1 := KT.new [] n1 (o := .lst [.int pl])
                refine ⟨_, _, _, _, rfl, rfl, k1.kp _ _ (by simp) hS, upd_same, ?_, fun l2 n2 => ?_⟩
                · rw [List.length_map, List.length_singleton]
                  exact Nat.le_trans (by omega : _ ≤ 2000) (by decide)
                · refine ⟨l2, rfl, (k.trans k1).trans (KT.new [] n2), ?_⟩
                  rw [upd_same]
                  unfold newSt
                  rw [if_pos hm0, hpl, List.map_append]
                  rfl
              · have hm0 : ¬ m > 0 := fun z => e (decide_eq_true z)
                refine ⟨_, rfl, S, rfl, ⟨_, SqL.of hS⟩, fun D nD => ?_⟩
                refine lc_it (walk_list (K := K) (a := S) (xs := st.map V.int)) (fun j H3 => KT [] H' H3 ∧ H3 D = some (.lst (((st.take j).filter fun x => decide (x ≠ pl)).map V.int))) ?_ ?_ ?_ ?_
                · exact ⟨KT.new [] nD, upd_same⟩
                · rintro j H3 _ ⟨k3, _⟩
                  exact SqL.of (k3.kp _ _ (by simp) hS)
                · rintro j x H3 H4 hj ⟨k3, hD⟩ ⟨rfl, hx⟩
                  obtain ⟨y, hy, rfl⟩ : ∃ y, st[j]? = some y ∧ x = .int y := by
                    rw [List.getElem?_map] at hx
                    cases e : st[j]? with
                    | none => rw [e] at hx; cases hx
                    | some m => rw [e] at hx; exact ⟨m, rfl, (Option.some.inj hx).symm⟩
                  refine ⟨rfl, _, rfl, _, rfl, rfl, _, rfl, ?_⟩
                  by_cases hyp : y = pl
                  · subst hyp
                    refine (if_neg (by rw [decide_eq_true rfl]; decide)).mpr ?_
                    refine ⟨k3, ?_⟩
                    rw [List.take_succ, hy]
                    show H4 D = some (.lst (((st.take j ++ [y]).filter fun x => decide (x ≠ y)).map V.int))
                    rw [List.filter_append]
                    have : [y].filter (fun x => decide (x ≠ y)) = [] := by simp
                    rw [this, List.append_nil]
                    exact hD
                  · refine (if_pos (by rw [decide_eq_false (fun z => hyp (V.int.inj z))]; rfl)).mpr ?_
                    refine ⟨_, rfl, _, hD, ?_, k3.late nD, ?_⟩
                    · rw [List.length_map]
                      have h1 := List.length_filter_le (fun x => decide (x ≠ pl)) (st.take j)
                      rw [List.length_take] at h1
                      exact Nat.lt_of_le_of_lt (by omega : _ ≤ 1000) (by decide)
                    · rw [upd_same, List.take_succ, hy]
                      show _ = some (HO.lst (((st.take j ++ [y]).filter fun x => decide (x ≠ pl)).map V.int))
                      rw [List.filter_append]
                      have : [y].filter (fun x => decide (x ≠ pl)) = [y] := by simp [hyp]
                      rw [this, List.map_append]
                      rfl
                · rintro H3 ⟨k3, hD⟩
                  rw [List.length_map, List.take_length] at hD
                  refine ⟨D, rfl, k.trans k3, ?_⟩
                  rw [hD]
                  unfold newSt
                  rw [if_neg hm0, hpl]
            · rintro v H3 ⟨S', rfl, k3, hS'⟩
              refine ⟨_, rfl, _, _, rfl, .inl (SqL.of hS'), _, rfl, _, _, rfl, rfl, _, rfl, ?_⟩
              rw [List.length_map]
              by_cases h4 : ((newSt st m).length : Int) > room
              · refine (if_pos (decide_eq_true h4)).mpr ?_
                have hs : stepW n room st m = none := by rw [hstep, if_pos h4]
                have := q H3 k3
                rw [fold_stop hm hf hs] at this
                exact this
              · refine (if_neg (by rw [decide_eq_false h4]; decide)).mpr ?_
                have hs : stepW n room st m = some (newSt st m) := by rw [hstep, if_neg h4]
                obtain ⟨o1, o2⟩ := stepW_ok hst hs
                exact ⟨_, _, S', newSt st m, rfl, k3, hS', by rw [next, hs], o1, o2⟩
    · rintro σ H1 ⟨x4, x5, S, st, rfl, k, hS, hf, hst, hlst⟩
      rw [List.length_map, List.take_length] at hf
      have hr : walkF n room ms = decide (st = [n]) := by unfold walkF; rw [hf]
      have q1 := fun H' k' => q H' k'
      rw [hr] at q1
      refine ⟨_, rfl, _, rfl, sz1, fun l nl => ?_⟩
      have kl := KT.new [] nl (o := .lst [.int n])
      refine ⟨.list (st.map PyData.int), .list ([n].map PyData.int), .lst (SqL.of (kl.kp _ _ (by simp) hS)) (dp_ints _), .lst (SqL.of upd_same) (dp_ints [n]), shaped_ints _, shaped_ints _, ?_⟩
      rw [eqv_ints]
      exact q1 _ (k.trans kl)
end

end My

set_option Elab.async false
set_option linter.all false
set_option maxRecDepth 100000
namespace My
open PySem PySem.Spec PyProof.Rows L2
inductive P2 {α : Type} (R : V → α → Prop) : List V → List α → Prop
  | nil : P2 R [] []
  | cons {v : V} {vs : List V} {d : α} {ds : List α} : R v d → P2 R vs ds → P2 R (v :: vs) (d :: ds)
theorem P2.mono {α : Type} {R S : V → α → Prop} (f : ∀ v d, R v d → S v d) : ∀ {vs : List V} {ds : List α}, P2 R vs ds → P2 S vs ds
  | _, _, .nil => .nil
  | _, _, .cons h g => .cons (f _ _ h) (g.mono f)
theorem P2.len {α : Type} {R : V → α → Prop} : ∀ {vs : List V} {ds : List α}, P2 R vs ds → vs.length = ds.length
  | _, _, .nil => rfl
  | _, _, .cons h g => congrArg (· + 1) g.len
theorem P2.app {α : Type} {R : V → α → Prop} : ∀ {vs us : List V} {ds es : List α}, P2 R vs ds → P2 R us es → P2 R (vs ++ us) (ds ++ es)
  | _, _, _, _, .nil, h => h
  | _, _, _, _, .cons h g, k => .cons h (g.app k)
theorem P2.snoc {α : Type} {R : V → α → Prop} {vs : List V} {ds : List α} {v : V} {d : α} (h : P2 R vs ds) (g : R v d) : P2 R (vs ++ [v]) (ds ++ [d]) := h.app (.cons g .nil)
theorem P2.get {α : Type} {R : V → α → Prop} : ∀ {vs : List V} {ds : List α} {i : Nat} {v : V}, P2 R vs ds → vs[i]? = some v → ∃ d, ds[i]? = some d ∧ R v d
  | _, _, i, v, .nil, e => by simp at e
  | _, _, 0, v, .cons h g, e => by simp at e; subst e; exact ⟨_, rfl, h⟩
  | _, _, i + 1, v, .cons h g, e => by
    obtain ⟨d, h1, h2⟩ := g.get (i := i) (by simpa using e)
    exact ⟨d, by simpa using h1, h2⟩
theorem P2.drop {α : Type} {R : V → α → Prop} : ∀ {vs : List V} {ds : List α} (n : Nat), P2 R vs ds → P2 R (vs.drop n) (ds.drop n)
  | _, _, _, .nil => by simp; exact .nil
  | _, _, 0, .cons h g => .cons h g
  | _, _, n + 1, .cons h g => by simpa using g.drop n
theorem P2.mem {α : Type} {R : V → α → Prop} {vs : List V} {ds : List α} {v : V} (h : P2 R vs ds) (m : v ∈ vs) : ∃ d ∈ ds, R v d := by
  obtain ⟨i, hi, e⟩ := List.getElem_of_mem m
  obtain ⟨d, h1, h2⟩ := h.get (List.getElem?_eq_some_iff.mpr ⟨hi, e⟩)
  exact ⟨d, List.mem_of_getElem? h1, h2⟩

theorem flat_rep (k : Nat) (v : V) : (List.replicate k [v]).flatten = List.replicate k v := by
  induction k with
  | zero => rfl
  | succ k ih => rw [List.replicate_succ, List.flatten_cons, ih]; rfl
/-- a row of the table -/
def RowV (n : Nat) (t : Addr) (H : Hp) (v : V) (p : Nat) : Prop := ∃ r, v = .ref r ∧ r ≠ t ∧ H r = some (.lst ((rowE p n).map V.int))
theorem RowV.keep {n : Nat} {t : Addr} {H H' : Hp} (k : KT [] H H') {v : V} {p : Nat} : RowV n t H v p → RowV n t H' v p := fun ⟨r, h1, h2, h3⟩ => ⟨r, h1, h2, k.kp _ _ (by simp) h3⟩
def TabV (H : Hp) (t : Addr) (n room : Nat) : Prop := ∃ rvs, H t = some (.lst rvs) ∧ P2 (RowV n t H) rvs (List.range (room + 1))
theorem TabV.keep {H H' : Hp} (k : KT [] H H') {t : Addr} {n room : Nat} : TabV H t n room → TabV H' t n room := fun ⟨rvs, h1, h2⟩ => ⟨rvs, k.kp _ _ (by simp) h1, h2.mono fun _ _ => RowV.keep k⟩
def spTabl : Sp := fun vs H Q _ => ∃ (n room : Nat), vs = [.int n, .int room] ∧ 1 ≤ n ∧ n ≤ 1000 ∧ 1 ≤ room ∧ room ≤ 1000 ∧ ∀ t H', KT [] H H' → TabV H' t n room → Q (.ref t) H'
section
variable {P : Program} {w : World} {K : PySem.W.Frag} {mg : Str → Option Value} {base : Heap}
set_option maxHeartbeats 4000000 in
theorem ok_least_table (T : Txt K mg) : FnOk P w K mg base CX0 1 T.f_least_table T.d_least_table ["n", "room"] spTabl := by
  refine T.F_least_table.ok sc_least_table (fun vs H Q E h => ?_) (fun cdv A outer s H vs Q E hr h => ?_)
  · obtain ⟨n, room, rfl, _⟩ := h
    rfl
  · obtain ⟨n, room, rfl, hn1, hn, hr1, hr2, q⟩ := h
    refine ⟨_, (pss_cons (ps_set (i := 2) sc_least_table.nd rfl (Or.inl rfl) (pe_lst (pa_cons (pe_op op_rep (pe_lst (pa_cons (pe_glob (v := .int 1000000000000) (by rfl) T.m_NEVER ⟨_, rfl⟩) pa_nil)) (pe_op op_add (pv 0) pe_int)) pa_nil)))
      (pss_cons (ps_for PassesOwn.never rfl (pi_range2 (by rfl) T.m_range (pa_cons pe_int (pa_cons (pe_op op_add (pv 1) pe_int) pa_nil))) (pg_name (i := 3) sc_least_table.nd rfl (Or.inl rfl))
        (pss_cons (ps_set (i := 4) sc_least_table.nd rfl (Or.inr rfl) (pe_ix ix_list (pv 2) (pe_un un_neg pe_int) (fun _ _ => rfl)))
        (pss_cons (ps_set (i := 5) sc_least_table.nd rfl (Or.inr rfl) (pe_lst (pa_cons (pe_glob (v := .int 1000000000000) (by rfl) T.m_NEVER ⟨_, rfl⟩) (pa_cons pe_int pa_nil))))
        (pss_cons (ps_for PassesOwn.never rfl (pi_range2 (by rfl) T.m_range (pa_cons pe_int (pa_cons (pe_op op_add (pv 0) pe_int) pa_nil))) (pg_name (i := 6) sc_least_table.nd rfl (Or.inr rfl))
          (pss_one (ps_expr (pe_bm PySem.F.plainAttrs_list PySem.F.slot_list_append PySem.F.type_list_append mt_append (pv 5) (pa_cons (pe_callB (cr_min rfl) (by rfl) T.m_min (by decide +kernel) (pa_cons (pe_op op_cat (pe_lc (own := [("m", 7)]) (g := gName 7) (by rfl) sc_least_table.nd (pi_range2 (by rfl) T.m_range (pa_cons pe_int (pa_cons (pv 6) pa_nil))) (blkOk_by (own := [("m", 7)]) (N := N_least_table) (sc := defScope s_least_table) (by decide +kernel)) (fun _ _ _ _ _ => (pg_name (i := 7) sc_least_table.nd rfl (Or.inl rfl))) (fun _ _ _ _ _ => pts_nil) (fun _ _ _ _ _ => (pe_op op_add (pe_op op_add (pe_ix (ixL (K := K) rfl) (pv 5) (pv 7) (fun _ _ => rfl)) (pe_ix (ixL (K := K) rfl) (pv 4) (pe_op op_sub (pv 6) (pv 7)) (fun _ _ => rfl))) (pe_ix (ixL (K := K) rfl) (pv 4) (pv 7) (fun _ _ => rfl))))) (pe_lst (pa_cons (pe_glob (v := .int 1000000000000) (by rfl) T.m_NEVER ⟨_, rfl⟩) pa_nil))) pa_nil)) pa_nil)))))
        (pss_one (ps_expr (pe_bm PySem.F.plainAttrs_list PySem.F.slot_list_append PySem.F.type_list_append mt_append (pv 2) (pa_cons (pv 5) pa_nil))))))))
      (pss_one (ps_ret (pv 2))))), ?_⟩
    refine ⟨sz1, fun l1 n1 => ?_⟩
    refine ⟨_, rfl, _, _, rfl, rfl, l1, _, _, rfl, rfl, upd_same, by omega, by omega, ?_, fun r nr => ⟨sz1, fun t nt => ?_⟩⟩
    · rw [List.length_singleton]
      exact Nat.le_trans (by omega : _ ≤ 2000) (by decide)
    have k1 := KT.new [] n1 (o := .lst [.int NEV])
    have etn : ((n : Int) + 1).toNat = n + 1 := by omega
    rw [flat_rep, etn] at nt ⊢
    have k2 := KT.new [] nr (o := .lst (List.replicate (n + 1) (V.int NEV)))
    have k3 := KT.new [] nt (o := .lst [.ref r])
    have nt0 : H t = none := (k1.trans k2).free nt
    have hr0 : (upd (upd (upd H l1 (.lst [.int NEV])) r (.lst (List.replicate (n + 1) (V.int NEV)))) t (.lst [.ref r])) r = some (.lst ((rowE 0 n).map V.int)) := by
      have := k3.kp _ _ (by simp) upd_same
      rw [rowE_zero, List.map_replicate]
      exact this
    have ht0 : (upd (upd (upd H l1 (.lst [.int NEV])) r (.lst (List.replicate (n + 1) (V.int NEV)))) t (.lst [.ref r])) t = some (.lst [.ref r]) := upd_same
    have hrt : r ≠ t := fun z => by rw [z, upd_same] at nt; cases nt
    have k0 := (k1.trans k2).trans k3
    generalize (upd (upd (upd H l1 (.lst [.int NEV])) r (.lst (List.replicate (n + 1) (V.int NEV)))) t (.lst [.ref r])) = H0 at k0 hr0 ht0
    have kk : KT [] H H0 ∧ TabV H0 t n 0 := ⟨k0, _, ht0, .cons ⟨r, rfl, hrt, hr0⟩ .nil⟩
    clear k1 k2 k3 k0 hr0 ht0 nt nr n1 hrt
    refine ⟨_, rfl, _, _, rfl, rfl, _, _, rfl, ⟨by omega, by omega, by omega, by omega⟩, ?_⟩
    have ec : ((room : Int) + 1 - 1).toNat = room := by omega
    rw [ec]
    refine for_range (n := room) (fun i σ H1 => ∃ (x3 x4 x5 x6 : Option V), σ = [some (.int n), some (.int room), some (.ref t), x3, x4, x5, x6, none] ∧ KT [] H H1 ∧ TabV H1 t n i) ?_ ?_ ?_
    · exact ⟨none, none, none, none, rfl, kk⟩
    · rintro i σ H1 hi ⟨x3, x4, x5, x6, rfl, k, rvs, hT, hP⟩
      obtain ⟨v, hv⟩ : ∃ v, rvs[i]? = some v := ⟨_, List.getElem?_eq_getElem (by rw [hP.len, List.length_range]; omega)⟩
      obtain ⟨d, hd, b, rfl, hbt, hb⟩ := hP.get hv
      have ed : d = i := by
        rw [List.getElem?_range (by omega)] at hd
        exact (Option.some.inj hd).symm
      subst ed
      have hrl : rvs.length = d + 1 := by rw [hP.len, List.length_range]
      refine ⟨_, rfl, _, rfl, t, rvs, _, _, rfl, rfl, SqL.of hT, (?_ : atI rvs _ = some (V.ref b)), ?_⟩
      · have e1 : atI rvs (-1) = rvs[d]? := by
          unfold atI ixN
          rw [hrl, if_neg (by decide), if_pos (by omega)]
          show rvs[(-1 + ((d + 1 : Nat) : Int)).toNat]? = _
          congr 1
          omega
        rw [e1, hv]
      refine ⟨Nat.le_trans (by decide : 2 ≤ 2000) (by decide), fun R nR => ?_⟩
      have nRH : H R = none := k.free nR
      have kR := KT.new [] nR (o := .lst [.int NEV, .int 1])
      have hR0 : (upd H1 R (.lst [.int NEV, .int 1])) R = some (.lst ((rowT (Et d) 1).map V.int)) := upd_same
      have hT0 := kR.kp _ _ (by simp) hT
      have hb0 := kR.kp _ _ (by simp) hb
      have hRt : R ≠ t := fun z => by rw [z, hT] at nR; cases nR
      have hRb : R ≠ b := fun z => by rw [z, hb] at nR; cases nR
      have kR0 : KT [] H1 (upd H1 R (.lst [.int NEV, .int 1])) := kR
      generalize (upd H1 R (.lst [.int NEV, .int 1])) = H2 at hR0 hT0 hb0 kR kR0
      refine ⟨_, rfl, _, _, rfl, rfl, _, _, rfl, ⟨by omega, by omega, by omega, by omega⟩, ?_⟩
      have ec2 : ((n : Int) + 1 - 2).toNat = n - 1 := by omega
      rw [ec2]
      refine for_range (n := n - 1) (fun j σ H3 => ∃ (x6 : Option V), σ = [some (.int n), some (.int room), some (.ref t), some (.int (1 + (d : Int))), some (.ref b), some (.ref R), x6, none] ∧ KT [] H1 H3 ∧ H3 R = some (.lst ((rowT (Et d) (j + 1)).map V.int))) ?_ ?_ ?_
      · exact ⟨_, rfl, kR, hR0⟩
      · rintro j σ H3 hj ⟨x6, rfl, k3, hR3⟩
        have hb3 := k3.kp _ _ (by simp) hb
        refine ⟨_, rfl, .inl ⟨rfl, _, SqL.of hR3⟩, _, rfl, _, _, rfl, ⟨by omega, by omega, by omega, by omega⟩, fun D nD => ?_⟩
        have ec3 : ((2 : Int) + (j : Nat) - 1).toNat = j + 1 := by omega
        rw [ec3]
        have hDR : D ≠ R := fun z => by rw [z, hR3] at nD; cases nD
        have hDb : D ≠ b := fun z => by rw [z, hb3] at nD; cases nD
        refine lc_range (fun i H4 => KT [] H3 H4 ∧ H4 D = some (.lst (((List.range i).map fun i => (rowT (Et d) (j + 1)).getD (i + 1) 0 + Et d (j + 2 - (i + 1)) + Et d (i + 1)).map V.int))) ?_ ?_ ?_
        · exact ⟨KT.new _ nD, upd_same⟩
        · rintro i H4 hi ⟨k4, hD4⟩
          have hR4 := k4.kp _ _ (by simp) hR3
          have hb4 := k4.kp _ _ (by simp) hb3
          have a1 : atI ((rowT (Et d) (j + 1)).map V.int) (1 + (i : Int)) = some (V.int ((rowT (Et d) (j + 1)).getD (i + 1) 0)) := by
            have e : (1 + (i : Int)) = ((i + 1 : Nat) : Int) := by omega
            rw [e]
            refine atI_nat ?_
            rw [List.getElem?_map, List.getD_eq_getElem?_getD, List.getElem?_eq_getElem (by rw [rowT_len]; omega)]
            rfl
          have a2 : atI ((rowE d n).map V.int) (2 + (j : Int) - (1 + (i : Int))) = some (V.int (Et d (j + 2 - (i + 1)))) := by
            have e : (2 + (j : Int) - (1 + (i : Int))) = ((j + 2 - (i + 1) : Nat) : Int) := by omega
            rw [e]
            refine atI_nat ?_
            rw [List.getElem?_map, rowE_get (by omega)]
            rfl
          have a3 : atI ((rowE d n).map V.int) (1 + (i : Int)) = some (V.int (Et d (i + 1))) := by
            have e : (1 + (i : Int)) = ((i + 1 : Nat) : Int) := by omega
            rw [e]
            refine atI_nat ?_
            rw [List.getElem?_map, rowE_get (by omega)]
            rfl
          refine ⟨rfl, _, rfl, _, rfl, R, _, _, _, rfl, rfl, SqL.of hR4, a1, _, rfl, _, rfl, _, rfl, _, _, rfl, rfl, b, _, _, _, rfl, rfl, SqL.of hb4, a2, _, _, rfl, rfl, _, rfl, _, rfl, b, _, _, _, rfl, rfl, SqL.of hb4, a3, _, _, rfl, rfl, _, hD4, ?_, k4.late nD, ?_⟩
          · rw [List.length_map, List.length_map, List.length_range]
            exact Nat.lt_of_le_of_lt (by omega : _ ≤ 2000) (by decide)
          · rw [upd_same, List.range_succ, List.map_append, List.map_append]
            rfl
        · rintro H4 ⟨k4, hD4⟩
          refine ⟨sz1, fun B nB => ?_⟩
          have hDB : D ≠ B := fun z => by rw [← z, hD4] at nB; cases nB
          refine ⟨D, B, _, _, rfl, rfl, (by rw [upd_ne hDB]; exact hD4), upd_same, ?_, fun C nC => ?_⟩
          · rw [List.length_map, List.length_map, List.length_range]
            exact Nat.le_trans (by show j + 1 + 1 ≤ 2000; omega) (by decide)
          refine ⟨C, ((List.range (j + 1)).map fun i => (rowT (Et d) (j + 1)).getD (i + 1) 0 + Et d (j + 2 - (i + 1)) + Et d (i + 1)) ++ [NEV], rfl, SqL.of ?_, ?_, fun m hm hle => ?_⟩
          · rw [upd_same, List.map_append]
            rfl
          · rw [List.length_append]
            show 0 < _ + 1
            omega
          have em := minF_is hm hle
          have k5 : KT [] H3 (upd (upd H4 B (.lst [.int NEV])) C (.lst (((List.range (j + 1)).map fun i => (rowT (Et d) (j + 1)).getD (i + 1) 0 + Et d (j + 2 - (i + 1)) + Et d (i + 1)).map V.int ++ [V.int NEV]))) := (k4.trans (KT.new _ nB)).trans (KT.new _ nC)
          have hR5 := k5.kp _ _ (by simp) hR3
          refine ⟨R, _, _, rfl, rfl, hR5, ?_, _, rfl, (k3.trans k5).late nR, ?_⟩
          · rw [List.length_map, rowT_len]
            exact Nat.lt_of_le_of_lt (by omega : _ ≤ 2000) (by decide)
          · rw [upd_same, em, rowT, List.map_append]
            rfl
      · rintro σ H3 ⟨x6, rfl, k3, hR3⟩
        have hT3 := k3.kp _ _ (by simp) hT
        refine ⟨_, rfl, .inl ⟨rfl, _, SqL.of hT3⟩, _, rfl, t, _, _, rfl, rfl, hT3, ?_, _, _, _, _, rfl, (k.trans k3).late nt0, ?_⟩
        · rw [hrl]
          exact Nat.lt_of_le_of_lt (by omega : _ ≤ 2000) (by decide)
        refine ⟨_, upd_same, ?_⟩
        have en : n - 1 + 1 = n := by omega
        rw [en, rowE_next] at hR3
        rw [List.range_succ]
        refine P2.snoc (hP.mono fun v p ⟨r, h1, h2, h3⟩ => ⟨r, h1, h2, ?_⟩) ⟨R, rfl, hRt, (by rw [upd_ne hRt]; exact hR3)⟩
        rw [upd_ne h2]
        exact k3.kp _ _ (by simp) h3
    · rintro σ H1 ⟨x3, x4, x5, x6, rfl, k, hT⟩
      exact ⟨_, rfl, q t H1 k hT⟩
end

end My

set_option Elab.async false
set_option linter.all false
set_option maxRecDepth 100000
namespace My
open PySem PySem.Spec PyProof.Rows L2
theorem TabV.row {H : Hp} {t : Addr} {n room p : Nat} (h : TabV H t n room) (hp : p ≤ room) : ∃ rvs r, H t = some (.lst rvs) ∧ atI rvs (p : Int) = some (.ref r) ∧ H r = some (.lst ((rowE p n).map V.int)) := by
  obtain ⟨rvs, hT, hP⟩ := h
  obtain ⟨v, hv⟩ : ∃ v, rvs[p]? = some v := ⟨_, List.getElem?_eq_getElem (by rw [hP.len, List.length_range]; omega)⟩
  obtain ⟨d, hd, b, rfl, hbt, hb⟩ := hP.get hv
  have ed : d = p := by
    rw [List.getElem?_range (by omega)] at hd
    exact (Option.some.inj hd).symm
  subst ed
  exact ⟨rvs, b, hT, atI_nat hv, hb⟩
theorem rowE_at {p n i : Nat} {x : Int} (e : x = (i : Int)) (h : i ≤ n) : atI ((rowE p n).map V.int) x = some (V.int (Et p i)) := by
  rw [e]
  refine atI_nat ?_
  rw [List.getElem?_map, rowE_get h]
  rfl
def spBest : Sp := fun vs H Q _ => ∃ (t : Addr) (n room p l : Nat), vs = [.ref t, .int l, .int (p + 1 : Nat)] ∧ l ≤ n ∧ n ≤ 1000 ∧ p + 1 ≤ room ∧ room ≤ 1000 ∧ TabV H t n room ∧ Q (.int (bestM (p + 1) l)) H
def spLeast : Sp := fun vs H Q _ => ∃ (n room : Nat), vs = [.int n, .int room] ∧ 1 ≤ n ∧ n ≤ 1000 ∧ 1 ≤ room ∧ room ≤ 1000 ∧ ∀ H', KT [] H H' → Q (.int (leastM room n)) H'
section
variable {P : Program} {w : World} {K : PySem.W.Frag} {mg : Str → Option Value} {base : Heap}
set_option maxHeartbeats 4000000 in
theorem ok_best_middle (T : Txt K mg) : FnOk P w K mg base CX0 1 T.f_best_middle T.d_best_middle ["table", "length", "pebbles"] spBest := by
  refine T.F_best_middle.ok sc_best_middle (fun vs H Q E h => ?_) (fun cdv A outer s H vs Q E hr h => ?_)
  · obtain ⟨t, n, room, p, l, rfl, _⟩ := h
    rfl
  · obtain ⟨t, n, room, p, l, rfl, hl, hn, hp, hroom, hT, q⟩ := h
    refine ⟨_, (pss_cons (ps_par (i := 3) (j := 4) (by rfl) sc_best_middle.nd rfl rfl (by decide) rfl rfl (pa_cons (pe_ix ix_list (pv 0) (pv 2) (fun _ _ => rfl)) (pa_cons (pe_ix ix_list (pv 0) (pe_op op_sub (pv 2) pe_int) (fun _ _ => rfl)) pa_nil)) (by rfl))
      (pss_cons (ps_for PassesOwn.never rfl (pi_range2 (by rfl) T.m_range (pa_cons pe_int (pa_cons (pv 1) pa_nil))) (pg_name (i := 5) sc_best_middle.nd rfl (Or.inl rfl))
        (pss_one (ps_if (pt_cmpR op_eq (pe_op op_add (pe_op op_add (pe_ix ix_list (pv 3) (pv 5) (fun _ _ => rfl)) (pe_ix ix_list (pv 4) (pe_op op_sub (pv 1) (pv 5)) (fun _ _ => rfl))) (pe_ix ix_list (pv 4) (pv 5) (fun _ _ => rfl))) (pe_ix ix_list (pv 3) (pv 1) (fun _ _ => rfl)) (nomark _))
          (pss_one (ps_ret (pv 5)))
          pss_nil)))
      (pss_one (ps_ret (pv 1))))), ?_⟩
    obtain ⟨rvs, r, ht, hr1, hR⟩ := hT.row hp
    obtain ⟨rvs', b, ht', hb1, hB⟩ := hT.row (p := p) (by omega)
    rw [ht] at ht'
    cases ht'
    have hb2 : atI rvs (((p + 1 : Nat) : Int) - 1) = some (.ref b) := by
      have e : ((p + 1 : Nat) : Int) - 1 = (p : Int) := by omega
      rw [e]
      exact hb1
    refine ⟨_, rfl, _, rfl, t, _, _, _, rfl, rfl, SqL.of ht, hr1, _, rfl, _, rfl, _, _, rfl, rfl, t, _, _, _, rfl, rfl, SqL.of ht, hb2, ?_⟩
    refine ⟨_, _, rfl, _, rfl, _, _, rfl, ⟨by omega, by omega, by omega, by omega⟩, ?_⟩
    have ec : ((l : Int) - 1).toNat = l - 1 := by omega
    rw [ec]
    refine for_range (n := l - 1) (fun i σ H1 => ∃ (x5 : Option V), σ = [some (.ref t), some (.int l), some (.int (p + 1 : Nat)), some (.ref r), some (.ref b), x5] ∧ H1 = H ∧ ∀ k < i, fitM (p + 1) l k = false) ?_ ?_ ?_
    · exact ⟨none, rfl, rfl, fun k h => by omega⟩
    · rintro i σ H1 hi ⟨x5, rfl, rfl, hno⟩
      have a1 := rowE_at (p := p + 1) (n := n) (i := i + 1) (x := 1 + (i : Int)) (by omega) (by omega)
      have a2 := rowE_at (p := p) (n := n) (i := l - (i + 1)) (x := (l : Int) - (1 + (i : Int))) (by omega) (by omega)
      have a3 := rowE_at (p := p) (n := n) (i := i + 1) (x := 1 + (i : Int)) (by omega) (by omega)
      have a4 := rowE_at (p := p + 1) (n := n) (i := l) (x := (l : Int)) rfl hl
      refine ⟨_, rfl, _, rfl, r, _, _, _, rfl, rfl, SqL.of hR, a1, _, rfl, _, rfl, _, rfl, _, _, rfl, rfl, b, _, _, _, rfl, rfl, SqL.of hB, a2, _, _, rfl, rfl, _, rfl, _, rfl, b, _, _, _, rfl, rfl, SqL.of hB, a3, _, _, rfl, rfl, _, rfl, _, rfl, r, _, _, _, rfl, rfl, SqL.of hR, a4, rfl, _, rfl, ite2 (fun e => ?_) (fun e => ?_)⟩
      · have e := V.int.inj (of_decide_eq_true e)
        have hf : fitM (p + 1) l i = true := decide_eq_true e
        rw [bestM_some hi hf hno] at q
        refine ⟨_, rfl, ?_⟩
        have e1 : (1 + (i : Int)) = ((i + 1 : Nat) : Int) := by omega
        show Q (.int (1 + (i : Int))) H1
        rw [e1]
        exact q
      · refine ⟨_, rfl, rfl, fun k hk => ?_⟩
        rcases Nat.lt_or_ge k i with z | z
        · exact hno k z
        · have : k = i := by omega
          rw [this]
          exact decide_eq_false fun z => e (decide_eq_true (congrArg V.int z))
    · rintro σ H1 ⟨x5, rfl, rfl, hno⟩
      rw [bestM_none hno] at q
      exact ⟨_, rfl, q⟩
theorem ok_least_moves (T : Txt K mg) : FnOk P w K mg base CX0 2 T.f_least_moves T.d_least_moves ["n", "room"] spLeast := by
  have G_least_table := ok_least_table (P := P) (w := w) (base := base) T
  refine T.F_least_moves.ok sc_least_moves (fun vs H Q E h => ?_) (fun cdv A outer s H vs Q E hr h => ?_)
  · obtain ⟨n, room, rfl, _⟩ := h
    rfl
  · obtain ⟨n, room, rfl, hn1, hn, hr1, hr2, q⟩ := h
    refine ⟨_, (pss_cons (ps_set (i := 2) sc_least_moves.nd rfl (Or.inl rfl) (pe_ix ix_list (pe_ix ix_list (pe_call G_least_table (hr.mono (by omega)) (by rfl) T.g_least_table T.F_least_table.kp T.b_least_table .nil pass0 (pa_cons (pv 0) (pa_cons (pv 1) pa_nil))) (pv 1) (fun _ _ => rfl)) (pv 0) (fun _ _ => rfl)))
      (pss_one (ps_ret (pe_ifExp (pt_cmpR op_lt (pv 2) (pe_glob (v := .int 1000000000000) (by rfl) T.m_NEVER ⟨_, rfl⟩) (nomark _)) (pv 2) (pe_un un_neg pe_int))))), ?_⟩
    refine ⟨_, rfl, _, rfl, n, room, rfl, hn1, hn, hr1, hr2, fun t H1 k hT => ?_⟩
    obtain ⟨rvs, r, ht, hr1, hR⟩ := hT.row (Nat.le_refl room)
    refine ⟨_, rfl, t, _, _, _, rfl, rfl, SqL.of ht, hr1, _, rfl, r, _, _, _, rfl, rfl, SqL.of hR, rowE_at rfl (Nat.le_refl n), ?_⟩
    refine ⟨_, rfl, _, _, rfl, rfl, _, rfl, ite2 (fun e => ?_) (fun e => ?_)⟩
    · have e : Et room n < NEV := of_decide_eq_true e
      have := q H1 k
      unfold leastM at this
      rw [if_pos e] at this
      exact ⟨_, rfl, this⟩
    · have e : ¬ Et room n < NEV := fun z => e (decide_eq_true z)
      have := q H1 k
      unfold leastM at this
      rw [if_neg e] at this
      exact ⟨_, rfl, this⟩
end

end My

set_option Elab.async false
set_option linter.all false
set_option maxRecDepth 100000
namespace My
open PySem PySem.Spec PyProof.Rows L2
structure PI where
  at_ : Nat
  l : Nat
  p : Nat
  b : Bool
def PI.g (x : PI) : List Int := pebG x.p x.l x.at_ x.b
def PI.Ok (n room : Nat) (x : PI) : Prop := 1 ≤ x.p ∧ x.p ≤ room ∧ 1 ≤ x.l ∧ x.l ≤ n ∧ x.at_ + x.l ≤ n ∧ Et x.p x.l < NEV
def ItV (H : Hp) (v : V) (x : PI) : Prop := ∃ a, v = .ref a ∧ H a = some (.tup [.int (x.at_ : Nat), .int (x.l : Nat), .int (x.p : Nat), .bl x.b])
theorem ItV.keep {S : List Addr} {H H' : Hp} (k : KT S H H') {v : V} {x : PI} : ItV H v x → ItV H' v x := fun ⟨a, h1, h2⟩ => ⟨a, h1, k.tp _ _ h2⟩
theorem ItV.put {H : Hp} {U : Addr} {ys : List V} {o : HO} (hU : H U = some (.lst ys)) {v : V} {x : PI} : ItV H v x → ItV (upd H U o) v x := fun ⟨a, h1, h2⟩ => ⟨a, h1, by
  rw [upd_ne (fun z => by rw [z, hU] at h2; cases h2)]
  exact h2⟩
def totS (xs : List PI) : List Int := (xs.map PI.g).reverse.flatten
def muS (xs : List PI) : Nat := (xs.map fun x => 2 * x.g.length - 1).sum
theorem P2.unsnoc {α : Type} {R : V → α → Prop} : ∀ {ds : List α} {d : α} {vs : List V}, P2 R vs (ds ++ [d]) → ∃ us v, vs = us ++ [v] ∧ P2 R us ds ∧ R v d
  | [], d, _, .cons h .nil => ⟨[], _, rfl, .nil, h⟩
  | x :: ds, d, _, .cons h g => by
    obtain ⟨us, v, e, h1, h2⟩ := P2.unsnoc (ds := ds) g
    exact ⟨_ :: us, v, by rw [e]; rfl, .cons h h1, h2⟩
theorem totS_app (xs q : List PI) : totS (xs ++ q.reverse) = (q.map PI.g).flatten ++ totS xs := by
  unfold totS
  rw [List.map_append, List.reverse_append, List.flatten_append, ← List.map_reverse, List.reverse_reverse]
def partsP (at_ l p m : Nat) (b : Bool) : List PI := if b then [⟨at_, m, p, true⟩, ⟨at_ + m, l - m, p - 1, true⟩, ⟨at_, m, p - 1, false⟩] else [⟨at_, m, p - 1, true⟩, ⟨at_ + m, l - m, p - 1, false⟩, ⟨at_, m, p, false⟩]
theorem parts_flat {at_ l p : Nat} {b : Bool} (hp : 1 ≤ p) (hl : 2 ≤ l) (he : Et p l < NEV) : ((partsP at_ l p (bestM p l) b).map PI.g).flatten = pebG p l at_ b := by
  rw [pebG_step hp hl he]
  cases b
  · show _ ++ (_ ++ (_ ++ [])) = _ ++ _ ++ _
    rw [List.append_nil, List.append_assoc]
    rfl
  · show _ ++ (_ ++ (_ ++ [])) = _ ++ _ ++ _
    rw [List.append_nil, List.append_assoc]
    rfl
theorem P2.rev {α : Type} {R : V → α → Prop} : ∀ {vs : List V} {ds : List α}, P2 R vs ds → P2 R vs.reverse ds.reverse
  | _, _, .nil => .nil
  | _, _, .cons h g => by
    rw [List.reverse_cons, List.reverse_cons]
    exact P2.snoc g.rev h
theorem totS_snoc (xs : List PI) (x : PI) : totS (xs ++ [x]) = x.g ++ totS xs := by
  unfold totS
  rw [List.map_append, List.reverse_append]
  rfl
theorem muS_app (xs ys : List PI) : muS (xs ++ ys) = muS xs + muS ys := by
  unfold muS
  rw [List.map_append, List.sum_append]
theorem PI.Ok.pos {n room : Nat} {x : PI} (h : x.Ok n room) : 1 ≤ x.g.length := by
  have h1 := pebG_len x.l (at_ := x.at_) (b := x.b) h.1 h.2.2.1 h.2.2.2.2.2
  have h2 := Et_pos x.p x.l
  unfold PI.g
  omega
theorem parts_ok {n room at_ l p : Nat} {b : Bool} (h : PI.Ok n room ⟨at_, l, p, b⟩) (h2 : 2 ≤ l) : ∀ x ∈ partsP at_ l p (bestM p l) b, PI.Ok n room x := by
  obtain ⟨hp1, hp2, hl1, hl2, hal, het⟩ := h
  have hp1 : 1 ≤ p := hp1
  have hp2 : p ≤ room := hp2
  have hal : at_ + l ≤ n := hal
  have B := bst hp1 h2 het
  obtain ⟨m1, ml, p1, e1, e2, e3, _⟩ := B
  have a1 : ∀ b', PI.Ok n room ⟨at_, bestM p l, p, b'⟩ := fun b' => ⟨hp1, hp2, m1, by show bestM p l ≤ n; omega, by show at_ + bestM p l ≤ n; omega, e1⟩
  have a2 : ∀ b', PI.Ok n room ⟨at_ + bestM p l, l - bestM p l, p - 1, b'⟩ := fun b' => ⟨p1, by show p - 1 ≤ room; omega, by show 1 ≤ l - bestM p l; omega, by show l - bestM p l ≤ n; omega, by show at_ + bestM p l + (l - bestM p l) ≤ n; omega, e2⟩
  have a3 : ∀ b', PI.Ok n room ⟨at_, bestM p l, p - 1, b'⟩ := fun b' => ⟨p1, by show p - 1 ≤ room; omega, m1, by show bestM p l ≤ n; omega, by show at_ + bestM p l ≤ n; omega, e3⟩
  intro x hx
  cases b
  · have hx : x ∈ [(⟨at_, bestM p l, p - 1, true⟩ : PI), ⟨at_ + bestM p l, l - bestM p l, p - 1, false⟩, ⟨at_, bestM p l, p, false⟩] := hx
    rcases List.mem_cons.mp hx with rfl | hx
    · exact a3 _
    rcases List.mem_cons.mp hx with rfl | hx
    · exact a2 _
    rw [List.mem_singleton.mp hx]
    exact a1 _
  · have hx : x ∈ [(⟨at_, bestM p l, p, true⟩ : PI), ⟨at_ + bestM p l, l - bestM p l, p - 1, true⟩, ⟨at_, bestM p l, p - 1, false⟩] := hx
    rcases List.mem_cons.mp hx with rfl | hx
    · exact a1 _
    rcases List.mem_cons.mp hx with rfl | hx
    · exact a2 _
    rw [List.mem_singleton.mp hx]
    exact a3 _
theorem parts_mu {n room at_ l p : Nat} {b : Bool} (h : PI.Ok n room ⟨at_, l, p, b⟩) (h2 : 2 ≤ l) : muS (partsP at_ l p (bestM p l) b).reverse < 2 * (pebG p l at_ b).length - 1 := by
  have ho := parts_ok h h2
  obtain ⟨hp1, hp2, hl1, hl2, hal, het⟩ := h
  rw [← parts_flat hp1 h2 het]
  have e : ∀ x y z : PI, muS [x, y, z].reverse = (2 * z.g.length - 1) + ((2 * y.g.length - 1) + ((2 * x.g.length - 1) + 0)) := fun _ _ _ => rfl
  have f : ∀ x y z : PI, (([x, y, z].map PI.g).flatten).length = x.g.length + (y.g.length + (z.g.length + 0)) := fun x y z => by
    show (x.g ++ (y.g ++ (z.g ++ []))).length = _
    rw [List.length_append, List.length_append, List.length_append]
    rfl
  have key : ∀ x y z : PI, (∀ w ∈ [x, y, z], PI.Ok n room w) → muS [x, y, z].reverse < 2 * (([x, y, z].map PI.g).flatten).length - 1 := fun x y z hw => by
    rw [e, f]
    have h1 := (hw x (by simp)).pos
    have h2 := (hw y (by simp)).pos
    have h3 := (hw z (by simp)).pos
    omega
  cases b
  · exact key _ _ _ ho
  · exact key _ _ _ ho
theorem totS_len {n room : Nat} : ∀ {xs : List PI}, (∀ x ∈ xs, x.Ok n room) → xs.length ≤ (totS xs).length := by
  intro xs
  induction xs with
  | nil => exact fun _ => Nat.le_refl _
  | cons x xs ih =>
    intro h
    have h1 := ih fun y hy => h y (List.mem_cons_of_mem _ hy)
    have h2 := (h x (by simp)).pos
    have e : totS (x :: xs) = totS xs ++ x.g := by
      unfold totS
      rw [List.map_cons, List.reverse_cons, List.flatten_append]
      simp
    rw [e, List.length_append, List.length_cons]
    omega
theorem sl_app (a b : Str) : (a ++ b).length = a.length + b.length := Array.size_append ..
theorem log_small {n : Nat} (h : n ≤ 1000) : ((n : Nat) : Int).natAbs.log2 < 1920 := by
  have e : ((n : Nat) : Int).natAbs = n := Int.natAbs_natCast n
  rw [e]
  rcases Nat.eq_zero_or_pos n with z | z
  · rw [z]
    decide
  · exact (Nat.log2_lt (by omega)).mpr (Nat.lt_of_le_of_lt h (by decide))
def spPebbling (cE : Addr) : Sp := fun vs H Q E => ∃ (n room : Nat), vs = [.int n, .int room] ∧ 1 ≤ n ∧ n ≤ 1000 ∧ 1 ≤ room ∧ room ≤ 1000 ∧ (¬ Et room n < NEV → ∀ H', KT [] H H' → E (.ref cE) none H') ∧
  (Et room n < NEV → (pebG room n 0 true).length ≤ 100000 ∧ ∀ M H', KT [] H H' → H M = none → H' M = some (.lst ((pebG room n 0 true).map V.int)) → Q (.ref M) H')
section
variable {P : Program} {w : World} {K : PySem.W.Frag} {mg : Str → Option Value} {base : Heap}
set_option maxHeartbeats 4000000 in
theorem ok_pebbling (T : Txt K mg) : FnOk P w K mg base (CX P w) 2 T.f_pebbling T.d_pebbling ["n", "room"] (spPebbling T.x_a) := by
  have G_least_table := ok_least_table (P := P) (w := w) (base := base) T
  have G_best_middle := ok_best_middle (P := P) (w := w) (base := base) T
  refine T.F_pebbling.okX sc_pebbling (fun vs H Q E h => ?_) (fun cdv A outer s H vs Q E hr h => ?_)
  · obtain ⟨n, room, rfl, _⟩ := h
    rfl
  · obtain ⟨n, room, rfl, hn1, hn, hr1, hr2, hE, q⟩ := h
    refine ⟨_, (pss_cons (ps_set (i := 2) sc_pebbling.nd rfl (Or.inl rfl) (pe_call G_least_table (hr.mono (by omega)) (by rfl) T.g_least_table T.F_least_table.kp T.b_least_table .nil pass0 (pa_cons (pv 0) (pa_cons (pv 1) pa_nil))))
      (pss_cons (ps_if (pt_cmpR op_ge (pe_ix ix_list (pe_ix ix_list (pv 2) (pv 1) (fun _ _ => rfl)) (pv 0) (fun _ _ => rfl)) (pe_glob (v := .int 1000000000000) (by rfl) T.m_NEVER ⟨_, rfl⟩) (nomark _))
        (pss_one (ps_raise rfl (takes_of rfl rfl rfl rfl) (SkE.pmk_own1 PySem.F.excBase_ValueError T.x_x T.x_g T.x_k (raises_own T.x_b T.x_t) (by rfl) (pe_joined (.cons (pe_fmt (pv 1)) (.cons pe_str (.cons (pe_fmt (pv 0)) .nil)))))))
        pss_nil)
      (PSs.nox (pss_cons (ps_set (i := 3) sc_pebbling.nd rfl (Or.inl rfl) (pe_lst pa_nil))
      (pss_cons (ps_set (i := 4) sc_pebbling.nd rfl (Or.inl rfl) (pe_lst (pa_cons (pe_tup (pa_cons pe_int (pa_cons (pv 0) (pa_cons (pv 1) (pa_cons pe_bl pa_nil))))) pa_nil)))
      (pss_cons (ps_while PassesOwn.never (pt_truthK (K := K) rfl 4)
        (pss_cons (ps_asg (pe_bm0 PySem.F.plainAttrs_list PySem.F.slot_list_pop PySem.F.type_list_pop mt_pop (pv 4)) (pg_tup (by rfl) (pgs_cons (pg_name (i := 5) sc_pebbling.nd rfl (Or.inl rfl)) (pgs_cons (pg_name (i := 6) sc_pebbling.nd rfl (Or.inl rfl)) (pgs_cons (pg_name (i := 7) sc_pebbling.nd rfl (Or.inl rfl)) (pgs_cons (pg_name (i := 8) sc_pebbling.nd rfl (Or.inl rfl)) pgs_nil))))))
        (pss_cons (ps_if (pt_cmpR op_eq (pv 6) pe_int (nomark _))
          (pss_cons (ps_expr (pe_bm PySem.F.plainAttrs_list PySem.F.slot_list_append PySem.F.type_list_append mt_append (pv 3) (pa_cons (pe_ifExp (pt_val (pv 8)) (pe_op op_add (pv 5) pe_int) (pe_op op_sub (pe_un un_neg (pv 5)) pe_int)) pa_nil)))
          (pss_one ps_continue))
          pss_nil)
        (pss_cons (ps_set (i := 9) sc_pebbling.nd rfl (Or.inl rfl) (pe_call G_best_middle (hr.mono (by omega)) (by rfl) T.g_best_middle T.F_best_middle.kp T.b_best_middle .nil pass0 (pa_cons (pv 2) (pa_cons (pv 6) (pa_cons (pv 7) pa_nil)))))
        (pss_cons (ps_set (i := 10) sc_pebbling.nd rfl (Or.inl rfl) (pe_lst (pa_cons (pe_tup (pa_cons (pv 5) (pa_cons (pv 9) (pa_cons (pv 7) (pa_cons pe_bl pa_nil))))) (pa_cons (pe_tup (pa_cons (pe_op op_add (pv 5) (pv 9)) (pa_cons (pe_op op_sub (pv 6) (pv 9)) (pa_cons (pe_op op_sub (pv 7) pe_int) (pa_cons (pv 8) pa_nil))))) (pa_cons (pe_tup (pa_cons (pv 5) (pa_cons (pv 9) (pa_cons (pe_op op_sub (pv 7) pe_int) (pa_cons pe_bl pa_nil))))) pa_nil)))))
        (pss_cons (ps_cut (ps_if (pt_not (pt_val (pv 8)))
          (pss_one (ps_set (i := 10) sc_pebbling.nd rfl (Or.inl rfl) (pe_lst (pa_cons (pe_tup (pa_cons (pv 5) (pa_cons (pv 9) (pa_cons (pe_op op_sub (pv 7) pe_int) (pa_cons pe_bl pa_nil))))) (pa_cons (pe_ix ix_list (pv 10) pe_int (fun _ _ => rfl)) (pa_cons (pe_tup (pa_cons (pv 5) (pa_cons (pv 9) (pa_cons (pv 7) (pa_cons pe_bl pa_nil))))) pa_nil))))))
          pss_nil))
        (pss_one (ps_expr (pe_bm PySem.F.plainAttrs_list PySem.F.slot_list_extend PySem.F.type_list_extend mt_extend (pv 4) (pa_cons (pe_revL (pv 10)) pa_nil))))))))))
      (pss_one (ps_ret (pv 3))))))))), ?_⟩
    refine ⟨_, rfl, _, rfl, n, room, rfl, hn1, hn, hr1, hr2, fun t Ht kt hT => ?_⟩
    obtain ⟨rvs, r, ht, hr1', hR⟩ := hT.row (Nat.le_refl room)
    refine ⟨_, rfl, _, rfl, t, _, _, _, rfl, rfl, SqL.of ht, hr1', _, rfl, r, _, _, _, rfl, rfl, SqL.of hR, rowE_at rfl (Nat.le_refl n), _, _, rfl, rfl, _, rfl, ite2 (fun e => ?_) (fun e => ?_)⟩
    · have e : ¬ Et room n < NEV := Int.not_lt.mpr (of_decide_eq_true e)
      refine ⟨_, rfl, .inr ⟨_, rfl, ?_, ?_⟩⟩
      · exact log_small (by omega)
      refine ⟨_, rfl, ?_, ?_⟩
      · have a1 := toString_length_le (v := (room : Int)) (by omega) (k := 10) (by decide) (by omega)
        rw [sl_app]
        exact Nat.le_trans (by show 0 + _ ≤ 2000; omega) (by decide)
      refine ⟨_, rfl, ?_, _, rfl, .inr ⟨_, rfl, log_small (by omega), _, rfl, ?_, hE e Ht kt⟩⟩
      · have a1 := toString_length_le (v := (room : Int)) (by omega) (k := 10) (by decide) (by omega)
        rw [sl_app, sl_app]
        exact Nat.le_trans (by show 0 + _ + 30 ≤ 2000; omega) (by decide)
      · have a1 := toString_length_le (v := (room : Int)) (by omega) (k := 10) (by decide) (by omega)
        have a2 := toString_length_le (v := (n : Int)) (by omega) (k := 10) (by decide) (by omega)
        rw [sl_app, sl_app, sl_app]
        exact Nat.le_trans (by show 0 + _ + 30 + _ ≤ 2000; omega) (by decide)
    · have e : Et room n < NEV := Int.not_le.mp fun z => e (decide_eq_true z)
      obtain ⟨hlen, q⟩ := q e
      refine ⟨Nat.zero_le _, fun M nM => ?_⟩
      refine ⟨_, rfl, _, rfl, (by show (4 : Nat) ≤ sizeLine; exact Nat.le_trans (by decide : 4 ≤ 2000) (by decide)), fun i0 ni0 => ⟨sz1, fun U nU => ?_⟩⟩
      have nMt : Ht M = none := nM
      have kM := KT.new [] nM (o := .lst [])
      have ki := KT.new [] ni0 (o := .tup [.int ((0 : Nat) : Int), .int (n : Nat), .int (room : Nat), .bl true])
      have kU := KT.new [] nU (o := .lst [.ref i0])
      have nUt : Ht U = none := (kM.trans ki).free nU
      have hM0 := kU.kp _ _ (by simp) (ki.kp _ _ (by simp) upd_same)
      have hi0 := kU.tp _ _ (upd_same (H := upd Ht M (.lst [])) (a := i0) (o := .tup [.int ((0 : Nat) : Int), .int (n : Nat), .int (room : Nat), .bl true]))
      have hU0 : (upd (upd (upd Ht M (.lst [])) i0 (.tup [.int ((0 : Nat) : Int), .int (n : Nat), .int (room : Nat), .bl true])) U (.lst [.ref i0])) U = some (.lst [.ref i0]) := upd_same
      have k0 := (kM.trans ki).trans kU
      have hMU : M ≠ U := fun z => by
        have := ki.kp _ _ (by simp) (upd_same (H := Ht) (a := M) (o := .lst []))
        rw [← z] at nU
        exact nomatch this.symm.trans nU
      clear kM ki kU nU ni0
      generalize (upd (upd (upd Ht M (.lst [])) i0 (.tup [.int ((0 : Nat) : Int), .int (n : Nat), .int (room : Nat), .bl true])) U (.lst [.ref i0])) = H0 at k0 hM0 hi0 hU0
      refine ⟨fun m σ H1 => ∃ (x5 x6 x7 x8 x9 x10 : Option V) (its : List PI) (vs : List V) (ms : List Int), σ = [some (.int n), some (.int room), some (.ref t), some (.ref M), some (.ref U), x5, x6, x7, x8, x9, x10] ∧ KT [] Ht H1 ∧ H1 M = some (.lst (ms.map V.int)) ∧ H1 U = some (.lst vs) ∧ P2 (ItV H1) vs its ∧ (∀ x ∈ its, x.Ok n room) ∧ ms ++ totS its = pebG room n 0 true ∧ m = muS its, ⟨_, none, none, none, none, none, none, [⟨0, n, room, true⟩], [.ref i0], [], rfl, k0, hM0, hU0, .cons ⟨i0, rfl, hi0⟩ .nil, ?_, ?_, rfl⟩, ?_⟩
      · intro x hx
        rw [List.mem_singleton.mp hx]
        exact ⟨hr1, Nat.le_refl _, hn1, Nat.le_refl _, by show 0 + n ≤ n; omega, e⟩
      · show (pebG room n 0 true ++ []) = _
        rw [List.append_nil]
      rintro m σ H1 ⟨x5, x6, x7, x8, x9, x10, its, vs, ms, rfl, k, hM, hU, hP, hOk, htot, rfl⟩
      refine ⟨_, rfl, _, .inl ⟨vs, SqL.of hU, rfl⟩, ?_⟩
      rcases List.eq_nil_or_concat its with z | ⟨its, it, z⟩
      · subst z
        cases hP
        have htot : ms ++ [] = pebG room n 0 true := htot
        rw [List.append_nil] at htot
        subst htot
        exact ite_f (by decide) ⟨_, rfl, q M H1 (kt.trans k) (kt.free nMt) hM⟩
      · rw [List.concat_eq_append] at z
        subst z
        obtain ⟨us, v, rfl, hPu, a, rfl, ha⟩ := hP.unsnoc
        obtain ⟨at_, l, p, b⟩ := it
        have hok := hOk ⟨at_, l, p, b⟩ (by simp)
        have hoks := fun x hx => hOk x (List.mem_append_left _ hx)
        have hlt : its.length + ms.length ≤ 100000 := by
          have h1 := totS_len hoks
          have h2 := congrArg List.length htot
          rw [totS_snoc, List.length_append, List.length_append] at h2
          omega
        have hus : us.length = its.length := hPu.len
        refine ite_t (by simp) ⟨fun σ' H' => ∃ m', m' < _ ∧ ∃ (x5 x6 x7 x8 x9 x10 : Option V) (its : List PI) (vs : List V) (ms : List Int), σ' = [some (.int n), some (.int room), some (.ref t), some (.ref M), some (.ref U), x5, x6, x7, x8, x9, x10] ∧ KT [] Ht H' ∧ H' M = some (.lst (ms.map V.int)) ∧ H' U = some (.lst vs) ∧ P2 (ItV H') vs its ∧ (∀ x ∈ its, x.Ok n room) ∧ ms ++ totS its = pebG room n 0 true ∧ m' = muS its, fun _ _ h => h, ?_⟩
        refine ⟨_, rfl, .inl ⟨rfl, _, SqL.of hU⟩, U, _, .ref a, rfl, rfl, hU, ?_, ?_⟩
        · rw [List.length_append, List.length_singleton, Nat.add_sub_cancel, List.getElem?_append_right (Nat.le_refl _), Nat.sub_self]
          rfl
        rw [List.dropLast_concat]
        have k2 : KT [] Ht (upd H1 U (.lst us)) := k.late nUt
        have hM2 : (upd H1 U (.lst us)) M = some (.lst (ms.map V.int)) := by rw [upd_ne hMU]; exact hM
        have hU2 : (upd H1 U (.lst us)) U = some (.lst us) := upd_same
        have hP2 : P2 (ItV (upd H1 U (.lst us))) us its := hPu.mono fun _ _ => ItV.put hU
        obtain ⟨a', ea, ha2⟩ : ItV (upd H1 U (.lst us)) (.ref a) ⟨at_, l, p, b⟩ := ItV.put hU ⟨a, rfl, ha⟩
        cases ea
        clear ha hP hPu k hM hU
        generalize upd H1 U (.lst us) = H2 at k2 hM2 hU2 hP2 ha2
        rw [totS_snoc] at htot
        have ha2 : H2 a = some (.tup [.int (at_ : Nat), .int (l : Nat), .int (p : Nat), .bl b]) := ha2
        have hok' := hok
        obtain ⟨hp1, hp2, hl1, hl2, hal, het⟩ := hok'
        have hp1 : 1 ≤ p := hp1
        have hp2 : p ≤ room := hp2
        have hl1 : 1 ≤ l := hl1
        have hl2 : l ≤ n := hl2
        have hal : at_ + l ≤ n := hal
        have hgl : 1 ≤ (pebG p l at_ b).length := hok.pos
        have htot : ms ++ (pebG p l at_ b ++ totS its) = pebG room n 0 true := htot
        have hmu : muS (its ++ [⟨at_, l, p, b⟩]) = muS its + (2 * (pebG p l at_ b).length - 1) := by
          rw [muS_app]
          show _ + (2 * (pebG p l at_ b).length - 1 + 0) = _
          rw [Nat.add_zero]
        rw [hmu]
        refine ⟨a, _, rfl, SqT.of ha2, rfl, _, _, rfl, _, _, rfl, _, _, rfl, _, _, rfl, rfl, ?_⟩
        have hms : (ms.map V.int).length < sizeLine := by
          rw [List.length_map]
          exact Nat.lt_of_le_of_lt (by omega : _ ≤ 200000) (by decide)
        refine ⟨_, rfl, rfl, _, rfl, ite2 (fun e1 => ?_) (fun e1 => ?_)⟩
        · have hl : l = 1 := by
            have := V.int.inj (of_decide_eq_true e1)
            omega
          subst hl
          rw [pebG_one] at htot hgl ⊢
          have hlm : muS its < muS its + (2 * [if b then (at_ : Int) + 1 else -(at_ : Int) - 1].length - 1) := by
            show _ < _ + 1
            omega
          have hPm : ∀ o, P2 (ItV (upd H2 M o)) us its := fun o => hP2.mono fun _ _ => ItV.put hM2
          have hUm : ∀ o, (upd H2 M o) U = some (.lst us) := fun o => by rw [upd_ne (Ne.symm hMU)]; exact hU2
          refine ⟨_, rfl, .inl ⟨rfl, _, SqL.of hM2⟩, ?_⟩
          cases b
          · refine ⟨_, rfl, _, rfl, (if_neg Bool.false_ne_true).mpr ⟨_, rfl, _, rfl, _, _, rfl, rfl, M, _, _, rfl, rfl, hM2, hms, ?_⟩⟩
            refine ⟨_, hlm, _, _, _, _, _, _, its, us, ms ++ [-(at_ : Int) - 1], rfl, k2.late nMt, ?_, hUm _, hPm _, hoks, ?_, rfl⟩
            · rw [upd_same, List.map_append]
              rfl
            · rw [← htot, List.append_assoc]
              rfl
          · refine ⟨_, rfl, _, rfl, (if_pos rfl).mpr ⟨_, rfl, _, _, rfl, rfl, M, _, _, rfl, rfl, hM2, hms, ?_⟩⟩
            refine ⟨_, hlm, _, _, _, _, _, _, its, us, ms ++ [(at_ : Int) + 1], rfl, k2.late nMt, ?_, hUm _, hPm _, hoks, ?_, rfl⟩
            · rw [upd_same, List.map_append]
              rfl
            · rw [← htot, List.append_assoc]
              rfl
        · have hl : 2 ≤ l := by
            have : l ≠ 1 := fun z => e1 (decide_eq_true (by rw [z]; rfl))
            omega
          have epp : p - 1 + 1 = p := by omega
          refine ⟨_, rfl, _, rfl, _, rfl, t, n, room, p - 1, l, congrArg (fun k : Nat => [V.ref t, V.int (l : Nat), V.int (k : Nat)]) epp.symm, hl2, hn, by omega, hr2, hT.keep k2, ?_⟩
          rw [epp]
          have hflat := parts_flat (at_ := at_) (b := b) hp1 hl het
          have hpok := parts_ok hok hl
          have hpmu := parts_mu hok hl
          obtain ⟨m1, ml, _, _, _, _, _⟩ := bst hp1 hl het
          rw [← hflat] at htot
          generalize pebG p l at_ b = gg at hpmu hflat hgl
          generalize bestM p l = m at hflat hpok hpmu m1 ml htot
          have sz3 : 3 ≤ sizeLine := Nat.le_trans (by decide : 3 ≤ 2000) (by decide)
          have sz4 : 4 ≤ sizeLine := Nat.le_trans (by decide : 4 ≤ 2000) (by decide)
          have c1 : ((at_ + m : Nat) : Int) = (at_ : Int) + (m : Nat) := by omega
          have c2 : ((l - m : Nat) : Int) = (l : Int) - (m : Nat) := by omega
          have c3 : ((p - 1 : Nat) : Int) = (p : Int) - 1 := by omega
          refine ⟨_, rfl, _, rfl, _, rfl, sz4, fun i1 n1 => ⟨_, rfl, _, rfl, _, _, rfl, rfl, _, rfl, _, rfl, _, _, rfl, rfl, _, rfl, _, _, rfl, rfl, _, rfl, sz4, fun i2 n2 => ⟨_, rfl, _, rfl, _, rfl, _, _, rfl, rfl, sz4, fun i3 n3 => ⟨sz3, fun R nR => ?_⟩⟩⟩⟩
          have kk1 := KT.new [] n1 (o := .tup [.int (at_ : Nat), .int (m : Nat), .int (p : Nat), .bl true])
          have kk2 := KT.new [] n2 (o := .tup [.int ((at_ : Int) + (m : Nat)), .int ((l : Int) - (m : Nat)), .int ((p : Int) - 1), .bl b])
          have kk3 := KT.new [] n3 (o := .tup [.int (at_ : Nat), .int (m : Nat), .int ((p : Int) - 1), .bl false])
          have kk4 := KT.new [] nR (o := .lst [.ref i1, .ref i2, .ref i3])
          have kr := ((kk1.trans kk2).trans kk3).trans kk4
          have q1 := kk4.tp _ _ (kk3.tp _ _ (kk2.tp _ _ (upd_same (H := H2) (a := i1) (o := .tup [.int (at_ : Nat), .int (m : Nat), .int (p : Nat), .bl true]))))
          have q2 := kk4.tp _ _ (kk3.tp _ _ (upd_same (H := upd H2 i1 (.tup [.int (at_ : Nat), .int (m : Nat), .int (p : Nat), .bl true])) (a := i2) (o := .tup [.int ((at_ : Int) + (m : Nat)), .int ((l : Int) - (m : Nat)), .int ((p : Int) - 1), .bl b])))
          have q3 := kk4.tp _ _ (upd_same (H := upd (upd H2 i1 (.tup [.int (at_ : Nat), .int (m : Nat), .int (p : Nat), .bl true])) i2 (.tup [.int ((at_ : Int) + (m : Nat)), .int ((l : Int) - (m : Nat)), .int ((p : Int) - 1), .bl b])) (a := i3) (o := .tup [.int (at_ : Nat), .int (m : Nat), .int ((p : Int) - 1), .bl false]))
          have q4 : (upd (upd (upd (upd H2 i1 (.tup [.int (at_ : Nat), .int (m : Nat), .int (p : Nat), .bl true])) i2 (.tup [.int ((at_ : Int) + (m : Nat)), .int ((l : Int) - (m : Nat)), .int ((p : Int) - 1), .bl b])) i3 (.tup [.int (at_ : Nat), .int (m : Nat), .int ((p : Int) - 1), .bl false])) R (.lst [.ref i1, .ref i2, .ref i3])) R = some (.lst [.ref i1, .ref i2, .ref i3]) := upd_same
          clear kk1 kk2 kk3 kk4 n1 n2 n3 nR
          generalize (upd (upd (upd (upd H2 i1 (.tup [.int (at_ : Nat), .int (m : Nat), .int (p : Nat), .bl true])) i2 (.tup [.int ((at_ : Int) + (m : Nat)), .int ((l : Int) - (m : Nat)), .int ((p : Int) - 1), .bl b])) i3 (.tup [.int (at_ : Nat), .int (m : Nat), .int ((p : Int) - 1), .bl false])) R (.lst [.ref i1, .ref i2, .ref i3])) = Hr at kr q1 q2 q3 q4
          rw [← c1, ← c2, ← c3] at q2
          rw [← c3] at q3
          refine ⟨fun σ' H' => ∃ (R : Addr) (vs3 : List V), σ' = [some (.int n), some (.int room), some (.ref t), some (.ref M), some (.ref U), some (.int (at_ : Nat)), some (.int (l : Nat)), some (.int (p : Nat)), some (.bl b), some (.int (m : Nat)), some (.ref R)] ∧ KT [] H2 H' ∧ H' R = some (.lst vs3) ∧ P2 (ItV H') vs3 (partsP at_ l p m b), ?_, ?_⟩
          · cases b
            · refine ⟨_, rfl, _, rfl, (if_pos rfl).mpr ⟨_, rfl, _, rfl, _, rfl, _, _, rfl, rfl, sz4, fun j1 m1 => ⟨_, rfl, R, _, _, _, rfl, rfl, SqL.of ((KT.new [] m1).kp _ _ (by simp) q4), (atI_nat (j := 1) rfl), _, rfl, _, rfl, _, rfl, sz4, fun j3 m3 => ⟨sz3, fun R2 nR2 => ?_⟩⟩⟩⟩
              have jj1 := KT.new [] m1 (o := .tup [.int (at_ : Nat), .int (m : Nat), .int ((p : Int) - 1), .bl true])
              have jj3 := KT.new [] m3 (o := .tup [.int (at_ : Nat), .int (m : Nat), .int (p : Nat), .bl false])
              have jj4 := KT.new [] nR2 (o := .lst [.ref j1, .ref i2, .ref j3])
              have r1 := jj4.tp _ _ (jj3.tp _ _ (upd_same (H := Hr) (a := j1) (o := .tup [.int (at_ : Nat), .int (m : Nat), .int ((p : Int) - 1), .bl true])))
              have r3 := jj4.tp _ _ (upd_same (H := upd Hr j1 (.tup [.int (at_ : Nat), .int (m : Nat), .int ((p : Int) - 1), .bl true])) (a := j3) (o := .tup [.int (at_ : Nat), .int (m : Nat), .int (p : Nat), .bl false]))
              have jj := (jj1.trans jj3).trans jj4
              refine ⟨R2, _, rfl, kr.trans jj, upd_same, ?_⟩
              rw [← c3] at r1
              exact .cons ⟨j1, rfl, by rw [c3]; rw [c3] at r1; exact r1⟩ (.cons ⟨i2, rfl, jj.tp _ _ q2⟩ (.cons ⟨j3, rfl, r3⟩ .nil))
            · refine ⟨_, rfl, _, rfl, (if_neg (by decide)).mpr ?_⟩
              exact ⟨R, _, rfl, kr, q4, .cons ⟨i1, rfl, q1⟩ (.cons ⟨i2, rfl, q2⟩ (.cons ⟨i3, rfl, q3⟩ .nil))⟩
          · rintro σ' H' ⟨R', vs3, rfl, k3, hR3, hP3⟩
            have hUk : H' U = some (.lst us) := k3.kp _ _ (by simp) hU2
            refine ⟨_, rfl, .inl ⟨rfl, _, SqL.of hUk⟩, _, rfl, R', _, rfl, SqL.of hR3, fun B nB => ?_⟩
            have kB := KT.new [] nB (o := .lst vs3.reverse)
            have nUB : U ≠ B := fun z => by rw [← z, hUk] at nB; cases nB
            have hl3 : vs3.length ≤ 3 := by
              rw [hP3.len]
              cases b <;> exact Nat.le_refl 3
            refine ⟨U, B, us, vs3.reverse, rfl, rfl, by rw [upd_ne nUB]; exact hUk, upd_same, ?_, ?_⟩
            · rw [List.length_reverse]
              exact Nat.le_trans (by omega : _ ≤ 200000) (by decide)
            refine ⟨_, ?_, _, _, _, _, _, _, its ++ (partsP at_ l p m b).reverse, us ++ vs3.reverse, ms, rfl, ((k2.trans k3).trans kB).late nUt, ?_, upd_same, ?_, ?_, ?_, rfl⟩
            · rw [muS_app]
              omega
            · rw [upd_ne hMU]
              exact kB.kp _ _ (by simp) (k3.kp _ _ (by simp) hM2)
            · have hUB : (upd H' B (.lst vs3.reverse)) U = some (.lst us) := by rw [upd_ne nUB]; exact hUk
              refine P2.app ?_ ?_
              · exact (hP2.mono fun _ _ z => ItV.put hUB (ItV.keep kB (ItV.keep k3 z)))
              · exact (P2.rev hP3).mono fun _ _ z => ItV.put hUB (ItV.keep kB z)
            · intro x hx
              rcases List.mem_append.mp hx with h | h
              · exact hoks x h
              · exact hpok x (List.mem_reverse.mp h)
            · rw [totS_app]
              exact htot
end

end My

set_option Elab.async false
set_option linter.all false
set_option maxRecDepth 100000
namespace My
open PySem PySem.Spec PyProof.Rows L2
/-! ### the law's search -/
/-- the places that are found, with their distance, and the row behind -/
abbrev SS := List (Nat × Nat) × List Nat
def hasB (x j : Nat) : Bool := x / 2 ^ j % 2 == 1
def manyB (n x : Nat) : Nat := ((List.range n).filter fun k => hasB x k).length
def farV (far : List (Nat × Nat)) (x : Nat) : Option Nat := far.lookup x
def flipB (here place : Nat) : Nat := if hasB here (place - 1) then here - 2 ^ (place - 1) else here + 2 ^ (place - 1)
def placeS (n room here : Nat) (s : SS) (place : Nat) : SS :=
  if place = 1 ∨ hasB here (place - 2) = true then
    if manyB n (flipB here place) ≤ room ∧ (farV s.1 (flipB here place)).isNone then (s.1 ++ [(flipB here place, (farV s.1 here).getD 0 + 1)], s.2 ++ [flipB here place]) else s
  else s
def hereS (n room : Nat) (s : SS) (here : Nat) : SS := ((List.range n).map (· + 1)).foldl (placeS n room here) s
def rowS (n room : Nat) (s : SS) : SS := s.2.foldl (hereS n room) (s.1, [])
def goOn (n : Nat) (s : SS) : Bool := !s.2.isEmpty && (farV s.1 (2 ^ (n - 1))).isNone
def searchK (n room : Nat) : Nat → SS → SS
  | 0, s => s
  | k + 1, s => if goOn n s then searchK n room k (rowS n room s) else s
def searchS (n room : Nat) : SS := searchK n room 30 ([(0, 0)], [0])
def searchF (n room : Nat) : Int := match farV (searchS n room).1 (2 ^ (n - 1)) with | some k => k | none => -1
theorem search_small : ∀ n ∈ [1, 2, 3, 4, 5, 6, 7], ∀ room ∈ [1, 2, 3, 4], goOn n (searchS n room) = false ∧ searchF n room = leastM room n ∧ (searchS n room).1.length ≤ 200 := by decide +kernel

end My

set_option Elab.async false
set_option linter.all false
set_option maxRecDepth 100000
namespace My
open PySem PySem.Spec PyProof.Rows L2
def ivN (xs : List Nat) : List V := xs.map fun (k : Nat) => V.int (k : Int)
theorem ivN_int (ns : List Nat) : ivN ns = (ns.map fun (n : Nat) => (n : Int)).map V.int := by
  unfold ivN
  rw [List.map_map]
  rfl
theorem eqv_nilN (xs : List Nat) : PyData.eqv (.list ((xs.map fun (n : Nat) => (n : Int)).map PyData.int)) (.list []) = xs.isEmpty := by
  cases xs with
  | nil => rfl
  | cons x r => rfl
theorem shaped_nilN : SeqAt.shaped (.list []) = true := shaped_ints []
def kvF (far : List (Nat × Nat)) : List (L2.Key × V) := far.map fun p => (Sum.inl (p.1 : Int), V.int (p.2 : Int))
theorem kvF_val (far : List (Nat × Nat)) (x : Nat) : valV (kvF far) (Sum.inl (x : Int)) = (farV far x).map fun (k : Nat) => V.int (k : Int) := by
  unfold valV kvF farV
  induction far with
  | nil => rfl
  | cons p r ih =>
    obtain ⟨a, b⟩ := p
    rw [List.map_cons, List.find?_cons, List.lookup_cons]
    by_cases h : a = x
    · subst h
      rw [beq_self_eq_true]
      have : decide ((Sum.inl (a : Int) : L2.Key) = Sum.inl (a : Int)) = true := decide_eq_true rfl
      simp only [this]
      rfl
    · have h1 : decide ((Sum.inl (a : Int) : L2.Key) = Sum.inl (x : Int)) = false := decide_eq_false fun z => h (by have := Sum.inl.inj z; omega)
      have h2 : (x == a) = false := beq_eq_false_iff_ne.mpr fun z => h z.symm
      simp only [h1, h2]
      exact ih
theorem kvF_put {far : List (Nat × Nat)} {x k : Nat} (h : farV far x = none) : putK (kvF far) (Sum.inl (x : Int)) (V.int (k : Int)) = kvF (far ++ [(x, k)]) := by
  unfold putK
  have : kvF (far ++ [(x, k)]) = kvF far ++ [(Sum.inl (x : Int), V.int (k : Int))] := by
    unfold kvF
    rw [List.map_append]
    rfl
  rw [this]
  refine if_neg fun z => ?_
  obtain ⟨y, hy, e⟩ := List.any_eq_true.mp z
  obtain ⟨p, hp, rfl⟩ := List.mem_map.mp hy
  have e : (Sum.inl (p.1 : Int) : L2.Key) = Sum.inl (x : Int) := of_decide_eq_true e
  have e := Sum.inl.inj e
  unfold farV at h
  have := List.lookup_eq_none_iff.mp h p hp
  exact absurd (by omega : x = p.1) (bne_iff_ne.mp this)
theorem shN {p : Nat} {x : Int} (h : x = (p : Int)) : (1 : Int) * 2 ^ x.toNat = ((2 ^ p : Nat) : Int) := by
  rw [h, Int.one_mul, Int.toNat_natCast, Int.natCast_pow]
  rfl
theorem bitI (x j : Nat) : decide (V.int (Int.fmod ((x : Int) / ((2 ^ j : Nat) : Int)) 2) = V.int 1) = hasB x j := by
  have e : Int.fmod ((x : Int) / ((2 ^ j : Nat) : Int)) 2 = ((x / 2 ^ j % 2 : Nat) : Int) := by
    rw [Int.fmod_eq_emod_of_nonneg _ (by decide)]
    rfl
  rw [e]
  unfold hasB
  by_cases h : x / 2 ^ j % 2 = 1
  · rw [h]
    rfl
  · rw [decide_eq_false (fun z => h (by have := V.int.inj z; omega))]
    exact (beq_eq_false_iff_ne.mpr h).symm
theorem farV_app {far : List (Nat × Nat)} {x y k : Nat} (h : (farV far x).isSome) : farV (far ++ [(y, k)]) x = farV far x := by
  unfold farV at h ⊢
  rw [List.lookup_append]
  cases e : far.lookup x with
  | none => rw [e] at h; cases h
  | some v => rfl
theorem farV_here {far : List (Nat × Nat)} {y k : Nat} (h : farV far y = none) : (farV (far ++ [(y, k)]) y).isSome := by
  unfold farV at h ⊢
  rw [List.lookup_append, h]
  show (Option.or none (List.lookup y [(y, k)])).isSome = true
  rw [List.lookup_cons, beq_self_eq_true]
  rfl
/-- what holds between the turns -/
structure SOk (s : SS) : Prop where
  ro : ∀ x ∈ s.2, (farV s.1 x).isSome
  le : s.2.length ≤ s.1.length
/-- a move of the search keeps what is found -/
structure SUp (s u : SS) : Prop where
  some : ∀ x, (farV s.1 x).isSome → (farV u.1 x).isSome
  le : s.1.length ≤ u.1.length
theorem SUp.refl (s : SS) : SUp s s := ⟨fun _ h => h, Nat.le_refl _⟩
theorem SUp.trans {s u v : SS} (a : SUp s u) (b : SUp u v) : SUp s v := ⟨fun x h => b.some x (a.some x h), Nat.le_trans a.le b.le⟩
theorem place_up (n room here : Nat) (s : SS) (p : Nat) : SUp s (placeS n room here s p) ∧ (SOk s → SOk (placeS n room here s p)) := by
  unfold placeS
  by_cases h1 : p = 1 ∨ hasB here (p - 2) = true
  · rw [if_pos h1]
    by_cases h2 : manyB n (flipB here p) ≤ room ∧ (farV s.1 (flipB here p)).isNone
    · rw [if_pos h2]
      have hn : farV s.1 (flipB here p) = none := Option.isNone_iff_eq_none.mp h2.2
      refine ⟨⟨fun x h => by rw [farV_app h]; exact h, by rw [List.length_append]; omega⟩, fun o => ⟨fun x hx => ?_, ?_⟩⟩
      · rcases List.mem_append.mp hx with h | h
        · rw [farV_app (o.ro x h)]
          exact o.ro x h
        · rw [List.mem_singleton.mp h]
          exact farV_here hn
      · rw [List.length_append, List.length_append]
        exact Nat.add_le_add_right o.le 1
    · rw [if_neg h2]
      exact ⟨.refl s, fun o => o⟩
  · rw [if_neg h1]
    exact ⟨.refl s, fun o => o⟩
theorem places_up (n room here : Nat) : ∀ (ps : List Nat) (s : SS), SUp s (ps.foldl (placeS n room here) s) ∧ (SOk s → SOk (ps.foldl (placeS n room here) s))
  | [], s => ⟨.refl s, fun o => o⟩
  | p :: ps, s => by
    obtain ⟨a, b⟩ := place_up n room here s p
    obtain ⟨c, d⟩ := places_up n room here ps (placeS n room here s p)
    exact ⟨a.trans c, fun o => d (b o)⟩
theorem heres_up (n room : Nat) : ∀ (xs : List Nat) (s : SS), SUp s (xs.foldl (hereS n room) s) ∧ (SOk s → SOk (xs.foldl (hereS n room) s))
  | [], s => ⟨.refl s, fun o => o⟩
  | x :: xs, s => by
    obtain ⟨a, b⟩ := places_up n room x ((List.range n).map (· + 1)) s
    obtain ⟨c, d⟩ := heres_up n room xs (hereS n room s x)
    exact ⟨a.trans c, fun o => d (b o)⟩
theorem row_up (n room : Nat) (s : SS) : s.1.length ≤ (rowS n room s).1.length := (heres_up n room s.2 (s.1, [])).1.le
theorem search_up (n room : Nat) : ∀ (k : Nat) (s : SS), s.1.length ≤ (searchK n room k s).1.length
  | 0, s => Nat.le_refl _
  | k + 1, s => by
    rw [searchK]
    by_cases h : goOn n s = true
    · rw [if_pos h]
      exact Nat.le_trans (row_up n room s) (search_up n room k _)
    · rw [if_neg h]
      exact Nat.le_refl _
theorem take_fold {α β : Type} {f : β → α → β} {b : β} {xs : List α} {i : Nat} {x : α} (h : xs[i]? = some x) : (xs.take (i + 1)).foldl f b = f ((xs.take i).foldl f b) x := by
  rw [List.take_succ, h, List.foldl_append]
  rfl
theorem search_stop {n room : Nat} {s : SS} (h : goOn n s = false) : ∀ k, searchK n room k s = s
  | 0 => rfl
  | k + 1 => by rw [searchK, h]; rfl
theorem searchF_of {n room : Nat} {s : SS} (h : s = searchS n room) : V.int (searchF n room) = ((farV s.1 (2 ^ (n - 1))).map fun (k : Nat) => V.int (k : Int)).getD (V.int (-1)) := by
  unfold searchF
  rw [← h]
  cases farV s.1 (2 ^ (n - 1)) <;> rfl
theorem cdiv_pow {x : Int} {j : Nat} (h : j ≤ 100) : CDivW x ((2 ^ j : Nat) : Int) := by
  refine ⟨?_, ?_⟩
  · have := Nat.pow_pos (n := j) (show 0 < 2 by decide)
    omega
  · rw [Int.natAbs_natCast, Nat.log2_two_pow]
    omega
theorem vi_eq {x y : Int} {f : V → Hp → Prop} {H : Hp} (h : x = y) (p : f (V.int y) H) : f (V.int x) H := by
  rw [h]
  exact p
def spSearch : Sp := fun vs H Q _ => ∃ (n room : Nat), vs = [.int n, .int room] ∧ 1 ≤ n ∧ n ≤ 7 ∧ 1 ≤ room ∧ room ≤ 4 ∧ ∀ H', KT [] H H' → Q (.int (searchF n room)) H'
section
variable {P : Program} {w : World} {K : PySem.W.Frag} {mg : Str → Option Value} {base : Heap}
set_option maxHeartbeats 4000000 in
theorem ok_z_search (T : Txt K mg) : FnOk P w K mg base CX0 1 T.f_z_search T.d_z_search ["n", "room"] spSearch := by
  refine T.F_z_search.ok sc_z_search (fun vs H Q E h => ?_) (fun cdv A outer s H vs Q E hr h => ?_)
  · obtain ⟨n, room, rfl, _⟩ := h
    rfl
  · obtain ⟨n, room, rfl, hn1, hn, hr1, hr2, q⟩ := h
    obtain ⟨sm1, sm2, sm3⟩ := search_small n (by simp; omega) room (by simp; omega)
    refine ⟨_, (pss_cons (ps_set (i := 2) sc_z_search.nd rfl (Or.inl rfl) (pe_cut (pe_op op_shl pe_int (pe_op op_sub (pv 0) pe_int))))
      (pss_cons (ps_set (i := 3) sc_z_search.nd rfl (Or.inl rfl) (pe_disp (pps_cons pe_int pe_int pps_nil) (by rfl) (by rfl) (fun z => by cases z) (by decide)))
      (pss_cons (ps_set (i := 4) sc_z_search.nd rfl (Or.inl rfl) (pe_lst (pa_cons pe_int pa_nil)))
      (pss_cons (ps_while PassesOwn.never (PW.pt (pw_and (pt_cmpR (op_neD hr.units) (pv 4) (pe_lst pa_nil) (nomark _)) (pw_and1 (pt_cmp (pc_dnotin (hu_of hr) (pv 2) (pv 3))))))
        (pss_cons (ps_set (i := 5) sc_z_search.nd rfl (Or.inl rfl) (pe_lst pa_nil))
        (pss_cons (ps_for PassesOwn.never rfl (pi_list (pv 4)) (pg_name (i := 6) sc_z_search.nd rfl (Or.inl rfl))
          (pss_one (ps_for PassesOwn.never rfl (pi_range2 (by rfl) T.m_range (pa_cons pe_int (pa_cons (pe_op op_add (pv 0) pe_int) pa_nil))) (pg_name (i := 7) sc_z_search.nd rfl (Or.inl rfl))
            (pss_one (ps_if (pt_cut (PW.pt (pw_or (pt_cmpR op_eq (pv 7) pe_int (nomark _)) (pw_or1 (pt_cmpR op_eq (pe_op op_modN (pe_op op_fdivW (pv 6) (pe_op op_shl pe_int (pe_op op_sub (pv 7) pe_int))) pe_int) pe_int (nomark _))))))
              (pss_cons (ps_set (i := 8) sc_z_search.nd rfl (Or.inl rfl) (pe_cut (pe_op op_shl pe_int (pe_op op_sub (pv 7) pe_int))))
              (pss_cons (ps_set (i := 9) sc_z_search.nd rfl (Or.inr rfl) (pe_cut (pe_ifExp (pt_cmpR op_eq (pe_op op_modN (pe_op op_fdivW (pv 6) (pv 8)) pe_int) pe_int (nomark _)) (pe_op op_sub (pv 6) (pv 8)) (pe_op op_add (pv 6) (pv 8)))))
              (pss_cons (ps_set (i := 10) sc_z_search.nd rfl (Or.inl rfl) (pe_callB call_len_seq (by rfl) T.m_len (by decide +kernel) (pa_cons (pe_lc (own := [("k", 11)]) (g := gName 11) (by rfl) sc_z_search.nd (pi_range1 (by rfl) T.m_range (pa_cons (pv 0) pa_nil)) (blkOk_by (own := [("k", 11)]) (N := N_z_search) (sc := defScope s_z_search) (by decide +kernel)) (fun _ _ _ _ _ => (pg_name (i := 11) sc_z_search.nd rfl (Or.inl rfl))) (fun _ _ _ _ _ => (pts_one (pt_cmpR op_eq (pe_op op_modN (pe_op op_fdivW (pv 9) (pe_op op_shl pe_int (pv 11))) pe_int) pe_int (nomark _)))) (fun _ _ _ _ _ => (pv 11))) pa_nil)))
              (pss_one (ps_if (PW.pt (pw_and (pt_cmpR op_le (pv 10) (pv 1) (nomark _)) (pw_and1 (pt_cmp (pc_dnotin (hu_of hr) (pv 9) (pv 3))))))
                (pss_cons (ps_dput (hu_of hr) (pv 3) (pv 9) (pe_op op_add (pe_dget (hu_of hr) (pv 3) (pv 6) (fun _ _ => rfl)) pe_int) rfl)
                (pss_one (ps_expr (pe_bm PySem.F.plainAttrs_list PySem.F.slot_list_append PySem.F.type_list_append mt_append (pv 5) (pa_cons (pv 9) pa_nil)))))
                pss_nil)))))
              pss_nil)))))
        (pss_one (ps_set (i := 4) sc_z_search.nd rfl (Or.inl rfl) (pv 5))))))
      (pss_one (ps_ret (pe_dget2 (hu_of hr) (pv 3) (pv 2) (pe_un un_neg pe_int) (M2.mk rfl rfl rfl rfl)))))))), ?_⟩
    refine ⟨fun v H1 => v = .int ((2 ^ (n - 1) : Nat) : Int) ∧ H1 = H, ⟨_, rfl, _, _, rfl, rfl, _, _, rfl, rfl, ⟨by omega, by omega, by decide⟩, congrArg V.int (shN (by omega)), rfl⟩, ?_⟩
    rintro v H1 ⟨rfl, rfl⟩
    refine fun F nF => ⟨upd_same, [(Sum.inl 0, V.int 0)], rfl, by decide, sz1, fun R nR => ?_⟩
    have em : mergeK [] [((Sum.inl 0 : L2.Key), V.int 0)] = kvF [(0, 0)] := by kernel_rfl
    have hF0 : (upd (upd H1 F (.dK [])) F (.dK (mergeK [] [((Sum.inl 0 : L2.Key), V.int 0)]))) F = some (.dK (kvF [(0, 0)])) := by
      rw [upd_same, em]
    have k0 : KT [] H1 (upd (upd H1 F (.dK [])) F (.dK (mergeK [] [((Sum.inl 0 : L2.Key), V.int 0)]))) := (KT.new [] nF).late nF
    generalize (upd (upd H1 F (.dK [])) F (.dK (mergeK [] [((Sum.inl 0 : L2.Key), V.int 0)]))) = Ha at hF0 k0 nR
    have kR := KT.new [] nR (o := .lst [.int 0])
    refine ⟨fun m σ H2 => ∃ (Rw : Addr) (x5 x6 x7 x8 x9 x10 : Option V) (s : SS), σ = [some (.int n), some (.int room), some (.int ((2 ^ (n - 1) : Nat) : Int)), some (.ref F), some (.ref Rw), x5, x6, x7, x8, x9, x10, none] ∧ KT [] H1 H2 ∧ H2 F = some (.dK (kvF s.1)) ∧ H2 Rw = some (.lst (ivN s.2)) ∧ searchK n room m s = searchS n room ∧ SOk s, ⟨30, R, none, none, none, none, none, none, ([(0, 0)], [0]), rfl, k0.trans kR, kR.kp _ _ (by simp) hF0, upd_same, rfl, ⟨fun x hx => ?_, Nat.le_refl 1⟩⟩, ?_⟩
    · rw [List.mem_singleton.mp hx]
      rfl
    rintro m σ H2 ⟨Rw, x5, x6, x7, x8, x9, x10, s, rfl, k2, hF2, hR2, hs, hok⟩
    refine ⟨_, rfl, Nat.zero_le _, fun l nl => ?_⟩
    have kl := KT.new [] nl (o := .lst [])
    have k3 := k2.trans kl
    have hF3 := kl.kp _ _ (by simp) hF2
    have hR3 := kl.kp _ _ (by simp) hR2
    refine ⟨.list ((s.2.map fun (n : Nat) => (n : Int)).map PyData.int), .list [], .lst (SqL.of hR3) (by rw [ivN_int]; exact dp_ints _), .lst (SqL.of upd_same) .nil, shaped_ints _, shaped_nilN, _, rfl, ?_⟩
    rw [eqv_nilN]
    clear kl k2 hF2 hR2
    generalize (upd H2 l (.lst [])) = H3 at k3 hF3 hR3
    have fin : goOn n s = false → V.int (searchF n room) = ((farV s.1 (2 ^ (n - 1))).map fun (k : Nat) => V.int (k : Int)).getD (V.int (-1)) := fun h => searchF_of (by rw [← hs, search_stop h])
    cases he : s.2.isEmpty
    · refine ite_t rfl ⟨_, rfl, _, rfl, F, _, rfl, DGet.k (k := Sum.inl _) hF3, _, rfl, ?_⟩
      rw [kvF_val]
      cases hg : farV s.1 (2 ^ (n - 1)) with
      | some d =>
        refine ite_f (by simp) ⟨_, rfl, F, rfl, .inl ⟨_, .inl hF3⟩, _, rfl, _, rfl, _, DGet.k (k := Sum.inl _) hF3, ?_⟩
        rw [kvF_val, ← fin (by unfold goOn; rw [hg]; simp)]
        exact q _ k3
      | none =>
        refine ite_t rfl ?_
        have hgo : goOn n s = true := by unfold goOn; rw [hg, he]; rfl
        cases m with
        | zero =>
          have : s = searchS n room := hs
          rw [this, sm1] at hgo
          cases hgo
        | succ m =>
        rw [searchK, if_pos hgo] at hs
        refine ⟨fun σ' H' => ∃ m', m' < m + 1 ∧ ∃ (Rw : Addr) (x5 x6 x7 x8 x9 x10 : Option V) (s : SS), σ' = [some (.int n), some (.int room), some (.int ((2 ^ (n - 1) : Nat) : Int)), some (.ref F), some (.ref Rw), x5, x6, x7, x8, x9, x10, none] ∧ KT [] H1 H' ∧ H' F = some (.dK (kvF s.1)) ∧ H' Rw = some (.lst (ivN s.2)) ∧ searchK n room m' s = searchS n room ∧ SOk s, fun _ _ h => h, ?_⟩
        have hbig : (rowS n room s).1.length ≤ 200 := by
          have := search_up n room m (rowS n room s)
          rw [hs] at this
          exact Nat.le_trans this sm3
        refine ⟨Nat.zero_le _, fun A nA => ?_⟩
        have kA := KT.new [] nA (o := .lst [])
        have nAH := k3.free nA
        have nFH : H1 F = none := nF
        have hAF : A ≠ F := fun z => by rw [z, hF3] at nA; cases nA
        have hAR : A ≠ Rw := fun z => by rw [z, hR3] at nA; cases nA
        have hFR : F ≠ Rw := fun z => by rw [z, hR3] at hF3; cases hF3
        refine ⟨_, rfl, Rw, rfl, ⟨_, SqL.of (kA.kp _ _ (by simp) hR3)⟩, ?_⟩
        refine for_it (walk_list (K := K) (a := Rw) (xs := ivN s.2)) (fun i σ H4 => ∃ (x6 x7 x8 x9 x10 : Option V), σ = [some (.int n), some (.int room), some (.int ((2 ^ (n - 1) : Nat) : Int)), some (.ref F), some (.ref Rw), some (.ref A), x6, x7, x8, x9, x10, none] ∧ KT [] H1 H4 ∧ H4 Rw = some (.lst (ivN s.2)) ∧ H4 F = some (.dK (kvF ((s.2.take i).foldl (hereS n room) (s.1, [])).1)) ∧ H4 A = some (.lst (ivN ((s.2.take i).foldl (hereS n room) (s.1, [])).2))) ?_ ?_ ?_ ?_
        · exact ⟨_, _, _, _, _, rfl, k3.trans kA, kA.kp _ _ (by simp) hR3, kA.kp _ _ (by simp) hF3, upd_same⟩
        · rintro i σ H4 _ ⟨_, _, _, _, _, _, _, h, _⟩
          exact SqL.of h
        · rintro i x σ H4 H5 hi ⟨x6, x7, x8, x9, x10, rfl, k4, hR4, hF4, hA4⟩ ⟨rfl, hx⟩
          obtain ⟨here, hh, rfl⟩ : ∃ h, s.2[i]? = some h ∧ x = .int (h : Nat) := by
            unfold ivN at hx
            rw [List.getElem?_map] at hx
            cases e : s.2[i]? with
            | none => rw [e] at hx; cases hx
            | some h => rw [e] at hx; exact ⟨h, rfl, (Option.some.inj hx).symm⟩
          have hin : here ∈ s.2 := List.mem_of_getElem? hh
          have enext := take_fold (f := hereS n room) (b := (s.1, [])) hh
          have hup := (heres_up n room (s.2.take i) (s.1, [])).1
          have hok4 : SOk ((s.2.take i).foldl (hereS n room) (s.1, [])) := (heres_up n room (s.2.take i) (s.1, [])).2 ⟨fun x h => (nomatch h), Nat.zero_le _⟩
          have hhs := hup.some here (hok.ro here hin)
          have hlen4 : ∀ j, (((List.range j).map (· + 1)).foldl (placeS n room here) ((s.2.take i).foldl (hereS n room) (s.1, []))).1.length ≤ 200 ∨ n < j := by
            intro j
            rcases Nat.lt_or_ge n j with z | z
            · exact .inr z
            · refine .inl (Nat.le_trans ?_ hbig)
              obtain ⟨rr, e1⟩ : ∃ rr, (List.range n).map (· + 1) = (List.range j).map (· + 1) ++ rr := by
                obtain ⟨d, rfl⟩ : ∃ d, n = j + d := ⟨n - j, by omega⟩
                exact ⟨_, by rw [List.range_add, List.map_append]⟩
              have e2 : rowS n room s = (s.2.drop (i + 1)).foldl (hereS n room) (((List.range n).map (· + 1)).foldl (placeS n room here) ((s.2.take i).foldl (hereS n room) (s.1, []))) := by
                show s.2.foldl (hereS n room) (s.1, []) = _
                have : s.2 = s.2.take (i + 1) ++ s.2.drop (i + 1) := (List.take_append_drop ..).symm
                conv => lhs; rw [this, List.foldl_append, enext]
                rfl
              rw [e2, e1, List.foldl_append]
              exact Nat.le_trans (places_up n room here _ _).1.le (heres_up n room _ _).1.le
          rw [enext]
          generalize (s.2.take i).foldl (hereS n room) (s.1, []) = u at hF4 hA4 hhs hlen4 hok4 ⊢
          clear hup enext
          refine ⟨_, rfl, _, _, rfl, rfl, _, _, rfl, ⟨by omega, by omega, by omega, by omega⟩, ?_⟩
          have ec : ((n : Int) + 1 - 1).toNat = n := by omega
          rw [ec]
          refine for_range (n := n) (fun j σ H4 => ∃ (x7 x8 x9 x10 : Option V), σ = [some (.int n), some (.int room), some (.int ((2 ^ (n - 1) : Nat) : Int)), some (.ref F), some (.ref Rw), some (.ref A), some (.int (here : Nat)), x7, x8, x9, x10, none] ∧ KT [] H1 H4 ∧ H4 Rw = some (.lst (ivN s.2)) ∧ H4 F = some (.dK (kvF (((List.range j).map (· + 1)).foldl (placeS n room here) u).1)) ∧ H4 A = some (.lst (ivN (((List.range j).map (· + 1)).foldl (placeS n room here) u).2))) ?_ ?_ ?_
          · exact ⟨_, _, _, _, rfl, k4, hR4, hF4, hA4⟩
          · rintro j σ H6 hj ⟨x7, x8, x9, x10, rfl, k6, hR6, hF6, hA6⟩
            have hl6 : (((List.range j).map (· + 1)).foldl (placeS n room here) u).1.length ≤ 200 := (hlen4 j).resolve_right (by omega)
            have enx : ((List.range (j + 1)).map (· + 1)).foldl (placeS n room here) u = placeS n room here (((List.range j).map (· + 1)).foldl (placeS n room here) u) (j + 1) := by
              rw [List.range_succ, List.map_append, List.foldl_append]
              rfl
            rw [enx]
            have hup6 := places_up n room here ((List.range j).map (· + 1)) u
            have hhs6 := hup6.1.some here hhs
            have hok6 := hup6.2 hok4
            generalize ((List.range j).map (· + 1)).foldl (placeS n room here) u = v at hF6 hA6 hl6 hhs6 hok6 ⊢
            clear enx hup6
            refine ⟨fun b H' => b = decide (j + 1 = 1 ∨ hasB here (j + 1 - 2) = true) ∧ H' = H6, ?_, ?_⟩
            · refine ⟨_, rfl, rfl, _, rfl, ite2 (fun e => ?_) (fun e => ?_)⟩
              · refine ⟨(decide_eq_true (.inl ?_)).symm, rfl⟩
                have := V.int.inj (of_decide_eq_true e)
                omega
              · have hj1 : 1 ≤ j := by
                  refine Decidable.byContradiction fun z => e (decide_eq_true (congrArg V.int ?_))
                  omega
                have e2 := shN (p := j - 1) (x := 1 + (j : Int) - 2) (by omega)
                have e3 : j + 1 - 2 = j - 1 := by omega
                refine ⟨_, rfl, _, rfl, _, _, rfl, rfl, _, _, rfl, rfl, ⟨by omega, by omega, by decide⟩, _, _, rfl, rfl, ?_, _, _, rfl, rfl, (show (2 : Int) ≠ 0 by decide), rfl, _, rfl, ?_, rfl⟩
                · rw [e2]
                  exact cdiv_pow (by omega)
                · show decide (V.int (Int.fmod ((here : Int) / (1 * 2 ^ (1 + (j : Int) - 2).toNat)) 2) = V.int 1) = _
                  rw [e2, bitI, e3]
                  have : ¬ j + 1 = 1 := by omega
                  cases hasB here (j - 1)
                  · exact (decide_eq_false fun z => z.elim this Bool.false_ne_true).symm
                  · exact (decide_eq_true (.inr rfl)).symm
            · rintro b H7 ⟨rfl, rfl⟩
              refine ite2 (fun e => ?_) (fun e => ?_)
              · have hcond := of_decide_eq_true e
                refine ⟨fun w H' => w = .int ((2 ^ j : Nat) : Int) ∧ H' = H7, ⟨_, rfl, _, _, rfl, rfl, _, _, rfl, rfl, ⟨by omega, by omega, by decide⟩, congrArg V.int (shN (by omega)), rfl⟩, ?_⟩
                rintro w H8 ⟨rfl, rfl⟩
                refine ⟨fun w H' => w = .int ((flipB here (j + 1) : Nat) : Int) ∧ H' = H8, ?_, ?_⟩
                · refine ⟨_, rfl, _, rfl, _, _, rfl, rfl, cdiv_pow (by omega), _, _, rfl, rfl, (show (2 : Int) ≠ 0 by decide), rfl, _, rfl, ite2 (fun e => ?_) (fun e => ?_)⟩
                  · have e : decide (V.int (Int.fmod ((here : Int) / ((2 ^ j : Nat) : Int)) 2) = V.int 1) = true := e
                    rw [bitI] at e
                    refine ⟨_, rfl, _, rfl, _, _, rfl, rfl, ?_, rfl⟩
                    have hle : 2 ^ j ≤ here := by
                      refine Decidable.byContradiction fun z => ?_
                      unfold hasB at e
                      rw [Nat.div_eq_of_lt (by omega)] at e
                      exact absurd e (by decide)
                    unfold flipB
                    rw [Nat.add_sub_cancel, if_pos e]
                    exact congrArg V.int (by omega)
                  · have e : ¬ decide (V.int (Int.fmod ((here : Int) / ((2 ^ j : Nat) : Int)) 2) = V.int 1) = true := e
                    rw [bitI] at e
                    refine ⟨_, rfl, _, rfl, _, _, rfl, rfl, ?_, rfl⟩
                    unfold flipB
                    rw [Nat.add_sub_cancel, if_neg e]
                    exact congrArg V.int (by omega)
                · rintro w H9 ⟨rfl, rfl⟩
                  refine ⟨_, rfl, (n : Int), rfl, by omega, by omega, fun D nD => ?_⟩
                  rw [Int.toNat_natCast]
                  have hDA : A ≠ D := fun z => by rw [← z, hA6] at nD; cases nD
                  have hDF : F ≠ D := fun z => by rw [← z, hF6] at nD; cases nD
                  refine lc_range (n := n) (fun i H10 => KT [] H9 H10 ∧ H10 D = some (.lst (ivN ((List.range i).filter fun k => hasB (flipB here (j + 1)) k)))) ⟨KT.new _ nD, upd_same⟩ ?_ ?_
                  · rintro i H10 hi ⟨k10, hD10⟩
                    have e2 := shN (p := i) (x := 0 + (i : Int)) (by omega)
                    refine ⟨rfl, _, rfl, _, rfl, _, _, rfl, rfl, ⟨by omega, by omega, by decide⟩, _, _, rfl, rfl, ?_, _, _, rfl, rfl, (show (2 : Int) ≠ 0 by decide), rfl, _, rfl, ?_⟩
                    · rw [e2]
                      exact cdiv_pow (by omega)
                    have hsz : (ivN ((List.range i).filter fun k => hasB (flipB here (j + 1)) k)).length < sizeLine := by
                      unfold ivN
                      rw [List.length_map]
                      refine Nat.lt_of_le_of_lt (List.length_filter_le _ _) ?_
                      rw [List.length_range]
                      exact Nat.lt_of_le_of_lt (by omega : _ ≤ 2000) (by decide)
                    have eb : decide (V.int (Int.fmod ((flipB here (j + 1) : Nat) / (1 * 2 ^ (0 + (i : Int)).toNat)) 2) = V.int 1) = hasB (flipB here (j + 1)) i := by rw [e2, bitI]
                    refine ite2 (fun e => ?_) (fun e => ?_)
                    · have e : hasB (flipB here (j + 1)) i = true := eb.symm.trans e
                      refine ⟨_, rfl, _, hD10, hsz, k10.late nD, ?_⟩
                      rw [upd_same, List.range_succ, List.filter_append, List.filter_cons, if_pos e, Int.zero_add]
                      unfold ivN
                      rw [List.map_append]
                      rfl
                    · have e : ¬ hasB (flipB here (j + 1)) i = true := fun z => e (eb.trans z)
                      refine ⟨k10, ?_⟩
                      rw [List.range_succ, List.filter_append, List.filter_cons, if_neg e]
                      show _ = some (HO.lst (ivN (_ ++ [])))
                      rw [List.append_nil]
                      exact hD10
                  · rintro H10 ⟨k10, hD10⟩
                    have elen : ((ivN ((List.range n).filter fun k => hasB (flipB here (j + 1)) k)).length) = manyB n (flipB here (j + 1)) := by
                      unfold ivN
                      rw [List.length_map]
                      rfl
                    refine ⟨D, _, rfl, .inl (SqL.of hD10), ?_⟩
                    rw [elen]
                    have hA10 := k10.kp _ _ (by simp) hA6
                    have hF10 := k10.kp _ _ (by simp) hF6
                    have hR10 := k10.kp _ _ (by simp) hR6
                    have k11 := k6.trans k10
                    have no : ¬ (manyB n (flipB here (j + 1)) ≤ room ∧ (farV v.1 (flipB here (j + 1))).isNone) → placeS n room here v (j + 1) = v := fun z => by
                      unfold placeS
                      rw [if_pos hcond, if_neg z]
                    refine ⟨_, rfl, _, rfl, _, _, rfl, rfl, _, rfl, ite2 (fun e => ?_) (fun e => ?_)⟩
                    · have hm : manyB n (flipB here (j + 1)) ≤ room := by
                        have := of_decide_eq_true e
                        omega
                      refine ⟨_, rfl, _, rfl, F, _, rfl, DGet.k (k := Sum.inl _) hF10, _, rfl, ?_⟩
                      rw [kvF_val]
                      cases hf : farV v.1 (flipB here (j + 1)) with
                      | some d =>
                        refine ite_f (by simp) ?_
                        rw [hf] at no
                        rw [no (fun z => by cases z.2)]
                        exact ⟨_, _, _, _, rfl, k11, hR10, hF10, hA10⟩
                      | none =>
                        refine ite_t rfl ?_
                        obtain ⟨d, hd⟩ := Option.isSome_iff_exists.mp hhs6
                        have yes : placeS n room here v (j + 1) = (v.1 ++ [(flipB here (j + 1), d + 1)], v.2 ++ [flipB here (j + 1)]) := by
                          unfold placeS
                          rw [if_pos hcond, if_pos ⟨hm, by rw [hf]; rfl⟩, hd]
                          rfl
                        rw [yes]
                        have hg : DGet H10 F (V.int (here : Nat)) (some (V.int (d : Nat))) := by
                          have := DGet.k (k := Sum.inl (here : Int)) hF10
                          rw [kvF_val, hd] at this
                          exact this
                        have hkl : (kvF v.1).length < sizeLine := by
                          unfold kvF
                          rw [List.length_map]
                          exact Nat.lt_of_le_of_lt (by omega : _ ≤ 2000) (by decide)
                        have hal : (ivN v.2).length < sizeLine := by
                          unfold ivN
                          rw [List.length_map]
                          have := hok6.le
                          exact Nat.lt_of_le_of_lt (by omega : _ ≤ 2000) (by decide)
                        refine ⟨_, rfl, _, rfl, F, _, rfl, hg, _, _, rfl, rfl, _, rfl, _, rfl, F, _, rfl, DPut.k (k := Sum.inl ((flipB here (j + 1) : Nat) : Int)) hF10 hkl, ?_⟩
                        have hput : putK (kvF v.1) (Sum.inl ((flipB here (j + 1) : Nat) : Int)) (V.int ((d : Nat) + 1)) = kvF (v.1 ++ [(flipB here (j + 1), d + 1)]) := kvF_put hf
                        have hA11 : (upd H10 F (.dK (putK (kvF v.1) (Sum.inl ((flipB here (j + 1) : Nat) : Int)) (V.int ((d : Nat) + 1))))) A = some (.lst (ivN v.2)) := by rw [upd_ne hAF]; exact hA10
                        refine ⟨_, rfl, .inl ⟨rfl, _, SqL.of hA11⟩, _, rfl, A, _, _, rfl, rfl, hA11, hal, ?_⟩
                        refine ⟨_, _, _, _, rfl, (k11.late nFH).late nAH, ?_, ?_, ?_⟩
                        · rw [upd_ne hAR.symm, upd_ne hFR.symm]
                          exact hR10
                        · rw [upd_ne hAF.symm, upd_same, hput]
                        · rw [upd_same]
                          unfold ivN
                          rw [List.map_append]
                          rfl
                    · refine ite_f (by simp) ?_
                      have hm : ¬ manyB n (flipB here (j + 1)) ≤ room := fun z => e (decide_eq_true (by omega))
                      rw [no (fun z => hm z.1)]
                      exact ⟨_, _, _, _, rfl, k11, hR10, hF10, hA10⟩
              · refine ⟨_, _, _, _, rfl, k6, hR6, ?_, ?_⟩
                · unfold placeS
                  rw [if_neg fun z => e (decide_eq_true z)]
                  exact hF6
                · unfold placeS
                  rw [if_neg fun z => e (decide_eq_true z)]
                  exact hA6
          · rintro σ H6 ⟨x7, x8, x9, x10, rfl, k6, hR6, hF6, hA6⟩
            exact ⟨_, _, _, _, _, rfl, k6, hR6, hF6, hA6⟩
        · rintro σ H4 ⟨x6, x7, x8, x9, x10, rfl, k4, hR4, hF4, hA4⟩
          have el : (s.2.take (ivN s.2).length) = s.2 := List.take_of_length_le (by unfold ivN; rw [List.length_map]; exact Nat.le_refl _)
          rw [el] at hF4 hA4
          refine ⟨_, rfl, m, by omega, A, _, _, _, _, _, _, rowS n room s, rfl, k4, hF4, hA4, hs, ?_⟩
          exact (heres_up n room s.2 (s.1, [])).2 ⟨fun x h => (nomatch h), Nat.zero_le _⟩
    · refine ite_f (by decide) ⟨_, rfl, F, rfl, .inl ⟨_, .inl hF3⟩, _, rfl, _, rfl, _, DGet.k (k := Sum.inl _) hF3, ?_⟩
      rw [kvF_val, ← fin (by unfold goOn; rw [he]; rfl)]
      exact q _ k3
end

end My

set_option Elab.async false
set_option linter.all false
set_option maxRecDepth 100000
namespace My
open PySem PySem.Spec PyProof.Rows L2
/-! ### the table by evaluation, the rows of moves -/
def TT : List (List Int) := [[1000000000000, 1000000000000, 1000000000000, 1000000000000, 1000000000000, 1000000000000, 1000000000000, 1000000000000, 1000000000000, 1000000000000, 1000000000000, 1000000000000, 1000000000000, 1000000000000, 1000000000000, 1000000000000, 1000000000000, 1000000000000, 1000000000000, 1000000000000, 1000000000000, 1000000000000, 1000000000000, 1000000000000, 1000000000000, 1000000000000, 1000000000000, 1000000000000, 1000000000000, 1000000000000, 1000000000000, 1000000000000, 1000000000000, 1000000000000, 1000000000000, 1000000000000, 1000000000000, 1000000000000, 1000000000000, 1000000000000, 1000000000000],
  [1000000000000, 1, 1000000000000, 1000000000000, 1000000000000, 1000000000000, 1000000000000, 1000000000000, 1000000000000, 1000000000000, 1000000000000, 1000000000000, 1000000000000, 1000000000000, 1000000000000, 1000000000000, 1000000000000, 1000000000000, 1000000000000, 1000000000000, 1000000000000, 1000000000000, 1000000000000, 1000000000000, 1000000000000, 1000000000000, 1000000000000, 1000000000000, 1000000000000, 1000000000000, 1000000000000, 1000000000000, 1000000000000, 1000000000000, 1000000000000, 1000000000000, 1000000000000, 1000000000000, 1000000000000, 1000000000000, 1000000000000],
  [1000000000000, 1, 3, 1000000000000, 1000000000000, 1000000000000, 1000000000000, 1000000000000, 1000000000000, 1000000000000, 1000000000000, 1000000000000, 1000000000000, 1000000000000, 1000000000000, 1000000000000, 1000000000000, 1000000000000, 1000000000000, 1000000000000, 1000000000000, 1000000000000, 1000000000000, 1000000000000, 1000000000000, 1000000000000, 1000000000000, 1000000000000, 1000000000000, 1000000000000, 1000000000000, 1000000000000, 1000000000000, 1000000000000, 1000000000000, 1000000000000, 1000000000000, 1000000000000, 1000000000000, 1000000000000, 1000000000000],
  [1000000000000, 1, 3, 5, 9, 1000000000000, 1000000000000, 1000000000000, 1000000000000, 1000000000000, 1000000000000, 1000000000000, 1000000000000, 1000000000000, 1000000000000, 1000000000000, 1000000000000, 1000000000000, 1000000000000, 1000000000000, 1000000000000, 1000000000000, 1000000000000, 1000000000000, 1000000000000, 1000000000000, 1000000000000, 1000000000000, 1000000000000, 1000000000000, 1000000000000, 1000000000000, 1000000000000, 1000000000000, 1000000000000, 1000000000000, 1000000000000, 1000000000000, 1000000000000, 1000000000000, 1000000000000],
  [1000000000000, 1, 3, 5, 7, 11, 15, 19, 25, 1000000000000, 1000000000000, 1000000000000, 1000000000000, 1000000000000, 1000000000000, 1000000000000, 1000000000000, 1000000000000, 1000000000000, 1000000000000, 1000000000000, 1000000000000, 1000000000000, 1000000000000, 1000000000000, 1000000000000, 1000000000000, 1000000000000, 1000000000000, 1000000000000, 1000000000000, 1000000000000, 1000000000000, 1000000000000, 1000000000000, 1000000000000, 1000000000000, 1000000000000, 1000000000000, 1000000000000, 1000000000000],
  [1000000000000, 1, 3, 5, 7, 9, 13, 17, 21, 25, 29, 33, 39, 45, 53, 61, 71, 1000000000000, 1000000000000, 1000000000000, 1000000000000, 1000000000000, 1000000000000, 1000000000000, 1000000000000, 1000000000000, 1000000000000, 1000000000000, 1000000000000, 1000000000000, 1000000000000, 1000000000000, 1000000000000, 1000000000000, 1000000000000, 1000000000000, 1000000000000, 1000000000000, 1000000000000, 1000000000000, 1000000000000],
  [1000000000000, 1, 3, 5, 7, 9, 11, 15, 19, 23, 27, 31, 35, 39, 43, 47, 51, 57, 63, 69, 77, 85, 93, 101, 109, 117, 125, 135, 145, 155, 167, 179, 193, 1000000000000, 1000000000000, 1000000000000, 1000000000000, 1000000000000, 1000000000000, 1000000000000, 1000000000000],
  [1000000000000, 1, 3, 5, 7, 9, 11, 13, 17, 21, 25, 29, 33, 37, 41, 45, 49, 53, 57, 61, 65, 69, 73, 79, 85, 91, 97, 105, 113, 121, 129, 137, 145, 153, 161, 169, 177, 185, 193, 201, 209],
  [1000000000000, 1, 3, 5, 7, 9, 11, 13, 15, 19, 23, 27, 31, 35, 39, 43, 47, 51, 55, 59, 63, 67, 71, 75, 79, 83, 87, 91, 95, 99, 105, 111, 117, 123, 129, 137, 145, 153, 161, 169, 177]]
def tt (p l : Nat) : Int := (TT.getD p []).getD l 0
theorem tt_zero : ∀ l < 41, tt 0 l = NEV := by decide +kernel
theorem tt_edge : ∀ p < 8, tt (p + 1) 0 = NEV ∧ tt (p + 1) 1 = 1 := by decide +kernel
theorem tt_step : ∀ p < 8, ∀ l < 39, tt (p + 1) (l + 2) = minF (((List.range (l + 1)).map fun i => tt (p + 1) (i + 1) + tt p (l + 2 - (i + 1)) + tt p (i + 1)) ++ [NEV]) := by decide +kernel
theorem tt_is : ∀ p, p ≤ 8 → ∀ l, l ≤ 40 → Et p l = tt p l := by
  intro p
  induction p with
  | zero =>
    intro _ l hl
    rw [tt_zero l (by omega)]
    rfl
  | succ p ih =>
    intro hp l
    induction l using Nat.strongRecOn with
    | _ l ih2 =>
      intro hl
      obtain ⟨e0, e1⟩ := tt_edge p (by omega)
      match l, ih2, hl with
      | 0, _, _ => rw [e0]; rfl
      | 1, _, _ => rw [e1]; rfl
      | l + 2, ih2, hl =>
        rw [Et_step, tt_step p (by omega) l (by omega)]
        congr 2
        refine List.map_congr_left fun i hi => ?_
        have hi := List.mem_range.mp hi
        rw [ih2 (i + 1) (by omega) (by omega), ih (by omega) (l + 2 - (i + 1)) (by omega), ih (by omega) (i + 1) (by omega)]
theorem tt_facts : ∀ r < 8, ∀ k < 40, (decide (tt (r + 1) (k + 1) < NEV) = decide (k + 1 ≤ 2 ^ r)) ∧ (tt (r + 1) (k + 1) < NEV → 2 * ((k : Int) + 1) - 1 ≤ tt (r + 1) (k + 1) ∧ tt (r + 1) (k + 1) ≤ 1000 ∧ (k ≤ r → tt (r + 1) (k + 1) = 2 * ((k : Int) + 1) - 1)) := by decide +kernel
structure EtOk (room n : Nat) : Prop where
  iff : Et room n < NEV ↔ n ≤ 2 ^ (room - 1)
  lo : Et room n < NEV → 2 * (n : Int) - 1 ≤ Et room n
  hi : Et room n < NEV → Et room n ≤ 1000
  eq : Et room n < NEV → n ≤ room → Et room n = 2 * (n : Int) - 1
theorem et_ok {room n : Nat} (h1 : 1 ≤ room) (h2 : room ≤ 8) (h3 : 1 ≤ n) (h4 : n ≤ 40) : EtOk room n := by
  obtain ⟨r, rfl⟩ : ∃ r, room = r + 1 := ⟨room - 1, by omega⟩
  obtain ⟨k, rfl⟩ : ∃ k, n = k + 1 := ⟨n - 1, by omega⟩
  obtain ⟨a, b⟩ := tt_facts r (by omega) k (by omega)
  have e := tt_is (r + 1) h2 (k + 1) h4
  rw [← e] at a b
  refine ⟨?_, fun h => by have := (b h).1; push_cast; omega, fun h => (b h).2.1, fun h h5 => by have := (b h).2.2 (by omega); push_cast; omega⟩
  rw [Nat.add_sub_cancel]
  exact ⟨fun h => of_decide_eq_true (by rw [← a, decide_eq_true h]), fun h => of_decide_eq_true (by rw [a, decide_eq_true h])⟩
/-- a step on the chain, in the one way and in the other -/
theorem step_up {n room at_ : Nat} {st : List Int} (h1 : at_ + 1 ≤ n) (h2 : at_ = 0 ∨ (at_ : Int) ∈ st) (h3 : ((at_ + 1 : Nat) : Int) ∉ st) (h4 : st.length + 1 ≤ room) : stepW n room st ((at_ : Int) + 1) = some (st ++ [((at_ + 1 : Nat) : Int)]) := by
  have ea : (((at_ : Int) + 1).natAbs : Int) = ((at_ + 1 : Nat) : Int) := by omega
  unfold stepW
  rw [if_neg (by
    rw [ea]
    rintro (z | ⟨z, y⟩)
    · exact z (by omega)
    · rcases h2 with h2 | h2
      · omega
      · exact y (by have : ((at_ + 1 : Nat) : Int) - 1 = (at_ : Int) := by omega
                    rw [this]; exact h2)), if_neg (by rw [ea, decide_eq_true (by omega), decide_eq_false h3]; decide)]
  have en : newSt st ((at_ : Int) + 1) = st ++ [((at_ + 1 : Nat) : Int)] := by
    unfold newSt
    rw [if_pos (by omega), ea]
  rw [en, if_neg (by rw [List.length_append, List.length_singleton]; omega)]
theorem step_down {n room at_ : Nat} {st : List Int} (h1 : at_ + 1 ≤ n) (h2 : at_ = 0 ∨ (at_ : Int) ∈ st) (h3 : ((at_ + 1 : Nat) : Int) ∈ st) (h4 : (st.filter fun x => decide (x ≠ ((at_ + 1 : Nat) : Int))).length ≤ room) : stepW n room st (-(at_ : Int) - 1) = some (st.filter fun x => decide (x ≠ ((at_ + 1 : Nat) : Int))) := by
  have ea : ((-(at_ : Int) - 1).natAbs : Int) = ((at_ + 1 : Nat) : Int) := by omega
  unfold stepW
  rw [if_neg (by
    rw [ea]
    rintro (z | ⟨z, y⟩)
    · exact z (by omega)
    · rcases h2 with h2 | h2
      · omega
      · exact y (by have : ((at_ + 1 : Nat) : Int) - 1 = (at_ : Int) := by omega
                    rw [this]; exact h2)), if_neg (by rw [ea, decide_eq_false (by omega), decide_eq_true h3]; decide)]
  have en : newSt st (-(at_ : Int) - 1) = st.filter fun x => decide (x ≠ ((at_ + 1 : Nat) : Int)) := by
    unfold newSt
    rw [if_neg (by omega), ea]
  rw [en, if_neg (by omega)]
theorem filt_len {st : List Int} {x : Int} (hn : st.Nodup) (hx : x ∈ st) : (st.filter fun y => decide (y ≠ x)).length + 1 = st.length := by
  induction st with
  | nil => cases hx
  | cons a r ih =>
    rw [List.filter_cons]
    obtain ⟨h1, h2⟩ := List.nodup_cons.mp hn
    by_cases h : a = x
    · subst h
      rw [if_neg (by simp)]
      have : (r.filter fun y => decide (y ≠ a)) = r := List.filter_eq_self.mpr fun y hy => decide_eq_true fun z => h1 (by rw [← z]; exact hy)
      rw [this]
      rfl
    · rw [if_pos (decide_eq_true h), List.length_cons, List.length_cons, ih h2 ((List.mem_cons.mp hx).resolve_left fun z => h z.symm)]
theorem filt_new {st : List Int} {x : Int} (hx : x ∉ st) : (st.filter fun y => decide (y ≠ x)) = st := List.filter_eq_self.mpr fun y hy => decide_eq_true fun z => hx (by rw [← z]; exact hy)
theorem filt_app (st : List Int) {x y : Int} (h : y ≠ x) : ((st ++ [y]).filter fun z => decide (z ≠ x)) = (st.filter fun z => decide (z ≠ x)) ++ [y] := by
  rw [List.filter_append, List.filter_cons, if_pos (decide_eq_true h)]
  rfl
theorem filt_app2 (st : List Int) (x : Int) : ((st ++ [x]).filter fun z => decide (z ≠ x)) = (st.filter fun z => decide (z ≠ x)) := by
  rw [List.filter_append, List.filter_cons, if_neg (by simp)]
  exact List.append_nil _
theorem pebG_walk {n room : Nat} : ∀ (l p at_ : Nat) (st : List Int), 1 ≤ p → 1 ≤ l → Et p l < NEV → at_ + l ≤ n → (at_ = 0 ∨ (at_ : Int) ∈ st) → st.Nodup →
    ((∀ j, 1 ≤ j → j ≤ l → ((at_ + j : Nat) : Int) ∉ st) → st.length + p ≤ room → foldW n room (pebG p l at_ true) st = some (st ++ [((at_ + l : Nat) : Int)])) ∧
    ((∀ j, 1 ≤ j → j < l → ((at_ + j : Nat) : Int) ∉ st) → ((at_ + l : Nat) : Int) ∈ st → st.length + p ≤ room + 1 → foldW n room (pebG p l at_ false) st = some (st.filter fun x => decide (x ≠ ((at_ + l : Nat) : Int)))) := by
  intro l
  induction l using Nat.strongRecOn with
  | _ l ih =>
    intro p at_ st hp hl he hn ha hd
    rcases Nat.lt_or_ge 1 l with h | h
    · have B := bst hp h he
      have hsu := pebG_step (at_ := at_) (b := true) hp h he
      have hsd := pebG_step (at_ := at_) (b := false) hp h he
      rw [if_pos rfl] at hsu
      rw [if_neg Bool.false_ne_true] at hsd
      obtain ⟨m1, ml, p1, e1, e2, e3, _⟩ := B
      generalize bestM p l = m at m1 ml e1 e2 e3 hsu hsd
      have el : at_ + m + (l - m) = at_ + l := by omega
      have hml : ((at_ + m : Nat) : Int) ≠ ((at_ + l : Nat) : Int) := by omega
      have hnd : ((at_ + m : Nat) : Int) ∉ st → (st ++ [((at_ + m : Nat) : Int)]).Nodup := fun z => List.nodup_append.mpr ⟨hd, List.pairwise_singleton _ _, fun a h1 b h2 y => z (by rw [List.mem_singleton.mp h2] at y; rw [← y]; exact h1)⟩
      refine ⟨fun hno hr => ?_, fun hno hin hr => ?_⟩
      · have hm := hno m m1 (by omega)
        have hll := hno l hl (Nat.le_refl l)
        have s1 := (ih m ml p at_ st hp m1 e1 (by omega) ha hd).1 (fun j h1 h2 => hno j h1 (by omega)) hr
        have s2 := (ih (l - m) (by omega) (p - 1) (at_ + m) (st ++ [((at_ + m : Nat) : Int)]) p1 (by omega) e2 (by omega) (.inr (by simp)) (hnd hm)).1 (fun j h1 h2 z => by
          rcases List.mem_append.mp z with z | z
          · exact hno (m + j) (by omega) (by omega) (by rw [← Nat.add_assoc]; exact z)
          · have := List.mem_singleton.mp z
            omega) (by rw [List.length_append, List.length_singleton]; omega)
        rw [el] at s2
        have hnd2 : ((st ++ [((at_ + m : Nat) : Int)]) ++ [((at_ + l : Nat) : Int)]).Nodup := List.nodup_append.mpr ⟨hnd hm, List.pairwise_singleton _ _, fun a h1 b h2 y => by
          rw [List.mem_singleton.mp h2] at y
          rcases List.mem_append.mp h1 with z | z
          · exact hll (by rw [← y]; exact z)
          · rw [List.mem_singleton.mp z] at y
            exact hml y⟩
        have s3 := (ih m ml (p - 1) at_ ((st ++ [((at_ + m : Nat) : Int)]) ++ [((at_ + l : Nat) : Int)]) p1 m1 e3 (by omega) (ha.imp id fun z => by simp [z]) hnd2).2 (fun j h1 h2 z => by
          rcases List.mem_append.mp z with z | z
          · rcases List.mem_append.mp z with z | z
            · exact hno j h1 (by omega) z
            · have := List.mem_singleton.mp z
              omega
          · have := List.mem_singleton.mp z
            omega) (by simp) (by rw [List.length_append, List.length_append, List.length_singleton, List.length_singleton]; omega)
        rw [hsu, foldW_app, foldW_app, s1]
        show ((foldW n room _ _).bind _) = _
        rw [s2]
        show foldW n room _ _ = _
        rw [s3, filt_app _ hml.symm, filt_app2, filt_new hm]
      · have hm := hno m m1 ml
        have hpos : 1 ≤ st.length := List.length_pos_of_mem hin
        have s1 := (ih m ml (p - 1) at_ st p1 m1 e3 (by omega) ha hd).1 (fun j h1 h2 => hno j h1 (by omega)) (by omega)
        have s2 := (ih (l - m) (by omega) (p - 1) (at_ + m) (st ++ [((at_ + m : Nat) : Int)]) p1 (by omega) e2 (by omega) (.inr (by simp)) (hnd hm)).2 (fun j h1 h2 z => by
          rcases List.mem_append.mp z with z | z
          · exact hno (m + j) (by omega) (by omega) (by rw [← Nat.add_assoc]; exact z)
          · have := List.mem_singleton.mp z
            omega) (by rw [el]; exact List.mem_append_left _ hin) (by rw [List.length_append, List.length_singleton]; omega)
        rw [el, filt_app _ hml] at s2
        have hf := filt_len hd hin
        have hnf : ((at_ + m : Nat) : Int) ∉ (st.filter fun x => decide (x ≠ ((at_ + l : Nat) : Int))) := fun z => hm (List.mem_filter.mp z).1
        have hnd2 : ((st.filter fun x => decide (x ≠ ((at_ + l : Nat) : Int))) ++ [((at_ + m : Nat) : Int)]).Nodup := List.nodup_append.mpr ⟨hd.filter _, List.pairwise_singleton _ _, fun a h1 b h2 y => by
          rw [List.mem_singleton.mp h2] at y
          exact hnf (by rw [← y]; exact h1)⟩
        have s3 := (ih m ml p at_ ((st.filter fun x => decide (x ≠ ((at_ + l : Nat) : Int))) ++ [((at_ + m : Nat) : Int)]) hp m1 e1 (by omega) (ha.imp id fun z => List.mem_append_left _ (List.mem_filter.mpr ⟨z, decide_eq_true (by omega)⟩)) hnd2).2 (fun j h1 h2 z => by
          rcases List.mem_append.mp z with z | z
          · exact hno j h1 (by omega) (List.mem_filter.mp z).1
          · have := List.mem_singleton.mp z
            omega) (by simp) (by rw [List.length_append, List.length_singleton]; omega)
        rw [hsd, foldW_app, foldW_app, s1]
        show ((foldW n room _ _).bind _) = _
        rw [s2]
        show foldW n room _ _ = _
        rw [s3, filt_app2, filt_new hnf]
    · have : l = 1 := by omega
      subst this
      refine ⟨fun hno hr => ?_, fun hno hin hr => ?_⟩
      · show (stepW n room st ((at_ : Int) + 1)).bind _ = _
        rw [step_up hn ha (hno 1 (by omega) (by omega)) (by omega)]
        rfl
      · show (stepW n room st (-(at_ : Int) - 1)).bind _ = _
        have hf := filt_len hd hin
        rw [step_down hn ha hin (by omega)]
        rfl
theorem pebG_right {n room : Nat} (h1 : 1 ≤ room) (h3 : 1 ≤ n) (he : Et room n < NEV) : walkF n room (pebG room n 0 true) = true := by
  have := (pebG_walk (n := n) (room := room) n room 0 [] h1 h3 he (by omega) (.inl rfl) List.nodup_nil).1 (fun j _ _ h => nomatch h) (by simp)
  unfold walkF
  rw [this]
  rw [Nat.zero_add]
  exact decide_eq_true rfl

end My

set_option Elab.async false
set_option linter.all false
set_option maxRecDepth 100000
namespace My
open PySem PySem.Spec PyProof.Rows L2
theorem ne_new {dr p : Addr} {H : Hp} (d : DrawAt H dr) (h : H p = none) : p ≠ dr := fun z => by
  obtain ⟨u, e⟩ := d.some
  rw [z, e] at h
  cases h
theorem ne_lst {H : Hp} {dr D : Addr} {us : List Int} (d : DrawAt H dr) (h : H D = some (.lst (us.map V.int))) : D ≠ dr := fun z => by
  obtain ⟨c, cells, pos, rest, seed, I⟩ := d
  rw [z, I.hp] at h
  cases us with
  | nil => cases h
  | cons x r =>
    have := (List.cons.inj (HO.lst.inj (Option.some.inj h))).1
    cases this
theorem GS.of {dr : Addr} {H H' : Hp} (d : DrawAt H dr) (k : KT [] H H') : GS dr H H' := ⟨k.mono (fun _ h => (nomatch h)), d.keep (fun _ _ e => k.kp _ _ (by simp) e), fun c t e => ⟨t, k.kp _ _ (by simp) e⟩⟩
/-- an error of a class is one that the class's own name meets -/
theorem exm_own {K : PySem.W.Frag} {S : Addr} (b : PySem.W.subIn K (.ref S) (.type "BaseException") = some true) (i : PySem.W.isClsIn K S = true) (t : PySem.W.typeIn K (.ref S) = some (.type "type")) (o : PySem.W.subIn K (.ref S) (.ref S) = some true) : PySem.W.exmOne K (.ref S) (.ref S) = some true := by
  have i : (PySem.W.clsIn K S).isSome = true := i
  unfold PySem.W.exmOne
  rw [b]
  refine (if_pos (by rfl)).trans ?_
  unfold PySem.W.kitCls
  refine (if_pos ?_).trans o
  rw [i, t]
  rfl
/-- a list of ints, of so many at most -/
def IntsV (H : Hp) (v : V) (m : Nat) : Prop := ∃ (a : Addr) (os : List Int), v = .ref a ∧ H a = some (.lst (os.map V.int)) ∧ os.length ≤ m
theorem IntsV.keep {H H' : Hp} (k : KT [] H H') {v : V} {m : Nat} : IntsV H v m → IntsV H' v m := fun ⟨a, os, h1, h2, h3⟩ => ⟨a, os, h1, k.kp _ _ (by simp) h2, h3⟩
theorem cut_ints (os : List Int) (lo hi : Option Int) : ∃ us : List Int, cutV (os.map V.int) lo hi = us.map V.int ∧ us.length ≤ os.length := by
  refine ⟨(os.drop (HT.sIx (os.map V.int).length 0 lo)).take (HT.sIx (os.map V.int).length (os.map V.int).length hi - HT.sIx (os.map V.int).length 0 lo), ?_, ?_⟩
  · unfold cutV
    rw [List.map_take, List.map_drop]
  · rw [List.length_take, List.length_drop]
    omega
theorem sl_i {K : PySem.W.Frag} {H : Hp} {x : V} {m : Nat} {lo hi : Option Int} {J : V → Hp → Prop} (ha : IntsV H x m) (hJ : ∀ v H', KT [] H H' → IntsV H' v m → J v H') : rSlL K x lo hi H J := by
  obtain ⟨a, os, rfl, h, hl⟩ := ha
  obtain ⟨us, e, hu⟩ := cut_ints os lo hi
  exact ⟨a, _, rfl, SqL.of h, fun p np => hJ _ _ (KT.new [] np) ⟨p, us, rfl, by rw [upd_same, e], Nat.le_trans hu hl⟩⟩
theorem cat_i {H : Hp} {x y : V} {m k : Nat} {J : V → Hp → Prop} (ha : IntsV H x m) (hb : IntsV H y k) (hs : m + k ≤ 100000) (hJ : ∀ v H', KT [] H H' → IntsV H' v (m + k) → J v H') : rCat x y H J := by
  obtain ⟨a, os, rfl, h, hl⟩ := ha
  obtain ⟨b, us, rfl, g, gl⟩ := hb
  refine ⟨a, b, _, _, rfl, rfl, h, g, ?_, fun p np => hJ _ _ (KT.new [] np) ⟨p, os ++ us, rfl, by rw [upd_same, List.map_append], by rw [List.length_append]; omega⟩⟩
  rw [List.length_map, List.length_map]
  exact Nat.le_trans (by omega : _ ≤ 100000) (by decide)
theorem least_cond {room n : Nat} (hr : 1 ≤ room) (o : EtOk room n) : decide (V.int (leastM room n) = V.int (-1)) = decide ((1 : Int) * 2 ^ ((room : Int) - 1).toNat < (n : Int)) := by
  rw [shN (p := room - 1) (by omega)]
  have h1 := Et_pos room n
  unfold leastM
  by_cases h : Et room n < NEV
  · have h2 := o.iff.mp h
    rw [if_pos h, decide_eq_false (fun z => by have := V.int.inj z; omega), decide_eq_false (by omega)]
  · have h2 : ¬ n ≤ 2 ^ (room - 1) := fun z => h (o.iff.mpr z)
    rw [if_neg h, decide_eq_true rfl, decide_eq_true (by omega)]
theorem least_none {room n : Nat} : decide (V.int (leastM room n) = V.int (-1)) = true ↔ ¬ Et room n < NEV := by
  have h1 := Et_pos room n
  unfold leastM
  by_cases h : Et room n < NEV
  · rw [if_pos h]
    exact ⟨fun z => absurd (V.int.inj (of_decide_eq_true z)) (by omega), fun z => absurd h z⟩
  · rw [if_neg h]
    exact ⟨fun _ => h, fun _ => decide_eq_true rfl⟩
def spLaw (K : PySem.W.Frag) : Sp := fun vs H Q _ => ∃ (a : Addr) (ns : List Int), vs = [.ref a] ∧ SqL K H a (ns.map V.int) ∧ ns.length ≤ 63 ∧ ∀ H', Q (.bl true) H'
section
variable {P : Program} {w : World} {K : PySem.W.Frag} {mg : Str → Option Value} {base : Heap}
set_option maxHeartbeats 8000000 in
theorem ok_law (T : Txt K mg) : FnOk P w K mg base CX0 4 T.f_law T.d_law ["script"] (spLaw K) := by
  have G_z_draw := ok_z_draw (P := P) (w := w) (base := base) T
  have G_z_take := okG_z_take (P := P) (w := w) (base := base) T
  have G_least_moves := ok_least_moves (P := P) (w := w) (base := base) T
  have G_z_search := ok_z_search (P := P) (w := w) (base := base) T
  have G_pebbling := ok_pebbling (P := P) (w := w) (base := base) T
  have G_is_pebbling := ok_is_pebbling (P := P) (w := w) (base := base) T
  have G_z_walk := ok_z_walk (P := P) (w := w) (base := base) T
  refine T.F_law.ok sc_law (fun vs H Q E h => ?_) (fun cdv A outer s H vs Q E hr h => ?_)
  · obtain ⟨a, ns, rfl, _⟩ := h
    rfl
  · obtain ⟨a, ns, rfl, hS0, hlen, q⟩ := h
    refine ⟨_, (pss_cons (ps_set (i := 1) sc_law.nd rfl (Or.inl rfl) (pe_call G_z_draw (hr.mono (by omega)) (by rfl) T.g_z_draw T.F_z_draw.kp T.b_z_draw .nil pass0 (pa_cons (pv 0) pa_nil)))
      (pss_cons (ps_set (i := 2) sc_law.nd rfl (Or.inl rfl) (pe_op op_add pe_int (pe_call G_z_take (hr.mono (by omega)) (by rfl) T.g_z_take T.F_z_take.kp T.b_z_take .nil pass0 (pa_cons (pv 1) (pa_cons pe_int pa_nil)))))
      (pss_cons (ps_set (i := 3) sc_law.nd rfl (Or.inl rfl) (pe_op op_add pe_int (pe_call G_z_take (hr.mono (by omega)) (by rfl) T.g_z_take T.F_z_take.kp T.b_z_take .nil pass0 (pa_cons (pv 1) (pa_cons pe_int pa_nil)))))
      (pss_cons (ps_if (pt_cmpR op_ne (pe_call G_least_moves (hr.mono (by omega)) (by rfl) T.g_least_moves T.F_least_moves.kp T.b_least_moves .nil pass0 (pa_cons (pv 2) (pa_cons (pv 3) pa_nil))) (pe_call G_z_search (hr.mono (by omega)) (by rfl) T.g_z_search T.F_z_search.kp T.b_z_search .nil pass0 (pa_cons (pv 2) (pa_cons (pv 3) pa_nil))) (nomark _))
        (pss_one (ps_ret pe_bl))
        pss_nil)
      (pss_cons (ps_set (i := 2) sc_law.nd rfl (Or.inl rfl) (pe_cut (pe_ix ix_list (pe_lst (pa_cons (pv 2) (pa_cons (pe_op op_add pe_int (pe_call G_z_take (hr.mono (by omega)) (by rfl) T.g_z_take T.F_z_take.kp T.b_z_take .nil pass0 (pa_cons (pv 1) (pa_cons pe_int pa_nil)))) pa_nil))) (pe_call G_z_take (hr.mono (by omega)) (by rfl) T.g_z_take T.F_z_take.kp T.b_z_take .nil pass0 (pa_cons (pv 1) (pa_cons pe_int pa_nil))) (fun _ _ => rfl))))
      (pss_cons (ps_set (i := 3) sc_law.nd rfl (Or.inl rfl) (pe_op op_add pe_int (pe_call G_z_take (hr.mono (by omega)) (by rfl) T.g_z_take T.F_z_take.kp T.b_z_take .nil pass0 (pa_cons (pv 1) (pa_cons pe_int pa_nil)))))
      (pss_cons (ps_set (i := 4) sc_law.nd rfl (Or.inl rfl) (pe_call G_least_moves (hr.mono (by omega)) (by rfl) T.g_least_moves T.F_least_moves.kp T.b_least_moves .nil pass0 (pa_cons (pv 2) (pa_cons (pv 3) pa_nil))))
      (pss_cons (ps_if (pt_cmpR op_ne (pe_cmpR op_eq (pv 4) (pe_un un_neg pe_int) (nomark _)) (pe_cmpR op_gt (pv 2) (pe_op op_shl pe_int (pe_op op_sub (pv 3) pe_int)) (nomark _)) (nomark _))
        (pss_one (ps_ret pe_bl))
        pss_nil)
      (pss_cons (ps_cut (ps_if (pt_cmpR op_eq (pv 4) (pe_un un_neg pe_int) (nomark _))
        (pss_one (ps_try_only rfl rfl ⟨rfl, by decide, .inl T.x_g⟩ takes0 (fun W pn xe tk _ => (pss_cons (ps_expr (pe_callS G_pebbling (hr.mono (by omega)) (by rfl) T.g_pebbling T.F_pebbling.kp T.b_pebbling (fun σ => passAt tk σ) (pa_cons (pv 2) (pa_cons (pv 3) pa_nil)))) (pss_one (ps_ret pe_bl)))) (fun a oe cls d pn _ _ => (pss_one (ps_ret pe_bl)))))
        pss_nil))
      (pss_cons (ps_set (i := 5) sc_law.nd rfl (Or.inl rfl) (pe_callS G_pebbling (hr.mono (by omega)) (by rfl) T.g_pebbling T.F_pebbling.kp T.b_pebbling (fun σ => passAt takes0 σ) (pa_cons (pv 2) (pa_cons (pv 3) pa_nil))))
      (pss_cons (ps_if (PW.pt (pw_or (pt_cmpR op_ne (pe_callB call_len_seq (by rfl) T.m_len (by decide +kernel) (pa_cons (pv 5) pa_nil)) (pv 4) (nomark _)) (pw_or (pt_not (pt_val (pe_call G_z_walk (hr.mono (by omega)) (by rfl) T.g_z_walk T.F_z_walk.kp T.b_z_walk .nil pass0 (pa_cons (pv 2) (pa_cons (pv 3) (pa_cons (pv 5) pa_nil)))))) (pw_or1 (pt_cmpR op_notBl (pe_call G_is_pebbling (hr.mono (by omega)) (by rfl) T.g_is_pebbling T.F_is_pebbling.kp T.b_is_pebbling .nil pass0 (pa_cons (pv 2) (pa_cons (pv 3) (pa_cons (pv 5) pa_nil)))) pe_bl (nomark _))))))
        (pss_one (ps_ret pe_bl))
        pss_nil)
      (pss_cons (ps_if (pt_cut (PW.pt (pw_or (pt_cmpR op_lt (pv 4) (pe_op op_sub (pe_op op_mul pe_int (pv 2)) pe_int) (nomark _)) (pw_or1 (PW.pt (pw_and (pt_cmpR op_ge (pv 3) (pv 2) (nomark _)) (pw_and1 (pt_cmpR op_ne (pv 4) (pe_op op_sub (pe_op op_mul pe_int (pv 2)) pe_int) (nomark _)))))))))
        (pss_one (ps_ret pe_bl))
        pss_nil)
      (pss_cons (ps_for PassesOwn.never rfl (pi_range1 (by rfl) T.m_range (pa_cons pe_int pa_nil)) (pg_name (i := 6) sc_law.nd rfl (Or.inl rfl))
        (pss_cons (ps_set (i := 7) sc_law.nd rfl (Or.inl rfl) (pe_call G_z_take (hr.mono (by omega)) (by rfl) T.g_z_take T.F_z_take.kp T.b_z_take .nil pass0 (pa_cons (pv 1) (pa_cons (pe_callB call_len_seq (by rfl) T.m_len (by decide +kernel) (pa_cons (pv 5) pa_nil)) pa_nil))))
        (pss_cons (ps_set (i := 8) sc_law.nd rfl (Or.inl rfl) (pe_cut (pe_ix ix_list (pe_lst (pa_cons (pe_op op_cat (pe_slice sl_list (pv 5) po_none (po_some (pv 7))) (pe_slice sl_list (pv 5) (po_some (pe_op op_add (pv 7) pe_int)) po_none)) (pa_cons (pe_op op_cat (pe_op op_cat (pe_slice sl_list (pv 5) po_none (po_some (pv 7))) (pe_lst (pa_cons (pe_ix ix_list (pv 5) (pv 7) (fun _ _ => rfl)) pa_nil))) (pe_slice sl_list (pv 5) (po_some (pv 7)) po_none)) (pa_cons (pe_op op_cat (pe_op op_cat (pe_slice sl_list (pv 5) po_none (po_some (pv 7))) (pe_lst (pa_cons (pe_un un_neg (pe_ix ix_list (pv 5) (pv 7) (fun _ _ => rfl))) pa_nil))) (pe_slice sl_list (pv 5) (po_some (pe_op op_add (pv 7) pe_int)) po_none)) (pa_cons (pe_slice sl_list (pv 5) po_none (po_some (pv 7))) (pa_cons (pe_op op_cat (pv 5) (pe_lst (pa_cons pe_int pa_nil))) (pa_cons (pe_op op_cat (pv 5) (pe_lst (pa_cons (pe_op op_add (pv 2) pe_int) pa_nil))) pa_nil))))))) (pe_call G_z_take (hr.mono (by omega)) (by rfl) T.g_z_take T.F_z_take.kp T.b_z_take .nil pass0 (pa_cons (pv 1) (pa_cons pe_int pa_nil))) (fun _ _ => rfl))))
        (pss_one (ps_if (pt_cmpR op_ne (pe_call G_is_pebbling (hr.mono (by omega)) (by rfl) T.g_is_pebbling T.F_is_pebbling.kp T.b_is_pebbling .nil pass0 (pa_cons (pv 2) (pa_cons (pv 3) (pa_cons (pv 8) pa_nil)))) (pe_call G_z_walk (hr.mono (by omega)) (by rfl) T.g_z_walk T.F_z_walk.kp T.b_z_walk .nil pass0 (pa_cons (pv 2) (pa_cons (pv 3) (pa_cons (pv 8) pa_nil)))) (nomark _))
          (pss_one (ps_ret pe_bl))
          pss_nil)))))
      (pss_one (ps_ret (pe_or (pe_cmpR op_eq (pv 3) pe_int (nomark _)) (pe_one (pe_cmpR op_eq (pe_call G_is_pebbling (hr.mono (by omega)) (by rfl) T.g_is_pebbling T.F_is_pebbling.kp T.b_is_pebbling .nil pass0 (pa_cons (pv 2) (pa_cons (pe_op op_sub (pv 3) pe_int) (pa_cons (pv 5) pa_nil)))) (pe_call G_z_walk (hr.mono (by omega)) (by rfl) T.g_z_walk T.F_z_walk.kp T.b_z_walk .nil pass0 (pa_cons (pv 2) (pa_cons (pe_op op_sub (pv 3) pe_int) (pa_cons (pv 5) pa_nil)))) (nomark _))))))))))))))))))), ?_⟩
    refine ⟨_, rfl, a, ns, rfl, hS0, hlen, fun H1 dr sm ndr D => ?_⟩
    refine ⟨_, rfl, dr, 7, rfl, D, by decide, by decide, fun r1 H2 r10 r11 g2 => ?_⟩
    obtain ⟨k1, rfl⟩ := int_nat r10
    refine ⟨_, _, rfl, rfl, ?_⟩
    refine ⟨_, rfl, dr, 4, rfl, g2.d, by decide, by decide, fun r2 H3 r20 r21 g3 => ?_⟩
    obtain ⟨k2, rfl⟩ := int_nat r20
    refine ⟨_, _, rfl, rfl, ?_⟩
    have en : (1 : Int) + (k1 : Nat) = ((k1 + 1 : Nat) : Int) := by omega
    have er : (1 : Int) + (k2 : Nat) = ((k2 + 1 : Nat) : Int) := by omega
    refine ⟨_, rfl, _, rfl, k1 + 1, k2 + 1, (by rw [← en, ← er]; rfl), by omega, by omega, by omega, by omega, fun Ha ka => ?_⟩
    refine ⟨_, rfl, _, rfl, k1 + 1, k2 + 1, (by rw [← en, ← er]; rfl), by omega, by omega, by omega, by omega, fun Hb kb => ?_⟩
    have esm : searchF (k1 + 1) (k2 + 1) = leastM (k2 + 1) (k1 + 1) := (search_small (k1 + 1) (by simp; omega) (k2 + 1) (by simp; omega)).2.1
    refine ⟨rfl, _, rfl, ?_⟩
    rw [esm]
    refine ite_f (by rw [decide_eq_true rfl]; decide) ?_
    have g3 := (g2.trans g3).trans (GS.of g3.d (ka.trans kb))
    refine ⟨fun v H' => ∃ n : Nat, v = .int (n : Nat) ∧ 1 ≤ n ∧ n ≤ 40 ∧ GS dr H1 H', ?_, ?_⟩
    · refine ⟨_, rfl, _, rfl, dr, 40, rfl, g3.d, by decide, by decide, fun r3 H4 r30 r31 g4 => ?_⟩
      obtain ⟨k3, rfl⟩ := int_nat r30
      refine ⟨_, _, rfl, rfl, sz2, fun l nl => ?_⟩
      have gl := (g3.trans g4).trans (GS.new g4.d nl (o := .lst [.int (1 + (k1 : Nat)), .int (1 + (k3 : Nat))]))
      have lp : l ∉ [dr] := by rw [List.mem_singleton]; exact ne_new g4.d nl
      refine ⟨_, rfl, dr, 2, rfl, gl.d, by decide, by decide, fun r4 H5 r40 r41 g5 => ?_⟩
      have hL := g5.k.kp _ _ lp upd_same
      have : r4 = 0 ∨ r4 = 1 := by omega
      rcases this with rfl | rfl
      · exact ⟨l, _, 0, _, rfl, rfl, SqL.of hL, rfl, k1 + 1, congrArg V.int en, by omega, by omega, gl.trans g5⟩
      · exact ⟨l, _, 1, _, rfl, rfl, SqL.of hL, rfl, k3 + 1, congrArg V.int (by omega), by omega, by omega, gl.trans g5⟩
    rintro v H4 ⟨n, rfl, hn1, hn2, g4⟩
    refine ⟨_, rfl, dr, 8, rfl, g4.d, by decide, by decide, fun r5 H5 r50 r51 g5 => ?_⟩
    obtain ⟨k5, rfl⟩ := int_nat r50
    refine ⟨_, _, rfl, rfl, ?_⟩
    have er5 : (1 : Int) + (k5 : Nat) = ((k5 + 1 : Nat) : Int) := by omega
    refine ⟨_, rfl, _, rfl, n, k5 + 1, congrArg (fun y => [V.int (n : Nat), V.int y]) er5, hn1, by omega, by omega, by omega, fun H6 k6 => ?_⟩
    have g6 := (g4.trans g5).trans (GS.of g5.d k6)
    have hR : 1 ≤ k5 + 1 ∧ k5 + 1 ≤ 8 := by omega
    generalize hroom : k5 + 1 = room at er5 hR ⊢
    have O := et_ok hR.1 hR.2 hn1 hn2
    have hlc : decide (V.int (leastM room n) = V.int (-1)) = decide ((1 : Int) * 2 ^ ((1 + (k5 : Int)) - 1).toNat < (n : Int)) := by
      rw [er5]
      exact least_cond hR.1 O
    refine ⟨_, rfl, _, rfl, rfl, _, rfl, _, rfl, _, _, rfl, rfl, _, _, rfl, rfl, ⟨by omega, by omega, by decide⟩, _, _, rfl, rfl, rfl, _, rfl, ite_f ?_ ?_⟩
    · show ¬ (!decide (V.bl (decide (V.int (leastM room n) = V.int (-1))) = V.bl (decide ((1 : Int) * 2 ^ ((1 + (k5 : Int)) - 1).toNat < (n : Int))))) = true
      rw [hlc, decide_eq_true rfl]
      decide
    refine ⟨fun σ' H' => Et room n < NEV ∧ σ' = [some (.ref a), some (.ref dr), some (.int (n : Nat)), some (.int (room : Nat)), some (.int (leastM room n)), none, none, none, none] ∧ H' = H6, ?_, ?_⟩
    · refine ⟨_, rfl, _, rfl, rfl, _, rfl, ite2 (fun e => ?_) (fun e => ?_)⟩
      · have he := least_none.mp e
        refine ⟨_, rfl, _, rfl, n, room, congrArg (fun y => [V.int (n : Nat), V.int y]) er5, hn1, by omega, hR.1, by omega, fun _ H7 k7 => ?_, fun z => absurd z he⟩
        exact ⟨true, exm_own T.x_b T.x_i T.x_t T.x_s, fun _ b _ => q _, fun z => nomatch z⟩
      · refine ⟨Decidable.byContradiction fun z => e (least_none.mpr z), ?_, rfl⟩
        rw [← er5]
        rfl
    rintro σ H7 ⟨he, rfl, rfl⟩
    clear hlc er5 hroom g4 r50 r51 g5
    have elm : leastM room n = Et room n := if_pos he
    have hpl := pebG_len n (at_ := 0) (b := true) hR.1 hn1 he
    have hhi := O.hi he
    have hwk := pebG_right hR.1 hn1 he
    refine ⟨_, rfl, _, rfl, n, room, rfl, hn1, by omega, hR.1, by omega, fun z => absurd he z, fun _ => ⟨by omega, fun M H8 k8 nM hM => ?_⟩⟩
    have hlo := O.lo he
    generalize hms : pebG room n 0 true = ms at hpl hwk hM
    have hlms : ms.length ≤ 1000 := by omega
    have hlm1 : 1 ≤ ms.length := by omega
    have g8 := g6.trans (GS.of g6.d k8)
    have elen : ((ms.map V.int).length : Int) = (Et room n) := by rw [List.length_map]; exact hpl
    refine ⟨_, rfl, M, _, rfl, .inl (SqL.of hM), _, rfl, rfl, _, rfl, ite_f ?_ ?_⟩
    · rw [elen, elm, decide_eq_true rfl]
      decide
    refine ⟨_, rfl, _, rfl, _, rfl, M, n, room, ms, rfl, by omega, by omega, by omega, by omega, by omega, hM, fun H9 k9 => ?_⟩
    rw [hwk]
    have hM9 := k9.kp _ _ (by simp) hM
    refine ⟨_, rfl, ite_f (by decide) ?_⟩
    refine ⟨_, rfl, _, rfl, _, rfl, M, n, room, ms, rfl, by omega, by omega, by omega, by omega, by omega, hM9, fun H10 k10 => ?_⟩
    rw [hwk]
    have hM10 := k10.kp _ _ (by simp) hM9
    refine ⟨_, _, rfl, rfl, _, rfl, ite_f (by decide) ?_⟩
    have g10 := (g8.trans (GS.of g8.d k9)).trans (GS.of (g8.trans (GS.of g8.d k9)).d k10)
    have nMd : M ≠ dr := ne_new g6.d nM
    have Mp : M ∉ [dr] := by rw [List.mem_singleton]; exact nMd
    refine ⟨fun b H' => b = false ∧ H' = H10, ?_, ?_⟩
    · refine ⟨_, rfl, _, rfl, _, _, rfl, rfl, .inl ⟨by decide, by decide⟩, _, _, rfl, rfl, _, _, rfl, rfl, _, rfl, ite_f ?_ ?_⟩
      · rw [elm, decide_eq_false (by omega)]
        decide
      refine ⟨_, rfl, _, rfl, _, _, rfl, rfl, _, rfl, ite2 (fun e => ?_) (fun e => ⟨rfl, rfl⟩)⟩
      refine ⟨_, rfl, _, rfl, _, _, rfl, rfl, .inl ⟨by decide, by decide⟩, _, _, rfl, rfl, rfl, _, rfl, ?_, rfl⟩
      have heq := O.eq he (by have := of_decide_eq_true e; omega)
      rw [elm, heq, decide_eq_true rfl]
      rfl
    rintro b H11 ⟨rfl, rfl⟩
    refine ite_f (by decide) ?_
    refine ⟨4, rfl, by decide, by decide, for_range (n := 4) (fun i σ H9 => ∃ (x6 x7 x8 : Option V), σ = [some (.ref a), some (.ref dr), some (.int (n : Nat)), some (.int (room : Nat)), some (.int (leastM room n)), some (.ref M), x6, x7, x8] ∧ GS dr H1 H9 ∧ H9 M = some (.lst (ms.map V.int))) ?_ ?_ ?_⟩
    · exact ⟨_, _, _, rfl, g10, hM10⟩
    · rintro i σ H9 hi ⟨x6, x7, x8, rfl, g9, hM9⟩
      refine ⟨_, rfl, _, rfl, M, _, rfl, .inl (SqL.of hM9), dr, ((ms.map V.int).length : Nat), rfl, g9.d, ?_, ?_, fun r12 H12 r120 r121 g12 => ?_⟩
      · rw [List.length_map]
        omega
      · rw [List.length_map]
        exact Int.le_trans (by omega : _ ≤ (1000 : Int)) (by decide)
      obtain ⟨at_, rfl⟩ := int_nat r120
      have hat : at_ < ms.length := by
        rw [List.length_map] at r121
        omega
      have hM12 := g12.k.kp _ _ Mp hM9
      have g13 := g9.trans g12
      refine ⟨fun v H' => IntsV H' v 3000 ∧ GS dr H1 H' ∧ H' M = some (.lst (ms.map V.int)), ?_, ?_⟩
      · have mI : IntsV H12 (.ref M) 1000 := ⟨M, ms, rfl, hM12, hlms⟩
        have hix : ∀ {H : Hp}, KT [] H12 H → SqL K H M (ms.map V.int) := fun k => SqL.of (k.kp _ _ (by simp) hM12)
        have hat2 : atI (ms.map V.int) (at_ : Int) = some (.int ms[at_]) := atI_nat (by rw [List.getElem?_map, List.getElem?_eq_getElem hat]; rfl)
        have one : ∀ {H : Hp} {l : Addr} {x : Int}, IntsV (upd H l (.lst [V.int x])) (.ref l) 1 := fun {H l x} => ⟨l, [x], rfl, upd_same, Nat.le_refl 1⟩
        refine ⟨_, rfl, _, rfl, _, rfl, sl_i mI fun v1 Ha ka i1 => ?_⟩
        refine ⟨_, rfl, _, rfl, _, _, rfl, rfl, _, rfl, sl_i (mI.keep ka) fun v2 Hb kb i2 => cat_i (i1.keep kb) i2 (by omega) fun w1 Hc kc j1 => ?_⟩
        have K1 := (ka.trans kb).trans kc
        refine ⟨_, rfl, _, rfl, _, rfl, sl_i (mI.keep K1) fun v3 Hd kd i3 => ?_⟩
        refine ⟨_, rfl, _, rfl, M, _, _, _, rfl, rfl, hix (K1.trans kd), hat2, sz1, fun l1 n1 => cat_i (i3.keep (KT.new [] n1)) one (by omega) fun v4 He ke i4 => ?_⟩
        have K2 := ((K1.trans kd).trans (KT.new [] n1)).trans ke
        refine ⟨_, rfl, _, rfl, _, rfl, sl_i (mI.keep K2) fun v5 Hf kf i5 => cat_i (i4.keep kf) i5 (by omega) fun w2 Hg kg j2 => ?_⟩
        have K3 := (K2.trans kf).trans kg
        have j1 := (((((j1.keep kd).keep (KT.new [] n1)).keep ke).keep kf).keep kg)
        clear i1 i2 i3 i4 i5
        refine ⟨_, rfl, _, rfl, _, rfl, sl_i (mI.keep K3) fun v6 Hh kh i6 => ?_⟩
        refine ⟨_, rfl, _, rfl, M, _, _, _, rfl, rfl, hix (K3.trans kh), hat2, _, rfl, sz1, fun l2 n2 => cat_i (i6.keep (KT.new [] n2)) one (by omega) fun v7 Hi ki i7 => ?_⟩
        have K4 := ((K3.trans kh).trans (KT.new [] n2)).trans ki
        refine ⟨_, rfl, _, rfl, _, _, rfl, rfl, _, rfl, sl_i (mI.keep K4) fun v8 Hj kj i8 => cat_i (i7.keep kj) i8 (by omega) fun w3 Hk kk j3 => ?_⟩
        have K5 := (K4.trans kj).trans kk
        have q5 := (((kh.trans (KT.new [] n2)).trans ki).trans kj).trans kk
        have j1 := j1.keep q5
        have j2 := j2.keep q5
        clear i6 i7 i8
        refine ⟨_, rfl, _, rfl, _, rfl, sl_i (mI.keep K5) fun w4 Hl kl j4 => ?_⟩
        have K6 := K5.trans kl
        refine ⟨_, rfl, sz1, fun l3 n3 => cat_i ((mI.keep K6).keep (KT.new [] n3)) one (by omega) fun w5 Hm km j5 => ?_⟩
        have K7 := (K6.trans (KT.new [] n3)).trans km
        refine ⟨_, rfl, _, rfl, _, _, rfl, rfl, sz1, fun l4 n4 => cat_i ((mI.keep K7).keep (KT.new [] n4)) one (by omega) fun w6 Hn kn j6 => ?_⟩
        have K8 := (K7.trans (KT.new [] n4)).trans kn
        have q7 := (KT.new [] n3).trans km
        have q8 := (KT.new [] n4).trans kn
        have j1 := ((j1.keep kl).keep q7).keep q8
        have j2 := ((j2.keep kl).keep q7).keep q8
        have j3 := ((j3.keep kl).keep q7).keep q8
        have j4 := (j4.keep q7).keep q8
        have j5 := j5.keep q8
        refine ⟨Nat.le_trans (by decide : 6 ≤ 2000) (by decide), fun L nL => ?_⟩
        have kL := KT.new [] nL (o := .lst [w1, w2, w3, w4, w5, w6])
        have K9 := K8.trans kL
        have g16 := g13.trans (GS.of g13.d K9)
        have Lp : L ∉ [dr] := by rw [List.mem_singleton]; exact ne_new (GS.of g13.d K8).d nL
        refine ⟨_, rfl, dr, 6, rfl, g16.d, by decide, by decide, fun r17 H17 r170 r171 g17 => ?_⟩
        have hL := g17.k.kp _ _ Lp upd_same
        have fin : ∀ {v : V} {m : Nat}, IntsV Hn v m → m ≤ 3000 → IntsV H17 v 3000 ∧ GS dr H1 H17 ∧ H17 M = some (.lst (ms.map V.int)) := by
          intro v m ⟨b, os, e1, e2, e3⟩ hm
          refine ⟨⟨b, os, e1, ?_, Nat.le_trans e3 hm⟩, g16.trans g17, ?_⟩
          · refine g17.k.kp _ _ ?_ (kL.kp _ _ (by simp) e2)
            rw [List.mem_singleton]
            exact ne_lst (GS.of g13.d K8).d e2
          · exact g17.k.kp _ _ Mp (K9.kp _ _ (by simp) hM12)
        have : r17 = 0 ∨ r17 = 1 ∨ r17 = 2 ∨ r17 = 3 ∨ r17 = 4 ∨ r17 = 5 := by omega
        rcases this with rfl | rfl | rfl | rfl | rfl | rfl
        · exact ⟨L, _, 0, _, rfl, rfl, SqL.of hL, rfl, fin j1 (by decide)⟩
        · exact ⟨L, _, 1, _, rfl, rfl, SqL.of hL, rfl, fin j2 (by decide)⟩
        · exact ⟨L, _, 2, _, rfl, rfl, SqL.of hL, rfl, fin j3 (by decide)⟩
        · exact ⟨L, _, 3, _, rfl, rfl, SqL.of hL, rfl, fin j4 (by decide)⟩
        · exact ⟨L, _, 4, _, rfl, rfl, SqL.of hL, rfl, fin j5 (by decide)⟩
        · exact ⟨L, _, 5, _, rfl, rfl, SqL.of hL, rfl, fin j6 (by decide)⟩
      · rintro v H14 ⟨⟨b, os, rfl, hb, hlo⟩, g14, hM14⟩
        refine ⟨_, rfl, _, rfl, _, rfl, b, n, room, os, rfl, by omega, by omega, by omega, by omega, by omega, hb, fun H15 k15 => ?_⟩
        refine ⟨_, rfl, _, rfl, _, rfl, b, n, room, os, rfl, by omega, by omega, by omega, by omega, by omega, k15.kp _ _ (by simp) hb, fun H16 k16 => ?_⟩
        refine ⟨rfl, _, rfl, ite_f (by rw [decide_eq_true rfl]; decide) ?_⟩
        have kk := k15.trans k16
        exact ⟨_, _, _, rfl, g14.trans (GS.of g14.d kk), kk.kp _ _ (by simp) hM14⟩
    · rintro σ H9 ⟨x6, x7, x8, rfl, g9, hM9⟩
      refine ⟨_, rfl, rfl, _, rfl, ite2 (fun _ => q _) (fun _ => ?_)⟩
      refine ⟨_, rfl, _, rfl, _, _, rfl, rfl, _, rfl, M, n, (room : Int) - 1, ms, rfl, by omega, by omega, by omega, by omega, by omega, hM9, fun H12 k12 => ?_⟩
      refine ⟨_, rfl, _, rfl, _, _, rfl, rfl, _, rfl, M, n, (room : Int) - 1, ms, rfl, by omega, by omega, by omega, by omega, by omega, k12.kp _ _ (by simp) hM9, fun H13 k13 => ?_⟩
      refine ⟨rfl, ?_⟩
      have e : decide (V.bl (walkF (n : Nat) ((room : Int) - 1) ms) = V.bl (walkF (n : Nat) ((room : Int) - 1) ms)) = true := decide_eq_true rfl
      rw [e]
      exact q _
end

end My

set_option Elab.async false
set_option linter.all false
set_option maxRecDepth 100000
namespace My
open PySem PySem.Spec PyProof.Rows L2
theorem all_mk {l : PySem.W.OpenLaw} {w : World} {K : PySem.W.Frag} {h : Heap} {mg : Str → Option Value} {fa : Addr} (X : K.In h) (G : h.Ns mainGlobals mg) (hfa : mg "law" = some (.ref fa))
    {f0 : Addr} {od0 an0 : Option Addr} {sl0 : Array (Option Value)} {oc0 kV0 dc0 pm0 cd0 ct0 : Value}
    {f1 : Addr} {od1 an1 : Option Addr} {sl1 : Array (Option Value)} {oc1 kV1 dc1 pm1 cd1 ct1 : Value}
    {f2 : Addr} {od2 an2 : Option Addr} {sl2 : Array (Option Value)} {oc2 kV2 dc2 pm2 cd2 ct2 : Value}
    {f3 : Addr} {od3 an3 : Option Addr} {sl3 : Array (Option Value)} {oc3 kV3 dc3 pm3 cd3 ct3 : Value}
    {f4 : Addr} {od4 an4 : Option Addr} {sl4 : Array (Option Value)} {oc4 kV4 dc4 pm4 cd4 ct4 : Value}
    {f5 : Addr} {od5 an5 : Option Addr} {sl5 : Array (Option Value)} {oc5 kV5 dc5 pm5 cd5 ct5 : Value}
    {f6 : Addr} {od6 an6 : Option Addr} {sl6 : Array (Option Value)} {oc6 kV6 dc6 pm6 cd6 ct6 : Value}
    {f7 : Addr} {od7 an7 : Option Addr} {sl7 : Array (Option Value)} {oc7 kV7 dc7 pm7 cd7 ct7 : Value}
    {f8 : Addr} {od8 an8 : Option Addr} {sl8 : Array (Option Value)} {oc8 kV8 dc8 pm8 cd8 ct8 : Value}
    {f9 : Addr} {od9 an9 : Option Addr} {sl9 : Array (Option Value)} {oc9 kV9 dc9 pm9 cd9 ct9 : Value}
    {f10 : Addr} {od10 an10 : Option Addr} {sl10 : Array (Option Value)} {oc10 kV10 dc10 pm10 cd10 ct10 : Value}
    {f11 : Addr} {od11 an11 : Option Addr} {sl11 : Array (Option Value)} {oc11 kV11 dc11 pm11 cd11 ct11 : Value}
    (a0 : PySem.W.nsIn K mainGlobals "is_whole" = some (some (.ref f0))) (l0 : K.lookup f0 = some ⟨oc0, od0, .func (PySem.W.fnOf "is_whole" "is_whole" (defArgs s_is_whole) (defBody s_is_whole) (defScope s_is_whole) .none kV0 dc0 pm0 an0 cd0 ct0), sl0⟩) (c0 : PySem.W.codeIn K cd0 "is_whole" = true) (k0 : PySem.W.keepIn K (.ref f0) = true)
    (a1 : PySem.W.nsIn K mainGlobals "is_integer" = some (some (.ref f1))) (l1 : K.lookup f1 = some ⟨oc1, od1, .func (PySem.W.fnOf "is_integer" "is_integer" (defArgs s_is_integer) (defBody s_is_integer) (defScope s_is_integer) .none kV1 dc1 pm1 an1 cd1 ct1), sl1⟩) (c1 : PySem.W.codeIn K cd1 "is_integer" = true) (k1 : PySem.W.keepIn K (.ref f1) = true)
    (a2 : PySem.W.nsIn K mainGlobals "is_pebbling" = some (some (.ref f2))) (l2 : K.lookup f2 = some ⟨oc2, od2, .func (PySem.W.fnOf "is_pebbling" "is_pebbling" (defArgs s_is_pebbling) (defBody s_is_pebbling) (defScope s_is_pebbling) .none kV2 dc2 pm2 an2 cd2 ct2), sl2⟩) (c2 : PySem.W.codeIn K cd2 "is_pebbling" = true) (k2 : PySem.W.keepIn K (.ref f2) = true)
    (a3 : PySem.W.nsIn K mainGlobals "least_table" = some (some (.ref f3))) (l3 : K.lookup f3 = some ⟨oc3, od3, .func (PySem.W.fnOf "least_table" "least_table" (defArgs s_least_table) (defBody s_least_table) (defScope s_least_table) .none kV3 dc3 pm3 an3 cd3 ct3), sl3⟩) (c3 : PySem.W.codeIn K cd3 "least_table" = true) (k3 : PySem.W.keepIn K (.ref f3) = true)
    (a4 : PySem.W.nsIn K mainGlobals "best_middle" = some (some (.ref f4))) (l4 : K.lookup f4 = some ⟨oc4, od4, .func (PySem.W.fnOf "best_middle" "best_middle" (defArgs s_best_middle) (defBody s_best_middle) (defScope s_best_middle) .none kV4 dc4 pm4 an4 cd4 ct4), sl4⟩) (c4 : PySem.W.codeIn K cd4 "best_middle" = true) (k4 : PySem.W.keepIn K (.ref f4) = true)
    (a5 : PySem.W.nsIn K mainGlobals "least_moves" = some (some (.ref f5))) (l5 : K.lookup f5 = some ⟨oc5, od5, .func (PySem.W.fnOf "least_moves" "least_moves" (defArgs s_least_moves) (defBody s_least_moves) (defScope s_least_moves) .none kV5 dc5 pm5 an5 cd5 ct5), sl5⟩) (c5 : PySem.W.codeIn K cd5 "least_moves" = true) (k5 : PySem.W.keepIn K (.ref f5) = true)
    (a6 : PySem.W.nsIn K mainGlobals "pebbling" = some (some (.ref f6))) (l6 : K.lookup f6 = some ⟨oc6, od6, .func (PySem.W.fnOf "pebbling" "pebbling" (defArgs s_pebbling) (defBody s_pebbling) (defScope s_pebbling) .none kV6 dc6 pm6 an6 cd6 ct6), sl6⟩) (c6 : PySem.W.codeIn K cd6 "pebbling" = true) (k6 : PySem.W.keepIn K (.ref f6) = true)
    (a7 : PySem.W.nsIn K mainGlobals "_law_draw" = some (some (.ref f7))) (l7 : K.lookup f7 = some ⟨oc7, od7, .func (PySem.W.fnOf "_law_draw" "_law_draw" (defArgs s_z_draw) (defBody s_z_draw) (defScope s_z_draw) .none kV7 dc7 pm7 an7 cd7 ct7), sl7⟩) (c7 : PySem.W.codeIn K cd7 "_law_draw" = true) (k7 : PySem.W.keepIn K (.ref f7) = true)
    (a8 : PySem.W.nsIn K mainGlobals "_law_take" = some (some (.ref f8))) (l8 : K.lookup f8 = some ⟨oc8, od8, .func (PySem.W.fnOf "_law_take" "_law_take" (defArgs s_z_take) (defBody s_z_take) (defScope s_z_take) .none kV8 dc8 pm8 an8 cd8 ct8), sl8⟩) (c8 : PySem.W.codeIn K cd8 "_law_take" = true) (k8 : PySem.W.keepIn K (.ref f8) = true)
    (a9 : PySem.W.nsIn K mainGlobals "_law_walk" = some (some (.ref f9))) (l9 : K.lookup f9 = some ⟨oc9, od9, .func (PySem.W.fnOf "_law_walk" "_law_walk" (defArgs s_z_walk) (defBody s_z_walk) (defScope s_z_walk) .none kV9 dc9 pm9 an9 cd9 ct9), sl9⟩) (c9 : PySem.W.codeIn K cd9 "_law_walk" = true) (k9 : PySem.W.keepIn K (.ref f9) = true)
    (a10 : PySem.W.nsIn K mainGlobals "_law_search" = some (some (.ref f10))) (l10 : K.lookup f10 = some ⟨oc10, od10, .func (PySem.W.fnOf "_law_search" "_law_search" (defArgs s_z_search) (defBody s_z_search) (defScope s_z_search) .none kV10 dc10 pm10 an10 cd10 ct10), sl10⟩) (c10 : PySem.W.codeIn K cd10 "_law_search" = true) (k10 : PySem.W.keepIn K (.ref f10) = true)
    (a11 : PySem.W.nsIn K mainGlobals "law" = some (some (.ref f11))) (l11 : K.lookup f11 = some ⟨oc11, od11, .func (PySem.W.fnOf "law" "law" (defArgs s_law) (defBody s_law) (defScope s_law) .none kV11 dc11 pm11 an11 cd11 ct11), sl11⟩) (c11 : PySem.W.codeIn K cd11 "law" = true) (k11 : PySem.W.keepIn K (.ref f11) = true)
    (z0 : PySem.W.nsIn K mainGlobals "abs" = some none)
    (z1 : PySem.W.nsIn K mainGlobals "bool" = some none)
    (z2 : PySem.W.nsIn K mainGlobals "int" = some none)
    (z3 : PySem.W.nsIn K mainGlobals "isinstance" = some none)
    (z4 : PySem.W.nsIn K mainGlobals "len" = some none)
    (z5 : PySem.W.nsIn K mainGlobals "min" = some none)
    (z6 : PySem.W.nsIn K mainGlobals "range" = some none)
    {xa : Addr} (xg : PySem.W.nsIn K mainGlobals "ChainError" = some (some (.ref xa))) (xx : PySem.W.excIn K xa [.type "ValueError", .type "Exception", .type "BaseException", .type "object"] "ValueError.__new__" = true) (xk : PySem.W.keepIn K (.ref xa) = true) (xb : PySem.W.subIn K (.ref xa) (.type "BaseException") = some true) (xt : PySem.W.typeIn K (.ref xa) = some (.type "type")) (xi : PySem.W.isClsIn K xa = true) (xs : PySem.W.subIn K (.ref xa) (.ref xa) = some true)
    {kN : Tok} (gaNEVER : PySem.W.nsIn K mainGlobals "NEVER" = some (some (.int 1000000000000 kN)))
    : ∃ fd : FuncData, (∀ (s : Shared) (v : Value), BindsTo s fd ⟨[v], []⟩ [("script", v)]) ∧ ∀ base : Heap, K.In base → base.Ns mainGlobals mg → FnOk l.prog w K mg base CX0 4 fa fd ["script"] (spLaw K) := by
  have e := hfa.symm.trans (PySem.W.mg_of X G a11)
  cases e
  have F0 := fun_mk (st := s_is_whole) l0 c0 k0
  have F1 := fun_mk (st := s_is_integer) l1 c1 k1
  have F2 := fun_mk (st := s_is_pebbling) l2 c2 k2
  have F3 := fun_mk (st := s_least_table) l3 c3 k3
  have F4 := fun_mk (st := s_best_middle) l4 c4 k4
  have F5 := fun_mk (st := s_least_moves) l5 c5 k5
  have F6 := fun_mk (st := s_pebbling) l6 c6 k6
  have F7 := fun_mk (st := s_z_draw) l7 c7 k7
  have F8 := fun_mk (st := s_z_take) l8 c8 k8
  have F9 := fun_mk (st := s_z_walk) l9 c9 k9
  have F10 := fun_mk (st := s_z_search) l10 c10 k10
  have F11 := fun_mk (st := s_law) l11 c11 k11
  have b0 := F0.binds (ps := ["value"]) fun _ _ _ _ _ _ us hl => match us, hl with | [_], _ => rfl
  have b1 := F1.binds (ps := ["value", "low", "high"]) fun _ _ _ _ _ _ us hl => match us, hl with | [_, _, _], _ => rfl
  have b2 := F2.binds (ps := ["n", "room", "moves"]) fun _ _ _ _ _ _ us hl => match us, hl with | [_, _, _], _ => rfl
  have b3 := F3.binds (ps := ["n", "room"]) fun _ _ _ _ _ _ us hl => match us, hl with | [_, _], _ => rfl
  have b4 := F4.binds (ps := ["table", "length", "pebbles"]) fun _ _ _ _ _ _ us hl => match us, hl with | [_, _, _], _ => rfl
  have b5 := F5.binds (ps := ["n", "room"]) fun _ _ _ _ _ _ us hl => match us, hl with | [_, _], _ => rfl
  have b6 := F6.binds (ps := ["n", "room"]) fun _ _ _ _ _ _ us hl => match us, hl with | [_, _], _ => rfl
  have b7 := F7.binds (ps := ["script"]) fun _ _ _ _ _ _ us hl => match us, hl with | [_], _ => rfl
  have b8 := F8.binds (ps := ["draw", "many"]) fun _ _ _ _ _ _ us hl => match us, hl with | [_, _], _ => rfl
  have b9 := F9.binds (ps := ["n", "room", "moves"]) fun _ _ _ _ _ _ us hl => match us, hl with | [_, _, _], _ => rfl
  have b10 := F10.binds (ps := ["n", "room"]) fun _ _ _ _ _ _ us hl => match us, hl with | [_, _], _ => rfl
  let T : Txt K mg := ⟨f0, _, F0, PySem.W.mg_of X G a0, b0, f1, _, F1, PySem.W.mg_of X G a1, b1, f2, _, F2, PySem.W.mg_of X G a2, b2, f3, _, F3, PySem.W.mg_of X G a3, b3, f4, _, F4, PySem.W.mg_of X G a4, b4, f5, _, F5, PySem.W.mg_of X G a5, b5, f6, _, F6, PySem.W.mg_of X G a6, b6, f7, _, F7, PySem.W.mg_of X G a7, b7, f8, _, F8, PySem.W.mg_of X G a8, b8, f9, _, F9, PySem.W.mg_of X G a9, b9, f10, _, F10, PySem.W.mg_of X G a10, b10, fa, _, F11, PySem.W.mg_of X G a11, PySem.W.mg_none_of X G z0, PySem.W.mg_none_of X G z1, PySem.W.mg_none_of X G z2, PySem.W.mg_none_of X G z3, PySem.W.mg_none_of X G z4, PySem.W.mg_none_of X G z5, PySem.W.mg_none_of X G z6, xa, PySem.W.mg_of X G xg, xx, xk, xb, xt, xi, xs, kN, PySem.W.mg_of X G gaNEVER⟩
  exact ⟨PySem.W.fnOf "law" "law" (defArgs s_law) (defBody s_law) (defScope s_law) .none kV11 dc11 pm11 an11 cd11 ct11, fun s v => .of_eq rfl, fun base _ _ => ok_law T⟩
end My
open PySem PySem.W PyProof.Rows
set_option maxRecDepth 100000 in
set_option maxHeartbeats 0 in
theorem PySem.Challenge.cw_backrun_k10_pebbles_on_a_chain_holds : PySem.Challenge.rw_backrun_k10_pebbles_on_a_chain.Holds := by
  w_on; o_law; k_head; (case hw => w_witness2)
  k_fill
  refine L2.walk_of (l := PySem.Challenge.rw_backrun_k10_pebbles_on_a_chain) (n := 63) (k := 4) (x := "script") (CX := fun _ => L2.CX0) (sp := fun w => My.spLaw _) rfl (by decide) rfl ⟨rfl, by decide, by decide⟩ (fun w h Y => PySem.W.kIn_of Y) ?F (fun _ _ a ns hl _ hS => ⟨a, ns, rfl, hS, hl, fun _ => rfl⟩) (fun _ _ _ _ _ h => h)
  case F =>
    intro w mg fa h KX G hmg
    refine' My.all_mk KX G hmg ?a0 ?l0 ?c0 ?k0 ?a1 ?l1 ?c1 ?k1 ?a2 ?l2 ?c2 ?k2 ?a3 ?l3 ?c3 ?k3 ?a4 ?l4 ?c4 ?k4 ?a5 ?l5 ?c5 ?k5 ?a6 ?l6 ?c6 ?k6 ?a7 ?l7 ?c7 ?k7 ?a8 ?l8 ?c8 ?k8 ?a9 ?l9 ?c9 ?k9 ?a10 ?l10 ?c10 ?k10 ?a11 ?l11 ?c11 ?k11 ?z0 ?z1 ?z2 ?z3 ?z4 ?z5 ?z6 ?xg ?xx ?xk ?xb ?xt ?xi ?xs ?gaNEVER
    (case a0 => k_is)
    (case l0 => k_is)
    (case c0 => k_is)
    (case k0 => k_is)
    (case a1 => k_is)
    (case l1 => k_is)
    (case c1 => k_is)
    (case k1 => k_is)
    (case a2 => k_is)
    (case l2 => k_is)
    (case c2 => k_is)
    (case k2 => k_is)
    (case a3 => k_is)
    (case l3 => k_is)
    (case c3 => k_is)
    (case k3 => k_is)
    (case a4 => k_is)
    (case l4 => k_is)
    (case c4 => k_is)
    (case k4 => k_is)
    (case a5 => k_is)
    (case l5 => k_is)
    (case c5 => k_is)
    (case k5 => k_is)
    (case a6 => k_is)
    (case l6 => k_is)
    (case c6 => k_is)
    (case k6 => k_is)
    (case a7 => k_is)
    (case l7 => k_is)
    (case c7 => k_is)
    (case k7 => k_is)
    (case a8 => k_is)
    (case l8 => k_is)
    (case c8 => k_is)
    (case k8 => k_is)
    (case a9 => k_is)
    (case l9 => k_is)
    (case c9 => k_is)
    (case k9 => k_is)
    (case a10 => k_is)
    (case l10 => k_is)
    (case c10 => k_is)
    (case k10 => k_is)
    (case a11 => k_is)
    (case l11 => k_is)
    (case c11 => k_is)
    (case k11 => k_is)
    (case z0 => k_is)
    (case z1 => k_is)
    (case z2 => k_is)
    (case z3 => k_is)
    (case z4 => k_is)
    (case z5 => k_is)
    (case z6 => k_is)
    (case xg => k_is)
    (case xx => k_exc)
    (case xk => k_is)
    (case xb => k_is)
    (case xt => k_is)
    (case xi => k_is)
    (case xs => k_is)
    (case gaNEVER => k_is)

