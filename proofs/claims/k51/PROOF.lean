import PyProof.Rows.All
import Wide.All
import OpenK.AllK
import Wide.FinOn
import HandS.ForMost
import HandS.Wide
import HandS.IsInst
import KE.KBits
import KE.OsArith
import HandS.AnyAll
import HandS.GenOver
import HandS.GenList
import HandS.Nested
import PyProof.GenQ
import HandS.TupAny
import HandS.TupMul
import HandS.Zip
import HandS.Style
import HandS.EndTab
import KE.KNestM
import HandS.Walk
import KE.GoesEnum
import HandS.Zip0
import KE.KDictZip
import HandS.CallLocal
import HandS.Call
import HandS.Defaults
import HandS.More
import HandS.Flow
import PyProof.ReprRoads
import PyProof.ReprBulk
import HandS.ListItems
import HandS.SortRule
import KE.KDictItemsList
import HandS.SetFor
import HandS.Strs
import HandS.DictSubView
import HandS.SortKw
import HandS.SetBool
import HandS.Rev
import HandS.Dict
import KE.KDictPairs
import PyProof.P3In
import PyProof.TupleOfSeq
import PyProof.DictUpdate
import PyProof.MeetsSeq2
import HandS.RevRange
import HandS.Conv
import HandS.SortInts
import HandS.WideBits
import PySem.Challenge.RW_backrun_k51_passes_on_circuits
set_option Elab.async false
set_option linter.all false
set_option maxRecDepth 100000
/-! what serves every law: cuts, heaps that change at one place, the law's own draw -/
namespace My
open PySem PySem.Spec PyProof.Rows L2
/-! ### cuts -/
section
variable {X : Cx}
theorem ps_cut {st : Stmt} {t : TS} (h : PS X st t) : PS X st (fun D σ H => ∃ J : L2.St → Hp → Prop, t { D with nx := J } σ H ∧ ∀ σ' H', J σ' H' → D.nx σ' H') := by
  refine ⟨fun pins s σ H D I hh => ?_⟩
  obtain ⟨J, h1, h2⟩ := hh
  refine thn (h.run pins s σ H _ I h1) fun f s' z => ?_
  cases f with
  | next => obtain ⟨σ', H', I', j⟩ := z; exact ⟨σ', H', I', h2 σ' H' j⟩
  | brk => exact z
  | cont => exact z
  | ret v => exact z
theorem pe_cut {e : Expr} {t : TE} (h : PE X e t) : PE X e (fun σ H Q => ∃ J : V → Hp → Prop, t σ H J ∧ ∀ v H', J v H' → Q v H') := by
  refine ⟨fun pins s σ H Q I hh => ?_⟩
  obtain ⟨J, h1, h2⟩ := hh
  refine thn (h.run pins s σ H _ I h1) fun u s' ⟨v, H', I', r, j⟩ => ⟨v, H', I', r, h2 v H' j⟩
theorem pt_cut {e : Expr} {t : TT} (h : PT X e t) : PT X e (fun σ H Q => ∃ J : Bool → Hp → Prop, t σ H J ∧ ∀ b H', J b H' → Q b H') := by
  refine ⟨fun pins s σ H Q I hh => ?_⟩
  obtain ⟨J, h1, h2⟩ := hh
  refine thn (h.run pins s σ H _ I h1) fun u s' ⟨H', I', j⟩ => ⟨H', I', h2 u H' j⟩
end
/-! ### heaps -/
theorem same_upd {H : Hp} {p : Addr} {o : HO} (h : H p = none) : Same H (upd H p o) := fun b x e => by
  rw [upd_ne (ne_of_none e h)]
  exact e
/-- all but what stands at p stays -/
def KeepBut (p : Addr) (H H' : Hp) : Prop := ∀ b o, b ≠ p → H b = some o → H' b = some o
theorem KeepBut.refl (p : Addr) (H : Hp) : KeepBut p H H := fun _ _ _ e => e
theorem KeepBut.trans {p : Addr} {H H1 H2 : Hp} (a : KeepBut p H H1) (b : KeepBut p H1 H2) : KeepBut p H H2 := fun c o n e => b c o n (a c o n e)
theorem KeepBut.put (p : Addr) (H : Hp) (o : HO) : KeepBut p H (upd H p o) := fun b x n e => by
  rw [upd_ne n]
  exact e
theorem KeepBut.same {p : Addr} {H H1 : Hp} (a : Same H H1) : KeepBut p H H1 := fun c o _ e => a c o e
theorem KeepBut.new {p q : Addr} {H H1 : Hp} {o : HO} (a : KeepBut p H H1) (h : H1 q = none) : KeepBut p H (upd H1 q o) := a.trans (.same (same_upd h))
/-! ### the law's draw: [cells, place, rest, seed] -/
structure DrawIs (H : Hp) (p c : Addr) (cells : List Int) (pos rest seed : Int) : Prop where
  hp : H p = some (.lst [.ref c, .int pos, .int rest, .int seed])
  hc : H c = some (.lst (cells.map V.int))
  nn : ∀ x ∈ cells, 0 ≤ x
  po : -1 ≤ pos
  re : 0 ≤ rest
  s0 : 0 ≤ seed
  s1 : seed < 2147483647
def DrawAt (H : Hp) (p : Addr) : Prop := ∃ c cells pos rest seed, DrawIs H p c cells pos rest seed
theorem DrawIs.ne {H : Hp} {p c : Addr} {cells : List Int} {pos rest seed : Int} (D : DrawIs H p c cells pos rest seed) : c ≠ p := ne_of D.hc D.hp (by
  intro z
  cases cells with
  | nil => cases z
  | cons x r => cases z)
theorem DrawIs.put {H : Hp} {p c : Addr} {cells : List Int} {pos rest seed pos' rest' seed' : Int} (D : DrawIs H p c cells pos rest seed) (h1 : -1 ≤ pos') (h2 : 0 ≤ rest') (h3 : 0 ≤ seed') (h4 : seed' < 2147483647) :
    DrawIs (upd H p (.lst [.ref c, .int pos', .int rest', .int seed'])) p c cells pos' rest' seed' :=
  ⟨upd_same, by rw [upd_ne D.ne]; exact D.hc, D.nn, h1, h2, h3, h4⟩
theorem DrawIs.keep {H H' : Hp} {p c : Addr} {cells : List Int} {pos rest seed : Int} (D : DrawIs H p c cells pos rest seed) (k : Same H H') : DrawIs H' p c cells pos rest seed :=
  ⟨k _ _ D.hp, k _ _ D.hc, D.nn, D.po, D.re, D.s0, D.s1⟩
theorem DrawAt.keep {H H' : Hp} {p : Addr} (D : DrawAt H p) (k : Same H H') : DrawAt H' p := by
  obtain ⟨c, cells, pos, rest, seed, d⟩ := D
  exact ⟨c, cells, pos, rest, seed, d.keep k⟩
theorem DrawAt.some {H : Hp} {p : Addr} (D : DrawAt H p) : ∃ o, H p = some o := by
  obtain ⟨c, cells, pos, rest, seed, d⟩ := D
  exact ⟨_, d.hp⟩
theorem DrawAt.upd {H : Hp} {p q : Addr} {o : HO} (D : DrawAt H p) (h : H q = none) : DrawAt (upd H q o) p := D.keep (same_upd h)
/-! ### numbers -/
theorem int_nat {i : Int} (h : 0 ≤ i) : ∃ n : Nat, i = (n : Int) := ⟨i.toNat, by omega⟩
theorem fmod_lo {a b : Int} (h : 0 < b) : 0 ≤ a.fmod b := Int.fmod_nonneg_of_pos a h
theorem fmod_hi {a b : Int} (h : 0 < b) : a.fmod b < b := Int.fmod_lt_of_pos a h
theorem fmod_e {a b : Int} (h : 0 < b) : a.fmod b = a % b := Int.fmod_eq_emod_of_nonneg a (by omega)
theorem div_lo {a b : Int} (h : 0 ≤ a) (hb : 0 < b) : 0 ≤ a / b := Int.ediv_nonneg h (by omega)
end My
namespace My
open PySem PySem.Spec PyProof.Rows L2
/-! ### a written tuple of the top -/
theorem rel_abs : ∀ {u : Value} {x : V}, absV u = some x → RelV x u
  | .none, _, h => by cases h; rfl
  | .bool _, _, h => by cases h; rfl
  | .int _ t, _, h => by cases h; exact ⟨t, rfl⟩
  | .str _ t, _, h => by cases h; exact ⟨t, rfl⟩
  | .bytes _ t, _, h => by cases h; exact ⟨t, rfl⟩
  | .float _ t, _, h => by cases h; exact ⟨t, rfl⟩
  | .ref _, _, h => by cases h; rfl
  | .type _, _, h => by cases h; rfl
theorem vals_abs : ∀ {us : List Value} {xs : List V}, us.mapM absV = some xs → Vals xs us
  | [], xs, h => by
    cases h
    exact .nil
  | u :: us, xs, h => by
    rw [List.mapM_cons] at h
    cases e : absV u with
    | none => rw [e] at h; cases h
    | some x =>
      rw [e] at h
      cases e2 : us.mapM absV with
      | none => rw [e2] at h; cases h
      | some ys =>
        rw [e2] at h
        cases h
        exact .cons (rel_abs e) (vals_abs e2)
theorem sqT_k {K : PySem.W.Frag} {H : Hp} {a : Addr} {d : Option Addr} {its : Array Value} {n : Nat} {sl : Array (Option Value)} {xs : List V} (l : K.lookup a = some ⟨.type "tuple", d, .seq its n, sl⟩) (h : its.toList.mapM absV = some xs) (z : its.size ≤ sizeLine) : SqT K H a xs :=
  .inr ⟨_, its, n, l, rfl, rfl, z, vals_abs h⟩
end My

set_option Elab.async false
set_option linter.all false
/-! words: the ten ops by bits and by whole numbers -/
namespace My
open PySem PySem.Spec PyProof.Rows L2
theorem bit_and (a b k : Nat) : (a &&& b) / 2 ^ k % 2 = if a / 2 ^ k % 2 + b / 2 ^ k % 2 = 2 then 1 else 0 := by
  have h := Nat.testBit_and a b k
  rw [Nat.testBit_eq_decide_div_mod_eq, Nat.testBit_eq_decide_div_mod_eq, Nat.testBit_eq_decide_div_mod_eq] at h
  have h1 := Nat.mod_lt (a / 2 ^ k) (show 2 > 0 by decide)
  have h2 := Nat.mod_lt (b / 2 ^ k) (show 2 > 0 by decide)
  have h3 := Nat.mod_lt ((a &&& b) / 2 ^ k) (show 2 > 0 by decide)
  have h4 : ((a &&& b) / 2 ^ k % 2 = 1) ↔ (a / 2 ^ k % 2 = 1 ∧ b / 2 ^ k % 2 = 1) := by
    rw [← decide_eq_true_iff (p := (a &&& b) / 2 ^ k % 2 = 1), h, Bool.and_eq_true, decide_eq_true_iff, decide_eq_true_iff]
  split <;> omega
theorem bit_or (a b k : Nat) : (a ||| b) / 2 ^ k % 2 = if 0 < a / 2 ^ k % 2 + b / 2 ^ k % 2 then 1 else 0 := by
  have h := Nat.testBit_or a b k
  rw [Nat.testBit_eq_decide_div_mod_eq, Nat.testBit_eq_decide_div_mod_eq, Nat.testBit_eq_decide_div_mod_eq] at h
  have h1 := Nat.mod_lt (a / 2 ^ k) (show 2 > 0 by decide)
  have h2 := Nat.mod_lt (b / 2 ^ k) (show 2 > 0 by decide)
  have h3 := Nat.mod_lt ((a ||| b) / 2 ^ k) (show 2 > 0 by decide)
  have h4 : ((a ||| b) / 2 ^ k % 2 = 1) ↔ (a / 2 ^ k % 2 = 1 ∨ b / 2 ^ k % 2 = 1) := by
    rw [← decide_eq_true_iff (p := (a ||| b) / 2 ^ k % 2 = 1), h, Bool.or_eq_true, decide_eq_true_iff, decide_eq_true_iff]
  split <;> omega
theorem bit_xor (a b k : Nat) : (a ^^^ b) / 2 ^ k % 2 = if a / 2 ^ k % 2 + b / 2 ^ k % 2 = 1 then 1 else 0 := by
  have h := Nat.testBit_xor (x := a) (y := b) (i := k)
  rw [Nat.testBit_eq_decide_div_mod_eq, Nat.testBit_eq_decide_div_mod_eq, Nat.testBit_eq_decide_div_mod_eq] at h
  have h1 := Nat.mod_lt (a / 2 ^ k) (show 2 > 0 by decide)
  have h2 := Nat.mod_lt (b / 2 ^ k) (show 2 > 0 by decide)
  have h3 := Nat.mod_lt ((a ^^^ b) / 2 ^ k) (show 2 > 0 by decide)
  by_cases c1 : a / 2 ^ k % 2 = 1 <;> by_cases c2 : b / 2 ^ k % 2 = 1 <;> by_cases c3 : (a ^^^ b) / 2 ^ k % 2 = 1 <;> simp [c1, c2, c3] at h ⊢ <;> first | omega | (split <;> omega)
/-- and, or, xor of two numbers by their name -/
def bitF (op : Str) (a b : Nat) : Nat := if op = "and" then a &&& b else if op = "or" then a ||| b else a ^^^ b
/-- does the bit count -/
def bitC (op : Str) (both : Int) : Bool := if op = "and" then decide (both = 2) else if op = "or" then decide (0 < both) else decide (both = 1)
theorem bitF_step (op : Str) (a b k : Nat) : ((bitF op a b % 2 ^ (k + 1) : Nat) : Int) = ((bitF op a b % 2 ^ k : Nat) : Int) + (if bitC op (((a / 2 ^ k % 2 : Nat) : Int) + ((b / 2 ^ k % 2 : Nat) : Int)) = true then (2 : Int) ^ k else 0) := by
  have e : bitF op a b / 2 ^ k % 2 = if bitC op (((a / 2 ^ k % 2 : Nat) : Int) + ((b / 2 ^ k % 2 : Nat) : Int)) = true then 1 else 0 := by
    unfold bitF bitC
    by_cases c1 : op = "and"
    · rw [if_pos c1, if_pos c1, bit_and]
      simp only [decide_eq_true_eq]
      split <;> split <;> omega
    · rw [if_neg c1, if_neg c1]
      by_cases c2 : op = "or"
      · rw [if_pos c2, if_pos c2, bit_or]
        simp only [decide_eq_true_eq]
        split <;> split <;> omega
      · rw [if_neg c2, if_neg c2, bit_xor]
        simp only [decide_eq_true_eq]
        split <;> split <;> omega
  rw [Nat.mod_pow_succ, e]
  have hk : ((2 ^ k : Nat) : Int) = (2 : Int) ^ k := PySem.W.kbt_cast k
  split
  · rw [Nat.mul_one]; omega
  · rw [Nat.mul_zero]; omega
theorem bitF_lt (op : Str) {a b n : Nat} (ha : a < 2 ^ n) (hb : b < 2 ^ n) : bitF op a b < 2 ^ n := by
  unfold bitF
  split
  · exact Nat.and_lt_two_pow a hb
  · split
    · exact Nat.or_lt_two_pow ha hb
    · exact Nat.xor_lt_two_pow ha hb
theorem bitOr_nat (a b : Nat) : Builtin.bitOr (a : Int) (b : Int) = ((a ||| b : Nat) : Int) := by
  show Spec.bitOr (a : Int) (b : Int) = _
  have h1 : ¬ (0 ≤ -(a : Int) - 1) := by omega
  have h2 : ¬ (0 ≤ -(b : Int) - 1) := by omega
  have e1 : (-(-(a : Int) - 1) - 1).toNat = a := by omega
  have e2 : (-(-(b : Int) - 1) - 1).toNat = b := by omega
  unfold Spec.bitOr Spec.bitAnd Spec.bitNot
  rw [decide_eq_false h1, decide_eq_false h2]
  show -(-(((-(-(a : Int) - 1) - 1).toNat ||| (-(-(b : Int) - 1) - 1).toNat : Nat) : Int) - 1) - 1 = _
  rw [e1, e2]
  omega
theorem bitAnd_nat (a b : Nat) : Builtin.bitAnd (a : Int) (b : Int) = ((a &&& b : Nat) : Int) := PySem.W.os_band a b
theorem or_sub_and (a b : Nat) : (a ||| b) - (a &&& b) = a ^^^ b ∧ (a &&& b) ≤ (a ||| b) := by
  -- by bits from below
  have key : ∀ n : Nat, ∀ a b : Nat, a < 2 ^ n → b < 2 ^ n → (a ||| b) = (a ^^^ b) + (a &&& b) := by
    intro n
    induction n with
    | zero =>
      intro a b ha hb
      have : a = 0 := by omega
      have : b = 0 := by omega
      subst_vars
      rfl
    | succ n ih =>
      intro a b ha hb
      have h1 := bit_and a b 0
      have h2 := bit_or a b 0
      have h3 := bit_xor a b 0
      have e1 : (a &&& b) / 2 = (a / 2) &&& (b / 2) := Nat.and_div_two
      have e2 : (a ||| b) / 2 = (a / 2) ||| (b / 2) := Nat.or_div_two
      have e3 : (a ^^^ b) / 2 = (a / 2) ^^^ (b / 2) := Nat.xor_div_two
      have hp : 2 ^ (n + 1) = 2 ^ n * 2 := Nat.pow_succ ..
      have := ih (a / 2) (b / 2) (by omega) (by omega)
      simp only [Nat.pow_zero, Nat.div_one] at h1 h2 h3
      have m1 := Nat.mod_lt a (show 2 > 0 by decide)
      have m2 := Nat.mod_lt b (show 2 > 0 by decide)
      split at h1 <;> split at h2 <;> split at h3 <;> omega
  have hm : ∀ a : Nat, a < 2 ^ a := fun a => Nat.lt_two_pow_self
  have ha : a < 2 ^ (a + b) := Nat.lt_of_lt_of_le (hm a) (Nat.pow_le_pow_right (by decide) (by omega))
  have hb : b < 2 ^ (a + b) := Nat.lt_of_lt_of_le (hm b) (Nat.pow_le_pow_right (by decide) (by omega))
  have := key (a + b) a b ha hb
  omega
theorem bitXor_nat (a b : Nat) : Builtin.bitXor (a : Int) (b : Int) = ((a ^^^ b : Nat) : Int) := by
  show Builtin.bitOr (a : Int) (b : Int) - Builtin.bitAnd (a : Int) (b : Int) = _
  rw [bitOr_nat, bitAnd_nat]
  have := or_sub_and a b
  omega
/-- the word of an op, as the document has it -/
def cmpS (op : Str) (n : Nat) (x y : Int) : Int :=
  if op = "add" then (x + y) % 2 ^ n else if op = "sub" then (x - y) % 2 ^ n else if op = "mul" then (x * y) % 2 ^ n
  else if op = "and" then Builtin.bitAnd x y else if op = "or" then Builtin.bitOr x y else if op = "xor" then Builtin.bitXor x y
  else if op = "less" then (if x < y then 1 else 0) else if op = "equal" then (if x = y then 1 else 0)
  else if (n : Int) ≤ y then 0 else if op = "shl" then (x * 2 ^ y.toNat) % 2 ^ n else x / 2 ^ y.toNat
theorem bitF_cmp {op : Str} (h : op = "and" ∨ op = "or" ∨ op = "xor") (n a b : Nat) : cmpS op n (a : Int) (b : Int) = ((bitF op a b : Nat) : Int) := by
  rcases h with rfl | rfl | rfl
  · exact bitAnd_nat a b
  · exact bitOr_nat a b
  · exact bitXor_nat a b
end My

set_option Elab.async false
set_option linter.all false
set_option maxRecDepth 100000
set_option maxHeartbeats 4000000
/-! all(e for x in xs), any(e for x in xs): the element any expression that gives a truth value, calls of own defs too -/
namespace My
open PySem PySem.Spec PyProof.Rows L2 GxR NdefX GenW
/-- the context of the generator's frame -/
def gcx (X : Cx) (s : Shared) (H : Hp) (A : Around) (N : List Str) (cenv : Env) (fp : List Addr) : Cx :=
  { X with A := A, N := N, s_0 := s, H_0 := H, env := cenv, outer := X.stack, stack := cenv :: X.stack, ex := fp, fn := fun _ => false, calm := true, pn := [], xe := fun _ _ => False }
/-- the names that the element reads of the def around it, with their slots there -/
def Caps (X : Cx) (scope : Scope) : List (Str × Nat) → Prop
  | [] => True
  | p :: r => (X.N[p.2]? = some p.1 ∧ scope.names.lookup p.1 = some .free ∧ (X.env.scope.names.lookup p.1 = some .cell ∨ X.env.scope.names.lookup p.1 = some .free)) ∧ Caps X scope r
def gσ (σ : L2.St) (own : List (Str × Nat)) (v : Option V) : L2.St := v :: own.map fun p => (σ[p.2]?).getD none
def gN (x : Str) (own : List (Str × Nat)) : List Str := x :: own.map (·.1)
theorem caps_at {X : Cx} {scope : Scope} : ∀ {own : List (Str × Nat)} {i : Nat} {p : Str × Nat}, Caps X scope own → own[i]? = some p → X.N[p.2]? = some p.1 ∧ scope.names.lookup p.1 = some .free ∧ (X.env.scope.names.lookup p.1 = some .cell ∨ X.env.scope.names.lookup p.1 = some .free)
  | [], _, _, _, e => by simp at e
  | q :: r, 0, p, h, e => by simp at e; subst e; exact h.1
  | q :: r, i + 1, p, h, e => caps_at (own := r) (i := i) h.2 (by simpa using e)
section
variable {X : Cx} {pins : List (Addr × Obj)} {σ : L2.St} {H : Hp} {s s' : Shared}
/-- the heap as it was -/
theorem inv_same (I : Inv X pins σ H s) (h : s'.heap = s.heap) (ho : s'.os = s.os) (hb : AllBare s'.gens) : Inv X pins σ H s' := by
  obtain ⟨hh, g, d, t, o⟩ := s'
  obtain rfl : hh = s.heap := h
  obtain rfl : o = s.os := ho
  exact I.step (g' := g) (d' := d) (t' := t) (ch := []) (fun _ z => nomatch z) (fun _ _ _ _ _ e _ => e) (fun _ o _ _ _ e _ => ⟨o.slots, e⟩) (fun _ _ _ _ n => n) (fun _ o _ e => ⟨o, e⟩) (fun _ _ e => e) (fun _ _ _ e => e)
    (fun b ps e => ⟨#[], by rw [e]; simp⟩) (fun _ hm => hm) I.hok hb
/-- the frame of the generator begins -/
theorem gen_start {it a : Addr} {go : Obj} {fp : List Addr} {scope : Scope} {x : Str} {own : List (Str × Nat)} {A : Around} {h' : Heap} {bi : Addr} {code : Value} {gg : Array GenState} {tk : Nat}
    (I : Inv X pins σ H s) (hfp : ∀ b ∈ fp, FpOk X pins H b ∧ b < s.heap.objs.size) (S : GenS X.env scope x) (hc : Caps X scope own) (hA : A.handled = none) (hF : A.frames = some (genEnv scope (cloFrom X.env.cells scope.names []) s.heap.objs.size code bi X.env :: X.stack)) (hbi : bi = builtinsNs)
    (hn : h'.Ns s.heap.objs.size fun y => if y = ".0" then some (.ref it) else none) (kp : ∀ b o, s.heap.get? b = some o → (h'.push go).get? b = some o) (hsz : h'.objs.size = s.heap.objs.size + 1) (ha : a = h'.objs.size) (hnc : ∀ v, go.data ≠ .cell v) (hfr : go.isFreed = false) (hg : AllBare gg) :
    Inv (gcx X s H A (gN x own) (genEnv scope (cloFrom X.env.cells scope.names []) s.heap.objs.size code bi X.env) fp) [(a, go)] (gσ σ own none) H { s with gens := gg, toks := tk, heap := h'.push go } := by
  have cm : ∀ {y c}, (cloFrom X.env.cells scope.names []).lookup y = some c → X.env.cells.lookup y = some c := fun {y c} e => clo_cm S.free e
  have okB : (gcx X s H A (gN x own) (genEnv scope (cloFrom X.env.cells scope.names []) s.heap.objs.size code bi X.env) fp).Ok := by
    refine ⟨I.ok.mod, S.kind, I.ok.glob, hbi, Nat.le_refl _, fun y z c e1 e2 => I.ok.inj y z c (cm e1) (cm e2), fun y hy => ?_, fun y c z _ => (by cases z), fun _ => hA, hF, .inr ⟨rfl, rfl⟩, fun b hb => ⟨Nat.ne_of_lt (hfp b hb).2, fun y c e z => (hfp b hb).1.2.2.2.2.1 y c (cm e) z⟩,
      I.bs, Nat.le_trans I.ok.bsz I.sz, fun b o e hb => ?_, fun b hb z => ?_, I.stack, I.stkFree⟩
    · have hy : scope.names.lookup y = some .cell ∨ scope.names.lookup y = some .free := hy
      rcases hy with hy | hy
      · exact absurd rfl (S.cell _ (PySem.mem_of_lookup hy))
      · obtain ⟨c, e⟩ := S.free _ (PySem.mem_of_lookup hy) rfl
        exact ⟨c, clo_has S.free (PySem.mem_of_lookup hy) e⟩
    · rcases (hfp b hb).1.2.2.2.1 with z | z
      · exact I.ok.noex b o e z
      · exact absurd (Nat.lt_of_lt_of_le (Heap.lt_size e) (Nat.le_trans I.ok.bsz z)) (Nat.lt_irrefl _)
    · rcases List.mem_cons.mp (I.stkSub b z) with z | z
      · exact (hfp b hb).1.2.1 z
      · exact (hfp b hb).1.2.2.1 z
  refine ⟨okB, rfl, hg, Un.kept kp, ⟨_, hn.push _, fun i y v e1 e2 _ => ?_⟩, fun y c e => ?_, I.hok.fresh (Nat.le_refl _), fun y c e => I.freeC y c (cm e), fun p hp => ?_, I.hok.kept kp, ?_⟩
  · cases i with
    | zero => cases e2
    | succ i =>
      have e1 : (own.map (·.1))[i]? = some y := e1
      have e2 : (own.map fun p => (σ[p.2]?).getD none)[i]? = some (some v) := e2
      rw [List.getElem?_map] at e1 e2
      cases q : own[i]? with
      | none => rw [q] at e1; cases e1
      | some p =>
        rw [q] at e1 e2
        cases e1
        obtain ⟨hN, hf, hk⟩ := caps_at hc q
        have e3 : σ[p.2]? = some (some v) := by
          have e2 : some ((σ[p.2]?).getD none) = some (some v) := e2
          cases r : σ[p.2]? with
          | none => rw [r] at e2; cases e2
          | some u => rw [r] at e2; exact e2
        obtain ⟨m, _, hl⟩ := I.loc
        obtain ⟨u, r, lk⟩ := hl p.2 p.1 v hN e3 (.inr hk)
        refine ⟨u, r, .inr ⟨.inr hf, ?_⟩⟩
        rcases lk with ⟨k, _⟩ | ⟨_, c, e, o, ho, hd⟩
        · have k : X.env.scope.names.lookup p.1 = some .local := k
          rcases hk with hk | hk <;> (rw [hk] at k; cases k)
        · exact ⟨c, clo_has S.free (PySem.mem_of_lookup hf) e, o, kp c o ho, hd⟩
  · obtain ⟨v, o, ho, hd⟩ := I.cell y c (cm e)
    exact ⟨v, o, kp c o ho, hd⟩
  · have hp : p = (a, go) := by simpa [gcx] using hp
    subst hp
    refine ⟨?_, I.hok.fresh (by rw [ha, hsz]; exact Nat.le_succ _), ?_, fun z => ?_, hnc⟩
    · show (h'.push go).get? a = some go
      rw [ha]
      exact Heap.get?_push_size _ hfr
    · show a ≠ s.heap.objs.size
      rw [ha, hsz]
      exact Nat.succ_ne_self _
    · have hlt : ∀ b, b ∈ frs X.stack → b < s.heap.objs.size := fun b hb => by
        rcases List.mem_cons.mp (I.stkSub b hb) with y | y
        · rw [y]; exact I.lt
        · by_cases q : b < s.heap.objs.size
          · exact q
          · exact absurd y (I.nofs (Nat.le_of_not_lt q))
      have q := hlt a z
      rw [ha, hsz] at q
      exact absurd q (Nat.not_lt.mpr (Nat.le_succ _))
  · simp [gσ, gN, gcx]
end

theorem bne_of : ∀ {a b : Bool}, ¬ a = b → a = !b
  | true, true, h => absurd rfl h
  | true, false, _ => rfl
  | false, true, _ => rfl
  | false, false, h => absurd rfl h
/-! ### the generator's turns -/
section
variable {X : Cx} {al : Bool} {W : Nat → Nat → Hp → Prop} {QF : V → Hp → Prop}
/-- what a turn hands out: the answer is settled, or it goes on -/
def YAll (X' : Cx) (pn : List (Addr × Obj)) (al : Bool) (QF : V → Hp → Prop) : Protocol := fun _ _ v s kap =>
  ∃ σ H, Inv X' pn σ H s ∧ ((v = .bool (!al) ∧ QF (.bl (!al)) H) ∨ (v = .bool al ∧ ∀ s', s'.heap = s.heap → s'.os = s.os → AllBare s'.gens → kap (.send .none) s'))
def PAll (X' : Cx) (pn : List (Addr × Obj)) (al : Bool) (QF : V → Hp → Prop) (_ : Nat) (_ s : Shared) : Prop := ∃ σ H, Inv X' pn σ H s ∧ QF (.bl al) H
/-- one turn of the reading -/
def TAll (σ : L2.St) (own : List (Str × Nat)) (te : TE) (al : Bool) (J : It) (W : Nat → Nat → Hp → Prop) (QF : V → Hp → Prop) : Prop := ∀ i m H, W i m H →
  (J.stop i H ∧ QF (.bl al) H) ∨ (J.go i H ∧ ∃ Nx : Hp → Prop, (∀ H', Nx H' → ∃ m', m' < m ∧ W (i + 1) m' H') ∧ ∀ v H', J.yld i H v H' → te (gσ σ own (some v)) H' fun y H2 => ∃ b, y = .bl b ∧ if b = al then Nx H2 else QF (.bl (!al)) H2)
theorem seg_all {A : Around} {elt iter : Expr} {x : Str} {px gpos : Pos} {scope : Scope} {cenv : Env} {s₁ : Shared} {H₁ : Hp} {own : List (Str × Nat)} {fp : List Addr} {it : Addr} {a : Addr} {go : Obj} {J : It} {tn : Nat → Heap → Prop} {σ : L2.St} {te : TE}
    (hsc : cenv.scope = scope) (hx : scope.names.lookup x = some .local) (hco : scope.isCoroutine = false) (hnd : (gN x own).Nodup) (haf : ∀ b ∈ fp, a ≠ b)
    (T : Turn X.prog X.w X.K (.Name x px) J fp it tn)
    (he : PE (gcx X s₁ H₁ (A.over (.compLoop (.GeneratorExp elt [⟨.Name x px, iter, [], 0⟩] scope gpos) 0 (.ref it) .none cenv) []) (gN x own) cenv fp) elt te)
    (turn : TAll σ own te al J W QF) : ∀ (m n i : Nat) (s₀ s : Shared) (H : Hp) (v₀ : Option V), m < n →
      Inv (gcx X s₁ H₁ (A.over (.compLoop (.GeneratorExp elt [⟨.Name x px, iter, [], 0⟩] scope gpos) 0 (.ref it) .none cenv) []) (gN x own) cenv fp) [(a, go)] (gσ σ own v₀) H s → tn i s.heap → (∀ b ∈ fp, H b = none) → W i m H →
      Seg (model X.prog X.w) A (fun n s₀ r s₂ => r = .ok .next ∧ PAll (gcx X s₁ H₁ (A.over (.compLoop (.GeneratorExp elt [⟨.Name x px, iter, [], 0⟩] scope gpos) 0 (.ref it) .none cenv) []) (gN x own) cenv fp) [(a, go)] al QF n s₀ s₂)
        (YAll (gcx X s₁ H₁ (A.over (.compLoop (.GeneratorExp elt [⟨.Name x px, iter, [], 0⟩] scope gpos) 0 (.ref it) .none cenv) []) (gN x own) cenv fp) [(a, go)] al QF) n s₀
        (.compLoop (.GeneratorExp elt [⟨.Name x px, iter, [], 0⟩] scope gpos) 0 (.ref it) .none cenv)
        ((model X.prog X.w).den (.compLoop (.GeneratorExp elt [⟨.Name x px, iter, [], 0⟩] scope gpos) 0 (.ref it) .none cenv)) [] s := by
  generalize hcd : (Code.compLoop (.GeneratorExp elt [⟨.Name x px, iter, [], 0⟩] scope gpos) 0 (.ref it) .none cenv) = cd at *
  have hcalm : ∀ (Y : Cx), (gcx X s₁ H₁ (A.over cd []) (gN x own) cenv fp).calm = true := fun _ => rfl
  intro m
  induction m using Nat.strongRecOn with
  | _ m ih =>
    intro n i s₀ s H v₀ hmn I st hfn w
    have stat : ∀ {σ' : L2.St} {H' : Hp} {s' : Shared}, Inv (gcx X s₁ H₁ (A.over cd []) (gN x own) cenv fp) [(a, go)] σ' H' s' → (∀ b ∈ fp, H' b = none) → ∀ b ∈ fp, FpOk (gcx X s₁ H₁ (A.over cd []) (gN x own) cenv fp) [(a, go)] H' b := fun {σ' H' s'} I' hn b hb =>
      ⟨hn b hb, (I'.ok.exf b hb).1, I'.ok.exfs b hb, .inl hb, fun x c e => (I'.ok.exf b hb).2 x c e, fun p hp => by
        have hp : p = (a, go) := by simpa [gcx] using hp
        rw [hp]
        exact haf b hb⟩
    have den : (model X.prog X.w).den cd = (compTurn (.GeneratorExp elt [⟨.Name x px, iter, [], 0⟩] scope gpos) 0 (.ref it) .none cenv).onRaise (leaving cenv) := by rw [← hcd]; rfl
    rw [den, compTurn_gen, Sem.onRaise_eq_wrap, hcd]
    refine seg_bind_wrap (wpAny_standAt ?_)
    rcases turn i m H w with ⟨stop, qq⟩ | ⟨gg, Nx, hNx, step⟩
    · refine seg_bind_wrap (thnF (T.done (gcx X s₁ H₁ (A.over cd []) (gN x own) cenv fp) rfl rfl rfl rfl i [(a, go)] s _ H (fun _ _ => False) I (stat I hfn) st stop) fun r s2 ⟨hr, I2⟩ => ?_)
      subst hr
      exact seg_end (.ok .next) ⟨rfl, _, H, I2, qq⟩
    · refine seg_bind_wrap (thnF (T.item (gcx X s₁ H₁ (A.over cd []) (gN x own) cenv fp) rfl rfl rfl rfl i [(a, go)] s _ H (fun _ _ => False) I (stat I hfn) st gg) fun r s2 ⟨u, hr, h2⟩ => ?_)
      subst hr
      refine seg_bind_wrap (thnF h2 fun _ s3 ⟨v, H3, I3, r3, y3, st3, n3⟩ => ?_)
      have I3' := I3.pinned (stat I3 n3) (T.obj _ _ st3)
      have hsx : cenv.scope.names.lookup x = some .local := by rw [hsc]; exact hx
      refine seg_bind_wrap (wpAny_assign_Name (store_ok (i := 0) (x := x) I3' hnd rfl (.inl hsx) r3 (fun s4 I4 => ?_) (.inr hsx)))
      have I4 : Inv (gcx X s₁ H₁ (A.over cd []) (gN x own) cenv fp) ([(a, go)] ++ pinsAt fp s3.heap) (gσ σ own (some v)) H3 s4 := I4
      refine seg_bind_wrap (wpAny_tests_nil ?_)
      simp only [if_true]
      have hy : ∀ v, yieldOut cenv v = yieldValue v := fun v => by simp only [yieldOut, hsc, hco, Bool.false_eq_true, if_false]
      simp only [hy]
      rw [Sem.bind_eq_wrap', Sem.bind_eq_wrap', Sem.wrap_wrap, Sem.wrap_wrap]
      refine seg_wrap (thnF (he.run _ s4 _ H3 _ I4 (step v H3 y3)) fun y s5 ⟨z, H5, I5, r5, b, hz, q5⟩ => ?_)
      subst hz
      obtain rfl : y = .bool b := r5
      obtain ⟨k, rfl⟩ : ∃ k, n = k + 1 := ⟨n - 1, by omega⟩
      refine seg_at (seg_yield rfl rfl rfl ⟨_, H5, I5.unpinned, ?_⟩)
      by_cases hb : b = al
      · subst hb
        rw [if_pos rfl] at q5
        obtain ⟨m', hm', w'⟩ := hNx H5 q5
        refine .inr ⟨rfl, fun s6 e6 o6 b6 => ?_⟩
        have pin' : ∀ b ∈ fp, ∀ o, s3.heap.get? b = some o → s5.heap.get? b = some o ∧ H5 b = none := fun b hb o e =>
          let z := I5.pin (b, o) (List.mem_append_right _ (List.mem_append_right _ (mem_pinsAt hb e)))
          ⟨z.1, z.2.1⟩
        refine seg_again (c' := cd) (by rw [← hcd]; rfl) (ih m' hm' k (i + 1) _ s6 H5 (some v) (by omega) (inv_same I5.unpinned e6 o6 b6) (T.keep _ _ _ st3 fun b hb o e => by rw [e6]; exact (pin' b hb o e).1) (fun b hb => ?_) w')
        obtain ⟨o, e, _⟩ := T.obj _ _ st3 b hb
        exact (pin' b hb o e).2
      · rw [if_neg hb] at q5
        have e : b = !al := bne_of hb
        exact .inl ⟨by rw [e], q5⟩
end
end My

set_option Elab.async false
set_option linter.all false
set_option maxRecDepth 100000
set_option maxHeartbeats 4000000
namespace My
open PySem PySem.Spec PyProof.Rows L2 GxR NdefX GenW
section
variable {Y : Cx} {QF : V → Hp → Prop} {a : Addr} {go : Obj} {g : Nat} {A0 : Around} {Re : Result → Shared → Prop}
theorem pull_all {al : Bool} {n : Nat} {s : Shared} {gs : GenState} {Q : Option Value → Shared → Prop} {E : Value → Shared → Prop} (hh : A0.handled = none) (hroom : A0.depth < recursionLimit) (hgen : ∀ h : Heap, h.get? a = some go → h.IsGen a g)
    (hgs : s.gens[g]? = some gs) (hI : ∃ σ H, Inv Y [(a, go)] σ H s)
    (hgo : gs.Goes (model Y.prog Y.w) A0.in1 (fun n s₀ r s₁ => r = .ok .next ∧ PAll Y [(a, go)] al QF n s₀ s₁) (YAll Y [(a, go)] al QF) n (.send .none) (s.setGen g .running))
    (hN : ∀ σ H s', Inv Y [(a, go)] σ H s' → QF (.bl al) H → Q none s') (hS : ∀ σ H s', Inv Y [(a, go)] σ H s' → QF (.bl (!al)) H → Q (some (.bool (!al))) s')
    (hG : ∀ m gs' s', n = m + 1 → s'.gens[g]? = some gs' → (∃ σ H, Inv Y [(a, go)] σ H s') →
      gs'.Goes (model Y.prog Y.w) A0.in1 (fun n s₀ r s₁ => r = .ok .next ∧ PAll Y [(a, go)] al QF n s₀ s₁) (YAll Y [(a, go)] al QF) m (.send .none) (s'.setGen g .running) → Q (some (.bool al)) s') :
    wpAny (model Y.prog Y.w) A0 (pyNext (.ref a)) Q E s := by
  obtain ⟨σ, H, I⟩ := hI
  have hlt : g + 1 ≤ s.gens.size := by
    obtain ⟨h, _⟩ := Array.getElem?_eq_some_iff.mp hgs
    exact h
  refine wpAny_gsz hlt ?_
  refine wpAny_pyNext_genexpQ (P := PAll Y [(a, go)] al QF) hh I.nolimit hroom (hgen _ (I.pin (a, go) (List.mem_append_right _ List.mem_cons_self)).1) hgs hgo (fun v s₁ gs' hb hy => ?_) (fun s₁ hp h' hk => ?_)
  · intro hz
    obtain ⟨σ1, H1, I1, hv⟩ := hy
    have I2 : Inv Y [(a, go)] σ1 H1 (s₁.setGen g gs') := inv_same I1 rfl rfl (allBare_setGen I1.bare hb)
    rcases hv with ⟨rfl, q⟩ | ⟨rfl, kap⟩
    · exact hS _ _ _ I2 q
    · have e := kap ((s₁.setGen g gs').setGen g .running) rfl rfl (allBare_setGen I2.bare rfl)
      cases n with
      | zero => exact e.elim
      | succ m =>
        have hz' : g < s₁.gens.size := by
          rw [setGen_size] at hz
          exact hz
        exact hG m gs' _ rfl (setGen_at hz') ⟨_, _, I2⟩ e
  · intro _
    obtain ⟨σ1, H1, I1, q⟩ := hp
    exact hN σ1 H1 _ ((inv_same (s' := s₁.setGen g .finished) I1 rfl rfl (allBare_setGen I1.bare rfl)).kept (t' := s₁.toks) hk) q
theorem all_turns (hh : A0.handled = none) (hroom : A0.depth < recursionLimit) (hgen : ∀ h : Heap, h.get? a = some go → h.IsGen a g)
    (hR : ∀ σ H b s, Inv Y [(a, go)] σ H s → QF (.bl b) H → Re (.ok (.ret (.bool b))) s) : ∀ (n : Nat) (s : Shared) (gs : GenState), s.gens[g]? = some gs → (∃ σ H, Inv Y [(a, go)] σ H s) →
      gs.Goes (model Y.prog Y.w) A0.in1.in1 (fun n s₀ r s₁ => r = .ok .next ∧ PAll Y [(a, go)] true QF n s₀ s₁) (YAll Y [(a, go)] true QF) n (.send .none) (s.setGen g .running) →
      codeAny (model Y.prog Y.w) A0 (.builtin "all.loop" ⟨[.ref a], []⟩) Re s := by
  intro n
  induction n with
  | zero =>
    intro s gs hgs hI hgo
    refine codeAny_builtin F.entry_all_loop ?_
    rw [Around.under_plainId F.plain_all_loop _]
    show wpAny _ A0.in1 (pyNext (.ref a) >>= _) _ _ s
    refine wpAny_bind (pull_all (A0 := A0.in1) hh hroom hgen hgs hI hgo (fun σ H s' I q => ?_) (fun σ H s' I q => ?_) fun m gs' s' e _ _ _ => ?_)
    · exact wpAny_bind (wpAny_rule (wpAny_pure (hR σ H true s' I q)))
    · refine wpAny_bind (wpAny_holding (wpAny_truthy_bool ?_))
      refine wpAny_bind (wpAny_letGo ?_)
      exact wpAny_bind (wpAny_rule (wpAny_pure (hR σ H false s' I q)))
    · cases e
  | succ n ih =>
    intro s gs hgs hI hgo
    refine codeAny_builtin F.entry_all_loop ?_
    rw [Around.under_plainId F.plain_all_loop _]
    show wpAny _ A0.in1 (pyNext (.ref a) >>= _) _ _ s
    refine wpAny_bind (pull_all (A0 := A0.in1) hh hroom hgen hgs hI hgo (fun σ H s' I q => ?_) (fun σ H s' I q => ?_) fun m gs' s' e h1 h2 h3 => ?_)
    · exact wpAny_bind (wpAny_rule (wpAny_pure (hR σ H true s' I q)))
    · refine wpAny_bind (wpAny_holding (wpAny_truthy_bool ?_))
      refine wpAny_bind (wpAny_letGo ?_)
      exact wpAny_bind (wpAny_rule (wpAny_pure (hR σ H false s' I q)))
    · obtain rfl : n = m := Nat.succ.inj e
      refine wpAny_bind (wpAny_holding (wpAny_truthy_bool ?_))
      refine wpAny_bind (wpAny_letGo ?_)
      exact wpAny_pure ⟨plainId_quiet F.plain_all_loop _, ih s' gs' h1 h2 h3⟩
theorem any_turns (hh : A0.handled = none) (hroom : A0.depth < recursionLimit) (hgen : ∀ h : Heap, h.get? a = some go → h.IsGen a g)
    (hR : ∀ σ H b s, Inv Y [(a, go)] σ H s → QF (.bl b) H → Re (.ok (.ret (.bool b))) s) : ∀ (n : Nat) (s : Shared) (gs : GenState), s.gens[g]? = some gs → (∃ σ H, Inv Y [(a, go)] σ H s) →
      gs.Goes (model Y.prog Y.w) A0.in1.in1 (fun n s₀ r s₁ => r = .ok .next ∧ PAll Y [(a, go)] false QF n s₀ s₁) (YAll Y [(a, go)] false QF) n (.send .none) (s.setGen g .running) →
      codeAny (model Y.prog Y.w) A0 (.builtin "any.loop" ⟨[.ref a], []⟩) Re s := by
  intro n
  induction n with
  | zero =>
    intro s gs hgs hI hgo
    refine codeAny_builtin F.entry_any_loop ?_
    rw [Around.under_plainId F.plain_any_loop _]
    show wpAny _ A0.in1 (pyNext (.ref a) >>= _) _ _ s
    refine wpAny_bind (pull_all (A0 := A0.in1) hh hroom hgen hgs hI hgo (fun σ H s' I q => ?_) (fun σ H s' I q => ?_) fun m gs' s' e _ _ _ => ?_)
    · exact wpAny_bind (wpAny_rule (wpAny_pure (hR σ H false s' I q)))
    · refine wpAny_bind (wpAny_holding (wpAny_truthy_bool ?_))
      refine wpAny_bind (wpAny_letGo ?_)
      exact wpAny_bind (wpAny_rule (wpAny_pure (hR σ H true s' I q)))
    · cases e
  | succ n ih =>
    intro s gs hgs hI hgo
    refine codeAny_builtin F.entry_any_loop ?_
    rw [Around.under_plainId F.plain_any_loop _]
    show wpAny _ A0.in1 (pyNext (.ref a) >>= _) _ _ s
    refine wpAny_bind (pull_all (A0 := A0.in1) hh hroom hgen hgs hI hgo (fun σ H s' I q => ?_) (fun σ H s' I q => ?_) fun m gs' s' e h1 h2 h3 => ?_)
    · exact wpAny_bind (wpAny_rule (wpAny_pure (hR σ H false s' I q)))
    · refine wpAny_bind (wpAny_holding (wpAny_truthy_bool ?_))
      refine wpAny_bind (wpAny_letGo ?_)
      exact wpAny_bind (wpAny_rule (wpAny_pure (hR σ H true s' I q)))
    · obtain rfl : n = m := Nat.succ.inj e
      refine wpAny_bind (wpAny_holding (wpAny_truthy_bool ?_))
      refine wpAny_bind (wpAny_letGo ?_)
      exact wpAny_pure ⟨plainId_quiet F.plain_any_loop _, ih s' gs' h1 h2 h3⟩
end
end My

set_option Elab.async false
set_option linter.all false
set_option maxRecDepth 100000
set_option maxHeartbeats 4000000
namespace My
open PySem PySem.Spec PyProof.Rows L2 GxR NdefX GenW
/-- all(e for x in ..): P the def's table of code objects; W by the turn and a measure -/
def tGen (al : Bool) (P : Addr) (wi : TI) (own : List (Str × Nat)) (te : TE) : TE := fun σ H Q => wi σ H fun J H1 => TabG H1 P ∧ ∀ H2, Tabbed P H1 H2 → ∃ W : Nat → Nat → Hp → Prop, (∃ m, W 0 m H2) ∧ TAll σ own te al J W Q
/-- the generator's scope is in order -/
def genOk (scope : Scope) (x : Str) : Bool := scope.kind == .function && !scope.isCoroutine && scope.names.all (fun y => y.2 != .cell) && scope.names.lookup (".0" : Str) == some NameKind.local && scope.names.lookup x == some NameKind.local
def freeOk (sc scope : Scope) : Bool := scope.names.all fun y => y.2 != .free || sc.names.lookup y.1 == some NameKind.cell || sc.names.lookup y.1 == some NameKind.free
theorem gens_of {env : Env} {scope : Scope} {x : Str} (h : genOk scope x = true) (hf : freeOk env.scope scope = true) (has : ∀ y, (env.kindOf y = some .cell ∨ env.kindOf y = some .free) → ∃ c, env.cells.lookup y = some c) : GenS env scope x := by
  unfold genOk at h
  simp only [Bool.and_eq_true, beq_iff_eq, Bool.not_eq_true', List.all_eq_true, bne_iff_ne] at h
  obtain ⟨⟨⟨⟨h1, h2⟩, h3⟩, h4⟩, h5⟩ := h
  refine ⟨h1, h2, h3, h4, h5, fun y hy e => ?_⟩
  unfold freeOk at hf
  have q := List.all_eq_true.mp hf y hy
  simp only [Bool.or_eq_true, bne_iff_ne, beq_iff_eq] at q
  refine has y.1 ?_
  rcases q with (q | q) | q
  · exact absurd e q
  · exact .inl q
  · exact .inr q
section
variable {X : Cx} {pins : List (Addr × Obj)} {σ : L2.St} {H : Hp} {s : Shared}
theorem gen_made {al : Bool} {c P : Addr} {elt iter : Expr} {x : Str} {px gpos : Pos} {scope : Scope} {wi : TI} {te : TE} {own : List (Str × Nat)} {k : Nat} {Q : VK} {Q' : Value → Shared → Prop}
    (hr : Room (k + 1) X.A) (hcalm : X.calm = true) (TB : TabB X.base X.mg c P) (hcode : X.env.code = .ref c) (S : GenS X.env scope x) (hc : Caps X scope own) (hnd : (gN x own).Nodup) (hi : PI X (.Name x px) iter wi)
    (he : ∀ (s : Shared) (H : Hp) (A : Around) (cl : List (Str × Addr)) (C : Addr) (code : Value) (bi : Addr) (fp : List Addr), Room k A → PE (gcx X s H A (gN x own) (genEnv scope cl C code bi X.env) fp) elt te)
    (hs : ∀ v, genFold iter X.env v = pure v) (I : Inv X pins σ H s) (h : tGen al P wi own te σ H Q)
    (hQ : ∀ (Y : Cx) (a g : Nat) (go : Obj) (n : Nat) (cs : Code) (s5 : Shared), Y.prog = X.prog → Y.w = X.w → (∀ h : Heap, h.get? a = some go → h.IsGen a g) → s5.gens[g]? = some (.fresh cs) → (∃ σ H, Inv Y [(a, go)] σ H s5) → s5.heap.IsGen a g →
      GenState.Goes (model X.prog X.w) X.A.in1.in1 (fun n s₀ r s₁ => r = .ok .next ∧ PAll Y [(a, go)] al Q n s₀ s₁) (YAll Y [(a, go)] al Q) n (.fresh cs) (.send .none) (s5.setGen g .running) →
      (∀ σ' H' s', Inv Y [(a, go)] σ' H' s' → Inv X pins σ H' s') → Q' (.ref a) s5) :
    wpAny (model X.prog X.w) X.A (eval (.GeneratorExp elt [⟨.Name x px, iter, [], 0⟩] scope gpos) X.env) Q' X.xe s := by
  refine wpAny_GeneratorExp_make S.co (closure_ok S.free) S.cell S.dot S.kind (by have := hr.dp; omega) ?_ hs
  refine thn (hi.run pins s σ H _ I h) fun xv s1 hx => thn hx fun itv s2 h2 => ?_
  obtain ⟨it, fp, tn, J, H2, e, I2, T, st2, f2, ⟨ps, hP, ht⟩, q⟩ := h2
  subst e
  refine ⟨I2.nolimit, ?_⟩
  have hPs : s2.heap.get? P = some { cls := .none, data := .fields ps } := I2.hok P _ hP
  have cd : PySem.W.CodeHd s2.heap c P := TB.code.keeps fun b u e => I2.bk b u e
  have nP : ∀ b ∈ fp, b ≠ P := fun b hb z => by
    have := (f2 b hb).1
    rw [z, hP] at this
    cases this
  have cont : ∀ (code : Value) (s3 : Shared) (H3 : Hp), Inv X pins σ H3 s3 → Tabbed P H2 H3 → (∀ b u, b ≠ P → s2.heap.get? b = some u → s3.heap.get? b = some u) →
      wpAny (model X.prog X.w) X.A (builtinsFor X.env.globals X.env.builtins) (fun bi s₄ =>
        ∀ h', h'.Ns s₄.heap.objs.size (fun y => if y = ".0" then some (.ref it) else none) → Heap.SameBut s₄.heap.objs.size (s₄.heap.push { cls := .type "frame", data := .dict #[] }) h' →
          Q' (.ref h'.objs.size) { s₄ with
            gens := s₄.gens.push (.fresh (.compStart (.GeneratorExp elt [⟨.Name x px, iter, [], 0⟩] scope gpos) 0 (.ref it) .none (genEnv scope (cloFrom X.env.cells scope.names []) s₄.heap.objs.size code bi X.env))),
            toks := s₄.toks + 1 + 1 + 1,
            heap := h'.push { cls := .type "generator", data := .fields #[.int s₄.gens.size 0, .str "<genexpr>" (s₄.toks + 1), .str (X.env.qual ++ "<genexpr>") (s₄.toks + 1 + 1)] } }) X.xe s3 := by
    intro code s3 H3 I3 hT kp3
    obtain ⟨bm, ob, e1, e2, e3, e4, e5, e6, e7, e8⟩ := TB.bm
    refine wpAny_builtinsFor (m := X.mg) (by rw [I3.ok.glob]; exact I3.mod.glob.keeps I3.bk) e1 e2 (I3.bk _ _ e5) e6 e7 e8 ?_
    intro h' hn' hs'
    have keep' : ∀ b o, s3.heap.get? b = some o → h'.get? b = some o := fun b o e => hs'.extBut b o (Nat.ne_of_lt (Heap.lt_size e)) (Heap.get?_push_of_some _ e)
    have hsz : h'.objs.size = s3.heap.objs.size + 1 := by rw [hs'.1, Heap.size_push]
    have ffp : ∀ b ∈ fp, FpOk X pins H3 b ∧ b < s3.heap.objs.size := fun b hb => by
      obtain ⟨o, e, _⟩ := T.obj _ _ st2 b hb
      exact ⟨⟨by rw [hT.2 b (nP b hb)]; exact (f2 b hb).1, (f2 b hb).2⟩, Heap.lt_size (kp3 b o (nP b hb) e)⟩
    have st3 : tn 0 s3.heap := T.keep _ _ _ st2 fun b hb o e => kp3 b o (nP b hb) e
    obtain ⟨W, ⟨m0, w0⟩, turn⟩ := q H3 hT
    generalize hgo : ({ cls := .type "generator", data := .fields #[.int s3.gens.size 0, .str "<genexpr>" (s3.toks + 1), .str (X.env.qual ++ "<genexpr>") (s3.toks + 1 + 1)] } : Obj) = go
    have kp5 : ∀ b o, s3.heap.get? b = some o → (h'.push go).get? b = some o := fun b o e => Heap.get?_push_of_some _ (keep' b o e)
    have hisg : ∀ h : Heap, h.get? h'.objs.size = some go → h.IsGen h'.objs.size s3.gens.size := fun h e => ⟨go, _, _, e, by rw [← hgo], by rw [← hgo], by rw [← hgo]⟩
    have hA : (X.A.in1.in1.over (.compLoop (.GeneratorExp elt [⟨.Name x px, iter, [], 0⟩] scope gpos) 0 (.ref it) .none (genEnv scope (cloFrom X.env.cells scope.names []) s3.heap.objs.size code builtinsNs X.env)) []).frames = some (genEnv scope (cloFrom X.env.cells scope.names []) s3.heap.objs.size code builtinsNs X.env :: X.stack) := by
      show pushEnvs [genEnv scope (cloFrom X.env.cells scope.names []) s3.heap.objs.size code builtinsNs X.env] (pushEnvs [] X.A.frames) = _
      rw [I3.ok.frames]
      rfl
    have hRm : Room k (X.A.in1.in1.over (.compLoop (.GeneratorExp elt [⟨.Name x px, iter, [], 0⟩] scope gpos) 0 (.ref it) .none (genEnv scope (cloFrom X.env.cells scope.names []) s3.heap.objs.size code builtinsNs X.env)) []) := by
      have d := hr.dp
      have u := hr.un
      refine ⟨hr.hd, ?_, ?_⟩
      · show X.A.depth + 0 + 1 + 3 * k + 5 < _
        omega
      · show X.A.units + 1 + 1 + 0 + 3 + 16 * k + 200 < _
        omega
    have I5 := gen_start (it := it) (a := h'.objs.size) (go := go) (fp := fp) (own := own) (A := X.A.in1.in1.over (.compLoop (.GeneratorExp elt [⟨.Name x px, iter, [], 0⟩] scope gpos) 0 (.ref it) .none (genEnv scope (cloFrom X.env.cells scope.names []) s3.heap.objs.size code builtinsNs X.env)) [])
      (gg := s3.gens.push (.fresh (.compStart (.GeneratorExp elt [⟨.Name x px, iter, [], 0⟩] scope gpos) 0 (.ref it) .none (genEnv scope (cloFrom X.env.cells scope.names []) s3.heap.objs.size code builtinsNs X.env)))) (tk := s3.toks + 1 + 1 + 1)
      I3 ffp S hc hr.hd hA rfl hn' kp5 hsz rfl (fun v z => by rw [← hgo] at z; cases z) (by rw [← hgo]; rfl) (I3.bare.push rfl)
    have haf : ∀ b ∈ fp, h'.objs.size ≠ b := fun b hb z => by
      have := (ffp b hb).2
      rw [← z, hsz] at this
      exact absurd this (Nat.not_lt.mpr (Nat.le_succ _))
    refine hQ (gcx X s3 H3 (X.A.in1.in1.over (.compLoop (.GeneratorExp elt [⟨.Name x px, iter, [], 0⟩] scope gpos) 0 (.ref it) .none (genEnv scope (cloFrom X.env.cells scope.names []) s3.heap.objs.size code builtinsNs X.env)) []) (gN x own) (genEnv scope (cloFrom X.env.cells scope.names []) s3.heap.objs.size code builtinsNs X.env) fp) h'.objs.size s3.gens.size go (m0 + 1) _ _ rfl rfl hisg (Array.getElem?_push_size ..) ⟨_, _, I5⟩ (hisg _ (Heap.get?_push_size _ (by rw [← hgo]; rfl))) ⟨rfl, ?_⟩ (fun σ' H' s' I6 => ?_)
    · have loop := seg_all (X := X) (A := X.A.in1.in1) (al := al) (W := W) (QF := Q) (elt := elt) (iter := iter) (x := x) (px := px) (gpos := gpos) (scope := scope) (cenv := genEnv scope (cloFrom X.env.cells scope.names []) s3.heap.objs.size code builtinsNs X.env)
        (s₁ := s3) (H₁ := H3) (own := own) (fp := fp) (it := it) (a := h'.objs.size) (go := go) (J := J) (tn := tn) (σ := σ) (te := te) rfl S.loc S.co hnd haf T (he _ _ _ _ _ _ _ _ hRm) turn m0 (m0 + 1) 0
      have st5 : tn 0 (h'.push go) := T.keep _ _ _ st3 fun b _ o e => kp5 b o e
      have nf5 : ∀ b ∈ fp, H3 b = none := fun b hb => (ffp b hb).1.1
      generalize hs5 : ({ s3 with gens := s3.gens.push (.fresh (.compStart (.GeneratorExp elt [⟨.Name x px, iter, [], 0⟩] scope gpos) 0 (.ref it) .none (genEnv scope (cloFrom X.env.cells scope.names []) s3.heap.objs.size code builtinsNs X.env))), toks := s3.toks + 1 + 1 + 1, heap := h'.push go } : Shared) = s5 at I5 ⊢
      have h5 : s5.heap = h'.push go := by rw [← hs5]
      have I5' := inv_same (s' := s5.setGen s3.gens.size .running) I5 rfl rfl (allBare_setGen I5.bare rfl)
      have lp := loop (s5.setGen s3.gens.size .running) (s5.setGen s3.gens.size .running) H3 none (Nat.lt_succ_self _) I5' (by show tn 0 s5.heap; rw [h5]; exact st5) nf5 w0
      show Seg _ _ _ _ _ _ _ ((compStart (.GeneratorExp elt [⟨.Name x px, iter, [], 0⟩] scope gpos) 0 (.ref it) .none (genEnv scope (cloFrom X.env.cells scope.names []) s3.heap.objs.size code builtinsNs X.env)).onRaise (leaving (genEnv scope (cloFrom X.env.cells scope.names []) s3.heap.objs.size code builtinsNs X.env))) [] _
      unfold compStart
      rw [Sem.onRaise_eq_wrap]
      show Seg _ _ _ _ _ _ _ ((ask >>= _).wrap _ _ _ _) [] _
      refine seg_bind_wrap (wpAny_askSetting ?_)
      have slf : tn 0 (s5.setGen s3.gens.size .running).heap := by
        show tn 0 s5.heap
        rw [h5]
        exact st5
      split
      · exact seg_again rfl lp
      · first
          | exact seg_bind_wrap (wpAny_rule (seg_bind_wrap (wpAny_standAt (seg_bind_wrap (T.self _ 0 _ _ _ slf (seg_again rfl lp))))))
          | (refine seg_bind_wrap (wpAny_rule ?_); show Seg _ _ _ _ _ _ _ ((standAt iter.pos >>= _).wrap _ _ _ _) [] _; exact seg_bind_wrap (wpAny_standAt (seg_bind_wrap (T.self _ 0 _ _ _ slf (seg_again rfl lp)))))
    · exact I3.call' (ch := fp) I6.os I6.base I6.hok I6.bare fun b hb => ⟨(ffp b hb).1.2.2.2.1, (ffp b hb).1.2.1, (ffp b hb).1.2.2.2.2.1, (ffp b hb).1.2.2.2.2.2⟩
  cases hf : codeAmong gpos ps.toList with
  | none =>
    refine wpAny_genexprCodeX hcode (cd.code hPs ht) (cd.tab hPs) hf fun c' h3 tk hx hge hlt hco' _ htab' _ => ?_
    obtain ⟨o1, vs, f1, tf, fl, tg, inF, tx, tt, op, _, _, _, _, _, _, _, _, _, htr, _⟩ := hco'
    have I3 := inv_tab (g' := s2.gens) (d' := s2.drawn) (t' := tk) I2 hP (fun b o hb e => hx b o hb e) htab'.2 I2.bare
    exact cont _ _ _ I3 ⟨⟨_, upd_same, htr⟩, fun b hb => upd_ne hb⟩ fun b u hb e => hx b u hb e
  | some cv =>
    refine wpAny_genexprCode_hit hcode (cd.code hPs ht) hf ?_
    exact cont cv s2 H2 I2 ⟨⟨ps, hP, ht⟩, fun _ _ => rfl⟩ fun _ _ _ e => e
theorem pe_allG {c P : Addr} {elt iter : Expr} {x : Str} {px p pos gpos : Pos} {scope : Scope} {wi : TI} {te : TE} (own : List (Str × Nat)) {k : Nat}
    (hr : Room (k + 1) X.A) (hg : Gl X "all") (hm : X.mg "all" = none) (TB : TabB X.base X.mg c P) (hcode : X.env.code = .ref c) (gk : genOk scope x = true) (fk : freeOk X.env.scope scope = true) (hc : Caps X scope own) (hnd : (gN x own).Nodup) (hcalm : X.calm = true) (hi : PI X (.Name x px) iter wi)
    (he : ∀ (s : Shared) (H : Hp) (A : Around) (cl : List (Str × Addr)) (C : Addr) (code : Value) (bi : Addr) (fp : List Addr), Room k A → PE (gcx X s H A (gN x own) (genEnv scope cl C code bi X.env) fp) elt te)
    (hs : ∀ v, genFold iter X.env v = pure v := by intro _; rfl)
    (hE : starEach [.GeneratorExp elt [⟨.Name x px, iter, [], 0⟩] scope gpos] X.env = (false, eval (.GeneratorExp elt [⟨.Name x px, iter, [], 0⟩] scope gpos) X.env) :: starEach [] X.env := by rfl) :
    PE X (.Call (.Name "all" p) [.GeneratorExp elt [⟨.Name x px, iter, [], 0⟩] scope gpos] [] pos) (tGen true P wi own te) := by
  refine ⟨fun pins s σ H Q I h => ?_⟩
  refine wpAny_Call_Name_kw (ld_blt I hg hm (by decide +kernel : bootBuiltins "all" = some (.builtin "all")) ?_)
  refine PyProof.Rows.callWith_builtin1 ?_ hE (by rfl)
  rw [hE]
  show wpAny _ _ (spliced ((false, eval (.GeneratorExp elt [⟨.Name x px, iter, [], 0⟩] scope gpos) X.env) :: backTo pos (starEach [] X.env))) _ _ s
  refine Calls.spliced_cons (gen_made hr hcalm TB hcode (gens_of gk fk I.ok.has) hc hnd hi he hs I h fun Y a g go n cs s5 hp hw hgen hgs hI hisg hgo hback => ?_)
  refine Calls.spliced_nil ?_
  refine call_function_tree F.kind_all F.plain_all F.entry_all (F.args_all1 _) ?_
  unfold Builtin.«all»
  refine wpAny_bind (m := oneArg "all" _) (wpAny_pure ?_)
  refine wpAny_bind (wpAny_pyIter_gen hisg ?_)
  rw [← hp, ← hw] at hgo ⊢
  exact wpAny_pure ⟨plainId_quiet F.plain_all_loop _, all_turns (A0 := X.A) (QF := Q) hr.hd (by have := hr.dp; omega) hgen (fun σ' H' b s6 I6 q => ⟨.bl b, H', hback _ _ _ I6, rfl, q⟩) n s5 _ hgs hI hgo⟩
theorem pe_anyG {c P : Addr} {elt iter : Expr} {x : Str} {px p pos gpos : Pos} {scope : Scope} {wi : TI} {te : TE} (own : List (Str × Nat)) {k : Nat}
    (hr : Room (k + 1) X.A) (hg : Gl X "any") (hm : X.mg "any" = none) (TB : TabB X.base X.mg c P) (hcode : X.env.code = .ref c) (gk : genOk scope x = true) (fk : freeOk X.env.scope scope = true) (hc : Caps X scope own) (hnd : (gN x own).Nodup) (hcalm : X.calm = true) (hi : PI X (.Name x px) iter wi)
    (he : ∀ (s : Shared) (H : Hp) (A : Around) (cl : List (Str × Addr)) (C : Addr) (code : Value) (bi : Addr) (fp : List Addr), Room k A → PE (gcx X s H A (gN x own) (genEnv scope cl C code bi X.env) fp) elt te)
    (hs : ∀ v, genFold iter X.env v = pure v := by intro _; rfl)
    (hE : starEach [.GeneratorExp elt [⟨.Name x px, iter, [], 0⟩] scope gpos] X.env = (false, eval (.GeneratorExp elt [⟨.Name x px, iter, [], 0⟩] scope gpos) X.env) :: starEach [] X.env := by rfl) :
    PE X (.Call (.Name "any" p) [.GeneratorExp elt [⟨.Name x px, iter, [], 0⟩] scope gpos] [] pos) (tGen false P wi own te) := by
  refine ⟨fun pins s σ H Q I h => ?_⟩
  refine wpAny_Call_Name_kw (ld_blt I hg hm (by decide +kernel : bootBuiltins "any" = some (.builtin "any")) ?_)
  refine PyProof.Rows.callWith_builtin1 ?_ hE (by rfl)
  rw [hE]
  show wpAny _ _ (spliced ((false, eval (.GeneratorExp elt [⟨.Name x px, iter, [], 0⟩] scope gpos) X.env) :: backTo pos (starEach [] X.env))) _ _ s
  refine Calls.spliced_cons (gen_made hr hcalm TB hcode (gens_of gk fk I.ok.has) hc hnd hi he hs I h fun Y a g go n cs s5 hp hw hgen hgs hI hisg hgo hback => ?_)
  refine Calls.spliced_nil ?_
  refine call_function_tree F.kind_any F.plain_any F.entry_any (F.args_any1 _) ?_
  unfold Builtin.«any»
  refine wpAny_bind (m := oneArg "any" _) (wpAny_pure ?_)
  refine wpAny_bind (wpAny_pyIter_gen hisg ?_)
  rw [← hp, ← hw] at hgo ⊢
  exact wpAny_pure ⟨plainId_quiet F.plain_any_loop _, any_turns (A0 := X.A) (QF := Q) hr.hd (by have := hr.dp; omega) hgen (fun σ' H' b s6 I6 q => ⟨.bl b, H', hback _ _ _ I6, rfl, q⟩) n s5 _ hgs hI hgo⟩
end
/-! ### a def whose code object is known -/
structure FunC (K : PySem.W.Frag) (x qual : Str) (st : Stmt) (f : Addr) (fd : FuncData) (c : Addr) : Prop where
  ex : ∃ (oc : Value) (od : Option Addr) (kV doc pm : Value) (an : Option Addr) (ct : Value) (osl : Array (Option Value)),
    fd = PySem.W.fnOf x qual (defArgs st) (defBody st) (defScope st) .none kV doc pm an (.ref c) ct ∧ K.lookup f = some ⟨oc, od, .func fd, osl⟩ ∧ PySem.W.codeIn K (.ref c) qual = true
  kp : PySem.W.keepIn K (.ref f) = true
section
variable {P : Program} {w : World} {K : PySem.W.Frag} {mg : Str → Option Value} {base : Heap}
theorem FunC.fun {x qual : Str} {st : Stmt} {f : Addr} {fd : FuncData} {c : Addr} (F : FunC K x qual st f fd c) : Fun K x qual st f fd :=
  ⟨let ⟨oc, od, kV, doc, pm, an, ct, osl, h⟩ := F.ex; ⟨oc, od, kV, doc, pm, an, .ref c, ct, osl, h⟩, F.kp⟩
theorem FunC.ok {x qual : Str} {st : Stmt} {f : Addr} {fd : FuncData} {c : Addr} {N ps : List Str} {k : Nat} {sp : Sp} (F : FunC K x qual st f fd c) (S : FnScope N ps (defScope st)) (len : ∀ vs H Q E, sp vs H Q E → vs.length = ps.length)
    (hbody : ∀ (A : Around) (outer : List Env) (s : Shared) (H : Hp) (vs : List V) (Q : VK) (E : XK), Room k (A.deeper (envOfC qual (defScope st) s.heap.objs.size f (.ref c))) → sp vs H Q E →
      ∃ t, PSs (cxOf CX0 P w K mg base N qual (defScope st) f (.ref c) A outer s H E).nox (defBody st) t ∧ t { nx := fun _ H' => Q .non H', rt := Q } (start N vs) H) : FnOk P w K mg base CX0 (k + 1) f fd ps sp := by
  obtain ⟨oc, od, kV, doc, pm, an, ct, osl, e, lk, hcd⟩ := F.ex
  cases e
  refine fn_of lk hcd S len fun A outer s H vs Q E hr hsp => ?_
  obtain ⟨t, h, q⟩ := hbody A outer s H vs Q E hr hsp
  exact ⟨t, h.nox, q⟩
theorem func_mk {x qual : Str} {st : Stmt} {f c : Addr} {oc : Value} {od an : Option Addr} {osl : Array (Option Value)} {kV doc pm ct : Value} (l : K.lookup f = some ⟨oc, od, .func (PySem.W.fnOf x qual (defArgs st) (defBody st) (defScope st) .none kV doc pm an (.ref c) ct), osl⟩)
    (h : PySem.W.codeIn K (.ref c) qual = true) (k : PySem.W.keepIn K (.ref f) = true) : FunC K x qual st f (PySem.W.fnOf x qual (defArgs st) (defBody st) (defScope st) .none kV doc pm an (.ref c) ct) c := ⟨⟨oc, od, kV, doc, pm, an, ct, osl, rfl, l, h⟩, k⟩
end
end My

set_option Elab.async false
set_option linter.all false
set_option maxRecDepth 100000
/-! data of ints, texts, truth values, None and tuples; heaps that keep all but some places -/
namespace My
open PySem PySem.Spec PyProof.Rows L2
/-! ### what is kept -/
structure KT (S : List Addr) (H H' : Hp) : Prop where
  kp : ∀ b o, b ∉ S → H b = some o → H' b = some o
  tp : ∀ b xs, H b = some (.tup xs) → H' b = some (.tup xs)
  fz : ∀ b o u, H b = some (.frz o u) → H' b = some (.frz o u)
  th : ∀ b o, H b = some o → ∃ o', H' b = some o'
  hd : ∀ b c t, H b = some (.lst (.ref c :: t)) → ∃ t', H' b = some (.lst (.ref c :: t'))
section
variable {S S' : List Addr} {H H1 H2 H' : Hp} {K : PySem.W.Frag}
theorem KT.refl (S : List Addr) (H : Hp) : KT S H H := ⟨fun _ _ _ e => e, fun _ _ e => e, fun _ _ _ e => e, fun _ o e => ⟨o, e⟩, fun _ _ t e => ⟨t, e⟩⟩
theorem KT.trans (a : KT S H H1) (b : KT S H1 H2) : KT S H H2 :=
  ⟨fun c o n e => b.kp c o n (a.kp c o n e), fun c xs e => b.tp c xs (a.tp c xs e), fun c o u e => b.fz c o u (a.fz c o u e), fun c o e => let ⟨o', e'⟩ := a.th c o e; b.th c o' e', fun c d t e => let ⟨t', e'⟩ := a.hd c d t e; b.hd c d t' e'⟩
theorem KT.mono (a : KT S H H1) (h : ∀ b ∈ S, b ∈ S') : KT S' H H1 := ⟨fun b o n e => a.kp b o (fun z => n (h b z)) e, a.tp, a.fz, a.th, a.hd⟩
theorem KT.new (S : List Addr) {p : Addr} {o : HO} (h : H p = none) : KT S H (upd H p o) :=
  ⟨fun b x _ e => by rw [upd_ne (ne_of_none e h)]; exact e, fun b x e => by rw [upd_ne (ne_of_none e h)]; exact e, fun b x u e => by rw [upd_ne (ne_of_none e h)]; exact e, fun b x e => ⟨x, by rw [upd_ne (ne_of_none e h)]; exact e⟩, fun b c t e => ⟨t, by rw [upd_ne (ne_of_none e h)]; exact e⟩⟩
theorem KT.of_same (a : Same H H1) : KT S H H1 := ⟨fun b o _ e => a b o e, fun b xs e => a b _ e, fun b o u e => a b _ e, fun b o e => ⟨o, a b o e⟩, fun b c t e => ⟨t, a b _ e⟩⟩
/-- a place changes that is no tuple and not locked -/
theorem KT.put {p : Addr} {u o : HO} (hp : p ∈ S) (h : H p = some u) (h1 : ∀ xs, u ≠ .tup xs) (h2 : ∀ o v, u ≠ .frz o v) (h3 : ∀ xs, u ≠ .lst xs) : KT S H (upd H p o) :=
  ⟨fun b x n e => by rw [upd_ne (fun z => n (by rw [z]; exact hp))]; exact e, fun b x e => by
    rw [upd_ne (fun z => by rw [z, h] at e; exact h1 x (Option.some.inj e))]; exact e, fun b x v e => by
    rw [upd_ne (fun z => by rw [z, h] at e; exact h2 x v (Option.some.inj e))]; exact e, fun b x e => by
    by_cases z : b = p
    · exact ⟨o, by rw [z, upd_same]⟩
    · exact ⟨x, by rw [upd_ne z]; exact e⟩, fun b c t e => ⟨t, by rw [upd_ne (fun z => by rw [z, h] at e; exact h3 _ (Option.some.inj e))]; exact e⟩⟩
/-- a place changes that did not stand at the start -/
theorem KT.late {p : Addr} {o : HO} (a : KT S H H1) (h : H p = none) : KT S H (upd H1 p o) :=
  ⟨fun b x n e => by rw [upd_ne (ne_of_none e h)]; exact a.kp b x n e, fun b x e => by rw [upd_ne (ne_of_none e h)]; exact a.tp b x e, fun b x u e => by rw [upd_ne (ne_of_none e h)]; exact a.fz b x u e,
    fun b x e => by rw [upd_ne (ne_of_none e h)]; exact a.th b x e, fun b c t e => by rw [upd_ne (ne_of_none e h)]; exact a.hd b c t e⟩
theorem KT.free (a : KT S H H1) {p : Addr} (h : H1 p = none) : H p = none := by
  cases q : H p with
  | none => rfl
  | some o =>
    obtain ⟨o', e⟩ := a.th p o q
    rw [h] at e
    cases e
theorem KT.tab {P : Addr} (h : GxR.Tabbed P H H1) (t : GxR.TabG H P) (hP : P ∈ S) : KT S H H1 := by
  obtain ⟨ps, e, _⟩ := t
  obtain ⟨⟨ps', e', _⟩, k⟩ := h
  have ne : ∀ b o, H b = some o → (∀ q, o ≠ .tbl q) → b ≠ P := fun b o q n z => by rw [z, e] at q; exact n ps (Option.some.inj q).symm
  refine ⟨fun b o n q => ?_, fun b xs q => ?_, fun b o u q => ?_, fun b o q => ?_, fun b c t q => ⟨t, by rw [k b (ne b _ q (fun _ z => by cases z))]; exact q⟩⟩
  · rw [k b (fun z => n (by rw [z]; exact hP))]; exact q
  · rw [k b (ne b _ q (fun _ z => by cases z))]; exact q
  · rw [k b (ne b _ q (fun _ z => by cases z))]; exact q
  · by_cases z : b = P
    · exact ⟨_, by rw [z]; exact e'⟩
    · exact ⟨o, by rw [k b z]; exact q⟩
theorem KT.sqT (a : KT S H H1) {p : Addr} {xs : List V} (h : SqT K H p xs) : SqT K H1 p xs := by
  rcases h with (h | ⟨o, h⟩) | h
  · exact .inl (.inl (a.tp _ _ h))
  · exact .inl (.inr ⟨o, a.fz _ _ _ h⟩)
  · exact .inr h
theorem KT.sqL (a : KT S H H1) {p : Addr} {xs : List V} (n : p ∉ S) (h : SqL K H p xs) : SqL K H1 p xs := by
  rcases h with (h | ⟨o, h⟩) | h
  · exact .inl (.inl (a.kp _ _ n h))
  · exact .inl (.inr ⟨o, a.fz _ _ _ h⟩)
  · exact .inr h
end
/-! ### data -/
mutual
inductive Rp (K : PySem.W.Frag) (H : Hp) : V → PyData → Prop
  | non : Rp K H .non .none
  | bl (b : Bool) : Rp K H (.bl b) (.bool b)
  | int (i : Int) : Rp K H (.int i) (.int i)
  | str (x : Str) : Rp K H (.str x) (.str x)
  | tup {a : Addr} {xs : List V} {ds : List PyData} : SqT K H a xs → RpA K H xs ds → Rp K H (.ref a) (.tuple ds)
inductive RpA (K : PySem.W.Frag) (H : Hp) : List V → List PyData → Prop
  | nil : RpA K H [] []
  | cons {v : V} {vs : List V} {d : PyData} {ds : List PyData} : Rp K H v d → RpA K H vs ds → RpA K H (v :: vs) (d :: ds)
end
section
variable {K : PySem.W.Frag} {S : List Addr} {H H' : Hp}
mutual
theorem Rp.keep (k : KT S H H') : ∀ {d : PyData} {v : V}, Rp K H v d → Rp K H' v d
  | .none, _, h => by cases h; exact .non
  | .bool b, _, h => by cases h; exact .bl b
  | .int i, _, h => by cases h; exact .int i
  | .str x, _, h => by cases h; exact .str x
  | .list ds, _, h => by cases h
  | .dict ds, _, h => by cases h
  | .tuple ds, _, h => by
    cases h with
    | tup hs ha => exact .tup (k.sqT hs) (RpA.keep k ha)
theorem RpA.keep (k : KT S H H') : ∀ {ds : List PyData} {vs : List V}, RpA K H vs ds → RpA K H' vs ds
  | [], _, h => by cases h; exact .nil
  | d :: ds, _, h => by
    cases h with
    | cons h1 h2 => exact .cons (Rp.keep k h1) (RpA.keep k h2)
end
mutual
theorem Rp.dp : ∀ {d : PyData} {v : V}, Rp K H v d → Dp K H v d
  | .none, _, h => by cases h; exact .non
  | .bool b, _, h => by cases h; exact .bl b
  | .int i, _, h => by cases h; exact .int i
  | .str x, _, h => by cases h; exact .str x
  | .list ds, _, h => by cases h
  | .dict ds, _, h => by cases h
  | .tuple ds, _, h => by
    cases h with
    | tup hs ha => exact .tup hs (RpA.dp ha)
theorem RpA.dp : ∀ {ds : List PyData} {vs : List V}, RpA K H vs ds → DpAll K H vs ds
  | [], _, h => by cases h; exact .nil
  | d :: ds, _, h => by
    cases h with
    | cons h1 h2 => exact .cons (Rp.dp h1) (RpA.dp h2)
end
theorem RpA.length : ∀ {ds : List PyData} {vs : List V}, RpA K H vs ds → vs.length = ds.length
  | [], _, h => by cases h; rfl
  | d :: ds, _, h => by
    cases h with
    | cons h1 h2 => rw [List.length_cons, List.length_cons, RpA.length h2]
theorem RpA.get : ∀ {ds : List PyData} {vs : List V} {i : Nat} {v : V}, RpA K H vs ds → vs[i]? = some v → ∃ d, ds[i]? = some d ∧ Rp K H v d
  | [], _, i, v, h, e => by cases h; simp at e
  | d :: ds, _, i, v, h, e => by
    cases h with
    | cons h1 h2 =>
      cases i with
      | zero => simp at e; subst e; exact ⟨d, rfl, h1⟩
      | succ i =>
        obtain ⟨d', e', r⟩ := RpA.get h2 (i := i) (v := v) (by simpa using e)
        exact ⟨d', by simpa using e', r⟩
theorem RpA.app : ∀ {ds es : List PyData} {vs us : List V}, RpA K H vs ds → RpA K H us es → RpA K H (vs ++ us) (ds ++ es)
  | [], _, _, _, h, g => by cases h; exact g
  | d :: ds, _, _, _, h, g => by
    cases h with
    | cons h1 h2 => exact .cons h1 (RpA.app h2 g)
theorem RpA.snoc {ds : List PyData} {vs : List V} {v : V} {d : PyData} (h : RpA K H vs ds) (g : Rp K H v d) : RpA K H (vs ++ [v]) (ds ++ [d]) := h.app (.cons g .nil)
theorem RpA.take : ∀ {ds : List PyData} {vs : List V} (n : Nat), RpA K H vs ds → RpA K H (vs.take n) (ds.take n)
  | _, _, 0, _ => by simp only [List.take_zero]; exact .nil
  | [], _, n + 1, h => by cases h; simp only [List.take_nil]; exact .nil
  | d :: ds, _, n + 1, h => by
    cases h with
    | cons h1 h2 => rw [List.take_succ_cons, List.take_succ_cons]; exact .cons h1 (RpA.take n h2)
theorem RpA.drop : ∀ {ds : List PyData} {vs : List V} (n : Nat), RpA K H vs ds → RpA K H (vs.drop n) (ds.drop n)
  | _, _, 0, h => h
  | [], _, n + 1, h => by cases h; simp only [List.drop_nil]; exact .nil
  | d :: ds, _, n + 1, h => by
    cases h with
    | cons h1 h2 => rw [List.drop_succ_cons, List.drop_succ_cons]; exact RpA.drop n h2
/-- a tuple just made -/
theorem Rp.made {p : Addr} {vs : List V} {ds : List PyData} (hp : H p = none) (h : RpA K H vs ds) : Rp K (upd H p (.tup vs)) (.ref p) (.tuple ds) := .tup (SqT.of upd_same) (h.keep (KT.new [] hp))
theorem Rp.inv {v : V} {ds : List PyData} (h : Rp K H v (.tuple ds)) : ∃ a xs, v = .ref a ∧ SqT K H a xs ∧ RpA K H xs ds := by
  cases h with
  | tup hs ha => exact ⟨_, _, rfl, hs, ha⟩
theorem RpA.inv {vs : List V} {d : PyData} {ds : List PyData} (h : RpA K H vs (d :: ds)) : ∃ v r, vs = v :: r ∧ Rp K H v d ∧ RpA K H r ds := by
  cases h with
  | cons h1 h2 => exact ⟨_, _, rfl, h1, h2⟩
theorem RpA.inv0 {vs : List V} (h : RpA K H vs []) : vs = [] := by cases h; rfl
theorem Rp.sInv {v : V} {x : Str} (h : Rp K H v (.str x)) : v = .str x := by cases h; rfl
theorem Rp.iInv {v : V} {x : Int} (h : Rp K H v (.int x)) : v = .int x := by cases h; rfl
end
end My

set_option Elab.async false
set_option linter.all false
set_option maxRecDepth 100000
set_option maxHeartbeats 4000000
namespace My
open PySem PySem.Spec PyProof.Rows L2
theorem tuple_mul1 (l : Addr) (items : Array Value) (n : Nat) (dd : Option Addr) (sl : Array (Option Value)) (x : Int) (u : Tok) (c0 : (decide (x < -(2 ^ 63)) || decide (x ≥ 2 ^ 63)) = false) (c1 : (items.isEmpty || x == 1) = true) :
    Meets (Builtin.«tuple.__mul__» ⟨[.ref l, .int x u], []⟩) (fun _ R s => s.heap.get? l = some { cls := .type "tuple", dict := dd, data := .seq items n, slots := sl } ∧
      R (.ok (.ret (Value.ref l))) s) :=
  .of_wp fun prog w A R s h => by
    obtain ⟨hp, g, d, tk, os⟩ := s
    obtain ⟨hl, h⟩ := h
    have f1 := AutoSeq1.idx_int
    wp_walk using wpAny_loadPart' hl
    repeat (first
      | (refine wpAny_ite_false (decide_eq_false (by rw [c0]; exact Bool.false_ne_true)) ?_; wp_walk using wpAny_loadPart' hl)
      | (refine wpAny_ite_true (decide_eq_true c1) ?_; wp_walk using wpAny_loadPart' hl))
    exact ⟨_, rfl, h⟩
/-- (x,) * k, k from 1 on: the same tuple for 1, else a new one -/
def rRepZ (K : PySem.W.Frag) : R2 := fun x y H Q => ∃ l k xs, x = .ref l ∧ y = .int k ∧ SqT K H l xs ∧ xs ≠ [] ∧ 1 ≤ k ∧ k ≤ 1000 ∧ xs.length ≤ 1000 ∧ (k = 1 → Q (.ref l) H) ∧ (2 ≤ k → ∀ p, H p = none → Q (.ref p) (upd H p (.tup (List.replicate k.toNat xs).flatten)))
section
variable {X : Cx} {K : PySem.W.Frag}
theorem op_repZ (h : X.K = K) : OpR X (binaryOp .Mult) (rRepZ K) := by
  subst h
  intro pins s σ H x y v u Q I rx ry h
  obtain ⟨l, k, xs, rfl, rfl, hT, hne, h1, h2, hz, q1, q2⟩ := h
  by_cases hk : k = 1
  · subst hk
    have q := q1 rfl
    cases rx
    obtain ⟨t, rfl⟩ := ry
    obtain ⟨its, r, ⟨⟨cls, dd, data, sl⟩, ho, hc, n, hd⟩, hs⟩ := I.tuple hT
    simp only at hc hd
    subst hc hd
    refine wpAny_binaryOp_repeat_ref (T := "tuple") (U := "int") (by decide) ⟨_, ho, rfl⟩ (fun s' => typeIs_int s' 1 t) noFill_tuple_mul F.fills_int_mul F.slot_int_rmul repeat_tuple F.slot_int_index.lookup
      (call_meets F.slot_int_rmul (typeIs_int s 1 t) F.entry_int_rmul (F.args_int_rmul_2 _ _) (int_rmul_tuple 1 t l its.toArray n dd sl)
        ⟨ho, rfl, ⟨_, ho, rfl⟩, call_meets F.slot_tuple_mul ⟨_, ho, rfl⟩ F.entry_tuple_mul (F.args_tuple_mul_2 _ _) (tuple_mul1 l its.toArray n dd sl 1 t (by decide) (by simp)) ⟨ho, ?_⟩⟩)
    exact ⟨.ref l, H, I, rfl, q⟩
  · exact op_repT pins s σ H _ _ v u Q I rx ry ⟨l, k, xs, rfl, rfl, hT, hne, by omega, h2, hz, q2 (by omega)⟩
end
/-- the truth of the name in the i-th slot -/
theorem pt_truthK {X : Cx} {K : PySem.W.Frag} (h : X.K = K) (i : Nat) {x : Str} {pos : Pos} (hN : X.N[i]? = some x := by rfl) (hv : Vis X.env.scope x := by first | exact Or.inl rfl | exact Or.inr (Or.inl rfl) | exact Or.inr (Or.inr rfl)) (hd : (x == ("__debug__" : Str)) = false := by decide)
    (hcd : (x == ("__classdict__" : Str)) = false := by decide) : PT X (.Name x pos) (fun σ H Q => tVar i σ H fun x H' => ∃ k, TruV K x H' k ∧ Q k H') := by
  subst h
  exact pt_truth (pv i hN hv hd hcd) (by intro _; rfl)
end My

set_option Elab.async false
set_option linter.all false
set_option maxRecDepth 100000
/-! the end of a row whose defs hold generator expressions -/
namespace My
open PySem PySem.Spec PyProof.Rows L2
/-- what the head tells of the defs' code objects: their tables are empty -/
def RecTabs (q : Program) (mg : Str → Option Value) (h : Heap) : Prop := ∀ d ∈ recsOf q, ∃ a o fd c P, mg d.name = some (.ref a) ∧ h.get? a = some o ∧ o.data = .func fd ∧ fd.code = .ref c ∧ h.IsCode c P #[] ∧ h.TableAt c P #[]
theorem walk_ofG {l : PySem.W.OpenLaw} {n k : Nat} {q : Program} {loose : List Str} {XP : (Str → Option Value) → Heap → Prop} {YP : World → Heap → Prop} {d : DefRec} {K : Params → PySem.W.Frag} {x : Str}
    (hn : l.most = some n) (hn2 : n ≤ sizeLine) (hdf : d.params.defaults = []) (hr : Room k callerA) (hY : ∀ (w : World) (h : Heap), YP w h → (K w.params).In h)
    (F : ∀ (w : World) (mg : Str → Option Value) (fa : Addr) (h : Heap), (K w.params).In h → h.Ns mainGlobals mg → mg d.name = some (.ref fa) → RecTabs q mg h → LamX.LawAtS l w (K w.params) CX0 k n x mg fa h) :
    PySem.W.WalkO q loose XP YP l.row.toRowW d [] (fun f vs => PySem.call f vs) := by
  refine Att.attach_callB hn hdf fun w s₀ s₁ mg mb fa o pm cd doc a vs ns G Y ho hd hcd hmg hobj hints hlen hbits hg => ?_
  have KX := hY w _ Y
  obtain ⟨fd, cs, sp, hT, nT, C, hb, hsp, hF⟩ := F w mg fa _ KX G.T.g hmg G.T.tab
  exact LamX.law_callTs KX G.T.g G.T.b G.T.builtins G.T.nolimit hg hT nT C G.T.bmain hobj hints (Nat.le_trans hlen hn2) hr hF hb (fun H hH hS => hsp H a ns hlen hbits hH hS) fun H e s' h => h
/-- the table of the code object at c -/
def codeTab (K : PySem.W.Frag) (c : Addr) : Option Addr := match K.lookup c with
  | some ⟨_, _, .fields vs, _⟩ => (match (vs[11]? : Option Value) with | some (.ref P) => some P | _ => none)
  | _ => none
/-- the table of the def that bears this name stands empty -/
theorem tab_of {q : Program} {mg : Str → Option Value} {h : Heap} {K : PySem.W.Frag} {nm : Str} {f c P : Addr} {oc : Value} {od : Option Addr} {fd : FuncData} {osl : Array (Option Value)} (T : RecTabs q mg h) (X : K.In h)
    (hrec : ((recsOf q).any fun e => e.name == nm) = true) (hm : mg nm = some (.ref f)) (lk : K.lookup f = some ⟨oc, od, .func fd, osl⟩) (hc : fd.code = .ref c) (hd : codeTab K c = some P) : h.get? P = some { cls := .none, data := .fields #[] } := by
  obtain ⟨d, hd1, e⟩ := List.any_eq_true.mp hrec
  have e : d.name = nm := beq_iff_eq.mp e
  obtain ⟨a, o, fd', c', P', h1, h2, h3, h4, h5, h6⟩ := T d hd1
  rw [e, hm] at h1
  cases h1
  rw [X _ _ lk] at h2
  cases h2
  cases h3
  rw [hc] at h4
  cases h4
  obtain ⟨⟨oc', vc, e1, _, e3, e4⟩, hP⟩ := h6
  unfold codeTab at hd
  split at hd
  · rename_i vs _ hk
    rw [X _ _ hk] at e1
    cases e1
    cases e3
    rw [e4] at hd
    cases hd
    exact hP
  · cases hd
/-- the code object's fields are in order -/
def hdOk (vs : Array Value) (c P : Addr) : Bool := (match (vs[11]? : Option Value) with | some (.ref P') => P' == P | _ => false) &&
  (match vs.getD 18 .none with | .str _ _ => true | _ => false) && (match vs.getD 7 .none with | .int _ _ => true | _ => false) &&
  (match vs.getD 9 .none with | .bool _ => true | _ => false) && (match vs.getD 10 .none with | .int _ _ => true | _ => false) && c != P
theorem codeHd_mk {K : PySem.W.Frag} {c P : Addr} {vs : Array Value} {dd : Option Addr} {sl : Array (Option Value)} (lk : K.lookup c = some ⟨.type "code", dd, .fields vs, sl⟩) (_ : vs[11]? = some (.ref P)) (h : hdOk vs c P = true) : PySem.W.codeHdIn K c P = true := by
  unfold PySem.W.codeHdIn
  rw [lk]
  exact h
theorem codeTab_mk {K : PySem.W.Frag} {c P : Addr} {vs : Array Value} {dd : Option Addr} {sl : Array (Option Value)} (lk : K.lookup c = some ⟨.type "code", dd, .fields vs, sl⟩) (h : vs[11]? = some (.ref P)) : codeTab K c = some P := by
  unfold codeTab
  rw [lk]
  show (match (vs[11]? : Option Value) with | some (.ref P) => some P | _ => none) = _
  rw [h]
end My

set_option Elab.async false
set_option linter.all false
set_option maxRecDepth 100000
namespace My
open PySem PySem.Spec PyProof.Rows L2
/-! small steps of a reading -/
theorem ite_f {c A B : Prop} [Decidable c] (h : ¬ c) (q : B) : if c then A else B := by rw [if_neg h]; exact q
theorem ite_t {c A B : Prop} [Decidable c] (h : c) (q : A) : if c then A else B := by rw [if_pos h]; exact q
theorem dstr_ne {a b : Str} (h : ¬ a = b) : ¬ decide (V.str a = V.str b) = true := fun z => h (V.str.inj (of_decide_eq_true z))
theorem dstr_eq {a b : Str} (h : a = b) : decide (V.str a = V.str b) = true := decide_eq_true (by rw [h])
theorem dint_ne {a b : Int} (h : ¬ a = b) : ¬ decide (V.int a = V.int b) = true := fun z => h (V.int.inj (of_decide_eq_true z))
theorem dint_eq {a b : Int} (h : a = b) : decide (V.int a = V.int b) = true := decide_eq_true (by rw [h])
theorem dget_s {H : Hp} {a : Addr} {kvs : List (Key × V)} {x : Str} {v : V} (e : H a = some (.dK kvs)) (h : valV kvs (.inr x) = some v) : DGet H a (.str x) (some v) := by
  rw [← h]
  exact DGet.k (k := Sum.inr x) e
theorem dget_f {H : Hp} {a : Addr} {o : Obj} {kvs : List (Key × V)} {x : Str} {v : V} (e : H a = some (.frz o (.dK kvs))) (h : valV kvs (.inr x) = some v) : DGet H a (.str x) (some v) := by
  rw [← h]
  exact .inl ⟨kvs, .inr x, .inr ⟨o, e⟩, rfl, rfl⟩
theorem not_bl {b : Bool} (h : b = false) : ¬ b = true := by rw [h]; exact Bool.false_ne_true
end My
namespace My
open PySem PySem.Spec PyProof.Rows L2
theorem or_bl {a b : Bool} {p : Prop} (h : ¬ a = true) (g : b = true ∨ p) : b = true ∨ p := g
theorem dp_strL {K : PySem.W.Frag} {H : Hp} : ∀ xs : List Str, DpAll K H (xs.map V.str) (xs.map PyData.str)
  | [] => .nil
  | x :: r => .cons (.str x) (dp_strL r)
theorem layAll_strs : ∀ xs : List Str, (∀ x ∈ xs, (PyData.str x).canLay0 = true) → PyData.canLayAll0 (xs.map PyData.str) = true
  | [], _ => rfl
  | x :: r, h => by
    show (PyData.canLay0 (.str x) && PyData.canLayAll0 (r.map PyData.str)) = true
    rw [layAll_strs r (fun y hy => h y (List.mem_cons_of_mem _ hy)), Bool.and_true]
    exact h x List.mem_cons_self
theorem depthAll_strs : ∀ xs : List Str, PyData.depthAll (xs.map PyData.str) = 0
  | [] => rfl
  | x :: r => by
    show max (PyData.depth (.str x)) (PyData.depthAll (r.map PyData.str)) = 0
    rw [depthAll_strs r]
    rfl
theorem shaped_strs (xs : List Str) (h : ∀ x ∈ xs, (PyData.str x).canLay0 = true) : SeqAt.shaped (.list (xs.map PyData.str)) = true := by
  unfold SeqAt.shaped
  rw [Bool.and_eq_true]
  refine ⟨layAll_strs xs h, decide_eq_true ?_⟩
  show PyData.depthAll (xs.map PyData.str) + 1 ≤ 64
  rw [depthAll_strs]
  decide
theorem eqv_nil (xs : List PyData) : PyData.eqv (.list xs) (.list []) = xs.isEmpty := by
  cases xs with
  | nil => rfl
  | cons x r => rfl
/-! a statement laid open -/
theorem seq_asg_op {r : R2} {ta tb : TE} {g : TG} {u : TS} {D : Ends} {σ : L2.St} {H : Hp} (h : ta σ H fun x H1 => tb σ H1 fun y H2 => r x y H2 fun v H3 => g v σ H3 (u D)) : tSeq (tAsg (tOp r ta tb) g) u D σ H := h
theorem seq_asg {te : TE} {g : TG} {u : TS} {D : Ends} {σ : L2.St} {H : Hp} (h : te σ H fun v H3 => g v σ H3 (u D)) : tSeq (tAsg te g) u D σ H := h
theorem seq_any {t u : TS} {D : Ends} {σ : L2.St} {H : Hp} (h : t { D with nx := u D } σ H) : tSeq t u D σ H := h
end My
namespace My
open PySem PySem.Spec PyProof.Rows L2
/-! the same operators, the written part by its name: within a comprehension's block -/
section
variable {X : Cx} {K : PySem.W.Frag}
theorem opNI (h : X.K = K) : OpR X (compareOp .NotIn) (rIn K true) := by subst h; exact op_notIn_seq
theorem opIN (h : X.K = K) : OpR X (compareOp .In) (rIn K false) := by subst h; exact op_in_seq
theorem ixL (h : X.K = K) : IxR X (rIxL K) := by subst h; exact ix_list
theorem ixT (h : X.K = K) : IxR X (rIxT K) := by subst h; exact ix_tup
theorem ixQ (h : X.K = K) : IxR X (rIx K) := by subst h; exact ix_seq
theorem opED (h : X.K = K) (hu : X.A.units + 64 < cLine) : OpR X (compareOp .Eq) (rEqD K) := by subst h; exact op_eqD hu
theorem opND (h : X.K = K) (hu : X.A.units + 64 < cLine) : OpR X (compareOp .NotEq) (rNeD K) := by subst h; exact op_neD hu
theorem slL (h : X.K = K) : SlR X (rSlL K) := by subst h; exact sl_list
theorem slT (h : X.K = K) : SlR X (rSlA K) := by subst h; exact sl_tupA
theorem catT (h : X.K = K) : OpR X (binaryOp .Add) (rCatA K) := by subst h; exact op_catA
theorem lnQ (h : X.K = K) : CallR X (.builtin "len") (fun xs H Q => ∃ p ys, xs = [.ref p] ∧ (SqL K H p ys ∨ SqT K H p ys) ∧ Q (.int ys.length) H) := by subst h; exact call_len_seq
theorem lsO (h : X.K = K) : CallR X (.type "list") (fun xs H Q => ∃ p ys, xs = [.ref p] ∧ (SqL K H p ys ∨ SqT K H p ys) ∧ ∀ l, H l = none → Q (.ref l) (upd H l (.lst ys))) := by subst h; exact call_list_of
theorem tpO (h : X.K = K) : CallR X (.type "tuple") (fun xs H Q => ∃ p ys, xs = [.ref p] ∧ ((SqL K H p ys ∧ ∀ l, H l = none → Q (.ref l) (upd H l (.tup ys))) ∨ (SqT K H p ys ∧ Q (.ref p) H))) := by subst h; exact call_tuple_of
theorem isI (h : X.K = K) : CallR X (.builtin "isinstance") (rIsi K) := by subst h; exact call_isi
end
end My
namespace My
open PySem PySem.Spec PyProof.Rows L2
/-! a walk over a list or a tuple, as it comes -/
section
variable {X : Cx} {tg : Expr}
def iSeq (K : PySem.W.Frag) (tl : TE) : TI := fun σ H R => tl σ H fun x H1 => ∃ (a : Addr) (xs : List V) (G : Hp → Prop), x = .ref a ∧ ((G = fun H => SqL K H a xs) ∨ (G = fun H => SqT K H a xs)) ∧ G H1 ∧ ∀ J, Walk J xs.length G (YAt xs) → R J H1
theorem pi_seq {l : Expr} {tl : TE} (hl : PE X l tl) : PI X tg l (iSeq X.K tl) := by
  refine ⟨fun pins s σ H R I h => ?_⟩
  refine thn (hl.run pins s σ H _ I h) fun v s1 ⟨x, H1, I1, r1, q1⟩ => ?_
  obtain ⟨a, xs, G, e, hG, g1, q⟩ := q1
  subst e
  cases r1
  have fp : ∀ b ∈ [s1.heap.objs.size], FpOk X pins H1 b := fun b hb => by
    rw [List.mem_singleton.mp hb]
    exact I1.fpOk (Nat.le_refl _) (I1.hok.fresh (Nat.le_refl _))
  rcases hG with rfl | rfl
  · have hq : SqL X.K H1 a xs := g1
    obtain ⟨its, _, p, _⟩ := I1.list hq
    refine wpAny_pyIter_list p.isList ?_
    exact ⟨_, _, _, _, H1, rfl, I1.kept (t' := s1.toks) fun b o e => Heap.get?_push_of_some _ e, turn_list a _, ⟨_, Heap.get?_push_size _ rfl, rfl, rfl⟩, fp, q _ walk_list⟩
  · have hq : SqT X.K H1 a xs := g1
    obtain ⟨its, _, p, _⟩ := I1.tuple hq
    refine wpAny_pyIter_tuple (show s1.heap.IsTuple a its.toArray from p) ?_
    exact ⟨_, _, _, _, H1, rfl, I1.kept (t' := s1.toks) fun b o e => Heap.get?_push_of_some _ e, turn_tuple a _, ⟨_, Heap.get?_push_size _ rfl, rfl, rfl⟩, fp, q _ walk_tup⟩
end
theorem lookup_memG {β : Type} {nm : List (Str × β)} (nd : (nm.map (·.1)).Nodup) {x : Str} {s : β} (h : (x, s) ∈ nm) : nm.lookup x = some s := by
  induction nm with
  | nil => cases h
  | cons p r ih =>
    obtain ⟨y, t⟩ := p
    rw [List.map_cons, List.nodup_cons] at nd
    rcases List.mem_cons.mp h with e | h
    · cases e
      rw [List.lookup_cons_self]
    · have ne : ¬ x = y := fun z => nd.1 (by rw [← z]; exact List.mem_map.mpr ⟨_, h, rfl⟩)
      rw [List.lookup_cons]
      have : (x == y) = false := by simpa using ne
      rw [this]
      exact ih nd.2 h
end My

set_option Elab.async false
set_option linter.all false
set_option maxRecDepth 100000
/-! methods of built-in types within a comprehension -/
namespace My
open PySem PySem.Spec PyProof.Rows L2
section
variable {X : Cx} {K : PySem.W.Frag} {o e : Expr} {es : List Expr} {to : TE} {t : TA} {name : Str} {apos cpos : Pos} {T id : String} {r : V → List V → Hp → VK → Prop}
theorem pe_bmK (h : X.K = K) (pa : PlainAttrs T) (slot : Slot T name id) (hty : typeOf (.builtin id) = pure (.type "method_descriptor")) (hm : MtR X id r) (ho : PE X o to) (ha : PA X (e :: es) t) (hbase : attributeBase o name X.env (eval o X.env) = eval o X.env := by rfl)
    (hfew : ((backTo cpos (starEach (e :: es) X.env)).all (fun x => !x.1) && (backToKw cpos (keywordEach [] X.env)).all (fun x => x.1.isSome) && decide ((e :: es).length + ([] : List Keyword).length + (if ([] : List Keyword).isEmpty then 0 else 1) < 30)) = true := by rfl)
    (hline : (apos.endLine == cpos.line) = true := by rfl) (hs : starEach (e :: es) X.env = (false, eval e X.env) :: starEach es X.env := by rfl) (hplain : (backTo cpos (starEach es X.env)).any (·.1) = false := by rfl) :
    PE X (.Call (.Attribute o name apos) (e :: es) [] cpos) (tBM K T r to t) := by
  subst h
  exact pe_bm pa slot hty hm ho ha hbase hfew hline hs hplain
/-- the truth of any expression -/
def tTru (K : PySem.W.Frag) (ta : TE) : TT := fun σ H Q => ta σ H fun x H' => ∃ k, TruV K x H' k ∧ Q k H'
theorem pt_truthE {a : Expr} {ta : TE} (h : X.K = K) (ha : PE X a ta) (he : ∀ whole, isTrue a X.env whole = (do let v ← whole; standAt a.pos; holding [v] (truthy v))) : PT X a (tTru K ta) := by
  subst h
  exact pt_truth ha he
end
end My

set_option Elab.async false
set_option linter.all false
set_option maxRecDepth 100000
set_option maxHeartbeats 2000000
/-! enumerate over a tuple -/
namespace My
open PySem PySem.Spec PyProof.Rows L2
open AutoSeq1 (wpAny_loadPart')
theorem meets_en {v : Value} {o : Obj} {B : Heap → Prop} (b : Begins v o B) : Meets (Builtin.«enumerate.__new__» ⟨[.type "enumerate", v], []⟩)
    (fun _ R s => B s.heap ∧ R (.ok (.ret (.ref (s.heap.push o).objs.size))) { s with heap := (s.heap.push o).push { cls := .type "enumerate", data := .fields #[.none, .bool false, .ref s.heap.objs.size, rawInt 0, .none, .none] } }) :=
  .of_wp fun prog w A R s h => by
    obtain ⟨hp, g, d, tk, os⟩ := s
    obtain ⟨h1, h⟩ := h
    have sb := sub_enumerate
    have it : ∀ {A' : Around} {E : Value → Shared → Prop} {Q : Value → Shared → Prop}, Q (.ref hp.objs.size) ⟨hp.push o, g, d, tk, os⟩ → wpAny (model prog w) A' (pyIter v) Q E ⟨hp, g, d, tk, os⟩ := fun q => b.iter prog w _ _ ⟨hp, g, d, tk, os⟩ _ h1 q
    wp_walk using it
    refine wpAny_stack_any fun u => wpAny_pure ?_
    split
    · rename_i c _ _ _ _ _
      cases (c == Value.type "enumerate") <;> (wp_walk using it; exact ⟨_, rfl, h⟩)
    · wp_walk using it
      exact ⟨_, rfl, h⟩
section
variable {prog : Program} {w : World} {A : Around} {E : Value → Shared → Prop} {s : Shared}
theorem call_en {v : Value} {o : Obj} {B : Heap → Prop} {Q : Value → Shared → Prop} (b : Begins v o B) (h1 : B s.heap)
    (h : ∀ h', IsEnum h' (s.heap.objs.size + 1) s.heap.objs.size 0 .none → h'.get? s.heap.objs.size = some o → (∀ c u, s.heap.get? c = some u → h'.get? c = some u) → Q (.ref (s.heap.objs.size + 1)) { s with heap := h' }) :
    wpAny (model prog w) A (call (.type "enumerate") [v]) Q E s := by
  refine callType_new F.called_enumerate (by decide) (F.typeCall_enumerate_1 _) (F.newCall_enumerate_1 _) (fun u => F.args_object_init_2 u _) F.entry_enumerate_new (meets_en b) ⟨h1, ?_⟩
  have z : (s.heap.push o).objs.size = s.heap.objs.size + 1 := Heap.size_push ..
  have e := Heap.get?_push_size (s.heap.push o) (o := { cls := .type "enumerate", data := .fields #[.none, .bool false, .ref s.heap.objs.size, rawInt 0, .none, .none] }) rfl
  rw [z] at e
  show _ ∧ _
  rw [z]
  exact ⟨⟨_, e, rfl⟩, h _ e (Heap.get?_push_of_some _ (Heap.get?_push_size _ b.free)) fun c u x => Heap.get?_push_of_some _ (Heap.get?_push_of_some _ x)⟩
end
/-- the tuple at a, each item in a new pair -/
def IteT (K : PySem.W.Frag) (a : Addr) : It where
  go := fun i H => ∃ (xs : List V) (x : V), SqT K H a xs ∧ xs[i]? = some x
  yld := fun i H v H' => ∃ T x, v = .ref T ∧ H T = none ∧ H' = upd H T (.tup [.int (i : Nat), x]) ∧ ∀ xs, SqT K H a xs → xs[i]? = some x
  stop := fun i H => ∃ xs : List V, SqT K H a xs ∧ xs.length ≤ i
theorem turn_enT {P : Program} {w : World} {K : PySem.W.Frag} {elts : List Expr} {kk : Nat} {tpos : Pos} (a e it : Addr) (hne : e ≠ it) (hea : e ≠ a) (hai : a ≠ it) :
    Turn P w K (.Tuple elts kk tpos) (IteT K a) [e, it] e (fun i h => (∃ old, IsEnum h e it ((i : Nat) : Int) old) ∧ h.IsTupleIter it a i) where
  mem := List.mem_cons_self
  obj := fun i h st b hb => by
    obtain ⟨⟨old, he⟩, o, ho, _, hd⟩ := st
    rcases List.mem_cons.mp hb with z | z
    · rw [z]; exact ⟨_, he, fun v q => nomatch q⟩
    · rw [List.mem_singleton.mp z]; exact ⟨o, ho, fun v q => by rw [hd] at q; cases q⟩
  keep := fun i h h' ⟨⟨old, he⟩, hi⟩ k => ⟨⟨old, k e (by simp) _ he⟩, hi.at fun o q => k it (by simp) o q⟩
  item := by
    intro X hP hw hK hc i pins s σ H E I hf st hg
    subst hP hw hK
    obtain ⟨⟨old, he⟩, hit⟩ := st
    obtain ⟨xs, x, hq, hx⟩ := hg
    obtain ⟨its, rv, ⟨po, p⟩, hz⟩ := I.tuple hq
    obtain ⟨u, hu, ru⟩ := rv.get hx
    have hi : i < its.toArray.size := by
      rw [List.size_toArray]
      exact (List.getElem?_eq_some_iff.mp hu).1
    have hel := Heap.lt_size he
    have hil : it < s.heap.objs.size := let ⟨_, q, _⟩ := hit; Heap.lt_size q
    have D : Draws X.prog X.w X.A.in1 it [it, a] its.toArray.size (fun i v => its.toArray[i]? = some v) (fun i h => h.IsTupleIter it a i ∧ h.IsTuple a its.toArray) := Draws.tuple (A := X.A.in1) (I.ok.hd hc) it a hai its.toArray
    refine wpAny_pyNext_enum_itemD (n := its.toArray.size) D he ⟨hit, ⟨po, p⟩⟩ hi hne (fun z => (List.mem_cons.mp z).elim hne fun z => hea (List.mem_singleton.mp z)) fun y h' tk hy ho hst hT hsz hk => ?_
    have hy : y = u := by
      have : its.toArray[i]? = some u := by simpa using hu
      exact Option.some.inj (hy.symm.trans this)
    subst hy
    refine ⟨_, rfl, wpAny_letOwnedTupleGo_enum (s := { s with heap := h', toks := tk + 1 }) ho fun h'' he' sb => ?_⟩
    have nT : s.heap.objs.size ≠ e := Nat.ne_of_gt hel
    have hT2 := (sb.2 _ nT).trans hT
    have new : ObjOk X.prog X.w (upd H s.heap.objs.size (.tup [.int (i : Nat), x])) h'' s.heap.objs.size (.tup [.int (i : Nat), x]) :=
      ⟨(by show 2 ≤ sizeLine; decide), [.int i tk, y], .cons ⟨_, rfl⟩ (.cons ru .nil), ⟨_, hT2, rfl, _, rfl⟩⟩
    have I1 : Inv X pins σ (upd H s.heap.objs.size (.tup [.int (i : Nat), x])) { s with heap := h'', toks := tk + 1 } :=
      I.turnedNew (ch := [e, it]) (fun b ob hb q => by
        have n1 : b ≠ e := fun z => hb (by rw [z]; simp)
        have n2 : b ≠ it := fun z => hb (by rw [z]; simp)
        exact (sb.2 b n1).trans (hk b ob n1 n2 q)) hf (Nat.le_refl _) new
    refine ⟨.ref s.heap.objs.size, _, I1, rfl, ⟨_, x, rfl, I.hok.fresh (Nat.le_refl _), rfl, fun ys hy => (I.tuple_inj hy hq) ▸ hx⟩, ⟨⟨y, ?_⟩, hst.1.at fun o q => (sb.2 it (Ne.symm hne)).trans q⟩, fun b hb => ?_⟩
    · have e1 : ((i + 1 : Nat) : Int) = (i : Int) + 1 := by omega
      rw [e1]; exact he'
    · have hb' : b ≠ s.heap.objs.size := by
        rcases List.mem_cons.mp hb with z | z
        · rw [z]; exact Nat.ne_of_lt hel
        · rw [List.mem_singleton.mp z]; exact Nat.ne_of_lt hil
      rw [upd_ne hb']
      exact (hf b hb).1
  done := by
    intro X hP hw hK hc i pins s σ H E I hf st hg
    subst hP hw hK
    obtain ⟨⟨old, he⟩, hit⟩ := st
    obtain ⟨xs, hq, hx⟩ := hg
    obtain ⟨its, rv, ⟨po, p⟩, hz⟩ := I.tuple hq
    obtain ⟨f0, f1, f2, f3, f4, f5⟩ := hf it (by simp)
    have D : wpAny (model X.prog X.w) X.A (pyNext (.ref e)) (fun r s1 => r = none ∧ Inv X pins σ H s1) E s := by
      have hT : s.TypeIs (.ref e) "enumerate" := ⟨_, he, rfl⟩
      unfold pyNext
      refine wpAny_bind (wpAny_attempt (wpAny_callSpecial?_slot (name := Str.ofString "__next__") hT F.slot_enumerate_next (wpAny_call_entry F.slot_enumerate_next hT F.entry_enumerate_next ?_ (F.args_enumerate_next_1 _))))
      show wpAny _ _ (field (.ref e) 2 >>= _) _ _ _
      refine wpAny_bind (wpAny_field he rfl (x := .ref it) rfl (wpAny_bind ?_))
      refine RZ.nextOf_tuple_end (I.ok.hd hc) hit ⟨po, p⟩ (by have := rv.length; simp; omega) fun h' x hx' hs => ?_
      obtain ⟨o, ho, hc'⟩ := hs
      exact wpAny_bind (wpAny_isInstance (T := "StopIteration") (b := true) ⟨o, ho, hc'⟩ isSubtype_stop (wpAny_pure ⟨rfl, I.turned (t' := s.toks) (fun b o hb q => hx' b o hb q) f0 f1 f3 f4 f5⟩))
    exact D
  self := fun A i s Q E st h => let ⟨⟨_, he⟩, _⟩ := st; wpAny_pyIter_enum he h
def iEnT (K : PySem.W.Frag) (ta : TA) : TI := fun σ H R => ta σ H fun vs H1 => ∃ a xs, vs = [.ref a] ∧ SqT K H1 a xs ∧ R (IteT K a) H1
theorem pi_enT {X : Cx} {e : Expr} {ta : TA} {p pos tpos : Pos} {elts : List Expr} {kk : Nat} (hg : Gl X "enumerate") (hm : X.mg "enumerate" = none) (ha : PA X [e] ta) (hs : starEach [e] X.env = [(false, eval e X.env)] := by rfl) :
    PI X (.Tuple elts kk tpos) (.Call (.Name "enumerate" p) [e] [] pos) (iEnT X.K ta) := by
  refine ⟨fun pins s σ H R I h => Call_ (ld_blt I hg hm boot_enumerate (PyProof.Rows.callWith_type1 (thn (ha.run pos pins s σ H _ I h) fun us s1 ⟨vs, H1, I1, r1, q1⟩ => ?_) hs rfl))⟩
  obtain ⟨a, xs, rfl, hq, q⟩ := q1
  cases r1 with
  | cons r rr =>
    cases rr
    cases r
    obtain ⟨its, rv, ⟨po, p'⟩, hz⟩ := I1.tuple hq
    have hal : a < s1.heap.objs.size := let ⟨q', _⟩ := p'; Heap.lt_size q'
    refine call_en (begins_tuple a its.toArray) ⟨po, p'⟩ fun h' he hit hk => wpAny_pyIter_enum he ?_
    refine ⟨s1.heap.objs.size + 1, [s1.heap.objs.size + 1, s1.heap.objs.size], _, _, H1, rfl, I1.kept (t' := s1.toks) hk, turn_enT a (s1.heap.objs.size + 1) s1.heap.objs.size (Nat.succ_ne_self _) (Nat.ne_of_gt (Nat.lt_succ_of_lt hal)) (Nat.ne_of_lt hal), ⟨⟨.none, he⟩, ⟨_, hit, rfl, rfl⟩⟩, fun b hb => ?_, q⟩
    have hle : s1.heap.objs.size ≤ b := by
      rcases List.mem_cons.mp hb with z | z
      · rw [z]; exact Nat.le_add_right _ _
      · rw [List.mem_singleton.mp z]; exact Nat.le_refl _
    exact I1.fpOk hle (I1.hok.fresh hle)
theorem walk_enT {K : PySem.W.Frag} {a : Addr} {xs : List V} : Walk (IteT K a) xs.length (fun H => SqT K H a xs) (YPair (fun i => some (.int (i : Nat))) (fun i => xs[i]?)) where
  goes := fun i _ hi q => ⟨xs, xs[i], q, by simp [hi]⟩
  stops := fun _ q => ⟨xs, q, Nat.le_refl _⟩
  yields := fun i H v H' _ q ⟨T, x, h1, h2, h3, h4⟩ => ⟨T, .int (i : Nat), x, h1, h2, h3, rfl, h4 xs q⟩
end My

set_option Elab.async false
set_option linter.all false
set_option maxRecDepth 100000
set_option maxHeartbeats 4000000
/-! enumerate over a zip of two tuples -/
namespace My
open PySem PySem.Spec PyProof.Rows L2
abbrev ZO (h : Heap) (z TI TO : Addr) (f : Value) (b : Bool) : Prop := h.get? z = some { cls := .type "zip", dict := none, data := .fields #[f, .bool b, .bool false, .ref TI, .ref TO], slots := #[] }
def Fo (f : Value) : Prop := f = .none ∨ ∃ T : Addr, f = rawInt T
structure ZS (h : Heap) (z TI TO i1 i2 a b : Addr) (k : Nat) : Prop where
  zo : ∃ f c, ZO h z TI TO f c ∧ Fo f
  ti : IsPair h TI (.ref i1) (.ref i2)
  to : ∃ x y, IsPair h TO x y
  j1 : h.IsTupleIter i1 a k
  j2 : h.IsTupleIter i2 b k
section
variable {prog : Program} {w : World} {A : Around} {E : Value → Shared → Prop} {s : Shared}
theorem alive_any {a : Addr} {Q : Option Obj → Shared → Prop} (q : Q (s.heap.get? a) s) : wpAny (model prog w) A (loadIfAlive a) Q E s := fun _ _ _ => q
/-- is the owned tuple free: either way -/
theorem own_z {z TI TO : Addr} {f : Value} {c : Bool} {Q : Bool → Shared → Prop} (o : ZO s.heap z TI TO f c) (hf : Fo f) (q1 : Q true s) (q0 : ∀ g, ZO g z TI TO f true → Heap.SameBut z s.heap g → Q false { s with heap := g }) :
    wpAny (model prog w) A (Builtin.SmallTypes.ownedTupleIsFree (.ref z)) Q E s := by
  unfold Builtin.SmallTypes.ownedTupleIsFree
  refine wpAny_bind (wpAny_field o rfl (x := f) rfl ?_)
  rcases hf with rfl | ⟨T, rfl⟩
  · exact wpAny_pure q1
  · show wpAny _ _ (loadIfAlive ((T : Int).toNat) >>= _) _ _ _
    refine wpAny_bind (alive_any ?_)
    cases e : s.heap.get? ((T : Int).toNat) with
    | none =>
      rw [if_pos (show ((none : Option Obj).isNone = true) from rfl)]
      exact wpAny_pure q1
    | some ob =>
      rw [if_neg (by simp)]
      refine wpAny_bind (wpAny_field o rfl (x := .bool c) rfl ?_)
      cases c with
      | true =>
        rw [if_neg (by decide)]
        exact wpAny_pure (q0 s.heap o (Heap.SameBut.refl _ _))
      | false =>
        rw [if_pos (by decide)]
        exact wpAny_bind (wpAny_setField_rec o (by simp) fun g og sg => wpAny_pure (q0 g og sg))
/-- the next pair of a zip -/
theorem zn_item {z TI TO i1 i2 a b : Addr} {k : Nat} {xs ys : Array Value} {x y : Value} {Q : Value → Shared → Prop} (D : ZipApart z TI TO i1 i2 a b) (S : ZS s.heap z TI TO i1 i2 a b k) (ha : s.heap.IsTuple a xs) (hb : s.heap.IsTuple b ys) (ex : xs[k]? = some x) (ey : ys[k]? = some y)
    (q : ∀ g, ZS g z TI TO i1 i2 a b (k + 1) → IsPair g s.heap.objs.size x y → g.objs.size = s.heap.objs.size + 1 → (∀ c o, c ≠ z → c ≠ TO → c ≠ i1 → c ≠ i2 → s.heap.get? c = some o → g.get? c = some o) → Q (.ref s.heap.objs.size) { s with heap := g }) :
    wpAny (model prog w) A (Builtin.SmallTypes.nextOf (.ref z)) Q E s := by
  obtain ⟨⟨f, c, zo, hf⟩, ti, ⟨u, v, to⟩, j1, j2⟩ := S
  have ty : s.TypeIs (.ref z) "zip" := ⟨_, zo, rfl⟩
  unfold Builtin.SmallTypes.nextOf
  refine wpAny_bind (wpAny_callSpecial?_slot (name := Str.ofString "__next__") ty F.slot_zip_next (wpAny_call_entry F.slot_zip_next ty F.entry_zip_next ?_ (F.args_zip_next_1 _)))
  show wpAny _ _ (field (.ref z) 2 >>= _) _ _ s
  refine wpAny_bind (wpAny_field zo rfl (x := .bool false) rfl ?_)
  show wpAny _ _ (field (.ref z) 3 >>= _) _ _ s
  refine wpAny_bind (wpAny_field zo rfl (x := .ref TI) rfl (wpAny_bind (wpAny_seqItems ti rfl ?_)))
  show wpAny _ _ (Builtin.SmallTypes.ownedTupleIsFree (.ref z) >>= _) _ _ s
  refine wpAny_bind (own_z zo hf ?_ fun g1 o1 s1 => ?_)
  · -- free
    simp only [if_true]
    refine wpAny_bind (wpAny_rule (wpAny_bind (wpAny_field zo rfl (x := .ref TO) rfl (wpAny_bind (wpAny_setField_rec zo (by simp) fun g1 o1 s1 => ?_)))))
    replace o1 : ZO g1 z TI TO .ellipsis c := o1
    refine wpAny_bind ?_
    simp only [List.zipIdx_cons, List.zipIdx_nil, List.forIn_cons, List.forIn_nil]
    refine wpAny_bind (wpAny_bind (wpAny_onRaise (wpAny_bind ?_)))
    refine RZ.nextOf_tuple_item (j1.extBut s1.extBut D.i1z) (ha.extBut s1.extBut D.l1z) ex fun g2 k1 s2 => wpAny_pure ?_
    have to2 : IsPair g2 TO u v := s2.extBut _ _ D.TOi1 (s1.extBut _ _ D.TOz to)
    refine wpAny_bind (wpAny_seqItems to2 rfl (wpAny_bind (wpAny_updateSeq_pair to2 fun g3 to3 s3 => wpAny_bind (wpAny_letGo (wpAny_pure ?_)))))
    replace to3 : IsPair g3 TO x v := to3
    refine wpAny_bind (wpAny_bind (wpAny_onRaise (wpAny_bind ?_)))
    refine RZ.nextOf_tuple_item (((j2.extBut s1.extBut D.i2z).extBut s2.extBut D.i12.symm).extBut s3.extBut D.TOi2.symm) (((hb.extBut s1.extBut D.l2z).extBut s2.extBut D.l2i1).extBut s3.extBut D.l2TO) ey fun g4 k2 s4 => wpAny_pure ?_
    have to4 : IsPair g4 TO x v := s4.extBut _ _ D.TOi2 to3
    refine wpAny_bind (wpAny_seqItems to4 rfl (wpAny_bind (wpAny_updateSeq_pair to4 fun g5 to5 s5 => wpAny_bind (wpAny_letGo (wpAny_pure (wpAny_pure ?_))))))
    replace to5 : IsPair g5 TO x y := to5
    refine wpAny_bind (wpAny_seqItems to5 rfl (wpAny_bind (wpAny_newTuple ?_)))
    have sz : g5.objs.size = s.heap.objs.size := by rw [s5.1, s4.1, s3.1, s2.1, s1.1]
    have o5 : ZO g5 z TI TO .ellipsis c := s5.extBut _ _ D.TOz.symm (s4.extBut _ _ D.i2z.symm (s3.extBut _ _ D.TOz.symm (s2.extBut _ _ D.i1z.symm o1)))
    have kp5 : ∀ c o, c ≠ z → c ≠ TO → c ≠ i1 → c ≠ i2 → s.heap.get? c = some o → g5.get? c = some o := fun c o n1 n2 n3 n4 e => s5.extBut _ _ n2 (s4.extBut _ _ n4 (s3.extBut _ _ n2 (s2.extBut _ _ n3 (s1.extBut _ _ n1 e))))
    have k15 : g5.IsTupleIter i1 a (k + 1) := ((k1.extBut s3.extBut D.TOi1.symm).extBut s4.extBut D.i12).extBut s5.extBut D.TOi1.symm
    have k25 : g5.IsTupleIter i2 b (k + 1) := k2.extBut s5.extBut D.TOi2.symm
    have zl := Heap.lt_size o5
    show wpAny _ _ (Builtin.SmallTypes.ownedTupleHandOut (.ref z) (.ref g5.objs.size) >>= _) _ _ _
    refine wpAny_bind ?_
    unfold Builtin.SmallTypes.ownedTupleHandOut
    have o6 : ZO (g5.push { cls := .type "tuple", data := .seq #[x, y] }) z TI TO .ellipsis c := Heap.get?_push_of_some _ o5
    refine wpAny_bind (wpAny_setField_rec o6 (by simp) fun g7 o7 s7 => ?_)
    replace o7 : ZO g7 z TI TO (rawInt g5.objs.size) c := o7
    refine wpAny_setField_rec o7 (by simp) fun g8 o8 s8 => ?_
    replace o8 : ZO g8 z TI TO (rawInt g5.objs.size) false := o8
    have up : ∀ c o, c ≠ z → g5.get? c = some o → g8.get? c = some o := fun c o n e => s8.extBut _ _ n (s7.extBut _ _ n (Heap.get?_push_of_some _ e))
    have new8 : IsPair g8 g5.objs.size x y := s8.extBut _ _ (Nat.ne_of_gt zl) (s7.extBut _ _ (Nat.ne_of_gt zl) (Heap.get?_push_size _ rfl))
    have sz8 : g8.objs.size = g5.objs.size + 1 := by rw [s8.1, s7.1, Heap.size_push]
    rw [sz] at o8 new8 sz8
    refine wpAny_pure ⟨_, rfl, wpAny_pure ?_⟩
    show Q (.ref g5.objs.size) _
    rw [sz]
    exact q g8 ⟨⟨_, _, o8, .inr ⟨_, rfl⟩⟩, up _ _ D.TIz (kp5 _ _ D.TIz D.TITO D.TIi1 D.TIi2 ti), ⟨x, y, up _ _ D.TOz to5⟩, k15.at fun o e => up _ o D.i1z e, k25.at fun o e => up _ o D.i2z e⟩ new8 sz8 fun c o n1 n2 n3 n4 e => up c o n1 (kp5 c o n1 n2 n3 n4 e)
  · simp only [Bool.false_eq_true, if_false]
    refine wpAny_bind ?_
    rw [← Array.forIn_toList]
    simp only [List.forIn_cons, List.forIn_nil]
    refine wpAny_bind (wpAny_bind (wpAny_holding (wpAny_bind ?_)))
    refine RZ.nextOf_tuple_item (s := { s with heap := g1 }) (j1.extBut s1.extBut D.i1z) (ha.extBut s1.extBut D.l1z) ex fun g2 k1 s2 => wpAny_pure (wpAny_pure ?_)
    refine wpAny_bind (wpAny_bind (wpAny_holding (wpAny_bind ?_)))
    refine RZ.nextOf_tuple_item (s := { s with heap := g2 }) ((j2.extBut s1.extBut D.i2z).extBut s2.extBut D.i12.symm) ((hb.extBut s1.extBut D.l2z).extBut s2.extBut D.l2i1) ey fun g3 k2 s3 => wpAny_pure (wpAny_pure (wpAny_pure ?_))
    show wpAny _ _ (newTuple [x, y] >>= _) _ _ _
    refine wpAny_bind (wpAny_newTuple ?_)
    have sz : g3.objs.size = s.heap.objs.size := by rw [s3.1, s2.1, s1.1]
    have o3 : ZO g3 z TI TO f true := s3.extBut _ _ D.i2z.symm (s2.extBut _ _ D.i1z.symm o1)
    have kp : ∀ c o, c ≠ z → c ≠ i1 → c ≠ i2 → s.heap.get? c = some o → g3.get? c = some o := fun c o n1 n2 n3 e => s3.extBut _ _ n3 (s2.extBut _ _ n2 (s1.extBut _ _ n1 e))
    have k13 : g3.IsTupleIter i1 a (k + 1) := k1.extBut s3.extBut D.i12
    refine wpAny_pure ⟨_, rfl, wpAny_pure ?_⟩
    show Q (.ref g3.objs.size) _
    have new : IsPair (g3.push { cls := .type "tuple", data := .seq #[x, y] }) g3.objs.size x y := Heap.get?_push_size _ rfl
    have sz4 : (g3.push { cls := .type "tuple", data := .seq #[x, y] }).objs.size = g3.objs.size + 1 := Heap.size_push ..
    rw [sz] at new sz4 ⊢
    exact q _ ⟨⟨_, _, Heap.get?_push_of_some _ o3, hf⟩, Heap.get?_push_of_some _ (kp _ _ D.TIz D.TIi1 D.TIi2 ti), ⟨u, v, Heap.get?_push_of_some _ (kp _ _ D.TOz D.TOi1 D.TOi2 to)⟩, k13.at fun o e => Heap.get?_push_of_some _ e, k2.at fun o e => Heap.get?_push_of_some _ e⟩ new sz4
      fun c o n1 n2 n3 n4 e => Heap.get?_push_of_some _ (kp c o n1 n3 n4 e)
/-- the end of a zip -/
theorem zn_end {z TI TO i1 i2 a b : Addr} {k : Nat} {xs ys : Array Value} {Q : Value → Shared → Prop} (hh : A.handled = none) (D : ZipApart z TI TO i1 i2 a b) (S : ZS s.heap z TI TO i1 i2 a b k) (ha : s.heap.IsTuple a xs) (hb : s.heap.IsTuple b ys) (en : xs[k]? = none ∨ ys[k]? = none)
    (q : ∀ g e, (∀ c o, c ≠ z → c ≠ TO → c ≠ i1 → c ≠ i2 → s.heap.get? c = some o → g.get? c = some o) → (∃ o, g.get? e = some o ∧ o.cls = .type "StopIteration") → E (.ref e) { s with heap := g }) :
    wpAny (model prog w) A (Builtin.SmallTypes.nextOf (.ref z)) Q E s := by
  obtain ⟨⟨f, c, zo, hf⟩, ti, ⟨u, v, to⟩, j1, j2⟩ := S
  have ty : s.TypeIs (.ref z) "zip" := ⟨_, zo, rfl⟩
  unfold Builtin.SmallTypes.nextOf
  refine wpAny_bind (wpAny_callSpecial?_slot (name := Str.ofString "__next__") ty F.slot_zip_next (wpAny_call_entry F.slot_zip_next ty F.entry_zip_next ?_ (F.args_zip_next_1 _)))
  show wpAny _ _ (field (.ref z) 2 >>= _) _ _ s
  refine wpAny_bind (wpAny_field zo rfl (x := .bool false) rfl ?_)
  show wpAny _ _ (field (.ref z) 3 >>= _) _ _ s
  refine wpAny_bind (wpAny_field zo rfl (x := .ref TI) rfl (wpAny_bind (wpAny_seqItems ti rfl ?_)))
  show wpAny _ _ (Builtin.SmallTypes.ownedTupleIsFree (.ref z) >>= _) _ _ s
  refine wpAny_bind (own_z zo hf ?_ fun g1 o1 s1 => ?_)
  · simp only [if_true]
    refine wpAny_bind (wpAny_rule (wpAny_bind (wpAny_field zo rfl (x := .ref TO) rfl (wpAny_bind (wpAny_setField_rec zo (by simp) fun g1 o1 s1 => ?_)))))
    replace o1 : ZO g1 z TI TO .ellipsis c := o1
    refine wpAny_bind ?_
    simp only [List.zipIdx_cons, List.zipIdx_nil, List.forIn_cons, List.forIn_nil]
    refine wpAny_bind (wpAny_bind (wpAny_onRaise (wpAny_bind ?_)))
    cases ex : xs[k]? with
    | none =>
      refine RZ.nextOf_tuple_end hh (j1.extBut s1.extBut D.i1z) (ha.extBut s1.extBut D.l1z) ex fun g2 e s2 he => ?_
      obtain ⟨oe, hoe, hce⟩ := he
      have o2 : ZO g2 z TI TO .ellipsis c := s2 _ _ D.i1z.symm o1
      have ez : e ≠ z := fun x => by subst x; rw [o2] at hoe; cases hoe; simp at hce
      exact wpAny_setField_rec o2 (by simp) fun g3 _ s3 => q g3 e (fun c o n1 _ n3 _ x => s3.extBut _ _ n1 (s2 _ _ n3 (s1.extBut _ _ n1 x))) ⟨oe, s3.extBut _ _ ez hoe, hce⟩
    | some x =>
      have ey : ys[k]? = none := en.resolve_left (by rw [ex]; simp)
      refine RZ.nextOf_tuple_item (j1.extBut s1.extBut D.i1z) (ha.extBut s1.extBut D.l1z) ex fun g2 k1 s2 => wpAny_pure ?_
      have to2 : IsPair g2 TO u v := s2.extBut _ _ D.TOi1 (s1.extBut _ _ D.TOz to)
      refine wpAny_bind (wpAny_seqItems to2 rfl (wpAny_bind (wpAny_updateSeq_pair to2 fun g3 to3 s3 => wpAny_bind (wpAny_letGo (wpAny_pure ?_)))))
      refine wpAny_bind (wpAny_bind (wpAny_onRaise (wpAny_bind ?_)))
      refine RZ.nextOf_tuple_end hh (((j2.extBut s1.extBut D.i2z).extBut s2.extBut D.i12.symm).extBut s3.extBut D.TOi2.symm) (((hb.extBut s1.extBut D.l2z).extBut s2.extBut D.l2i1).extBut s3.extBut D.l2TO) ey fun g4 e s4 he => ?_
      obtain ⟨oe, hoe, hce⟩ := he
      have o4 : ZO g4 z TI TO .ellipsis c := s4 _ _ D.i2z.symm (s3.extBut _ _ D.TOz.symm (s2.extBut _ _ D.i1z.symm o1))
      have ez : e ≠ z := fun x => by subst x; rw [o4] at hoe; cases hoe; simp at hce
      exact wpAny_setField_rec o4 (by simp) fun g5 _ s5 => q g5 e (fun c o n1 n2 n3 n4 x => s5.extBut _ _ n1 (s4 _ _ n4 (s3.extBut _ _ n2 (s2.extBut _ _ n3 (s1.extBut _ _ n1 x))))) ⟨oe, s5.extBut _ _ ez hoe, hce⟩
  · simp only [Bool.false_eq_true, if_false]
    refine wpAny_bind ?_
    rw [← Array.forIn_toList]
    simp only [List.forIn_cons, List.forIn_nil]
    refine wpAny_bind (wpAny_bind (wpAny_holding (wpAny_bind ?_)))
    cases ex : xs[k]? with
    | none =>
      exact RZ.nextOf_tuple_end (s := { s with heap := g1 }) hh (j1.extBut s1.extBut D.i1z) (ha.extBut s1.extBut D.l1z) ex fun g2 e s2 he => q g2 e (fun c o n1 _ n3 _ x => s2 _ _ n3 (s1.extBut _ _ n1 x)) he
    | some x =>
      have ey : ys[k]? = none := en.resolve_left (by rw [ex]; simp)
      refine RZ.nextOf_tuple_item (s := { s with heap := g1 }) (j1.extBut s1.extBut D.i1z) (ha.extBut s1.extBut D.l1z) ex fun g2 k1 s2 => wpAny_pure (wpAny_pure ?_)
      refine wpAny_bind (wpAny_bind (wpAny_holding (wpAny_bind ?_)))
      exact RZ.nextOf_tuple_end (s := { s with heap := g2 }) hh ((j2.extBut s1.extBut D.i2z).extBut s2.extBut D.i12.symm) ((hb.extBut s1.extBut D.l2z).extBut s2.extBut D.l2i1) ey fun g3 e s3 he => q g3 e (fun c o n1 _ n3 n4 x => s3 _ _ n4 (s2.extBut _ _ n3 (s1.extBut _ _ n1 x))) he
/-- the addresses of an enumeration of a zip -/
structure EApart (e z TI TO i1 i2 a b : Addr) : Prop where
  D : ZipApart z TI TO i1 i2 a b
  ez : e ≠ z
  eI : e ≠ TI
  eO : e ≠ TO
  e1 : e ≠ i1
  e2 : e ≠ i2
  ea : e ≠ a
  eb : e ≠ b
theorem ez_item {e z TI TO i1 i2 a b : Addr} {k : Nat} {xs ys : Array Value} {x y old : Value} {Q : Option Value → Shared → Prop} (D : EApart e z TI TO i1 i2 a b) (he : IsEnum s.heap e z k old) (S : ZS s.heap z TI TO i1 i2 a b k) (ha : s.heap.IsTuple a xs) (hb : s.heap.IsTuple b ys) (ex : xs[k]? = some x) (ey : ys[k]? = some y)
    (q : ∀ g, IsEnumOut g e z ((k : Int) + 1) (.ref s.heap.objs.size) (s.heap.objs.size + 1) → ZS g z TI TO i1 i2 a b (k + 1) → IsPair g s.heap.objs.size x y → g.get? (s.heap.objs.size + 1) = some { cls := .type "tuple", data := .seq #[.int k s.toks, .ref s.heap.objs.size] } →
      (∀ c o, c ≠ e → c ≠ z → c ≠ TO → c ≠ i1 → c ≠ i2 → s.heap.get? c = some o → g.get? c = some o) → Q (some (.ref (s.heap.objs.size + 1))) { s with heap := g, toks := s.toks + 1 }) :
    wpAny (model prog w) A (pyNext (.ref e)) Q E s := by
  obtain ⟨hp, gg, dd, tk, os⟩ := s
  have ty : (Shared.mk hp gg dd tk os).TypeIs (.ref e) "enumerate" := ⟨_, he, rfl⟩
  unfold pyNext
  refine wpAny_bind (wpAny_attempt (wpAny_callSpecial?_slot (name := Str.ofString "__next__") ty F.slot_enumerate_next (wpAny_call_entry F.slot_enumerate_next ty F.entry_enumerate_next ?_ (F.args_enumerate_next_1 _))))
  show wpAny _ _ (field (.ref e) 2 >>= _) _ _ _
  refine wpAny_bind (wpAny_field he rfl (x := .ref z) rfl (wpAny_bind ?_))
  refine zn_item D.D S ha hb ex ey fun g1 S1 new1 sz1 kp1 => ?_
  have el := Heap.lt_size he
  have he1 : IsEnum g1 e z k old := kp1 _ _ D.ez D.eO D.e1 D.e2 he
  show wpAny _ _ (field (.ref e) 3 >>= _) _ _ ⟨g1, gg, dd, tk, os⟩
  refine wpAny_bind (wpAny_field he1 rfl (x := rawInt k) rfl ?_)
  show wpAny _ _ (field (.ref e) 4 >>= _) _ _ ⟨g1, gg, dd, tk, os⟩
  refine wpAny_bind (wpAny_field he1 rfl (x := .none) rfl ?_)
  show wpAny _ _ (mkInt k >>= _) _ _ ⟨g1, gg, dd, tk, os⟩
  refine wpAny_bind (wpAny_mkInt ?_)
  show wpAny _ _ (setField (.ref e) 3 (rawInt ((k : Int) + 1)) >>= _) _ _ ⟨g1, gg, dd, tk + 1, os⟩
  refine wpAny_bind (wpAny_setField_rec he1 (by simp) fun g2 he2 s2 => ?_)
  replace he2 : IsEnum g2 e z ((k : Int) + 1) old := he2
  replace s2 : Heap.SameBut e g1 g2 := s2
  show wpAny _ _ (setField (.ref e) 4 .none >>= _) _ _ ⟨g2, gg, dd, tk + 1, os⟩
  refine wpAny_bind (wpAny_setField_rec he2 (by simp) fun g3 he3 s3 => ?_)
  replace he3 : IsEnum g3 e z ((k : Int) + 1) old := he3
  replace s3 : Heap.SameBut e g2 g3 := s3
  show wpAny _ _ (newTuple [.int k tk, .ref hp.objs.size] >>= _) _ _ ⟨g3, gg, dd, tk + 1, os⟩
  refine wpAny_bind (wpAny_newTuple ?_)
  have z3 : g3.objs.size = hp.objs.size + 1 := by rw [s3.1, s2.1]; exact sz1
  have he4 : IsEnum (g3.push { cls := .type "tuple", data := .seq #[.int k tk, .ref hp.objs.size] }) e z ((k : Int) + 1) old := Heap.get?_push_of_some _ he3
  have new4 : (g3.push { cls := .type "tuple", data := .seq #[.int k tk, .ref hp.objs.size] }).get? (hp.objs.size + 1) = some { cls := .type "tuple", data := .seq #[.int k tk, .ref hp.objs.size] } := by
    rw [← z3]
    exact Heap.get?_push_size _ rfl
  have up4 : ∀ c o, c ≠ e → g1.get? c = some o → (g3.push { cls := .type "tuple", data := .seq #[.int k tk, .ref hp.objs.size] }).get? c = some o := fun c o n h => Heap.get?_push_of_some _ (s3.extBut _ _ n (s2.extBut _ _ n h))
  generalize (g3.push { cls := .type "tuple", data := .seq #[.int k tk, .ref hp.objs.size] }) = g4 at he4 new4 up4
  show wpAny _ _ (Builtin.SmallTypes.ownedTupleIsFree (.ref e) >>= _) _ _ ⟨g4, gg, dd, tk + 1, os⟩
  rw [z3]
  refine wpAny_bind ?_
  unfold Builtin.SmallTypes.ownedTupleIsFree
  refine wpAny_bind (wpAny_field he4 rfl (x := .none) rfl (wpAny_pure ?_))
  simp only [if_true]
  refine wpAny_bind (wpAny_rule (wpAny_bind (wpAny_field he4 rfl (x := old) rfl (wpAny_bind (wpAny_setField_rec he4 (by simp) fun g5 he5 s5 => ?_)))))
  replace he5 : IsEnum g5 e z ((k : Int) + 1) (.ref hp.objs.size) := he5
  replace s5 : Heap.SameBut e g4 g5 := s5
  show wpAny _ _ (Builtin.SmallTypes.ownedTupleHandOut (.ref e) (.ref (hp.objs.size + 1)) >>= _) _ _ ⟨g5, gg, dd, tk + 1, os⟩
  refine wpAny_bind ?_
  unfold Builtin.SmallTypes.ownedTupleHandOut
  refine wpAny_bind (wpAny_setField_rec he5 (by simp) fun g6 he6 s6 => ?_)
  replace he6 : IsEnumOut g6 e z ((k : Int) + 1) (.ref hp.objs.size) (hp.objs.size + 1) := he6
  replace s6 : Heap.SameBut e g5 g6 := s6
  refine wpAny_setField_rec he6 (by simp) fun g7 he7 s7 => ?_
  replace he7 : IsEnumOut g7 e z ((k : Int) + 1) (.ref hp.objs.size) (hp.objs.size + 1) := he7
  replace s7 : Heap.SameBut e g6 g7 := s7
  have up7 : ∀ c o, c ≠ e → g1.get? c = some o → g7.get? c = some o := fun c o n h => s7.extBut _ _ n (s6.extBut _ _ n (s5.extBut _ _ n (up4 c o n h)))
  refine wpAny_bind (wpAny_letGo (wpAny_pure ⟨_, rfl, wpAny_pure (q g7 he7 ?_ ?_ ?_ ?_)⟩))
  · obtain ⟨⟨f, c, zo, hf⟩, ti, ⟨u, v, to⟩, j1, j2⟩ := S1
    exact ⟨⟨f, c, up7 _ _ D.ez.symm zo, hf⟩, up7 _ _ D.eI.symm ti, ⟨u, v, up7 _ _ D.eO.symm to⟩, j1.at fun o h => up7 _ o D.e1.symm h, j2.at fun o h => up7 _ o D.e2.symm h⟩
  · exact up7 _ _ (Nat.ne_of_gt el) new1
  · have n1 : hp.objs.size + 1 ≠ e := Nat.ne_of_gt (Nat.lt_succ_of_lt el)
    exact s7.extBut _ _ n1 (s6.extBut _ _ n1 (s5.extBut _ _ n1 new4))
  · exact fun c o n0 n1 n2 n3 n4 h => up7 c o n0 (kp1 c o n1 n2 n3 n4 h)
theorem ez_end {e z TI TO i1 i2 a b : Addr} {k : Nat} {xs ys : Array Value} {old : Value} {Q : Option Value → Shared → Prop} (hh : A.handled = none) (D : EApart e z TI TO i1 i2 a b) (he : IsEnum s.heap e z k old) (S : ZS s.heap z TI TO i1 i2 a b k) (ha : s.heap.IsTuple a xs) (hb : s.heap.IsTuple b ys) (en : xs[k]? = none ∨ ys[k]? = none)
    (q : ∀ g, (∀ c o, c ≠ z → c ≠ TO → c ≠ i1 → c ≠ i2 → s.heap.get? c = some o → g.get? c = some o) → Q none { s with heap := g }) : wpAny (model prog w) A (pyNext (.ref e)) Q E s := by
  have ty : s.TypeIs (.ref e) "enumerate" := ⟨_, he, rfl⟩
  unfold pyNext
  refine wpAny_bind (wpAny_attempt (wpAny_callSpecial?_slot (name := Str.ofString "__next__") ty F.slot_enumerate_next (wpAny_call_entry F.slot_enumerate_next ty F.entry_enumerate_next ?_ (F.args_enumerate_next_1 _))))
  show wpAny _ _ (field (.ref e) 2 >>= _) _ _ _
  refine wpAny_bind (wpAny_field he rfl (x := .ref z) rfl (wpAny_bind ?_))
  refine zn_end hh D.D S ha hb en fun g x kp hs => ?_
  obtain ⟨o, ho, hc⟩ := hs
  exact wpAny_bind (wpAny_isInstance (T := "StopIteration") (b := true) ⟨o, ho, hc⟩ isSubtype_stop (wpAny_pure (q _ kp)))
end
end My

set_option Elab.async false
set_option linter.all false
set_option maxRecDepth 100000
set_option maxHeartbeats 4000000
namespace My
open PySem PySem.Spec PyProof.Rows L2
open AutoSeq1 (wpAny_loadPart')
/-- the tuples at a and b, each two items in a new pair, that with its number in another one -/
def IteZ (K : PySem.W.Frag) (a b : Addr) : It where
  go := fun i H => ∃ (xs ys : List V) (x y : V), SqT K H a xs ∧ SqT K H b ys ∧ xs[i]? = some x ∧ ys[i]? = some y
  yld := fun i H v H' => ∃ T U x y, v = .ref T ∧ H T = none ∧ H U = none ∧ U ≠ T ∧ H' = upd (upd H T (.tup [.int (i : Nat), .ref U])) U (.tup [x, y]) ∧ (∀ xs, SqT K H a xs → xs[i]? = some x) ∧ ∀ ys, SqT K H b ys → ys[i]? = some y
  stop := fun i H => ∃ xs ys : List V, SqT K H a xs ∧ SqT K H b ys ∧ (xs.length ≤ i ∨ ys.length ≤ i)
/-- a new object that stands in the heap already is told of -/
theorem told {X : Cx} {pins : List (Addr × Obj)} {σ : L2.St} {H : Hp} {s : Shared} {U : Addr} {ob : HO} (I : Inv X pins σ H s) (f : FpOk X pins H U) (new : ObjOk X.prog X.w (upd H U ob) s.heap U ob) : Inv X pins σ (upd H U ob) s := by
  have hn := f.1
  have R : Inv X pins σ (upd H U ob) { s with heap := s.heap, gens := s.gens, drawn := s.drawn, toks := s.toks } := by
    refine I.step (ch := [U]) (fun b hb => ?_) (fun b o _ _ _ e _ => e) (fun b o _ _ _ e _ => ⟨o.slots, e⟩) (fun b o hc e n => ?_) (fun b o _ e => ⟨o, e⟩) (fun b xs e => ?_) (fun b o u e => ?_) (fun b ps e => ⟨#[], ?_⟩) (fun m hm => hm) (fun b u e => ?_) I.bare
    · rw [List.mem_singleton.mp hb]
      exact ⟨f.2.2.2.1, f.2.1, f.2.2.2.2.1, f.2.2.2.2.2⟩
    · rw [upd_ne (fun z => hc (by rw [z]; exact List.mem_singleton.mpr rfl))]
      exact n
    · rw [upd_ne (ne_of_none e hn)]; exact e
    · rw [upd_ne (ne_of_none e hn)]; exact e
    · rw [upd_ne (ne_of_none e hn), e]; simp
    · by_cases z : b = U
      · subst z
        rw [upd_same] at e
        cases e
        exact new
      · rw [upd_ne z] at e
        exact (I.hok b u e).stay (fun c v _ q => q) (fun c q => by rw [upd_ne (ne_of_none q hn)]; exact q) fun c xs q => by rw [upd_ne (ne_of_none q hn)]; exact q
  exact R
theorem turn_ez {P : Program} {w : World} {K : PySem.W.Frag} {elts : List Expr} {kk : Nat} {tpos : Pos} {e z TI TO i1 i2 a b : Addr} (D : EApart e z TI TO i1 i2 a b) :
    Turn P w K (.Tuple elts kk tpos) (IteZ K a b) [e, z, TI, TO, i1, i2] e (fun i h => (∃ old, IsEnum h e z ((i : Nat) : Int) old) ∧ ZS h z TI TO i1 i2 a b i) where
  mem := List.mem_cons_self
  obj := fun i h ⟨⟨old, he⟩, ⟨f, c, zo, hf⟩, ti, ⟨u, v, to⟩, ⟨o1, e1, _, d1⟩, ⟨o2, e2, _, d2⟩⟩ q hq => by
    simp only [List.mem_cons, List.not_mem_nil, or_false] at hq
    rcases hq with r | r | r | r | r | r
    · rw [r]; exact ⟨_, he, fun v q => nomatch q⟩
    · rw [r]; exact ⟨_, zo, fun v q => nomatch q⟩
    · rw [r]; exact ⟨_, ti, fun v q => nomatch q⟩
    · rw [r]; exact ⟨_, to, fun v q => nomatch q⟩
    · rw [r]; exact ⟨o1, e1, fun v q => by rw [d1] at q; cases q⟩
    · rw [r]; exact ⟨o2, e2, fun v q => by rw [d2] at q; cases q⟩
  keep := fun i h g ⟨⟨old, he⟩, ⟨f, c, zo, hf⟩, ti, ⟨u, v, to⟩, j1, j2⟩ k =>
    ⟨⟨old, k e (by simp) _ he⟩, ⟨f, c, k z (by simp) _ zo, hf⟩, k TI (by simp) _ ti, ⟨u, v, k TO (by simp) _ to⟩, j1.at fun o q => k i1 (by simp) o q, j2.at fun o q => k i2 (by simp) o q⟩
  item := by
    intro X hP hw hK hc i pins s σ H E I hf st hg
    subst hP hw hK
    obtain ⟨⟨old, he⟩, S⟩ := st
    obtain ⟨xs, ys, x, y, hqx, hqy, hx, hy⟩ := hg
    obtain ⟨its, rv, p, _⟩ := I.tuple hqx
    obtain ⟨its2, rv2, p2, _⟩ := I.tuple hqy
    obtain ⟨u, hu, ru⟩ := rv.get hx
    obtain ⟨u2, hu2, ru2⟩ := rv2.get hy
    have lt : ∀ c ∈ [e, z, TI, TO, i1, i2], c < s.heap.objs.size := fun c hm => by
      obtain ⟨⟨f, c', zo, hf'⟩, ti, ⟨u', v', to⟩, ⟨o1, e1, _, d1⟩, ⟨o2, e2, _, d2⟩⟩ := S
      simp only [List.mem_cons, List.not_mem_nil, or_false] at hm
      rcases hm with r | r | r | r | r | r
      · rw [r]; exact Heap.lt_size he
      · rw [r]; exact Heap.lt_size zo
      · rw [r]; exact Heap.lt_size ti
      · rw [r]; exact Heap.lt_size to
      · rw [r]; exact Heap.lt_size e1
      · rw [r]; exact Heap.lt_size e2
    refine ez_item D he S p p2 (x := u) (y := u2) (by simpa using hu) (by simpa using hu2) fun g ho S1 newU newT kp => ?_
    refine ⟨_, rfl, wpAny_letOwnedTupleGo_enum (s := { s with heap := g, toks := s.toks + 1 }) ho fun g2 he2 sb => ?_⟩
    have el : e < s.heap.objs.size := lt e (by simp)
    have nUe : s.heap.objs.size ≠ e := Nat.ne_of_gt el
    have nTe : s.heap.objs.size + 1 ≠ e := Nat.ne_of_gt (Nat.lt_succ_of_lt el)
    have newT2 := (sb.2 _ nTe).trans newT
    have newU2 := (sb.2 _ nUe).trans newU
    have okT : ObjOk X.prog X.w (upd H (s.heap.objs.size + 1) (.tup [.int (i : Nat), .ref s.heap.objs.size])) g2 (s.heap.objs.size + 1) (.tup [.int (i : Nat), .ref s.heap.objs.size]) :=
      ⟨(by show 2 ≤ sizeLine; decide), [.int i s.toks, .ref s.heap.objs.size], .cons ⟨_, rfl⟩ (.cons rfl .nil), ⟨_, newT2, rfl, _, rfl⟩⟩
    have I1 : Inv X pins σ (upd H (s.heap.objs.size + 1) (.tup [.int (i : Nat), .ref s.heap.objs.size])) { s with heap := g2, toks := s.toks + 1 } :=
      I.turnedNew (ch := [e, z, TI, TO, i1, i2]) (fun c ob hb q => by
        simp only [List.mem_cons, List.not_mem_nil, or_false, not_or] at hb
        obtain ⟨n0, n1, n2, n3, n4, n5⟩ := hb
        exact (sb.2 c n0).trans (kp c ob n0 n1 n3 n4 n5 q)) hf (Nat.le_succ _) okT
    have nTU : s.heap.objs.size ≠ s.heap.objs.size + 1 := Nat.ne_of_lt (Nat.lt_succ_self _)
    have hU0 : H s.heap.objs.size = none := I.hok.fresh (Nat.le_refl _)
    have fU : FpOk X pins (upd H (s.heap.objs.size + 1) (.tup [.int (i : Nat), .ref s.heap.objs.size])) s.heap.objs.size := I.fpOk (Nat.le_refl _) (by rw [upd_ne nTU]; exact hU0)
    have I2 := told (ob := .tup [x, y]) I1 fU ⟨(by show 2 ≤ sizeLine; decide), [u, u2], .cons ru (.cons ru2 .nil), ⟨_, newU2, rfl, _, rfl⟩⟩
    refine ⟨.ref (s.heap.objs.size + 1), _, I2, rfl, ⟨_, _, x, y, rfl, I.hok.fresh (Nat.le_succ _), hU0, nTU, rfl, fun l hl => (I.tuple_inj hl hqx) ▸ hx, fun l hl => (I.tuple_inj hl hqy) ▸ hy⟩, ⟨⟨.ref s.heap.objs.size, ?_⟩, ?_⟩, fun c hm => ?_⟩
    · have e1 : ((i + 1 : Nat) : Int) = (i : Int) + 1 := by omega
      rw [e1]; exact he2
    · obtain ⟨⟨f, c, zo, hf'⟩, ti, ⟨u', v', to⟩, j1, j2⟩ := S1
      have up : ∀ c o, c ≠ e → g.get? c = some o → g2.get? c = some o := fun c o n q => (sb.2 c n).trans q
      exact ⟨⟨f, c, up _ _ D.ez.symm zo, hf'⟩, up _ _ D.eI.symm ti, ⟨u', v', up _ _ D.eO.symm to⟩, j1.at fun o q => up _ o D.e1.symm q, j2.at fun o q => up _ o D.e2.symm q⟩
    · have l := lt c hm
      rw [upd_ne (Nat.ne_of_lt l), upd_ne (Nat.ne_of_lt (Nat.lt_succ_of_lt l))]
      exact (hf c hm).1
  done := by
    intro X hP hw hK hc i pins s σ H E I hf st hg
    subst hP hw hK
    obtain ⟨⟨old, he⟩, S⟩ := st
    obtain ⟨xs, ys, hqx, hqy, hend⟩ := hg
    obtain ⟨its, rv, p, _⟩ := I.tuple hqx
    obtain ⟨its2, rv2, p2, _⟩ := I.tuple hqy
    have l1 := rv.length
    have l2 := rv2.length
    have en : its.toArray[i]? = none ∨ its2.toArray[i]? = none := hend.imp (fun q => by simp; omega) (fun q => by simp; omega)
    exact ez_end (I.ok.hd hc) D he S p p2 en fun g kp => ⟨rfl, I.turnedL (t' := s.toks) (ch := [e, z, TI, TO, i1, i2]) (fun c o hb q => by
      simp only [List.mem_cons, List.not_mem_nil, or_false, not_or] at hb
      obtain ⟨n0, n1, n2, n3, n4, n5⟩ := hb
      exact kp c o n1 n3 n4 n5 q) hf⟩
  self := fun A i s Q E st h => let ⟨⟨_, he⟩, _⟩ := st; wpAny_pyIter_enum he h
theorem meets_ez (z TI TO : Addr) (f : Value) (c : Bool) : Meets (Builtin.«enumerate.__new__» ⟨[.type "enumerate", .ref z], []⟩)
    (fun _ R s => ZO s.heap z TI TO f c ∧ R (.ok (.ret (.ref s.heap.objs.size))) { s with heap := s.heap.push { cls := .type "enumerate", data := .fields #[.none, .bool false, .ref z, rawInt 0, .none, .none] } }) :=
  .of_wp fun prog w A R s h => by
    obtain ⟨hp, g, d, tk, os⟩ := s
    obtain ⟨o, h⟩ := h
    have sb := sub_enumerate
    have it : ∀ {A' : Around} {E : Value → Shared → Prop} {Q : Value → Shared → Prop}, Q (.ref z) ⟨hp, g, d, tk, os⟩ → wpAny (model prog w) A' (pyIter (.ref z)) Q E ⟨hp, g, d, tk, os⟩ := fun q => by
      have ty : (Shared.mk hp g d tk os).TypeIs (.ref z) "zip" := ⟨_, o, rfl⟩
      refine wpAny_pyIter_slot ty F.slot_zip_iter (wpAny_call_entry F.slot_zip_iter ty F.entry_zip_iter ?_ (F.args_zip_iter_1 _))
      show wpAny _ _ (ret (.ref z)) _ _ _
      exact wpAny_pure ⟨_, rfl, "zip", _, ty, F.slot_zip_next.lookup, q⟩
    wp_walk using it
    refine wpAny_stack_any fun u => wpAny_pure ?_
    split
    · rename_i c _ _ _ _ _
      cases (c == Value.type "enumerate") <;> (wp_walk using it; exact ⟨_, rfl, h⟩)
    · wp_walk using it
      exact ⟨_, rfl, h⟩
theorem call_ez {prog : Program} {w : World} {A : Around} {E : Value → Shared → Prop} {s : Shared} {z TI TO : Addr} {f : Value} {c : Bool} {Q : Value → Shared → Prop} (o : ZO s.heap z TI TO f c)
    (h : ∀ g, IsEnum g s.heap.objs.size z 0 .none → (∀ c u, s.heap.get? c = some u → g.get? c = some u) → Q (.ref s.heap.objs.size) { s with heap := g }) : wpAny (model prog w) A (call (.type "enumerate") [.ref z]) Q E s := by
  refine callType_new F.called_enumerate (by decide) (F.typeCall_enumerate_1 _) (F.newCall_enumerate_1 _) (fun u => F.args_object_init_2 u _) F.entry_enumerate_new (meets_ez z TI TO f c) ⟨o, ?_⟩
  have e := Heap.get?_push_size s.heap (o := { cls := .type "enumerate", data := .fields #[.none, .bool false, .ref z, rawInt 0, .none, .none] }) rfl
  exact ⟨⟨_, e, rfl⟩, h _ e fun c u x => Heap.get?_push_of_some _ x⟩
def iEnZ (K : PySem.W.Frag) (ta : TA) : TI := fun σ H R => ta σ H fun vs H1 => ∃ a b xs ys, vs = [.ref a, .ref b] ∧ SqT K H1 a xs ∧ SqT K H1 b ys ∧ R (IteZ K a b) H1
theorem pi_enZ {X : Cx} {e1 e2 : Expr} {ta : TA} {p p2 pos pos2 tpos : Pos} {elts : List Expr} {kk : Nat} (hg : Gl X "enumerate") (hm : X.mg "enumerate" = none) (hg2 : Gl X "zip") (hm2 : X.mg "zip" = none) (ha : PA X [e1, e2] ta)
    (hs : starEach [e1, e2] X.env = (false, eval e1 X.env) :: starEach [e2] X.env := by rfl) (hpl : (backTo pos2 (starEach [e2] X.env)).any (·.1) = false := by rfl)
    (hs2 : starEach [.Call (.Name "zip" p2) [e1, e2] [] pos2] X.env = (false, eval (.Call (.Name "zip" p2) [e1, e2] [] pos2) X.env) :: starEach [] X.env := by rfl) :
    PI X (.Tuple elts kk tpos) (.Call (.Name "enumerate" p) [.Call (.Name "zip" p2) [e1, e2] [] pos2] [] pos) (iEnZ X.K ta) := by
  refine ⟨fun pins s σ H R I h => ?_⟩
  refine Call_ (ld_blt I hg hm boot_enumerate (PyProof.Rows.callWith_type1 (args_cons (Call_ (ld_blt I hg2 hm2 PyProof.Rows.boot_zip (PyProof.Rows.callWith_type1 (thn (ha.run pos2 pins s σ H _ I h) fun us s1 ⟨vs, H1, I1, r1, q1⟩ => ?_) hs hpl))) hs2) hs2 rfl))
  obtain ⟨a, b, xs, ys, rfl, hx, hy, q⟩ := q1
  cases r1 with
  | cons r rr =>
    cases rr with
    | cons r' rr =>
      cases rr
      cases r
      cases r'
      obtain ⟨its, rv, ⟨po, pa⟩, _⟩ := I1.tuple hx
      obtain ⟨its2, rv2, ⟨po2, pb⟩, _⟩ := I1.tuple hy
      have al : a < s1.heap.objs.size := let ⟨q', _⟩ := pa; Heap.lt_size q'
      have bl : b < s1.heap.objs.size := let ⟨q', _⟩ := pb; Heap.lt_size q'
      refine RZ.call_zipT ⟨po, pa⟩ ⟨po2, pb⟩ fun g hz hTI hTO h1 h2 sz kp => args_nil ?_
      refine call_ez (s := { s1 with heap := g }) hz fun g2 he kp2 => wpAny_pyIter_enum he ?_
      have kk := fun c u (x : s1.heap.get? c = some u) => kp2 c u (kp c u x)
      have D := PySem.W.ktu_apart s1.heap.objs.size a b al bl
      obtain ⟨N, eN⟩ : ∃ N : Nat, s1.heap.objs.size = N := ⟨_, rfl⟩
      have sz : g.objs.size = N + 5 := by rw [← eN]; exact sz
      have al : (a : Nat) < N := by rw [← eN]; exact al
      have bl : (b : Nat) < N := by rw [← eN]; exact bl
      have ne : ∀ m : Nat, m < N + 5 → (g.objs.size : Nat) ≠ m := fun m hm z => by omega
      have DE : EApart g.objs.size (s1.heap.objs.size + 4) (s1.heap.objs.size + 2) (s1.heap.objs.size + 3) s1.heap.objs.size (s1.heap.objs.size + 1) a b :=
        ⟨D, ne (s1.heap.objs.size + 4) (by omega), ne (s1.heap.objs.size + 2) (by omega), ne (s1.heap.objs.size + 3) (by omega), ne s1.heap.objs.size (by omega), ne (s1.heap.objs.size + 1) (by omega), ne a (Nat.lt_of_lt_of_le al (Nat.le_add_right N 5)), ne b (Nat.lt_of_lt_of_le bl (Nat.le_add_right N 5))⟩
      have I2 : Inv X pins σ H1 { s1 with heap := g2 } := I1.kept (t' := s1.toks) kk
      refine ⟨g.objs.size, [g.objs.size, s1.heap.objs.size + 4, s1.heap.objs.size + 2, s1.heap.objs.size + 3, s1.heap.objs.size, s1.heap.objs.size + 1], _, _, H1, rfl, I2, turn_ez DE, ⟨⟨.none, he⟩, ⟨⟨_, _, kp2 _ _ hz, .inl rfl⟩, kp2 _ _ hTI, ⟨_, _, kp2 _ _ hTO⟩, h1.at fun o q => kp2 _ o q, h2.at fun o q => kp2 _ o q⟩⟩, fun c hm => ?_, q⟩
      have hle : s1.heap.objs.size ≤ c := by
        simp only [List.mem_cons, List.not_mem_nil, or_false] at hm
        rcases hm with r | r | r | r | r | r
        · rw [r]; show (s1.heap.objs.size : Nat) ≤ g.objs.size; omega
        · rw [r]; exact Nat.le_add_right _ _
        · rw [r]; exact Nat.le_add_right _ _
        · rw [r]; exact Nat.le_add_right _ _
        · rw [r]; exact Nat.le_refl _
        · rw [r]; exact Nat.le_add_right _ _
      exact I1.fpOk hle (I1.hok.fresh hle)
theorem walk_ez {K : PySem.W.Frag} {a b : Addr} {xs ys : List V} (hl : xs.length = ys.length) : Walk (IteZ K a b) xs.length (fun H => SqT K H a xs ∧ SqT K H b ys)
    (fun i H v H' => ∃ T U x y, v = .ref T ∧ H T = none ∧ H U = none ∧ U ≠ T ∧ H' = upd (upd H T (.tup [.int (i : Nat), .ref U])) U (.tup [x, y]) ∧ xs[i]? = some x ∧ ys[i]? = some y) where
  goes := fun i _ hi q => ⟨xs, ys, xs[i], ys[i]'(by omega), q.1, q.2, by simp [hi], by simp [show i < ys.length by omega]⟩
  stops := fun _ q => ⟨xs, ys, q.1, q.2, .inl (Nat.le_refl _)⟩
  yields := fun i H v H' _ q ⟨T, U, x, y, h1, h2, h3, h4, h5, h6, h7⟩ => ⟨T, U, x, y, h1, h2, h3, h4, h5, h6 xs q.1, h7 ys q.2⟩
end My

set_option Elab.async false
set_option linter.all false
set_option maxRecDepth 100000
/-! the low part of a word -/
namespace My
open PySem PySem.Spec
theorem add_xor (a b : Nat) : a + b = (a ^^^ b) + 2 * (a &&& b) := by
  have key : ∀ n a b : Nat, a < 2 ^ n → b < 2 ^ n → a + b = (a ^^^ b) + 2 * (a &&& b) := by
    intro n
    induction n with
    | zero =>
      intro a b ha hb
      have : a = 0 := by omega
      have : b = 0 := by omega
      subst_vars
      rfl
    | succ n ih =>
      intro a b ha hb
      have h := ih (a / 2) (b / 2) (by omega) (by omega)
      have h1 := bit_and a b 0
      have h2 := bit_xor a b 0
      have e1 : (a ^^^ b) / 2 = (a / 2) ^^^ (b / 2) := Nat.xor_div_two
      have e2 : (a &&& b) / 2 = (a / 2) &&& (b / 2) := Nat.and_div_two
      rw [Nat.pow_zero, Nat.div_one, Nat.div_one, Nat.div_one] at h1 h2
      split at h1 <;> split at h2 <;> omega
  have hm : ∀ a : Nat, a < 2 ^ a := fun a => Nat.lt_two_pow_self
  exact key (a + b) a b (Nat.lt_of_lt_of_le (hm a) (Nat.pow_le_pow_right (by decide) (by omega))) (Nat.lt_of_lt_of_le (hm b) (Nat.pow_le_pow_right (by decide) (by omega)))
theorem bitXor_neg (a c : Nat) : Builtin.bitXor (a : Int) (-((c : Int) + 1)) = -(((a ^^^ c : Nat) : Int) + 1) := by
  have h1 : Builtin.bitAnd (a : Int) (-((c : Int) + 1)) = (a : Int) - ((a &&& c : Nat) : Int) := by
    unfold Builtin.bitAnd
    rw [decide_eq_true (show (0 : Int) ≤ a by omega), decide_eq_false (show ¬ (0 : Int) ≤ -((c : Int) + 1) by omega)]
    show (a : Int) - _ = _
    have : (Builtin.bitNot (-((c : Int) + 1))).toNat = c := by unfold Builtin.bitNot; omega
    rw [this, Int.toNat_natCast]
  have h2 : Builtin.bitOr (a : Int) (-((c : Int) + 1)) = -((c : Int) - ((c &&& a : Nat) : Int)) - 1 := by
    unfold Builtin.bitOr
    have e1 : Builtin.bitNot (a : Int) = -((a : Int) + 1) := by unfold Builtin.bitNot; omega
    have e2 : Builtin.bitNot (-((c : Int) + 1)) = (c : Int) := by unfold Builtin.bitNot; omega
    rw [e1, e2]
    unfold Builtin.bitAnd
    rw [decide_eq_false (show ¬ (0 : Int) ≤ -((a : Int) + 1) by omega), decide_eq_true (show (0 : Int) ≤ c by omega)]
    have : (Builtin.bitNot (-((a : Int) + 1))).toNat = a := by unfold Builtin.bitNot; omega
    show Builtin.bitNot ((c : Int) - _) = _
    rw [this, Int.toNat_natCast]
    unfold Builtin.bitNot
    omega
  show Builtin.bitOr _ _ - Builtin.bitAnd _ _ = _
  rw [h1, h2, Nat.and_comm c a]
  have := add_xor a c
  omega
theorem xor_top {n u c : Nat} (hu : u < 2 ^ n) (hc : c < 2 ^ n) : u ^^^ (2 ^ n - (c + 1)) = 2 ^ n - ((u ^^^ c) + 1) := by
  have hx : u ^^^ c < 2 ^ n := Nat.xor_lt_two_pow hu hc
  refine Nat.eq_of_testBit_eq fun i => ?_
  rw [Nat.testBit_xor, Nat.testBit_two_pow_sub_succ hc, Nat.testBit_two_pow_sub_succ hx, Nat.testBit_xor]
  by_cases h : i < n
  · simp [h]
  · have h1 : u.testBit i = false := Nat.testBit_lt_two_pow (Nat.lt_of_lt_of_le hu (Nat.pow_le_pow_right (by decide) (by omega)))
    simp [h, h1]
theorem low_cast (a n : Nat) : ((a : Int) % 2 ^ n) = ((a % 2 ^ n : Nat) : Int) := by
  have : ((2 : Int) ^ n) = ((2 ^ n : Nat) : Int) := by exact_mod_cast rfl
  rw [this]
  exact (Int.natCast_emod a (2 ^ n)).symm
theorem low_neg (c n : Nat) : (-((c : Int) + 1)) % 2 ^ n = ((2 ^ n - (c % 2 ^ n + 1) : Nat) : Int) := by
  have e : ((2 : Int) ^ n) = ((2 ^ n : Nat) : Int) := by exact_mod_cast rfl
  have hp : 0 < 2 ^ n := Nat.pow_pos (by decide)
  have hl := Nat.mod_lt c hp
  have hd := Nat.div_add_mod c (2 ^ n)
  rw [e]
  generalize 2 ^ n = N at hp hl hd ⊢
  have : (-((c : Int) + 1)) = ((N - (c % N + 1) : Nat) : Int) + (N : Int) * (-((c / N : Nat) : Int) - 1) := by
    have h2 : ((N : Int)) * ((c / N : Nat) : Int) + ((c % N : Nat) : Int) = c := by exact_mod_cast hd
    have h3 : ((N - (c % N + 1) : Nat) : Int) = (N : Int) - ((c % N : Nat) : Int) - 1 := by omega
    rw [h3, Int.mul_sub, Int.mul_neg, Int.mul_one]
    omega
  rw [this, Int.add_mul_emod_self_left]
  exact Int.emod_eq_of_lt (by omega) (by omega)
/-- the low part of a word xor-ed -/
theorem low_xor {a b : Int} (n : Nat) (ha : 0 ≤ a) : (Builtin.bitXor a b) % 2 ^ n = Builtin.bitXor (a % 2 ^ n) (b % 2 ^ n) := by
  obtain ⟨A, rfl⟩ : ∃ A : Nat, a = A := ⟨a.toNat, by omega⟩
  by_cases hb : 0 ≤ b
  · obtain ⟨B, rfl⟩ : ∃ B : Nat, b = B := ⟨b.toNat, by omega⟩
    rw [bitXor_nat, low_cast, low_cast, low_cast, bitXor_nat, Nat.xor_mod_two_pow]
  · obtain ⟨c, rfl⟩ : ∃ c : Nat, b = -((c : Int) + 1) := ⟨(-b - 1).toNat, by omega⟩
    have hp : 0 < 2 ^ n := Nat.pow_pos (by decide)
    rw [bitXor_neg, low_neg, low_neg, low_cast, bitXor_nat, Nat.xor_mod_two_pow, xor_top (Nat.mod_lt A hp) (Nat.mod_lt c hp)]
theorem xor_put {n h u v : Nat} (hu : u < 2 ^ n) (hv : v < 2 ^ n) : (2 ^ n * h + u) ^^^ (u ^^^ v) = 2 ^ n * h + v := by
  refine Nat.eq_of_testBit_eq fun i => ?_
  rw [Nat.testBit_xor, Nat.testBit_xor, Nat.testBit_two_pow_mul_add _ hu, Nat.testBit_two_pow_mul_add _ hv]
  by_cases l : i < n
  · rw [if_pos l, if_pos l]
    cases u.testBit i <;> cases v.testBit i <;> rfl
  · have h1 : u.testBit i = false := Nat.testBit_lt_two_pow (Nat.lt_of_lt_of_le hu (Nat.pow_le_pow_right (by decide) (by omega)))
    have h2 : v.testBit i = false := Nat.testBit_lt_two_pow (Nat.lt_of_lt_of_le hv (Nat.pow_le_pow_right (by decide) (by omega)))
    rw [if_neg l, if_neg l, h1, h2]
    simp
/-- a register gets the low part of a word -/
theorem low_put {a b : Int} (n : Nat) (ha : 0 ≤ a) : Builtin.bitXor a ((Builtin.bitXor a b) % 2 ^ n) = a - a % 2 ^ n + b % 2 ^ n := by
  rw [low_xor n ha]
  obtain ⟨A, rfl⟩ : ∃ A : Nat, a = A := ⟨a.toNat, by omega⟩
  have hp : 0 < 2 ^ n := Nat.pow_pos (by decide)
  have hpi : (0 : Int) < 2 ^ n := Int.pow_pos (by decide)
  obtain ⟨v, hv, hv2⟩ : ∃ v : Nat, b % 2 ^ n = v ∧ v < 2 ^ n := by
    refine ⟨(b % 2 ^ n).toNat, ?_, ?_⟩
    · have := Int.emod_nonneg b (Int.ne_of_gt hpi)
      omega
    · have h1 := Int.emod_nonneg b (Int.ne_of_gt hpi)
      have h2 := Int.emod_lt_of_pos b hpi
      have e : ((2 : Int) ^ n) = ((2 ^ n : Nat) : Int) := by exact_mod_cast rfl
      rw [e] at h1 h2 ⊢
      omega
  have hd := Nat.div_add_mod A (2 ^ n)
  have hx := xor_put (h := A / 2 ^ n) (Nat.mod_lt A hp) hv2
  rw [hd] at hx
  rw [hv, low_cast, bitXor_nat, bitXor_nat, hx]
  have := Nat.mod_lt A hp
  omega
end My

set_option Elab.async false
set_option linter.all false
set_option maxRecDepth 100000
/-! an attribute as one of several targets -/
namespace My
open PySem PySem.Spec PyProof.Rows L2
section
variable {X : Cx} {o : Expr} {f : Str} {pos : Pos} {to : TE}
/-- o.f = .. -/
def gFld (K : PySem.W.Frag) (to : TE) (f : Str) : TG := fun v σ H Q => to σ H fun x H2 => ∃ a C dx fs, x = .ref a ∧ H2 a = some (.ins C dx fs) ∧ Cls K C ∧ NoAttr K C f ∧ fs.length < 1000 ∧ Q σ (upd H2 a (.ins C dx (putF f v fs)))
theorem pg_fld (ho : PE X o to) : PG X (.Attribute o f pos) (gFld X.K to f) := by
  refine ⟨fun pins s σ H v u Q I r h => ?_⟩
  rw [assign_Attribute]
  refine wpAny_bind (wpAny_holding (thn (ho.run pins s σ H _ I h) fun ov s1 ⟨x, H1, I1, r1, a, C, dx, fs, ex, ea, c, n, l, q⟩ => ?_))
  subst ex
  obtain rfl : ov = Value.ref a := r1
  refine wpAny_bind (wpAny_standAt (wpAny_bind (wpAny_holding ?_)))
  refine setattr_ok I1 ea c n l r fun s3 I3 => ?_
  exact wpAny_release ⟨σ, _, I3, q⟩
end
theorem pe_fldK {X : Cx} {K : PySem.W.Frag} {o : Expr} {to : TE} {f : Str} {pos : Pos} (h : X.K = K) (he : PE X o to) (hb : attributeBase o f X.env (eval o X.env) = eval o X.env) : PE X (.Attribute o f pos) (tFld K to f) := by
  subst h
  exact pe_fld he hb
end My

set_option Elab.async false
set_option linter.all false
set_option maxRecDepth 100000
/-! a call of a name that holds one of several defs, told where it is called -/
namespace My
open PySem PySem.Spec PyProof.Rows L2
def tCallH (P : Program) (w : World) (K : PySem.W.Frag) (mg : Str → Option Value) (base : Heap) (k i : Nat) (t : TA) : TE := fun σ H Q => ∃ f sp, σ[i]? = some (some (.ref f)) ∧ Held P w K mg base k f sp ∧ t σ H fun vs H1 => sp vs H1 Q fun _ _ _ => False
theorem pe_callH {X : Cx} {k i : Nat} {x : Str} {p pos : Pos} {e : Expr} {es : List Expr} {t : TA} (hr : Room k X.A) (hN : X.N[i]? = some x) (hv : Vis X.env.scope x) (ha : PA X (e :: es) t)
    (h1 : (x == Str.ofString "__debug__") = false := by rfl) (h2 : (x == Str.ofString "__classdict__") = false := by rfl) (h3 : starEach (e :: es) X.env = (false, eval e X.env) :: starEach es X.env := by rfl) (h4 : ((backTo pos (starEach es X.env)).any fun x => x.1) = false := by rfl) :
    PE X (.Call (.Name x p) (e :: es) [] pos) (tCallH X.prog X.w X.K X.mg X.base k i t) :=
  ⟨fun pins s σ H Q I h => by
    obtain ⟨f, sp, hf, hh, ht⟩ := h
    refine (pe_callA (S := fun g => if g = f then some sp else none) (fun g sp' e => ?_) hr hN hv ha h1 h2 h3 h4).run pins s σ H Q I ⟨f, sp, hf, if_pos rfl, ht⟩
    by_cases z : g = f
    · rw [if_pos z] at e
      cases e
      rw [z]
      exact hh
    · rw [if_neg z] at e
      cases e⟩
theorem Held.of {P : Program} {w : World} {K : PySem.W.Frag} {mg : Str → Option Value} {base : Heap} {k k' : Nat} {f : Addr} {fd : FuncData} {ps : List Str} {sp : Sp} (F : FnOk P w K mg base CX0 k f fd ps sp) (hk : PySem.W.keepIn K (.ref f) = true) (hb : L2.Binds K fd ps []) (h : k ≤ k') : Held P w K mg base k' f sp :=
  ⟨fd, ps, ⟨F.len, fun A outer s H args us vs Q E r => F.run A outer s H args us vs Q E (r.mono h)⟩, hk, hb⟩
theorem fun_kbn {K : PySem.W.Frag} {x qual : Str} {st : Stmt} {f : Addr} {fd : FuncData} {ps ks : List Str} {n : Nat} (F : Fun K x qual st f fd)
    (h : ∀ (kV doc pm : Value) (an : Option Addr) (cdv ct : Value) (us ws : List Value), us.length = n → ws.length = ks.length → bindArgs (PySem.W.fnOf x qual (defArgs st) (defBody st) (defScope st) .none kV doc pm an cdv ct) { pos := us, kw := ks.zip ws } = pure (ps.zip (us ++ ws))) :
    KBn K fd ps n ks (fun us ws => us ++ ws) (fun vs zs => vs ++ zs) := by
  obtain ⟨oc, od, kV, doc, pm, an, cdv, ct, osl, rfl, _, _⟩ := F.ex
  exact ⟨fun s us ws _ hu hw => .of_eq (h kV doc pm an cdv ct us ws hu hw), fun a b => a.append b⟩
end My

set_option Elab.async false
set_option linter.all false
set_option maxRecDepth 100000
/-! a law's own def, called from the top: no text is being shown there, so repr of data can be read -/
namespace My
open PySem PySem.Spec PyProof.Rows L2
theorem call_reprD {X : Cx} (hg : X.A.guards = some []) (hu : X.A.units + 70 < cLine) : CallR X (.builtin "repr") (fun xs H Q => ∃ (a : Addr) (d : PyData), xs = [.ref a] ∧ Dp X.K H (.ref a) d ∧ d.showable = true ∧ d.hasDict = false ∧ d.depth ≤ 64 ∧ d.shown.length ≤ sizeLine ∧ Q (.str d.shown) H) :=
  fun pins s σ H xs us Q I hv h => by
    obtain ⟨a, d, rfl, hd, hs, hdi, hdp, hl, q⟩ := h
    cases hv with
    | cons h1 h2 =>
      cases h2
      have h1 : _ = Value.ref a := h1
      subst h1
      obtain ⟨as, r⟩ := Dp.reads I d _ (Value.ref a) hd rfl
      exact repr_of_reads' r hs (fun z => by rw [hdi] at z; cases z) hg (by omega) (fun _ _ e => e) (fun h' u tk hk => ⟨.str d.shown, H, I.kept hk, ⟨u, rfl⟩, q⟩) hl
theorem u70 {k : Nat} {A : Around} (h : Room k A) : A.units + 70 < cLine := by
  have := h.un
  omega
/-- the promise of a def that is called from the top -/
def FnTop (P : Program) (w : World) (K : PySem.W.Frag) (mg : Str → Option Value) (base : Heap) (f : Addr) (fd : FuncData) (ps : List Str) (sp : Sp) : Prop :=
  ∀ (s : Shared) (H : Hp) (args : Args) (us : List Value) (vs : List V) (Q : VK) (E : XK), Env0 P w K mg base callerA [] s H → BindsTo s fd args (ps.zip us) → Vals vs us → sp vs H Q E → codeAny (model P w) callerA (Code.call (.ref f) args) (CR CX0 [] P w H s Q E) s
theorem fun_top {P : Program} {w : World} {K : PySem.W.Frag} {mg : Str → Option Value} {base : Heap} {x qual : Str} {st : Stmt} {f : Addr} {fd : FuncData} {N ps : List Str} {k : Nat} {sp : Sp} (F : Fun K x qual st f fd) (S : FnScope N ps (defScope st)) (hr : Room (k + 1) callerA)
    (len : ∀ vs H Q E, sp vs H Q E → vs.length = ps.length)
    (hbody : ∀ (cdv : Value) (s : Shared) (H : Hp) (vs : List V) (Q : VK) (E : XK), Room k (callerA.deeper (envOfC qual (defScope st) s.heap.objs.size f cdv)) → sp vs H Q E →
      ∃ t, PSs (cxOf CX0 P w K mg base N qual (defScope st) f cdv callerA [] s H E).nox (defBody st) t ∧ t { nx := fun _ H' => Q .non H', rt := Q } (L2.start N vs) H) : FnTop P w K mg base f fd ps sp := by
  intro s H args us vs Q E e0 hb r hsp
  obtain ⟨oc, od, kV, doc, pm, an, cdv, ct, osl, rfl, lk, hcd⟩ := F.ex
  have hl := len vs H Q E hsp
  have KX := PySem.W.Frag.In.keeps e0.mod.kin fun b o e => (e0.bs b o e).1
  have lim := Heap.NoLimit.keeps e0.mod.nolimit fun b o e => (e0.bs b o e).1
  refine codeAny_call_function hr.depth (KX f _ lk) rfl S.co S.gen rfl (PySem.W.codeRec_of KX hcd) (hb _ _ _ _ ?_)
  refine wpAny_newFunctionEnv_cells S.kind (fun y hy => ?_) fun env he s1 hc => ?_
  · rcases S.par y.1 (List.of_mem_zip hy).1 with q | q
    · exact .inl q
    · exact .inr ⟨q, PySem.W.cellsFrom_some _ _ _ (.inl q)⟩
  · subst he
    refine ⟨Heap.NoLimit.keeps lim hc.toInCall.keep, codeAny_func ?_⟩
    obtain ⟨t, ht, hq⟩ := hbody cdv s H vs Q E (hr.deeper _) hsp
    have I := inv_start (CX := CX0) (E := E) S hr.hd e0 hl r hc
    refine wpAny_mono ((PSs.nox ht).run [] s1 (L2.start N vs) H { nx := fun _ H' => Q .non H', rt := Q } I hq) (fun fl s' hs => ?_) (fun e s' h => h)
    cases fl with
    | next =>
      obtain ⟨σ', H', J, q⟩ := hs
      exact ⟨.non, H', J.os, J.bare, J.base, J.hok, rfl, q⟩
    | brk =>
      obtain ⟨σ', H', J, q⟩ := hs
      exact q.elim
    | cont =>
      obtain ⟨σ', H', J, q⟩ := hs
      exact q.elim
    | ret u =>
      obtain ⟨v, σ', H', J, rv, q⟩ := hs
      exact ⟨v, H', J.os, J.bare, J.base, J.hok, rv, q⟩
theorem law_top {P : Program} {w : World} {K : PySem.W.Frag} {mg mb : Str → Option Value} {fa a : Addr} {fd : FuncData} {x : Str} {sp : Sp} {s₁ : Shared} {vs : List Value} {ns : List Int} (KX : K.In s₁.heap) (hns : s₁.heap.Ns mainGlobals mg) (hb : s₁.heap.Ns builtinsNs mb)
    (hbb : ∀ y : Str, y ≠ Str.ofString "__name__" → mb y = bootBuiltins y) (hlim : s₁.heap.NoLimit) (hg : s₁.gens = #[]) (ha : s₁.heap.get? a = some { cls := .type "list", data := .seq vs.toArray }) (hi : IntsAre vs ns) (hl : ns.length ≤ sizeLine)
    (F : ∀ base : Heap, K.In base → base.Ns mainGlobals mg → FnTop P w K mg base fa fd [x] sp) (hbind : ∀ (s : Shared) (u : Value), BindsTo s fd { pos := [u] } [(x, u)]) (hsp : ∀ H : Hp, Only H → SqL K H a (ns.map V.int) → sp [.ref a] H (fun v _ => v = .bl true) (fun _ _ _ => False)) :
    codeAny (model P w) callerA (Code.call (.ref fa) { pos := [.ref a] }) (fun r s' => r = .ok (.ret (.bool true)) ∧ OldK s₁.heap s'.heap ∧ s'.os = s₁.os ∧ AllBare s'.gens) s₁ := by
  have rv := vals_ints hi
  have lenV := IntsAre.length hi
  have core : ∀ H : Hp, Only H → SqL K H a (ns.map V.int) → HOk P w H s₁.heap → (∀ b, H b ≠ none → b = a) → (H a ≠ none → K.lookup a = none) →
      codeAny (model P w) callerA (Code.call (.ref fa) { pos := [.ref a] }) (fun r s' => r = .ok (.ret (.bool true)) ∧ OldK s₁.heap s'.heap ∧ s'.os = s₁.os ∧ AllBare s'.gens) s₁ := by
    intro H hO hS hok hA hK
    have noA : ∀ {b : Addr} {o : Obj} {es : Array DictEntry} {ep : Nat}, s₁.heap.get? b = some o → o.data = .dict es ep → H b = none := by
      intro b o es ep e d
      cases q : H b with
      | none => rfl
      | some u =>
        have e' := hA b (by rw [q]; simp)
        subst e'
        rw [ha] at e
        cases e
        cases d
    have nsK : ∀ {b : Addr} {m : Str → Option Value}, s₁.heap.Ns b m → (hidT s₁.heap H).Ns b m := by
      rintro b m ⟨o, es, ep, e, d, r⟩
      exact ⟨o, es, ep, hidT_get e (noA e d), d, r⟩
    have hKb : K.In (hidT s₁.heap H) := by
      intro b o e
      refine hidT_get (KX b o e) ?_
      cases q : H b with
      | none => rfl
      | some u =>
        have e' := hA b (by rw [q]; simp)
        subst e'
        rw [hK (by rw [q]; simp)] at e
        cases e
    have hM : L2.Mod K mg (hidT s₁.heap H) := ⟨hKb, nsK hns, ⟨mb, nsK hb, hbb⟩, let ⟨mc, h1, h2⟩ := hlim; ⟨mc, nsK h1, h2⟩⟩
    have e0 : Env0 P w K mg (hidT s₁.heap H) callerA [] s₁ H := ⟨rfl, hM, fun b o e => of_hidT e, Nat.le_of_eq (hidT_size s₁.heap H), trivial, fun b h => (nomatch h), hok, AllBare.of_eq hg⟩
    refine codeAny_mono (F (hidT s₁.heap H) hKb (nsK hns) s₁ H { pos := [.ref a] } [.ref a] [.ref a] (fun v _ => v = .bl true) (fun _ _ _ => False) e0 (hbind s₁ (.ref a)) (Paired.cons rfl Paired.nil) (hsp H hO hS)) fun r s' h => ?_
    cases r with
    | error e => exact h.elim
    | ok fl =>
      cases fl with
      | next => exact h.elim
      | brk => exact h.elim
      | cont => exact h.elim
      | ret u =>
        obtain ⟨v, H', os, bare, un, hok', r', q⟩ := h
        have q : v = .bl true := q
        subst q
        have r' : u = Value.bool true := r'.symm ▸ rfl
        subst r'
        refine ⟨rfl, OldK.of_keep fun b o e => ?_, os, bare⟩
        cases q : H b with
        | none => exact un.keep b o e q (by simp [frs]) (by simp)
        | some u =>
          rcases hO b with z | ⟨ob, xs, z⟩
          · rw [z] at q
            cases q
          · have e1 := (hok b _ z).1
            have e2 := (hok' b _ (un.frzs b _ _ z)).1
            rw [e1] at e
            cases e
            exact e2
  cases hk : K.lookup a with
  | none =>
    refine core (fun b => if b = a then some (.frz { cls := .type "list", data := .seq vs.toArray } (.lst (ns.map V.int))) else none) (fun b => ?_) (.inl (.inr ⟨_, if_pos rfl⟩)) (fun b u z => ?_) (fun b z => ?_) fun _ => hk
    · by_cases h : b = a
      · exact .inr ⟨_, _, if_pos h⟩
      · exact .inl (if_neg h)
    · by_cases h : b = a
      · subst h
        have z : (if b = b then some (HO.frz { cls := .type "list", data := .seq vs.toArray } (.lst (ns.map V.int))) else none) = some u := z
        rw [if_pos rfl] at z
        cases z
        exact ⟨ha, by rw [List.length_map]; exact hl, vs, 0, rv, ha⟩
      · have z : (if b = a then some (HO.frz { cls := .type "list", data := .seq vs.toArray } (.lst (ns.map V.int))) else none) = some u := z
        rw [if_neg h] at z
        cases z
    · by_cases h : b = a
      · exact h
      · exact absurd (if_neg h) z
  | some o =>
    have e := KX a o hk
    rw [ha] at e
    cases e
    refine core (fun _ => none) (fun _ => .inl rfl) (.inr ⟨_, vs.toArray, 0, hk, rfl, rfl, rfl, ?_, ?_⟩) (fun b u z => (nomatch z)) (fun b z => absurd rfl z) fun z => absurd rfl z
    · rw [List.size_toArray, lenV]
      exact hl
    · exact rv
theorem walk_top {l : PySem.W.OpenLaw} {n : Nat} {q : Program} {loose : List Str} {XP : (Str → Option Value) → Heap → Prop} {YP : World → Heap → Prop} {d : DefRec} {K : Params → PySem.W.Frag} {sp : World → Sp} {x : Str}
    (hn : l.most = some n) (hn2 : n ≤ sizeLine) (hdf : d.params.defaults = []) (hY : ∀ (w : World) (h : Heap), YP w h → (K w.params).In h)
    (F : ∀ (w : World) (mg : Str → Option Value) (fa : Addr) (h : Heap), (K w.params).In h → h.Ns mainGlobals mg → mg d.name = some (.ref fa) → ∃ fd, (∀ (s : Shared) (u : Value), BindsTo s fd { pos := [u] } [(x, u)]) ∧ ∀ base : Heap, (K w.params).In base → base.Ns mainGlobals mg → FnTop l.prog w (K w.params) mg base fa fd [x] (sp w))
    (hsp : ∀ (w : World) (H : Hp) (a : Addr) (ns : List Int), ns.length ≤ n → Only H → SqL (K w.params) H a (ns.map V.int) → sp w [.ref a] H (fun v _ => v = .bl true) (fun _ _ _ => False)) :
    PySem.W.WalkO q loose XP YP l.row.toRowW d [] (fun f vs => PySem.call f vs) := by
  refine Att.attach_call hn hdf fun w s₀ s₁ mg mb fa o pm cd doc a vs ns G Y ho hd hcd hmg hobj hints hlen hg => ?_
  have KX := hY w _ Y
  obtain ⟨fd, hb, hF⟩ := F w mg fa _ KX G.T.g hmg
  exact law_top KX G.T.g G.T.b G.T.builtins G.T.nolimit hg hobj hints (Nat.le_trans hlen hn2) hF hb fun H hO hS => hsp w H a ns hlen hO hS
end My

set_option Elab.async false
set_option linter.all false
set_option maxRecDepth 100000
/-! sorted(d.items()) of a dict from numbers to numbers -/
namespace My
open PySem PySem.Spec PyProof.Rows L2 LiI
/-- the pair that a tuple among these shows -/
def pairOf (as : List Addr) (kvs : List (Int × Int)) (v : Value) : Int × Int := match v with
  | .ref a => kvs.getD (as.idxOf a) (0, 0)
  | _ => (0, 0)
theorem pairOf_at {as : List Addr} {kvs : List (Int × Int)} {j : Nat} {a : Addr} {p : Int × Int} (nd : as.Nodup) (h : as[j]? = some a) (g : kvs[j]? = some p) : pairOf as kvs (.ref a) = p := by
  obtain ⟨h1, h2⟩ := List.getElem?_eq_some_iff.mp h
  have e : as.idxOf a = j := by rw [← h2]; exact nd.idxOf_getElem j h1
  show kvs.getD (as.idxOf a) (0, 0) = p
  rw [e, List.getD_eq_getElem?_getD, g]
  rfl
theorem sorted_view {prog : Program} {w : World} {A : Around} {E : Value → Shared → Prop} {s : Shared} {r d : Addr} {es : Array DictEntry} {ep : Nat} {kvs : List (Int × Int)} {Q : Value → Shared → Prop}
    (hh : A.handled = none) (hv : s.heap.IsItemsView r d) (hd : s.heap.DictRaw d es ep) (hz : es.size ≤ sizeLine) (hlk : es.size = kvs.length) (hrs : s.heap.objs.size ≤ r + 1)
    (hkv : ∀ j (hj : j < es.size), ∃ x t y u, kvs[j]? = some (x, y) ∧ es[j].key = .int x t ∧ es[j].val = .int y u)
    (h : ∀ (h' : Heap) (tk : Nat) (L : Addr) (c : Nat) (as : List Addr) (out : List Value), (∀ (b : Addr) (o : Obj), s.heap.get? b = some o → h'.get? b = some o) → s.heap.objs.size ≤ L → L ∉ as → as.Nodup → (∀ a ∈ as, s.heap.objs.size ≤ a) → as.length = kvs.length →
      (∀ (j : Nat) (a : Addr), as[j]? = some a → ∃ x t y u, kvs[j]? = some (x, y) ∧ h'.get? a = some { cls := .type "tuple", data := .seq #[.int x t, .int y u] }) → h'.get? L = some (seqObj "list" out.toArray c) →
      SrtO.Srtd (fun v u => SrtO.lexB (pairOf as kvs v) (pairOf as kvs u)) out → SrtO.Stb (fun v u => SrtO.lexB (pairOf as kvs v) (pairOf as kvs u)) out (as.map Value.ref) →
      Q (.ref L) { heap := h', gens := s.gens, drawn := s.drawn, toks := tk, os := s.os }) :
    wpAny (model prog w) A (call (.builtin "sorted") [.ref r]) Q E s := by
  refine Calls.call_function_entry kind_sorted plain_sorted entry_sorted (args_sorted1 (.ref r)) ?_
  refine wpAny_bind (wpAny_pure (wpAny_bind (PySem.W.dil_collect (A := A.in1) hh hv hd hz fun h1 tk as k1 hl hG => ?_)))
  have hlz : (as.map Value.ref).length ≤ sizeLine := by rw [List.length_map, hl]; exact hz
  refine wpAny_bind (wpAny_newList ?_ hlz)
  have nd : as.Nodup := hG.rise.imp fun h => Nat.ne_of_lt h
  have ha : ∀ a ∈ as, s.heap.objs.size ≤ a := fun a m => Nat.le_of_lt (hG.above a m)
  have hat : ∀ (j : Nat) (a : Addr), as[j]? = some a → ∃ x t y u, kvs[j]? = some (x, y) ∧ h1.get? a = some { cls := .type "tuple", data := .seq #[.int x t, .int y u] } := fun j a e => by
    obtain ⟨hj, e1⟩ := hG.pairs j a e
    obtain ⟨x, t, y, u, e2, e3, e4⟩ := hkv j hj
    rw [e3, e4] at e1
    exact ⟨x, t, y, u, e2, e1⟩
  have hLs : s.heap.objs.size ≤ h1.objs.size := by
    obtain ⟨o, ho, _⟩ := hv
    exact Nat.le_trans hrs (Heap.lt_size (k1 r o ho))
  have hLa : h1.objs.size ∉ as := fun m => by
    obtain ⟨j, hj, e⟩ := List.mem_iff_getElem.mp m
    obtain ⟨x, t, y, u, _, e2⟩ := hat j _ (by rw [List.getElem?_eq_getElem hj, e])
    exact Nat.lt_irrefl _ (Heap.lt_size e2)
  have hoL : (h1.push (seqObj "list" (as.map Value.ref).toArray 0)).get? h1.objs.size = some (seqObj "list" (as.map Value.ref).toArray 0) := Heap.get?_push_size h1 rfl
  refine wpAny_bind (wpAny_holding (wpAny_call_entry slot_list_sort ⟨_, hoL, rfl⟩ entry_list_sort (SrtO.list_sort_ord (SrtO.swo_lex (pairOf as kvs)) hoL hlz (fun h2 => ?_) fun out hs hb => ⟨.none, rfl, wpAny_pure ⟨.ref _, rfl, ?_⟩⟩) (args_list_sort _)))
  · refine SrtO.pairs_sortableO (by omega) (fun v hm => ?_) (fun o e c => ?_)
    · obtain ⟨a, m, rfl⟩ := List.mem_map.mp hm
      obtain ⟨j, hj, e⟩ := List.mem_iff_getElem.mp m
      have e0 : as[j]? = some a := by rw [List.getElem?_eq_getElem hj, e]
      obtain ⟨x, t, y, u, e1, e2⟩ := hat j a e0
      rw [pairOf_at nd e0 e1]
      exact ⟨a, _, t, u, _, rfl, Heap.get?_push_of_some _ e2, rfl, rfl⟩
    · rw [hoL] at e
      cases e
      have c : Value.type "list" = Value.type "tuple" := c
      exact absurd (Value.type.inj c) (by decide)
  · obtain ⟨c, hc⟩ := sortedHeap_at (out := out.toArray) hoL
    have keep : ∀ (b : Addr) (o : Obj), h1.get? b = some o → (sortedHeap (h1.push (seqObj "list" (as.map Value.ref).toArray 0)) h1.objs.size (as.map Value.ref) out.toArray).get? b = some o := fun b o e => by
      have hlt := Heap.lt_size e
      have e2 := Heap.get?_push_of_some (seqObj "list" (as.map Value.ref).toArray 0) e
      rw [sortedHeap_old (Nat.ne_of_lt hlt) (Heap.lt_size e2)]
      exact e2
    refine h _ tk h1.objs.size c as out (fun b o e => keep b o (k1 b o e)) hLs hLa nd ha (by rw [hl, hlk]) (fun j a e => ?_) hc hs hb
    obtain ⟨x, t, y, u, e1, e2⟩ := hat j a e
    exact ⟨x, t, y, u, e1, keep _ _ e2⟩
/-- the new list and its tuples -/
theorem lay_sorted {X : Cx} {pins : List (Addr × Obj)} {σ : L2.St} {H : Hp} {s : Shared} {h' : Heap} {tk c : Nat} {L : Addr} {as bs : List Addr} {kvs : List (Int × Int)} (I : L2.Inv X pins σ H s) (hz : bs.length ≤ sizeLine) (hk : ∀ (b : Addr) (o : Obj), s.heap.get? b = some o → h'.get? b = some o)
    (hL : s.heap.objs.size ≤ L) (ha : ∀ a ∈ as, s.heap.objs.size ≤ a) (hLa : L ∉ as) (nd : as.Nodup) (hlen : as.length = kvs.length)
    (hp : ∀ (j : Nat) (a : Addr), as[j]? = some a → ∃ x t y u, kvs[j]? = some (x, y) ∧ h'.get? a = some { cls := .type "tuple", data := .seq #[.int x t, .int y u] })
    (hl : h'.get? L = some (seqObj "list" (bs.map Value.ref).toArray c)) :
    ∃ H', (∀ (b : Addr) (o : HO), H b = some o → H' b = some o) ∧ H L = none ∧ (∀ a ∈ as, H a = none) ∧ H' L = some (.lst (bs.map V.ref)) ∧ Paired (fun t (q : Int × Int) => H' t = some (.tup [.int q.1, .int q.2])) as kvs ∧
      L2.Inv X pins σ H' { heap := h', gens := s.gens, drawn := s.drawn, toks := tk, os := s.os } := by
  obtain ⟨H', eH⟩ : ∃ H' : Hp, H' = putT (upd H L (.lst (bs.map V.ref))) as (kvs.map fun p => (Sum.inl p.1, V.int p.2)) := ⟨_, rfl⟩
  have new : ∀ t ∈ as, H t = none := fun t ht => HOk.fresh I.hok (ha t ht)
  have newL : H L = none := HOk.fresh I.hok hL
  have atP : Paired (fun t (q : Int × Int) => H' t = some (.tup [.int q.1, .int q.2])) as kvs := by
    have := putT_at as (kvs.map fun p => ((Sum.inl p.1 : L2.Key), V.int p.2)) (upd H L (.lst (bs.map V.ref))) (by rw [List.length_map]; exact hlen) nd
    rw [← eH] at this
    clear eH hp
    revert this
    generalize H' = G
    clear new newL hlen nd hLa ha
    induction as generalizing kvs with
    | nil =>
      cases kvs with
      | nil => intro _; exact .nil
      | cons p r => intro h; cases h
    | cons a r ih =>
      cases kvs with
      | nil => intro h; cases h
      | cons p q =>
        intro h
        cases h with
        | cons h1 h2 => exact .cons h1 (ih h2)
  have off : ∀ b, b ∉ as → b ≠ L → H' b = H b := fun b h1 h2 => by rw [eH, putT_off _ _ _ h1, upd_ne h2]
  have kp : ∀ (b : Addr) (u : HO), H b = some u → H' b = some u := fun b u e => by
    rw [off b (fun z => by rw [new b z] at e; cases e) (fun z => by rw [z, newL] at e; cases e)]
    exact e
  have eL : H' L = some (.lst (bs.map V.ref)) := by rw [eH, putT_off _ _ _ hLa, upd_same]
  have low : ∀ (b : Addr) (o : Obj), s.heap.get? b = some o → b ∉ as ∧ b ≠ L := fun b o e => ⟨fun z => absurd (Heap.lt_size e) (Nat.not_lt.mpr (ha b z)), fun z => Nat.lt_irrefl L (Nat.lt_of_lt_of_le (z ▸ Heap.lt_size e) hL)⟩
  refine ⟨H', kp, newL, new, eL, atP, Inv.call' (ch := []) I rfl ⟨fun b o q _ _ _ => hk b o q, fun b o q _ _ _ => ⟨o.slots, hk b o q⟩, fun b o q n _ => ?_, fun b o q _ => ⟨o, hk b o q⟩, fun b xs q => kp b _ q, fun b o u q => kp b _ q, fun b ps q => ⟨#[], by rw [Array.append_empty]; exact kp b _ q⟩⟩ (fun b u q => ?_) I.bare (fun b hb => (List.not_mem_nil hb).elim)⟩
  · obtain ⟨z1, z2⟩ := low b o q
    rw [off b z1 z2]
    exact n
  · by_cases hb : b ∈ as
    · obtain ⟨j, p, e1, e2, e3⟩ := paired_ix atP hb
      rw [e3] at q
      cases q
      obtain ⟨x, t, y, u, f1, f2⟩ := hp j b e1
      rw [e2] at f1
      cases f1
      exact ⟨(by show 2 ≤ sizeLine; decide), [.int x t, .int y u], .cons ⟨t, rfl⟩ (.cons ⟨u, rfl⟩ .nil), ⟨_, f2, rfl, _, rfl⟩⟩
    · by_cases hb2 : b = L
      · subst hb2
        rw [eL] at q
        cases q
        exact ⟨by rw [List.length_map]; exact hz, bs.map Value.ref, c, LiI.vals_refs bs, hl⟩
      · rw [off b hb hb2] at q
        refine ObjOk.stay (I.hok b u q) (fun b' o' _ e => hk b' o' e) (fun b' e => kp b' _ e) (fun b' xs e => kp b' _ e)
/-- what sorted(d.items()) asks: the dict; then the new list of its pairs, ascending -/
def rSortIt2 : V → Hp → VK → Prop := fun x H Q => ∃ (d : Addr) (kvs : List (Int × Int)), x = .ref d ∧ H d = some (.dK (kvs.map fun p => (Sum.inl p.1, .int p.2))) ∧
  ∀ (H' : Hp) (l : Addr) (as bs : List Addr), (∀ (b : Addr) (o : HO), H b = some o → H' b = some o) → H l = none → (∀ a ∈ as, H a = none) → H' l = some (.lst (bs.map V.ref)) → Paired (fun t (q : Int × Int) => H' t = some (.tup [.int q.1, .int q.2])) as kvs → as.Nodup →
    bs.Perm as → bs.Pairwise (fun a b => SrtO.lexB (pairOf as kvs (.ref b)) (pairOf as kvs (.ref a)) = false) → Q (.ref l) H'
def tSortIt2 (te : TE) : TE := fun σ H Q => te σ H fun x H1 => rSortIt2 x H1 Q
theorem pe_sortItems {X : Cx} {e : Expr} {te : TE} {p apos cpos pos : Pos} (hc : X.calm = true) (he : PE X e te) (hg : Gl X (Str.ofString "sorted")) (hm : X.mg (Str.ofString "sorted") = none) (hv : bootBuiltins (Str.ofString "sorted") = some (.builtin "sorted"))
    (hbase : attributeBase e (Str.ofString "items") X.env (eval e X.env) = eval e X.env := by rfl) (hline : (apos.endLine == cpos.line) = true := by rfl)
    (hs : starEach [.Call (.Attribute e (Str.ofString "items") apos) [] [] cpos] X.env = (false, eval (.Call (.Attribute e (Str.ofString "items") apos) [] [] cpos) X.env) :: starEach [] X.env := by rfl) :
    PE X (.Call (.Name (Str.ofString "sorted") p) [.Call (.Attribute e (Str.ofString "items") apos) [] [] cpos] [] pos) (tSortIt2 te) :=
  ⟨fun pins s σ H Q I hq => by
    refine wpAny_Call_Name_kw (ld_blt I hg hm hv (PyProof.Rows.callWith_builtin1 ?_ hs rfl) (by decide) (by decide))
    rw [hs]
    refine Calls.spliced_cons (wpAny_Call_method hbase rfl hline PySem.F.plainAttrs_dict PySem.F.slot_dict_items PySem.F.type_dict_items (thn (he.run pins s σ H (fun x H1 => rSortIt2 x H1 Q) I hq) fun u s1 ⟨x, H1, I1, rx, d, kvs, ex, hd, q⟩ => ?_))
    subst ex
    have rx : u = Value.ref d := rx
    subst rx
    obtain ⟨hz, hs0, vs, kv, hdo⟩ := I1.hok d _ hd
    refine ⟨Heap.DictOf.typeIs hdo, Heap.MapOf.noDict (Heap.DictOf.mapOf hdo), ?_⟩
    refine method_meetsIn PySem.F.slot_dict_items PySem.F.entry_dict_items rfl (PySem.evalArgs_none ⟨rfl, Heap.DictOf.typeIs hdo, PySem.F.args_dict_items_1 (.ref d), _, meets_dict_items (mixKind X.prog X.w) d hs0, ⟨vs, hdo⟩, Calls.spliced_nil ?_⟩)
    have I2 := Inv.kept (t' := s1.toks) I1 fun b ob q => Heap.get?_push_of_some { cls := .type "dict_items", data := .fields #[.ref d] } q
    obtain ⟨es, ep, ⟨o, ho, hex, hda⟩, hsz, hent⟩ := Heap.DictOf.raw hdo
    have lkv : vs.length = kvs.length := by have := Paired.length kv; rw [List.length_map] at this; exact this.symm
    rw [List.length_map] at hz
    refine sorted_view (kvs := kvs) (I1.ok.hd hc) ⟨_, Heap.get?_push_size s1.heap rfl, rfl, rfl⟩ ⟨o, Heap.get?_push_of_some _ ho, hex, hda⟩ (by rw [hsz, lkv]; exact hz) (by rw [hsz, lkv]) (Nat.le_of_eq (size_push' s1.heap _)) (fun j hj => ?_) fun h' tk L c as out k1 hL hLa nd ha hl hat hLl hst hsb => ?_
    · have hj2 : j < kvs.length := by rw [← lkv, ← hsz]; exact hj
      obtain ⟨pr, epr⟩ : ∃ pr, kvs[j]? = some pr := ⟨_, List.getElem?_eq_getElem hj2⟩
      obtain ⟨⟨k, v⟩, g1, g2, g3⟩ := LiI.paired_get kv (i := j) (x := (Sum.inl pr.1, V.int pr.2)) (by rw [List.getElem?_map, epr]; rfl)
      obtain ⟨f1, f2⟩ := hent j hj k v g1
      have g2 : Sum.inl pr.1 = k := g2
      subst g2
      obtain ⟨u, g3⟩ := g3
      have g3 : v = Value.int pr.2 u := g3
      have f3 : Value.isInt pr.1 es[j].key = true := f1
      rw [f2, g3]
      clear f1 f2 g1 g3 hent
      generalize es[j].key = kk at f3
      cases kk with
      | int i t =>
        have : i = pr.1 := by simpa [Value.isInt] using f3
        exact ⟨pr.1, t, pr.2, u, epr, by rw [this], rfl⟩
      | _ => simp [Value.isInt] at f3
    · have h0 : ∀ v ∈ out, ∃ a, v = Value.ref a := fun v hv => by
        obtain ⟨a, _, e⟩ := List.mem_map.mp (hsb.perm.mem_iff.mp hv)
        exact ⟨a, e.symm⟩
      obtain ⟨bs, ebs⟩ : ∃ bs : List Addr, out = bs.map Value.ref := by
        clear hst hsb hLl
        induction out with
        | nil => exact ⟨[], rfl⟩
        | cons v r ih =>
          obtain ⟨a, rfl⟩ := h0 v List.mem_cons_self
          obtain ⟨bs, rfl⟩ := ih fun y hy => h0 y (List.mem_cons_of_mem _ hy)
          exact ⟨a :: bs, rfl⟩
      subst ebs
      have hpm : bs.Perm as := by
        have := hsb.perm.map (fun v : Value => match v with | .ref a => a | _ => 0)
        rw [List.map_map, List.map_map] at this
        exact (List.Perm.of_eq (List.map_id bs).symm).trans (this.trans (.of_eq (List.map_id as)))
      have hbz : bs.length ≤ sizeLine := by rw [hpm.length_eq, hl]; exact hz
      obtain ⟨H', q1, q2, q3, q4, q5, J⟩ := lay_sorted (tk := tk) (c := c) I2 hbz k1 hL ha hLa nd hl hat hLl
      refine ⟨.ref L, H', J, rfl, q H' L as bs q1 q2 q3 q4 q5 nd hpm ?_⟩
      exact List.pairwise_map.mp hst⟩
/-! ### a pair is neither True nor False -/
theorem op_isRB {X : Cx} : OpR X (compareOp .Is) (fun x y H Q => ∃ a b, x = .ref a ∧ y = .bl b ∧ Q (.bl false) H) := fun pins s σ H x y v u Q I rx ry h => by
  obtain ⟨a, b, rfl, rfl, q⟩ := h
  have rx : v = Value.ref a := rx
  have ry : u = Value.bool b := ry
  subst rx
  subst ry
  exact wpAny_bind (wpAny_pure (wpAny_pure (fin_bl I q rfl)))
theorem op_notRB {X : Cx} : OpR X (compareOp .IsNot) (fun x y H Q => ∃ a b, x = .ref a ∧ y = .bl b ∧ Q (.bl true) H) := fun pins s σ H x y v u Q I rx ry h => by
  obtain ⟨a, b, rfl, rfl, q⟩ := h
  have rx : v = Value.ref a := rx
  have ry : u = Value.bool b := ry
  subst rx
  subst ry
  exact wpAny_bind (wpAny_pure (wpAny_pure (fin_bl I q rfl)))
end My

set_option linter.all false
/-! circuits as functions of the wires' bits; sums and comparisons -/
namespace My
abbrev Ct := Nat × Bool
abbrev Gt := Nat × List Ct
abbrev Sb := Nat → Bool
def holds (cs : List Ct) (s : Sb) : Bool := cs.all fun c => s c.1 == c.2
def flp (t : Nat) (s : Sb) : Sb := fun i => if i = t then !s t else s i
def act (g : Gt) (s : Sb) : Sb := if holds g.2 s then flp g.1 s else s
def run : List Gt → Sb → Sb
  | [], s => s
  | g :: r, s => run r (act g s)
theorem run_app (a b : List Gt) (s : Sb) : run (a ++ b) s = run b (run a s) := by
  induction a generalizing s with
  | nil => rfl
  | cons g r ih => exact ih _
theorem holds_app (a b : List Ct) (s : Sb) : holds (a ++ b) s = (holds a s && holds b s) := List.all_append ..
theorem holds_cons (c : Ct) (b : List Ct) (s : Sb) : holds (c :: b) s = (s c.1 == c.2 && holds b s) := List.all_cons ..
theorem holds_perm {a b : List Ct} (h : a.Perm b) (s : Sb) : holds a s = holds b s := by
  have : (holds a s = true) ↔ (holds b s = true) := by
    unfold holds
    rw [List.all_eq_true, List.all_eq_true]
    exact ⟨fun g x hx => g x (h.mem_iff.mpr hx), fun g x hx => g x (h.mem_iff.mp hx)⟩
  cases e : holds a s <;> cases f : holds b s <;> rw [e, f] at this <;> simp at this <;> rfl
theorem holds_eq {a : List Ct} {s t : Sb} (h : ∀ c ∈ a, s c.1 = t c.1) : holds a s = holds a t := by
  induction a with
  | nil => rfl
  | cons c r ih => rw [holds_cons, holds_cons, h c List.mem_cons_self, ih fun c hc => h c (List.mem_cons_of_mem _ hc)]
theorem act_ne {g : Gt} {s : Sb} {i : Nat} (h : i ≠ g.1) : act g s i = s i := by
  unfold act
  split
  · show (if i = g.1 then _ else _) = _
    rw [if_neg h]
  · rfl
theorem act_eq {g : Gt} {s : Sb} : act g s g.1 = (s g.1 ^^ holds g.2 s) := by
  unfold act flp
  split
  · rename_i h
    rw [h]
    simp
  · rename_i h
    rw [Bool.not_eq_true] at h
    rw [h]
    simp
theorem run_ne {gs : List Gt} {s : Sb} {i : Nat} (h : ∀ g ∈ gs, i ≠ g.1) : run gs s i = s i := by
  induction gs generalizing s with
  | nil => rfl
  | cons g r ih =>
    show run r (act g s) i = s i
    rw [ih fun g hg => h g (List.mem_cons_of_mem _ hg), act_ne (h g List.mem_cons_self)]
/-- equal but for the order of controls -/
inductive Sim : List Gt → List Gt → Prop
  | nil : Sim [] []
  | cons {t : Nat} {a b : List Ct} {r q : List Gt} : a.Perm b → Sim r q → Sim ((t, a) :: r) ((t, b) :: q)
theorem Sim.run {a b : List Gt} (h : Sim a b) (s : Sb) : run a s = run b s := by
  induction h generalizing s with
  | nil => rfl
  | cons p _ ih =>
    rename_i t a b r q _
    show My.run _ (act _ s) = My.run _ (act _ s)
    have : act (t, a) s = act (t, b) s := by unfold act; rw [holds_perm p]
    rw [this]
    exact ih _
theorem Sim.app {a b c d : List Gt} (h : Sim a b) (g : Sim c d) : Sim (a ++ c) (b ++ d) := by
  induction h with
  | nil => exact g
  | cons p _ ih => exact .cons p ih
theorem Sim.one {t : Nat} {a b : List Ct} (p : a.Perm b) : Sim [(t, a)] [(t, b)] := .cons p .nil
theorem Sim.len {a b : List Gt} (h : Sim a b) : a.length = b.length := by
  induction h with
  | nil => rfl
  | cons _ _ ih => rw [List.length_cons, List.length_cons, ih]
theorem Sim.mem {a b : List Gt} (h : Sim a b) : ∀ {t : Nat} {d : List Ct}, (t, d) ∈ b → ∃ c, (t, c) ∈ a ∧ c.Perm d := by
  induction h with
  | nil => intro t d h; cases h
  | cons p _ ih =>
    intro t d h
    rcases List.mem_cons.mp h with h | h
    · cases h
      exact ⟨_, List.mem_cons_self, p⟩
    · obtain ⟨c, h1, h2⟩ := ih h
      exact ⟨c, List.mem_cons_of_mem _ h1, h2⟩
/-! ### numbers on wires -/
def val : List Nat → Sb → Nat
  | [], _ => 0
  | t :: r, s => (s t).toNat + 2 * val r s
theorem val_eq {ts : List Nat} {s u : Sb} (h : ∀ t ∈ ts, s t = u t) : val ts s = val ts u := by
  induction ts with
  | nil => rfl
  | cons t r ih => rw [val, val, h t List.mem_cons_self, ih fun c hc => h c (List.mem_cons_of_mem _ hc)]
theorem val_lt (ts : List Nat) (s : Sb) : val ts s < 2 ^ ts.length := by
  induction ts with
  | nil => exact Nat.one_pos
  | cons t r ih =>
    rw [val, List.length_cons, Nat.pow_succ]
    have := Bool.toNat_le (s t)
    omega
theorem toNat_inj {a b : Bool} (h : a.toNat = b.toNat) : a = b := by cases a <;> cases b <;> first | rfl | cases h
theorem val_inj {ts : List Nat} {s u : Sb} (h : val ts s = val ts u) : ∀ t ∈ ts, s t = u t := by
  induction ts with
  | nil => intro t h; cases h
  | cons t r ih =>
    rw [val, val] at h
    have h1 := Bool.toNat_le (s t)
    have h2 := Bool.toNat_le (u t)
    intro x hx
    rcases List.mem_cons.mp hx with rfl | hx
    · exact toNat_inj (by omega)
    · exact ih (by omega) x hx
/-- one more on the wires -/
def incL (C : List Ct) (ts : List Nat) (i : Nat) : Gt := (ts.getD (ts.length - 1 - i) 0, C ++ (ts.take (ts.length - 1 - i)).map fun w => (w, true))
def incG (C : List Ct) (ts : List Nat) : List Gt := (List.range ts.length).map (incL C ts)
theorem incG_cons (C : List Ct) (t : Nat) (r : List Nat) : incG C (t :: r) = incG (C ++ [(t, true)]) r ++ [(t, C)] := by
  unfold incG
  rw [List.length_cons, List.range_succ, List.map_append]
  congr 1
  · refine List.map_congr_left fun i hi => ?_
    have hi := List.mem_range.mp hi
    unfold incL
    obtain ⟨j, hj⟩ : ∃ j, r.length - 1 - i = j := ⟨_, rfl⟩
    have e : (t :: r).length - 1 - i = j + 1 := by rw [List.length_cons]; omega
    rw [e, hj, List.take_succ_cons, List.map_cons, List.append_assoc]
    rfl
  · rw [List.map_singleton, incL, List.length_cons]
    have e : r.length + 1 - 1 - r.length = 0 := by omega
    rw [e]
    simp
theorem incG_mem {C : List Ct} {ts : List Nat} {g : Gt} (h : g ∈ incG C ts) : g.1 ∈ ts ∧ ∀ c ∈ g.2, c ∈ C ∨ (c.1 ∈ ts ∧ c.2 = true) := by
  obtain ⟨i, hi, rfl⟩ := List.mem_map.mp h
  have hi := List.mem_range.mp hi
  unfold incL
  refine ⟨?_, fun c hc => ?_⟩
  · rw [List.getD_eq_getElem?_getD, List.getElem?_eq_getElem (by omega)]
    exact List.getElem_mem _
  · rcases List.mem_append.mp hc with h | h
    · exact .inl h
    · obtain ⟨w, hw, rfl⟩ := List.mem_map.mp h
      exact .inr ⟨List.mem_of_mem_take hw, rfl⟩
theorem inc_ne {C : List Ct} {ts : List Nat} {s : Sb} {i : Nat} (h : i ∉ ts) : run (incG C ts) s i = s i :=
  run_ne fun g hg e => h (e ▸ (incG_mem hg).1)
theorem inc_val {C : List Ct} {ts : List Nat} (nd : ts.Nodup) (hC : ∀ c ∈ C, c.1 ∉ ts) (s : Sb) : val ts (run (incG C ts) s) = (val ts s + (holds C s).toNat) % 2 ^ ts.length := by
  induction ts generalizing C s with
  | nil => rw [val, List.length_nil, Nat.pow_zero, Nat.mod_one]
  | cons t r ih =>
    have ndr := (List.nodup_cons.mp nd).2
    have ntr := (List.nodup_cons.mp nd).1
    rw [incG_cons, run_app]
    have h1 := ih (C := C ++ [(t, true)]) ndr (fun c hc => by
      rcases List.mem_append.mp hc with h | h
      · exact fun z => hC c h (List.mem_cons_of_mem _ z)
      · rw [List.mem_singleton.mp h]; exact ntr) s
    obtain ⟨u, hu⟩ : ∃ u, run (incG (C ++ [(t, true)]) r) s = u := ⟨_, rfl⟩
    rw [hu] at h1 ⊢
    have eC : holds C u = holds C s := holds_eq fun c hc => by
      rw [← hu]
      exact inc_ne fun z => hC c hc (List.mem_cons_of_mem _ z)
    have et : u t = s t := by rw [← hu]; exact inc_ne ntr
    show val (t :: r) (act (t, C) u) = _
    rw [val, val]
    have e1 : val r (act (t, C) u) = val r u := val_eq fun x hx => act_ne fun z => ntr (by rw [← (show x = t from z)]; exact hx)
    have e2 : act (t, C) u t = (s t ^^ holds C s) := by
      have := act_eq (g := (t, C)) (s := u)
      rw [show (t, C).2 = C from rfl, show (t, C).1 = t from rfl, eC, et] at this
      exact this
    rw [e1, e2, h1, holds_app, holds_cons, List.length_cons, Nat.pow_succ]
    have hp : 0 < 2 ^ r.length := Nat.pow_pos (by decide)
    generalize 2 ^ r.length = m at *
    generalize val r s = v
    have hm : m * 2 = 2 * m := Nat.mul_comm ..
    rw [hm]
    cases s t <;> cases holds C s <;> simp [holds, Bool.toNat] 
    · rw [Nat.mul_mod_mul_left]
    · rw [show 1 + 2 * (v % m) = (2 * v + 1) % (2 * m) from ?_]
      rw [Nat.mod_mul, Nat.add_comm (2 * v) 1, Nat.add_mul_mod_self_left, Nat.add_mul_div_left _ _ (by decide)]
      simp
    · rw [show (1 + 2 * v) % (2 * m) = 1 + 2 * (v % m) from ?_]
      rw [Nat.mod_mul, Nat.add_mul_mod_self_left, Nat.add_mul_div_left _ _ (by decide)]
      simp
    · rw [show 1 + 2 * v + 1 = 2 * (v + 1) from by omega, Nat.mul_mod_mul_left]
/-- a number added -/
def addG (C : List Ct) : List Nat → List Nat → List Gt
  | _, [] => []
  | ts, b :: r => incG (C ++ [(b, true)]) ts ++ addG C ts.tail r
theorem addG_mem {C : List Ct} {ts ss : List Nat} {g : Gt} (h : g ∈ addG C ts ss) : g.1 ∈ ts ∧ ∃ k, g.2 = C ++ k ∧ ∀ c ∈ k, c.1 ∈ ts ∨ c.1 ∈ ss := by
  induction ss generalizing ts with
  | nil => cases h
  | cons b r ih =>
    rcases List.mem_append.mp h with h | h
    · obtain ⟨i, hi, rfl⟩ := List.mem_map.mp h
      refine ⟨(incG_mem h).1, _, List.append_assoc .., fun c hc => ?_⟩
      rcases List.mem_append.mp hc with h | h
      · rw [List.mem_singleton.mp h]; exact .inr List.mem_cons_self
      · obtain ⟨w, hw, rfl⟩ := List.mem_map.mp h
        exact .inl (List.mem_of_mem_take hw)
    · obtain ⟨h1, k, h2, h3⟩ := ih h
      exact ⟨List.mem_of_mem_tail h1, k, h2, fun c hc => (h3 c hc).imp List.mem_of_mem_tail (List.mem_cons_of_mem _)⟩
theorem add_ne {C : List Ct} {ts ss : List Nat} {s : Sb} {i : Nat} (h : i ∉ ts) : run (addG C ts ss) s i = s i :=
  run_ne fun g hg e => h (e ▸ (addG_mem hg).1)
theorem add_val {C : List Ct} {ts ss : List Nat} (nd : ts.Nodup) (hC : ∀ c ∈ C, c.1 ∉ ts) (hs : ∀ b ∈ ss, b ∉ ts) (hl : ss.length = ts.length) (s : Sb) :
    val ts (run (addG C ts ss) s) = (val ts s + if holds C s then val ss s else 0) % 2 ^ ts.length := by
  induction ss generalizing ts s with
  | nil =>
    cases ts with
    | nil => rw [val, List.length_nil, Nat.pow_zero, Nat.mod_one]
    | cons t r => cases hl
  | cons b q ih =>
    cases ts with
    | nil => cases hl
    | cons t r =>
      have ndr := (List.nodup_cons.mp nd).2
      have ntr := (List.nodup_cons.mp nd).1
      have hbq : ∀ b ∈ q, b ∉ r := fun b hb z => hs b (List.mem_cons_of_mem _ hb) (List.mem_cons_of_mem _ z)
      have hCr : ∀ c ∈ C, c.1 ∉ r := fun c hc z => hC c hc (List.mem_cons_of_mem _ z)
      rw [addG, run_app, List.tail_cons]
      have h1 := inc_val (C := C ++ [(b, true)]) nd (fun c hc => by
        rcases List.mem_append.mp hc with h | h
        · exact hC c h
        · rw [List.mem_singleton.mp h]; exact hs b List.mem_cons_self) s
      obtain ⟨u, hu⟩ : ∃ u, run (incG (C ++ [(b, true)]) (t :: r)) s = u := ⟨_, rfl⟩
      rw [hu] at h1 ⊢
      have ue : ∀ i, i ∉ t :: r → u i = s i := fun i hi => by rw [← hu]; exact inc_ne hi
      have h2 := ih ndr hCr hbq (Nat.succ.inj hl) u
      have eC : holds C u = holds C s := holds_eq fun c hc => ue _ (hC c hc)
      have eq : val q u = val q s := val_eq fun x hx => ue _ (hs x (List.mem_cons_of_mem _ hx))
      rw [eC, eq] at h2
      obtain ⟨z, hz⟩ : ∃ z, run (addG C r q) u = z := ⟨_, rfl⟩
      rw [hz] at h2 ⊢
      have et : z t = u t := by rw [← hz]; exact add_ne ntr
      rw [val] at h1
      rw [val, et, h2, val, val]
      rw [holds_app, holds_cons] at h1
      rw [val, List.length_cons, Nat.pow_succ] at h1
      rw [List.length_cons, Nat.pow_succ]
      have hp : 0 < 2 ^ r.length := Nat.pow_pos (by decide)
      have l1 := val_lt r u
      generalize 2 ^ r.length = m at *
      have hm : m * 2 = 2 * m := Nat.mul_comm ..
      rw [hm] at h1 ⊢
      generalize val r u = x at *
      generalize val r s = v at *
      generalize val q s = y at *
      have key : ∀ n : Nat, (u t).toNat + 2 * ((x + n) % m) = ((u t).toNat + 2 * x + 2 * n) % (2 * m) := fun n => by
        have hb := Bool.toNat_le (u t)
        generalize (u t).toNat = d at *
        rw [Nat.mod_mul, show d + 2 * x + 2 * n = d + 2 * (x + n) from by omega, Nat.add_mul_mod_self_left, Nat.add_mul_div_left _ _ (by decide)]
        have e1 : d % 2 = d := by omega
        have e2 : d / 2 = 0 := by omega
        rw [e1, e2, Nat.zero_add]
      rw [key, h1, Nat.mod_add_mod]
      congr 1
      cases holds C s <;> cases s b <;> simp [holds] <;> omega
/-! ### less -/
def lessG (C : List Ct) (w : Nat) : List (Nat × Nat) → List Gt
  | [] => []
  | p :: r => lessG C w r ++ [(w, C ++ [(p.1, false), (p.2, true)] ++ r.map fun q => (q.2, false)), (p.2, [(p.1, true)])]
def unG (ps : List (Nat × Nat)) : List Gt := ps.map fun p => (p.2, [(p.1, true)])
def ltB : List (Nat × Nat) → Sb → Bool
  | [], _ => false
  | p :: r, s => ltB r s || ((r.all fun q => s q.1 == s q.2) && !s p.1 && s p.2)
theorem lessG_mem {C : List Ct} {w : Nat} {ps : List (Nat × Nat)} {g : Gt} (h : g ∈ lessG C w ps) : (g.1 = w ∧ ∃ p r a, ps = a ++ p :: r ∧ g.2 = C ++ [(p.1, false), (p.2, true)] ++ r.map fun q => (q.2, false)) ∨ ∃ p ∈ ps, g = (p.2, [(p.1, true)]) := by
  induction ps with
  | nil => cases h
  | cons p r ih =>
    rw [lessG] at h
    rcases List.mem_append.mp h with h | h
    · rcases ih h with ⟨h1, q, r', a, h2, h3⟩ | ⟨q, h1, h2⟩
      · exact .inl ⟨h1, q, r', p :: a, by rw [h2]; rfl, h3⟩
      · exact .inr ⟨q, List.mem_cons_of_mem _ h1, h2⟩
    · rcases List.mem_cons.mp h with h | h
      · exact .inl ⟨by rw [h], p, r, [], rfl, by rw [h]⟩
      · rw [List.mem_singleton.mp h]
        exact .inr ⟨p, List.mem_cons_self, rfl⟩
/-- what is asked of the wires -/
structure Apart (C : List Ct) (w : Nat) (ps : List (Nat × Nat)) : Prop where
  nd : (ps.map (·.2)).Nodup
  fs : ∀ p ∈ ps, ∀ q ∈ ps, p.1 ≠ q.2
  wf : ∀ p ∈ ps, p.1 ≠ w ∧ p.2 ≠ w
  cs : ∀ c ∈ C, c.1 ≠ w ∧ ∀ p ∈ ps, c.1 ≠ p.2
theorem Apart.tail {C : List Ct} {w : Nat} {p : Nat × Nat} {ps : List (Nat × Nat)} (A : Apart C w (p :: ps)) : Apart C w ps :=
  ⟨(List.nodup_cons.mp A.nd).2, fun p hp q hq => A.fs p (List.mem_cons_of_mem _ hp) q (List.mem_cons_of_mem _ hq), fun p hp => A.wf p (List.mem_cons_of_mem _ hp), fun c hc => ⟨(A.cs c hc).1, fun p hp => (A.cs c hc).2 p (List.mem_cons_of_mem _ hp)⟩⟩
theorem less_ne {C : List Ct} {w : Nat} {ps : List (Nat × Nat)} {s : Sb} {i : Nat} (h : i ≠ w) (hs : ∀ p ∈ ps, i ≠ p.2) : run (lessG C w ps) s i = s i :=
  run_ne fun g hg e => by
    rcases lessG_mem hg with ⟨h1, _⟩ | ⟨p, h1, h2⟩
    · exact h (e.trans h1)
    · exact hs p h1 (by rw [e, h2])
theorem xor_beq (a b : Bool) : ((a ^^ b) == false) = (b == a) := by cases a <;> cases b <;> rfl
theorem less_run {C : List Ct} {w : Nat} : ∀ {ps : List (Nat × Nat)}, Apart C w ps → ∀ s : Sb, (∀ p ∈ ps, run (lessG C w ps) s p.2 = (s p.2 ^^ s p.1)) ∧ run (lessG C w ps) s w = (s w ^^ (holds C s && ltB ps s))
  | [], _, s => ⟨fun _ h => (nomatch h), (by
      show s w = (s w ^^ (holds C s && false))
      cases s w <;> cases holds C s <;> rfl)⟩
  | p :: r, A, s => by
    obtain ⟨h1, h2⟩ := less_run A.tail s
    have hne : ∀ i, i ≠ w → (∀ q ∈ r, i ≠ q.2) → run (lessG C w r) s i = s i := fun i a b => less_ne a b
    rw [lessG, run_app]
    obtain ⟨u, hu⟩ : ∃ u, run (lessG C w r) s = u := ⟨_, rfl⟩
    rw [hu] at h1 h2 hne ⊢
    have pp := List.mem_cons_self (a := p) (l := r)
    have np : ∀ q ∈ r, p.2 ≠ q.2 := fun q hq z => (List.nodup_cons.mp A.nd).1 (List.mem_map.mpr ⟨q, hq, z.symm⟩)
    have uf : u p.1 = s p.1 := hne _ (A.wf p pp).1 fun q hq => A.fs p pp q (List.mem_cons_of_mem _ hq)
    have us : u p.2 = s p.2 := hne _ (A.wf p pp).2 np
    have uC : holds C u = holds C s := holds_eq fun c hc => hne _ (A.cs c hc).1 fun q hq => (A.cs c hc).2 q (List.mem_cons_of_mem _ hq)
    have ur : (holds (r.map fun q => (q.2, false)) u) = (r.all fun q => s q.1 == s q.2) := by
      have : ∀ l : List (Nat × Nat), (∀ q ∈ l, u q.2 = (s q.2 ^^ s q.1)) → holds (l.map fun q => (q.2, false)) u = l.all fun q => s q.1 == s q.2 := fun l => by
        induction l with
        | nil => intro _; rfl
        | cons x l ih =>
          intro hl
          rw [List.map_cons, holds_cons, List.all_cons, ih fun q hq => hl q (List.mem_cons_of_mem _ hq), hl x List.mem_cons_self]
          rw [xor_beq]
      exact this r h1
    obtain ⟨v, hv⟩ : ∃ v, act (w, C ++ [(p.1, false), (p.2, true)] ++ r.map fun q => (q.2, false)) u = v := ⟨_, rfl⟩
    have vn : ∀ i, i ≠ w → v i = u i := fun i hi => by rw [← hv]; exact act_ne hi
    have vw : v w = (u w ^^ (holds C s && (!s p.1 && s p.2) && (r.all fun q => s q.1 == s q.2))) := by
      rw [← hv]
      refine (act_eq (g := (w, _))).trans ?_
      congr 1
      rw [holds_app, holds_app, holds_cons, holds_cons, uC, ur, uf, us]
      cases s p.1 <;> cases s p.2 <;> simp [holds]
    show (∀ q ∈ p :: r, run [_, _] u q.2 = _) ∧ run [_, _] u w = _
    rw [show run [(w, C ++ [(p.1, false), (p.2, true)] ++ r.map fun q => (q.2, false)), (p.2, [(p.1, true)])] u = act (p.2, [(p.1, true)]) v from by rw [← hv]; rfl]
    refine ⟨fun q hq => ?_, ?_⟩
    · rcases List.mem_cons.mp hq with rfl | hq
      · have e := act_eq (g := (q.2, [(q.1, true)])) (s := v)
        rw [show ((q.2, [(q.1, true)]) : Gt).1 = q.2 from rfl] at e
        rw [e, vn _ (A.wf q pp).2, us]
        congr 1
        show holds [(q.1, true)] v = _
        rw [holds_cons, vn _ (A.wf q pp).1, uf]
        cases s q.1 <;> rfl
      · rw [act_ne (fun z => np q hq z.symm), vn _ (A.wf q (List.mem_cons_of_mem _ hq)).2]
        exact h1 q hq
    · rw [act_ne (fun z => (A.wf p pp).2 z.symm), vw, h2, ltB]
      have ex : ltB r s = true → (r.all fun q => s q.1 == s q.2) = false := by
        have : ∀ l : List (Nat × Nat), ltB l s = true → (l.all fun q => s q.1 == s q.2) = false := fun l => by
          induction l with
          | nil => intro h; cases h
          | cons x l ih =>
            intro h
            rw [ltB] at h
            rw [List.all_cons]
            cases e : ltB l s with
            | true => rw [ih e, Bool.and_false]
            | false =>
              rw [e] at h
              revert h
              cases s x.1 <;> cases s x.2 <;> simp
        exact this r
      revert ex
      cases ltB r s <;> cases (r.all fun q => s q.1 == s q.2) <;> cases s w <;> cases holds C s <;> cases s p.1 <;> cases s p.2 <;> simp
theorem un_run {ps : List (Nat × Nat)} (nd : (ps.map (·.2)).Nodup) (fs : ∀ p ∈ ps, ∀ q ∈ ps, p.1 ≠ q.2) (s : Sb) : (∀ p ∈ ps, run (unG ps) s p.2 = (s p.2 ^^ s p.1)) ∧ ∀ i, (∀ p ∈ ps, i ≠ p.2) → run (unG ps) s i = s i := by
  have hn : ∀ i, (∀ p ∈ ps, i ≠ p.2) → run (unG ps) s i = s i := fun i hi => run_ne fun g hg => by
    obtain ⟨p, hp, rfl⟩ := List.mem_map.mp hg
    exact hi p hp
  refine ⟨?_, hn⟩
  induction ps generalizing s with
  | nil => intro p h; cases h
  | cons p r ih =>
    have pp := List.mem_cons_self (a := p) (l := r)
    have np : ∀ q ∈ r, p.2 ≠ q.2 := fun q hq z => (List.nodup_cons.mp nd).1 (List.mem_map.mpr ⟨q, hq, z.symm⟩)
    have nd' : (r.map (·.2)).Nodup := (List.nodup_cons.mp nd).2
    have e0 : act (p.2, [(p.1, true)]) s p.2 = (s p.2 ^^ s p.1) := by
      refine (act_eq (g := (p.2, _))).trans ?_
      congr 1
      show holds [(p.1, true)] s = _
      rw [holds_cons]
      cases s p.1 <;> rfl
    have hr : ∀ i, (∀ q ∈ r, i ≠ q.2) → ∀ u, run (unG r) u i = u i := fun i hi u => run_ne fun g hg => by
      obtain ⟨p, hp, rfl⟩ := List.mem_map.mp hg
      exact hi p hp
    intro q hq
    show run (unG r) (act (p.2, [(p.1, true)]) s) q.2 = _
    rcases List.mem_cons.mp hq with rfl | hq
    · rw [hr _ np, e0]
    · have h := ih nd' (fun p hp q hq => fs p (List.mem_cons_of_mem _ hp) q (List.mem_cons_of_mem _ hq)) (act (p.2, [(p.1, true)]) s) (fun i hi => hr i hi _) q hq
      rw [h, act_ne (fun z => np q hq z.symm), act_ne (fun z => fs q (List.mem_cons_of_mem _ hq) p pp z)]
/-- the whole comparison: the wire alone is turned -/
theorem less_whole {C : List Ct} {w : Nat} {ps : List (Nat × Nat)} (A : Apart C w ps) (s : Sb) : run (lessG C w ps ++ unG ps) s = if holds C s && ltB ps s then flp w s else s := by
  rw [run_app]
  obtain ⟨h1, h2⟩ := less_run A s
  obtain ⟨u, hu⟩ : ∃ u, run (lessG C w ps) s = u := ⟨_, rfl⟩
  have hne : ∀ i, i ≠ w → (∀ q ∈ ps, i ≠ q.2) → u i = s i := fun i a b => by rw [← hu]; exact less_ne a b
  rw [hu] at h1 h2 ⊢
  obtain ⟨g1, g2⟩ := un_run A.nd A.fs u
  funext i
  by_cases hi : ∃ p ∈ ps, i = p.2
  · obtain ⟨p, hp, rfl⟩ := hi
    rw [g1 p hp, h1 p hp, hne _ (A.wf p hp).1 (A.fs p hp)]
    have : (s p.2 ^^ s p.1 ^^ s p.1) = s p.2 := by cases s p.1 <;> cases s p.2 <;> rfl
    rw [this]
    split
    · rw [flp, if_neg (A.wf p hp).2]
    · rfl
  · have hi' : ∀ p ∈ ps, i ≠ p.2 := fun p hp z => hi ⟨p, hp, z⟩
    rw [g2 i hi']
    by_cases e : i = w
    · subst e
      rw [h2]
      split
      · rename_i h
        rw [h, flp, if_pos rfl]
        simp
      · rename_i h
        rw [Bool.not_eq_true] at h
        rw [h]
        simp
    · rw [hne i e hi']
      split
      · rw [flp, if_neg e]
      · rfl
theorem lt_val : ∀ (ps : List (Nat × Nat)) (s : Sb), ltB ps s = decide (val (ps.map (·.1)) s < val (ps.map (·.2)) s) ∧ (ps.all fun q => s q.1 == s q.2) = decide (val (ps.map (·.1)) s = val (ps.map (·.2)) s)
  | [], s => ⟨rfl, rfl⟩
  | p :: r, s => by
    obtain ⟨h1, h2⟩ := lt_val r s
    rw [ltB, List.all_cons, h1, h2, List.map_cons, List.map_cons, val, val]
    generalize val (r.map (·.1)) s = a
    generalize val (r.map (·.2)) s = b
    constructor
    · rw [Bool.eq_iff_iff]
      cases s p.1 <;> cases s p.2 <;> simp <;> omega
    · rw [Bool.eq_iff_iff]
      cases s p.1 <;> cases s p.2 <;> simp <;> omega
end My

set_option linter.all false
/-! the bits as a row -/
namespace My
def st (bs : List Bool) : Sb := fun i => bs.getD i false
def actL (g : Gt) (bs : List Bool) : List Bool := if holds g.2 (st bs) then bs.set g.1 (!st bs g.1) else bs
def runL : List Gt → List Bool → List Bool
  | [], s => s
  | g :: r, s => runL r (actL g s)
theorem runL_snoc (a : List Gt) (g : Gt) (bs : List Bool) : runL (a ++ [g]) bs = actL g (runL a bs) := by
  induction a generalizing bs with
  | nil => rfl
  | cons x r ih => exact ih _
theorem actL_len (g : Gt) (bs : List Bool) : (actL g bs).length = bs.length := by
  unfold actL
  split
  · rw [List.length_set]
  · rfl
theorem runL_len (gs : List Gt) (bs : List Bool) : (runL gs bs).length = bs.length := by
  induction gs generalizing bs with
  | nil => rfl
  | cons g r ih => exact (ih _).trans (actL_len _ _)
theorem st_set {bs : List Bool} {t : Nat} {b : Bool} (h : t < bs.length) : st (bs.set t b) = fun i => if i = t then b else st bs i := by
  funext i
  unfold st
  rw [List.getD_eq_getElem?_getD, List.getD_eq_getElem?_getD, List.getElem?_set]
  by_cases e : t = i
  · subst e
    rw [if_pos rfl, if_pos h, if_pos rfl]
    rfl
  · rw [if_neg e, if_neg (fun z => e z.symm)]
theorem st_act {g : Gt} {bs : List Bool} (h : g.1 < bs.length) : st (actL g bs) = act g (st bs) := by
  unfold actL act
  split
  · rw [st_set h]
    rfl
  · rfl
theorem st_run {gs : List Gt} {bs : List Bool} (h : ∀ g ∈ gs, g.1 < bs.length) : st (runL gs bs) = run gs (st bs) := by
  induction gs generalizing bs with
  | nil => rfl
  | cons g r ih =>
    show st (runL r (actL g bs)) = run r (act g (st bs))
    rw [ih fun x hx => by rw [actL_len]; exact h x (List.mem_cons_of_mem _ hx), st_act (h g List.mem_cons_self)]
theorem st_ext {a b : List Bool} (hl : a.length = b.length) (h : st a = st b) : a = b := by
  apply List.ext_getElem? 
  intro i
  have := congrFun h i
  unfold st at this
  rw [List.getD_eq_getElem?_getD, List.getD_eq_getElem?_getD] at this
  by_cases hi : i < a.length
  · rw [List.getElem?_eq_getElem hi, List.getElem?_eq_getElem (hl ▸ hi)] at this ⊢
    exact congrArg some this
  · rw [List.getElem?_eq_none (Nat.le_of_not_lt hi), List.getElem?_eq_none (by omega)]
/-- a number put on the wires -/
def putL : List Nat → Nat → List Bool → List Bool
  | [], _, bs => bs
  | t :: r, n, bs => putL r (n / 2) (bs.set t (n % 2 == 1))
theorem putL_len (ts : List Nat) (n : Nat) (bs : List Bool) : (putL ts n bs).length = bs.length := by
  induction ts generalizing n bs with
  | nil => rfl
  | cons t r ih => exact (ih _ _).trans List.length_set
theorem putL_ne {ts : List Nat} {n : Nat} {bs : List Bool} {i : Nat} (h : i ∉ ts) : st (putL ts n bs) i = st bs i := by
  induction ts generalizing n bs with
  | nil => rfl
  | cons t r ih =>
    rw [putL, ih fun z => h (List.mem_cons_of_mem _ z)]
    unfold st
    rw [List.getD_eq_getElem?_getD, List.getD_eq_getElem?_getD, List.getElem?_set_ne (fun z => h (by rw [← z]; exact List.mem_cons_self))]
theorem putL_val {ts : List Nat} (nd : ts.Nodup) {n : Nat} {bs : List Bool} (h : ∀ t ∈ ts, t < bs.length) : val ts (st (putL ts n bs)) = n % 2 ^ ts.length := by
  induction ts generalizing n bs with
  | nil => rw [val, List.length_nil, Nat.pow_zero, Nat.mod_one]
  | cons t r ih =>
    have ntr := (List.nodup_cons.mp nd).1
    rw [val, putL, putL_ne ntr, st_set (h t List.mem_cons_self), ih (List.nodup_cons.mp nd).2 fun x hx => by rw [List.length_set]; exact h x (List.mem_cons_of_mem _ hx)]
    show (if t = t then n % 2 == 1 else st bs t).toNat + _ = _
    rw [if_pos rfl, List.length_cons, Nat.pow_succ, Nat.mul_comm _ 2, Nat.mod_mul]
    congr 1
    have : n % 2 = 0 ∨ n % 2 = 1 := by omega
    rcases this with e | e <;> rw [e] <;> rfl
theorem putL_uniq {ts : List Nat} (nd : ts.Nodup) {n : Nat} {bs cs : List Bool} (h : ∀ t ∈ ts, t < bs.length) (hl : cs.length = bs.length) (ho : ∀ i, i ∉ ts → st cs i = st bs i) (hv : val ts (st cs) = n % 2 ^ ts.length) : cs = putL ts n bs := by
  refine st_ext (by rw [putL_len, hl]) (funext fun i => ?_)
  by_cases hi : i ∈ ts
  · exact val_inj (hv.trans (putL_val nd h).symm) i hi
  · rw [ho i hi, putL_ne hi]
/-- what the sum's gates do to a row -/
theorem add_row {C : List Ct} {ts ss : List Nat} {gs : List Gt} (hS : Sim (addG C ts ss) gs) {bs : List Bool} (nd : ts.Nodup) (hC : ∀ c ∈ C, c.1 ∉ ts) (hs : ∀ b ∈ ss, b ∉ ts) (hl : ss.length = ts.length) (hb : ∀ t ∈ ts, t < bs.length) :
    runL gs bs = if holds C (st bs) then putL ts ((val ts (st bs) + val ss (st bs)) % 2 ^ ts.length) bs else bs := by
  have hg : ∀ g ∈ gs, g.1 < bs.length := fun g hg => by
    obtain ⟨c, h1, _⟩ := hS.mem (t := g.1) (d := g.2) hg
    exact hb _ (addG_mem h1).1
  have e := st_run hg
  rw [← hS.run] at e
  have v := add_val nd hC hs hl (st bs)
  have ho : ∀ i, i ∉ ts → st (runL gs bs) i = st bs i := fun i hi => by rw [e]; exact add_ne hi
  rw [← e] at v
  split
  · rename_i h
    rw [if_pos h] at v
    exact putL_uniq nd hb (runL_len _ _) ho (by rw [v, Nat.mod_mod])
  · rename_i h
    rw [if_neg h, Nat.add_zero, Nat.mod_eq_of_lt (val_lt _ _)] at v
    refine st_ext (runL_len _ _) (funext fun i => ?_)
    by_cases hi : i ∈ ts
    · exact val_inj v i hi
    · exact ho i hi
theorem less_row {C : List Ct} {w : Nat} {ps : List (Nat × Nat)} {gs : List Gt} (hS : Sim (lessG C w ps ++ unG ps) gs) (A : Apart C w ps) {bs : List Bool} (hw : w < bs.length) (hb : ∀ p ∈ ps, p.2 < bs.length) :
    runL gs bs = if holds C (st bs) && decide (val (ps.map (·.1)) (st bs) < val (ps.map (·.2)) (st bs)) then bs.set w (!st bs w) else bs := by
  have hg : ∀ g ∈ gs, g.1 < bs.length := fun g hg => by
    obtain ⟨c, h1, _⟩ := hS.mem (t := g.1) (d := g.2) hg
    rcases List.mem_append.mp h1 with h1 | h1
    · rcases lessG_mem h1 with ⟨h2, _⟩ | ⟨p, h2, h3⟩
      · have h2 : g.1 = w := h2
        rw [h2]; exact hw
      · have h3 : g.1 = p.2 := congrArg Prod.fst h3
        rw [h3]; exact hb p h2
    · obtain ⟨p, hp, h3⟩ := List.mem_map.mp h1
      have h3 : p.2 = g.1 := congrArg Prod.fst h3
      rw [← h3]; exact hb p hp
  have e := st_run hg
  rw [← hS.run, less_whole A, (lt_val ps _).1] at e
  refine st_ext ?_ ?_
  · rw [runL_len]
    split
    · rw [List.length_set]
    · rfl
  · rw [e]
    split
    · rw [st_set hw]
      rfl
    · rfl
end My

set_option linter.all false
/-! circuits as functions of numbers; tables -/
namespace My
def actN (g : Gt) (x : Nat) : Nat := if holds g.2 x.testBit then x ^^^ 2 ^ g.1 else x
def runN : List Gt → Nat → Nat
  | [], x => x
  | g :: r, x => runN r (actN g x)
theorem runN_app (a b : List Gt) (x : Nat) : runN (a ++ b) x = runN b (runN a x) := by
  induction a generalizing x with
  | nil => rfl
  | cons g r ih => exact ih _
theorem tb_act (g : Gt) (x : Nat) : (actN g x).testBit = act g x.testBit := by
  unfold actN act
  split
  · funext i
    rw [Nat.testBit_xor, Nat.testBit_two_pow]
    unfold flp
    by_cases h : i = g.1
    · rw [h, if_pos rfl, decide_eq_true rfl]
      cases x.testBit g.1 <;> rfl
    · rw [if_neg h, decide_eq_false (fun z => h z.symm)]
      cases x.testBit i <;> rfl
  · rfl
theorem tb_run (gs : List Gt) (x : Nat) : (runN gs x).testBit = run gs x.testBit := by
  induction gs generalizing x with
  | nil => rfl
  | cons g r ih =>
    show (runN r (actN g x)).testBit = run r (act g x.testBit)
    rw [ih, tb_act]
/-- target no control -/
def Apt (g : Gt) : Prop := ∀ c ∈ g.2, c.1 ≠ g.1
theorem act_twice {g : Gt} (h : Apt g) (s : Sb) : act g (act g s) = s := by
  have e : holds g.2 (act g s) = holds g.2 s := holds_eq fun c hc => act_ne (h c hc)
  funext i
  by_cases hi : i = g.1
  · subst hi
    rw [act_eq, act_eq, e]
    cases s g.1 <;> cases holds g.2 s <;> rfl
  · rw [act_ne hi, act_ne hi]
theorem actN_twice {g : Gt} (h : Apt g) (x : Nat) : actN g (actN g x) = x := by
  apply Nat.eq_of_testBit_eq
  intro i
  rw [tb_act, tb_act, act_twice h]
theorem actN_inj {g : Gt} (h : Apt g) {x y : Nat} (e : actN g x = actN g y) : x = y := by
  rw [← actN_twice h x, e, actN_twice h]
theorem run_back {gs : List Gt} (h : ∀ g ∈ gs, Apt g) (x : Nat) : runN gs.reverse (runN gs x) = x := by
  induction gs generalizing x with
  | nil => rfl
  | cons g r ih =>
    rw [List.reverse_cons, runN_app]
    show runN [g] (runN r.reverse (runN r (actN g x))) = x
    rw [ih fun k hk => h k (List.mem_cons_of_mem _ hk)]
    exact actN_twice (h g List.mem_cons_self) x
theorem runN_inj {gs : List Gt} (h : ∀ g ∈ gs, Apt g) {x y : Nat} (e : runN gs x = runN gs y) : x = y := by
  rw [← run_back h x, e, run_back h]
theorem lt_of_bits {x n : Nat} (h : ∀ i, n ≤ i → x.testBit i = false) : x < 2 ^ n := Nat.lt_pow_two_of_testBit x fun i hi => h i hi
theorem actN_lt {g : Gt} {n x : Nat} (h : g.1 < n) (hx : x < 2 ^ n) : actN g x < 2 ^ n := lt_of_bits fun i hi => by
  rw [tb_act, act_ne (by omega), Nat.testBit_lt_two_pow (Nat.lt_of_lt_of_le hx (Nat.pow_le_pow_right (by decide) hi))]
theorem runN_lt {gs : List Gt} {n x : Nat} (h : ∀ g ∈ gs, g.1 < n) (hx : x < 2 ^ n) : runN gs x < 2 ^ n := by
  induction gs generalizing x with
  | nil => exact hx
  | cons g r ih => exact ih (fun k hk => h k (List.mem_cons_of_mem _ hk)) (actN_lt (h g List.mem_cons_self) hx)
/-! ### bits of numbers -/
def bitsL (x n : Nat) : List Bool := (List.range n).map fun i => x.testBit i
theorem bitsL_len (x n : Nat) : (bitsL x n).length = n := by rw [bitsL, List.length_map, List.length_range]
theorem bitsL_succ (x n : Nat) : bitsL x (n + 1) = bitsL x n ++ [x.testBit n] := by
  unfold bitsL
  rw [List.range_succ, List.map_append]
  rfl
theorem st_bits {x n : Nat} (h : x < 2 ^ n) : st (bitsL x n) = x.testBit := by
  funext i
  unfold st bitsL
  rw [List.getD_eq_getElem?_getD, List.getElem?_map]
  by_cases hi : i < n
  · rw [List.getElem?_range hi]
    rfl
  · rw [List.getElem?_eq_none (by rw [List.length_range]; omega), Nat.testBit_lt_two_pow (Nat.lt_of_lt_of_le h (Nat.pow_le_pow_right (by decide) (by omega)))]
    rfl
theorem runL_bits {gs : List Gt} {n x : Nat} (h : ∀ g ∈ gs, g.1 < n) (hx : x < 2 ^ n) : runL gs (bitsL x n) = bitsL (runN gs x) n := by
  refine st_ext (by rw [runL_len, bitsL_len, bitsL_len]) ?_
  rw [st_run (by rw [bitsL_len]; exact h), st_bits hx, st_bits (runN_lt h hx), tb_run]
def valB : List Bool → Nat
  | [] => 0
  | b :: r => b.toNat + 2 * valB r
theorem valB_snoc (a : List Bool) (b : Bool) : valB (a ++ [b]) = valB a + b.toNat * 2 ^ a.length := by
  induction a with
  | nil => simp [valB]
  | cons x r ih =>
    rw [List.cons_append, valB, valB, ih, List.length_cons, Nat.pow_succ, Nat.mul_add, Nat.add_assoc]
    congr 2
    rw [← Nat.mul_assoc, Nat.mul_comm 2, Nat.mul_assoc, Nat.mul_comm 2]
theorem valB_bits (x n : Nat) : valB (bitsL x n) = x % 2 ^ n := by
  induction n with
  | zero => rw [Nat.pow_zero, Nat.mod_one]; rfl
  | succ n ih => rw [bitsL_succ, valB_snoc, ih, bitsL_len, Nat.toNat_testBit, Nat.mod_pow_succ, Nat.mul_comm]
/-! ### masks -/
def maskS (f : Ct → Bool) (cs : List Ct) : Nat := (cs.map fun c => (f c).toNat * 2 ^ c.1).sum
theorem tb_add {L c i : Nat} (h : L < 2 ^ c) : (L + 2 ^ c).testBit i = (L.testBit i || (c == i)) := by
  rw [Nat.add_comm]
  rcases Nat.lt_trichotomy i c with hi | hi | hi
  · rw [Nat.testBit_two_pow_add_gt hi]
    have : (c == i) = false := by rw [beq_eq_false_iff_ne]; omega
    rw [this, Bool.or_false]
  · subst hi
    rw [Nat.testBit_two_pow_add_eq, Nat.testBit_lt_two_pow h]
    simp
  · have e1 : L.testBit i = false := Nat.testBit_lt_two_pow (Nat.lt_of_lt_of_le h (Nat.pow_le_pow_right (by decide) (by omega)))
    have e2 : (2 ^ c + L).testBit i = false := Nat.testBit_lt_two_pow (Nat.lt_of_lt_of_le (by omega : 2 ^ c + L < 2 ^ c * 2) (by rw [← Nat.pow_succ]; exact Nat.pow_le_pow_right (by decide) (by omega)))
    rw [e1, e2]
    have : (c == i) = false := by rw [beq_eq_false_iff_ne]; omega
    rw [this]
    rfl
theorem tb_mask (f : Ct → Bool) : ∀ (cs : List Ct) (k L : Nat), L < 2 ^ k → (∀ c ∈ cs, k ≤ c.1) → (cs.map (·.1)).Pairwise (· < ·) → ∀ i, (L + maskS f cs).testBit i = (L.testBit i || cs.any fun c => c.1 == i && f c)
  | [], k, L, _, _, _, i => by simp [maskS]
  | c :: r, k, L, hL, hk, hp, i => by
    have h1 := List.pairwise_cons.mp hp
    have hc : k ≤ c.1 := hk c List.mem_cons_self
    have hr : ∀ x ∈ r, c.1 + 1 ≤ x.1 := fun x hx => h1.1 _ (List.mem_map_of_mem hx)
    have hLc : L < 2 ^ c.1 := Nat.lt_of_lt_of_le hL (Nat.pow_le_pow_right (by decide) hc)
    have e : L + maskS f (c :: r) = (L + (f c).toNat * 2 ^ c.1) + maskS f r := by
      unfold maskS
      rw [List.map_cons, List.sum_cons, Nat.add_assoc]
    rw [e, List.any_cons]
    cases hf : f c with
    | false =>
      rw [show (false.toNat * 2 ^ c.1) = 0 from Nat.zero_mul _, Nat.add_zero, tb_mask f r (c.1 + 1) L (Nat.lt_of_lt_of_le hLc (Nat.pow_le_pow_right (by decide) (by omega))) hr h1.2, Bool.and_false, Bool.false_or]
    | true =>
      rw [show (true.toNat * 2 ^ c.1) = 2 ^ c.1 from Nat.one_mul _, tb_mask f r (c.1 + 1) (L + 2 ^ c.1) (by rw [Nat.pow_succ]; omega) hr h1.2, tb_add hLc, Bool.and_true, Bool.or_assoc]
theorem mask_holds {cs : List Ct} (hp : (cs.map (·.1)).Pairwise (· < ·)) (x : Nat) : decide (x &&& maskS (fun _ => true) cs = maskS (·.2) cs) = holds cs x.testBit := by
  have t1 := fun i => tb_mask (fun _ => true) cs 0 0 (by decide) (fun _ _ => Nat.zero_le _) hp i
  have t2 := fun i => tb_mask (·.2) cs 0 0 (by decide) (fun _ _ => Nat.zero_le _) hp i
  simp only [Nat.zero_add, Nat.zero_testBit, Bool.false_or, Bool.and_true] at t1 t2
  rw [Bool.eq_iff_iff, decide_eq_true_iff]
  unfold holds
  rw [List.all_eq_true]
  have uniq : ∀ c ∈ cs, ∀ d ∈ cs, c.1 = d.1 → c = d := fun c hc d hd e => by
    obtain ⟨i, hi, rfl⟩ := List.getElem_of_mem hc
    obtain ⟨j, hj, rfl⟩ := List.getElem_of_mem hd
    have P := List.pairwise_iff_getElem.mp hp
    rcases Nat.lt_trichotomy i j with h | h | h
    · have := P i j (by rw [List.length_map]; exact hi) (by rw [List.length_map]; exact hj) h
      rw [List.getElem_map, List.getElem_map] at this
      omega
    · subst h; rfl
    · have := P j i (by rw [List.length_map]; exact hj) (by rw [List.length_map]; exact hi) h
      rw [List.getElem_map, List.getElem_map] at this
      omega
  constructor
  · intro e c hc
    have b := congrArg (fun z => Nat.testBit z c.1) e
    simp only [Nat.testBit_and, t1, t2] at b
    have a1 : (cs.any fun d => d.1 == c.1) = true := List.any_eq_true.mpr ⟨c, hc, by simp⟩
    have a2 : (cs.any fun d => d.1 == c.1 && d.2) = c.2 := by
      rw [Bool.eq_iff_iff, List.any_eq_true]
      constructor
      · rintro ⟨d, hd, h⟩
        rw [Bool.and_eq_true, beq_iff_eq] at h
        rw [← uniq d hd c hc h.1]
        exact h.2
      · intro h
        exact ⟨c, hc, by simp [h]⟩
    rw [a1, a2, Bool.and_true] at b
    rw [b]
    simp
  · intro h
    apply Nat.eq_of_testBit_eq
    intro i
    rw [Nat.testBit_and, t1, t2]
    rw [Bool.eq_iff_iff, Bool.and_eq_true, List.any_eq_true, List.any_eq_true]
    constructor
    · rintro ⟨hx, c, hc, e⟩
      rw [beq_iff_eq] at e
      have := h c hc
      rw [beq_iff_eq, e, hx] at this
      exact ⟨c, hc, by simp [e, ← this]⟩
    · rintro ⟨c, hc, e⟩
      rw [Bool.and_eq_true, beq_iff_eq] at e
      have := h c hc
      rw [beq_iff_eq, e.1, e.2] at this
      exact ⟨this, c, hc, by simp [e.1]⟩
end My

set_option linter.all false
/-! circuits for tables -/
namespace My
def ones (m n : Nat) : List Ct := ((List.range n).filter fun i => m.testBit i).map fun i => (i, true)
theorem ones_mem {m n : Nat} {c : Ct} (h : c ∈ ones m n) : c.1 < n ∧ m.testBit c.1 = true ∧ c.2 = true := by
  obtain ⟨i, hi, rfl⟩ := List.mem_map.mp h
  obtain ⟨h1, h2⟩ := List.mem_filter.mp hi
  exact ⟨List.mem_range.mp h1, h2, rfl⟩
theorem ones_fst (m n : Nat) : (ones m n).map (·.1) = (List.range n).filter fun i => m.testBit i := by
  unfold ones
  rw [List.map_map]
  exact List.map_id _
theorem ones_up (m n : Nat) : ((ones m n).map (·.1)).Pairwise (· < ·) := by
  rw [ones_fst]
  exact List.pairwise_lt_range.sublist (List.filter_sublist ..)
theorem ones_holds {m n x : Nat} (h : m < 2 ^ n) : holds (ones m n) x.testBit = decide (x &&& m = m) := by
  unfold holds
  rw [Bool.eq_iff_iff, List.all_eq_true, decide_eq_true_iff]
  constructor
  · intro g
    apply Nat.eq_of_testBit_eq
    intro i
    rw [Nat.testBit_and]
    cases e : m.testBit i with
    | false => rw [Bool.and_false]
    | true =>
      have hi : i < n := by
        rcases Nat.lt_or_ge i n with h1 | h1
        · exact h1
        · rw [Nat.testBit_lt_two_pow (Nat.lt_of_lt_of_le h (Nat.pow_le_pow_right (by decide) h1))] at e
          cases e
      have := g (i, true) (List.mem_map.mpr ⟨i, List.mem_filter.mpr ⟨List.mem_range.mpr hi, e⟩, rfl⟩)
      rw [beq_iff_eq] at this
      rw [this]
      rfl
  · intro g c hc
    obtain ⟨_, h1, h2⟩ := ones_mem hc
    have := congrArg (fun z => Nat.testBit z c.1) g
    simp only [Nat.testBit_and, h1, Bool.and_true] at this
    rw [this, h2]
    rfl
/-- the state: the images and the gates that were found -/
abbrev SS := List Nat × List Gt
def put (g : Gt) (s : SS) : SS := (s.1.map (actN g), s.2 ++ [g])
def stA (n k b : Nat) (s : SS) : SS := if k.testBit b && !(s.1.getD k 0).testBit b then put (b, ones (s.1.getD k 0) n) s else s
def stB (n k b : Nat) (s : SS) : SS := if (s.1.getD k 0).testBit b && !k.testBit b then put (b, ones k n) s else s
def itr (f : Nat → SS → SS) : Nat → SS → SS
  | 0, s => s
  | b + 1, s => f b (itr f b s)
def stK (n k : Nat) (s : SS) : SS := itr (stB n k) n (itr (stA n k) n s)
def syn (n : Nat) (row : List Nat) : SS := itr (stK n) (2 ^ n) (row, [])
/-- what always holds -/
structure Tb (n : Nat) (row : List Nat) (s : SS) : Prop where
  im : s.1 = row.map (runN s.2)
  nd : s.1.Nodup
  lt : ∀ x ∈ s.1, x < 2 ^ n
  ln : s.1.length = 2 ^ n
  ap : ∀ g ∈ s.2, Apt g ∧ g.1 < n ∧ (∀ c ∈ g.2, c.1 < n) ∧ (g.2.map (·.1)).Pairwise (· < ·) ∧ g.2.length ≤ n
theorem ones_len (m n : Nat) : (ones m n).length ≤ n := by
  unfold ones
  rw [List.length_map]
  refine Nat.le_trans (List.length_filter_le ..) ?_
  rw [List.length_range]
  exact Nat.le_refl _
theorem nodup_map {f : Nat → Nat} (h : ∀ x y, f x = f y → x = y) {l : List Nat} (nd : l.Nodup) : (l.map f).Nodup := List.pairwise_map.mpr (nd.imp fun hab e => hab (h _ _ e))
theorem Tb.put {n b m : Nat} {row : List Nat} {s : SS} (T : Tb n row s) (hb : b < n) (hm : m.testBit b = false) : Tb n row (put (b, ones m n) s) := by
  have A : Apt (b, ones m n) := fun c hc e => by
    obtain ⟨_, h1, _⟩ := ones_mem hc
    have e : c.1 = b := e
    rw [e, hm] at h1
    cases h1
  refine ⟨?_, nodup_map (fun x y e => actN_inj A e) T.nd, fun x hx => ?_, ?_, fun g hg => ?_⟩
  · show s.1.map _ = row.map (runN (s.2 ++ [(b, ones m n)]))
    rw [T.im, List.map_map]
    refine List.map_congr_left fun x _ => ?_
    rw [runN_app]
    rfl
  · obtain ⟨y, hy, rfl⟩ := List.mem_map.mp hx
    exact actN_lt hb (T.lt y hy)
  · show (s.1.map _).length = _
    rw [List.length_map, T.ln]
  · rcases List.mem_append.mp hg with h | h
    · exact T.ap g h
    · rw [List.mem_singleton.mp h]
      exact ⟨A, hb, fun c hc => (ones_mem hc).1, ones_up m n, ones_len m n⟩
/-- below k the images are in place -/
def Done (k : Nat) (s : SS) : Prop := ∀ j, j < k → s.1.getD j 0 = j
theorem getD_map {f : Nat → Nat} {l : List Nat} {j : Nat} (h : j < l.length) : (l.map f).getD j 0 = f (l.getD j 0) := by
  rw [List.getD_eq_getElem?_getD, List.getD_eq_getElem?_getD, List.getElem?_map, List.getElem?_eq_getElem h]
  rfl
theorem Tb.big {n k : Nat} {row : List Nat} {s : SS} (T : Tb n row s) (D : Done k s) (hk : k < 2 ^ n) : k ≤ s.1.getD k 0 := by
  rcases Nat.lt_or_ge (s.1.getD k 0) k with h | h
  · exfalso
    have hkl : k < s.1.length := by rw [T.ln]; exact hk
    have e := D _ h
    obtain ⟨v, hv⟩ : ∃ v, s.1.getD k 0 = v := ⟨_, rfl⟩
    rw [hv] at e h
    have hvl : v < s.1.length := by omega
    rw [List.getD_eq_getElem?_getD, List.getElem?_eq_getElem hkl] at hv
    rw [List.getD_eq_getElem?_getD, List.getElem?_eq_getElem hvl] at e
    have hv : s.1[k] = v := hv
    have e : s.1[v] = v := e
    have := (List.getElem_inj (h₀ := hkl) (h₁ := hvl) T.nd).mp (hv.trans e.symm)
    omega
  · exact h
theorem act_ones {m n b x : Nat} (hm : m < 2 ^ n) : actN (b, ones m n) x = if x &&& m = m then x ^^^ 2 ^ b else x := by
  unfold actN
  rw [ones_holds hm]
  by_cases h : x &&& m = m
  · rw [decide_eq_true h, if_pos rfl, if_pos h]
  · rw [decide_eq_false h, if_neg Bool.false_ne_true, if_neg h]
theorem sub_le {x m : Nat} (h : x &&& m = m) : m ≤ x := by
  rw [← h]
  exact Nat.and_le_left
theorem Tb.lt' {n k : Nat} {row : List Nat} {s : SS} (T : Tb n row s) (hk : k < 2 ^ n) : s.1.getD k 0 < 2 ^ n := by
  have h : k < s.1.length := by rw [T.ln]; exact hk
  rw [List.getD_eq_getElem?_getD, List.getElem?_eq_getElem h]
  exact T.lt _ (List.getElem_mem h)
/-- one more bit of k is in the image -/
theorem stepA {n k b : Nat} {row : List Nat} {s : SS} (T : Tb n row s) (D : Done k s) (hk : k < 2 ^ n) (hb : b < n) (h : ∀ i, i < b → k.testBit i = true → (s.1.getD k 0).testBit i = true) :
    Tb n row (stA n k b s) ∧ Done k (stA n k b s) ∧ ∀ i, i < b + 1 → k.testBit i = true → ((stA n k b s).1.getD k 0).testBit i = true := by
  unfold stA
  have hkl : k < s.1.length := by rw [T.ln]; exact hk
  split
  · rename_i e
    rw [Bool.and_eq_true, Bool.not_eq_true'] at e
    have hv := T.lt' hk
    have big := T.big D hk
    obtain ⟨v, ev⟩ : ∃ v, s.1.getD k 0 = v := ⟨_, rfl⟩
    rw [ev] at e hv big h ⊢
    refine ⟨T.put hb e.2, fun j hj => ?_, fun i hi hki => ?_⟩
    · have hjl : j < s.1.length := by omega
      rw [put, getD_map hjl, D j hj, act_ones hv, if_neg]
      intro z
      have := sub_le z
      omega
    · rw [put, getD_map hkl, ev, act_ones hv, if_pos (Nat.and_self v), Nat.testBit_xor, Nat.testBit_two_pow]
      by_cases hib : b = i
      · subst hib
        rw [e.2, decide_eq_true rfl]
        rfl
      · rw [decide_eq_false hib, h i (by omega) hki]
        rfl
  · rename_i e
    refine ⟨T, D, fun i hi hki => ?_⟩
    by_cases hib : i = b
    · subst hib
      rw [hki] at e
      revert e
      cases (s.1.getD k 0).testBit i <;> simp
    · exact h i (by omega) hki
/-- one more bit that k lacks is gone -/
theorem stepB {n k b : Nat} {row : List Nat} {s : SS} (T : Tb n row s) (D : Done k s) (hk : k < 2 ^ n) (hb : b < n) (hs : ∀ i, k.testBit i = true → (s.1.getD k 0).testBit i = true) (h : ∀ i, i < b → k.testBit i = false → (s.1.getD k 0).testBit i = false) :
    Tb n row (stB n k b s) ∧ Done k (stB n k b s) ∧ (∀ i, k.testBit i = true → ((stB n k b s).1.getD k 0).testBit i = true) ∧ ∀ i, i < b + 1 → k.testBit i = false → ((stB n k b s).1.getD k 0).testBit i = false := by
  unfold stB
  have hkl : k < s.1.length := by rw [T.ln]; exact hk
  split
  · rename_i e
    rw [Bool.and_eq_true, Bool.not_eq_true'] at e
    obtain ⟨v, ev⟩ : ∃ v, s.1.getD k 0 = v := ⟨_, rfl⟩
    rw [ev] at e hs h
    have hsub : v &&& k = k := by
      apply Nat.eq_of_testBit_eq
      intro i
      rw [Nat.testBit_and]
      cases ek : k.testBit i with
      | false => rw [Bool.and_false]
      | true => rw [hs i ek]; rfl
    refine ⟨T.put hb e.2, fun j hj => ?_, fun i hki => ?_, fun i hi hki => ?_⟩
    · have hjl : j < s.1.length := by omega
      rw [put, getD_map hjl, D j hj, act_ones hk, if_neg]
      intro z
      have := sub_le z
      omega
    · rw [put, getD_map hkl, ev, act_ones hk, if_pos hsub, Nat.testBit_xor, Nat.testBit_two_pow, hs i hki, decide_eq_false]
      · rfl
      · intro z
        rw [z, hki] at e
        cases e.2
    · rw [put, getD_map hkl, ev, act_ones hk, if_pos hsub, Nat.testBit_xor, Nat.testBit_two_pow]
      by_cases hib : b = i
      · subst hib
        rw [e.1, decide_eq_true rfl]
        rfl
      · rw [decide_eq_false hib, h i (by omega) hki]
        rfl
  · rename_i e
    refine ⟨T, D, hs, fun i hi hki => ?_⟩
    by_cases hib : i = b
    · subst hib
      rw [hki] at e
      revert e
      cases (s.1.getD k 0).testBit i <;> simp
    · exact h i (by omega) hki
theorem itA {n k : Nat} {row : List Nat} {s : SS} (T : Tb n row s) (D : Done k s) (hk : k < 2 ^ n) : ∀ b, b ≤ n → Tb n row (itr (stA n k) b s) ∧ Done k (itr (stA n k) b s) ∧ ∀ i, i < b → k.testBit i = true → ((itr (stA n k) b s).1.getD k 0).testBit i = true
  | 0, _ => ⟨T, D, fun _ h => absurd h (Nat.not_lt_zero _)⟩
  | b + 1, h => let ⟨h1, h2, h3⟩ := itA T D hk b (by omega); stepA h1 h2 hk (by omega) h3
theorem itB {n k : Nat} {row : List Nat} {s : SS} (T : Tb n row s) (D : Done k s) (hk : k < 2 ^ n) (hs : ∀ i, k.testBit i = true → (s.1.getD k 0).testBit i = true) : ∀ b, b ≤ n → Tb n row (itr (stB n k) b s) ∧ Done k (itr (stB n k) b s) ∧ (∀ i, k.testBit i = true → ((itr (stB n k) b s).1.getD k 0).testBit i = true) ∧ ∀ i, i < b → k.testBit i = false → ((itr (stB n k) b s).1.getD k 0).testBit i = false
  | 0, _ => ⟨T, D, hs, fun _ h => absurd h (Nat.not_lt_zero _)⟩
  | b + 1, h => let ⟨h1, h2, h3, h4⟩ := itB T D hk hs b (by omega); stepB h1 h2 hk (by omega) h3 h4
theorem bit_lt {k n i : Nat} (hk : k < 2 ^ n) (h : k.testBit i = true) : i < n := by
  rcases Nat.lt_or_ge i n with h1 | h1
  · exact h1
  · rw [Nat.testBit_lt_two_pow (Nat.lt_of_lt_of_le hk (Nat.pow_le_pow_right (by decide) h1))] at h
    cases h
theorem stepK {n k : Nat} {row : List Nat} {s : SS} (T : Tb n row s) (D : Done k s) (hk : k < 2 ^ n) : Tb n row (stK n k s) ∧ Done (k + 1) (stK n k s) := by
  obtain ⟨h1, h2, h3⟩ := itA T D hk n (Nat.le_refl _)
  obtain ⟨g1, g2, g3, g4⟩ := itB h1 h2 hk (fun i hi => h3 i (bit_lt hk hi) hi) n (Nat.le_refl _)
  refine ⟨g1, fun j hj => ?_⟩
  rcases Nat.lt_or_ge j k with h | h
  · exact g2 j h
  · have e : j = k := by omega
    subst e
    apply Nat.eq_of_testBit_eq
    intro i
    cases ek : j.testBit i with
    | true => exact g3 i ek
    | false =>
      rcases Nat.lt_or_ge i n with h1 | h1
      · exact g4 i h1 ek
      · exact Nat.testBit_lt_two_pow (Nat.lt_of_lt_of_le (g1.lt' hk) (Nat.pow_le_pow_right (by decide) h1))
theorem synK {n : Nat} {row : List Nat} (T : Tb n row (row, [])) : ∀ k, k ≤ 2 ^ n → Tb n row (itr (stK n) k (row, [])) ∧ Done k (itr (stK n) k (row, []))
  | 0, _ => ⟨T, fun _ h => absurd h (Nat.not_lt_zero _)⟩
  | k + 1, h => let ⟨h1, h2⟩ := synK T k (by omega); stepK h1 h2 (by omega)
theorem tb_begin {n : Nat} {row : List Nat} (nd : row.Nodup) (lt : ∀ x ∈ row, x < 2 ^ n) (ln : row.length = 2 ^ n) : Tb n row (row, []) := ⟨(List.map_id' row).symm, nd, lt, ln, fun _ h => nomatch h⟩
/-- the circuit has the row as its table -/
theorem syn_table {n : Nat} {row : List Nat} (nd : row.Nodup) (lt : ∀ x ∈ row, x < 2 ^ n) (ln : row.length = 2 ^ n) : (List.range (2 ^ n)).map (runN (syn n row).2.reverse) = row := by
  obtain ⟨h1, h2⟩ := synK (tb_begin nd lt ln) (2 ^ n) (Nat.le_refl _)
  have e : (syn n row).1 = List.range (2 ^ n) := by
    apply List.ext_getElem (by rw [List.length_range]; exact h1.ln)
    intro i hi hj
    have hi2 : i < 2 ^ n := by rw [List.length_range] at hj; exact hj
    have := h2 i hi2
    rw [List.getD_eq_getElem?_getD, List.getElem?_eq_getElem (by rw [h1.ln]; exact hi2)] at this
    rw [List.getElem_range]
    exact this
  have im : (syn n row).1 = row.map (runN (syn n row).2) := h1.im
  rw [← e, im, List.map_map]
  refine (List.map_congr_left fun x _ => ?_).trans (List.map_id' row)
  exact run_back (fun g hg => (h1.ap g hg).1) x
end My

set_option linter.all false
/-! circuits: the way back, other wires, sizes, layers -/
namespace My
theorem sx_ext {a b : List Bool} (hl : a.length = b.length) (h : ∀ i, i < a.length → st a i = st b i) : a = b := by
  refine List.ext_getElem hl fun i h1 h2 => ?_
  have := h i h1
  unfold st at this
  rw [List.getD_eq_getElem?_getD, List.getD_eq_getElem?_getD, List.getElem?_eq_getElem h1, List.getElem?_eq_getElem h2] at this
  exact this
theorem sx_set {a : List Bool} {i j : Nat} {b : Bool} (hi : i < a.length) : st (a.set i b) j = if j = i then b else st a j := by
  unfold st
  rw [List.getD_eq_getElem?_getD, List.getD_eq_getElem?_getD]
  by_cases e : j = i
  · rw [if_pos e, e, List.getElem?_set_self hi]
    rfl
  · rw [if_neg e, List.getElem?_set_ne (fun z => e z.symm)]
theorem sx_act {g : Gt} {bs : List Bool} (hg : g.1 < bs.length) (j : Nat) : st (actL g bs) j = if j = g.1 ∧ holds g.2 (st bs) = true then !st bs g.1 else st bs j := by
  unfold actL
  by_cases h : holds g.2 (st bs) = true
  · rw [if_pos h, sx_set hg]
    by_cases e : j = g.1
    · rw [if_pos e, if_pos ⟨e, h⟩]
    · rw [if_neg e, if_neg fun z => e z.1]
  · rw [if_neg h, if_neg fun z => h z.2]
theorem act_act {g : Gt} {bs : List Bool} (ha : Apt g) (hg : g.1 < bs.length) : actL g (actL g bs) = bs := by
  have hh : holds g.2 (st (actL g bs)) = holds g.2 (st bs) := holds_eq fun c hc => by
    rw [sx_act hg, if_neg fun z => ha c hc z.1]
  refine sx_ext (by rw [actL_len, actL_len]) fun i _ => ?_
  have hg2 : g.1 < (actL g bs).length := by rw [actL_len]; exact hg
  rw [sx_act hg2, hh, sx_act hg, sx_act hg]
  by_cases h : holds g.2 (st bs) = true
  · by_cases e : i = g.1
    · simp [e, h]
    · simp [e]
  · simp [h]
theorem runL_app (a b : List Gt) (bs : List Bool) : runL (a ++ b) bs = runL b (runL a bs) := by
  induction a generalizing bs with
  | nil => rfl
  | cons g r ih => exact ih _
/-- the inverse leads back -/
theorem runL_back {gs : List Gt} {bs : List Bool} (ha : ∀ g ∈ gs, Apt g ∧ g.1 < bs.length) : runL gs.reverse (runL gs bs) = bs := by
  induction gs generalizing bs with
  | nil => rfl
  | cons g r ih =>
    rw [List.reverse_cons, runL_app]
    show actL g (runL r.reverse (runL r (actL g bs))) = bs
    rw [ih (fun x hx => by rw [actL_len]; exact ha x (List.mem_cons_of_mem _ hx)), act_act (ha g (List.mem_cons_self ..)).1 (ha g (List.mem_cons_self ..)).2]
/-- wide with bs on the places ps, the first k of them -/
def setN (ps : List Nat) (bs w : List Bool) : Nat → List Bool
  | 0 => w
  | k + 1 => (setN ps bs w k).set (ps.getD k 0) (st bs k)
theorem setN_len (ps : List Nat) (bs w : List Bool) : ∀ k, (setN ps bs w k).length = w.length
  | 0 => rfl
  | k + 1 => by rw [setN, List.length_set, setN_len ps bs w k]
theorem nodup_get {ps : List Nat} (nd : ps.Nodup) {i j : Nat} (hi : i < ps.length) (hj : j < ps.length) (h : ps.getD i 0 = ps.getD j 0) : i = j := by
  rw [List.getD_eq_getElem?_getD, List.getD_eq_getElem?_getD, List.getElem?_eq_getElem hi, List.getElem?_eq_getElem hj] at h
  have h : ps[i] = ps[j] := h
  rcases Nat.lt_trichotomy i j with l | e | l
  · exact absurd h (List.pairwise_iff_getElem.mp nd i j hi hj l)
  · exact e
  · exact absurd h.symm (List.pairwise_iff_getElem.mp nd j i hj hi l)
theorem setN_in {ps : List Nat} {bs w : List Bool} (nd : ps.Nodup) (hp : ∀ p ∈ ps, p < w.length) : ∀ k, k ≤ ps.length → ∀ j, j < k → st (setN ps bs w k) (ps.getD j 0) = st bs j
  | 0, _, j, hj => absurd hj (Nat.not_lt_zero _)
  | k + 1, hk, j, hj => by
    have hk2 : ps.getD k 0 < (setN ps bs w k).length := by
      rw [setN_len, List.getD_eq_getElem?_getD, List.getElem?_eq_getElem (by omega)]
      exact hp _ (List.getElem_mem (by omega))
    rw [setN, sx_set hk2]
    by_cases e : ps.getD j 0 = ps.getD k 0
    · rw [if_pos e, nodup_get nd (by omega) (by omega) e]
    · rw [if_neg e]
      refine setN_in nd hp k (by omega) j ?_
      rcases Nat.lt_or_ge j k with h | h
      · exact h
      · exact absurd (by rw [show j = k from by omega]) e
theorem setN_out {ps : List Nat} {bs w : List Bool} (hp : ∀ p ∈ ps, p < w.length) : ∀ k, k ≤ ps.length → ∀ i, i ∉ ps → st (setN ps bs w k) i = st w i
  | 0, _, i, hi => rfl
  | k + 1, hk, i, hi => by
    have hm : ps.getD k 0 ∈ ps := by
      rw [List.getD_eq_getElem?_getD, List.getElem?_eq_getElem (by omega)]
      exact List.getElem_mem (by omega)
    have hk2 : ps.getD k 0 < (setN ps bs w k).length := by
      rw [setN_len]
      exact hp _ hm
    rw [setN, sx_set hk2, if_neg (fun z => hi (by rw [z]; exact hm)), setN_out hp k (by omega) i hi]
/-- the gate on other wires -/
def MvG (ps : List Nat) (g g' : Gt) : Prop := g'.1 = ps.getD g.1 0 ∧ (g.2.map fun c => (ps.getD c.1 0, c.2)).Perm g'.2 ∧ (g'.2.map (·.1)).Pairwise (· < ·)
inductive All2 {α β : Type} (R : α → β → Prop) : List α → List β → Prop
  | nil : All2 R [] []
  | cons {a : α} {b : β} {as : List α} {bs : List β} : R a b → All2 R as bs → All2 R (a :: as) (b :: bs)
theorem All2.len {α β : Type} {R : α → β → Prop} : ∀ {as : List α} {bs : List β}, All2 R as bs → as.length = bs.length
  | _, _, .nil => rfl
  | _, _, .cons h g => congrArg (· + 1) g.len
theorem All2.snoc {α β : Type} {R : α → β → Prop} : ∀ {as : List α} {bs : List β} {a : α} {b : β}, All2 R as bs → R a b → All2 R (as ++ [a]) (bs ++ [b])
  | _, _, _, _, .nil, h => .cons h .nil
  | _, _, _, _, .cons h g, k => .cons h (g.snoc k)
theorem All2.mem {α β : Type} {R : α → β → Prop} : ∀ {as : List α} {bs : List β}, All2 R as bs → ∀ b ∈ bs, ∃ a ∈ as, R a b
  | _, _, .nil, b, h => nomatch h
  | _, _, .cons h g, b, m => by
    rcases List.mem_cons.mp m with e | m
    · exact ⟨_, List.mem_cons_self .., by rw [e]; exact h⟩
    · obtain ⟨a, h1, h2⟩ := g.mem b m
      exact ⟨a, List.mem_cons_of_mem _ h1, h2⟩
/-- W lies as bs on the places -/
def Lies (ps : List Nat) (bs W : List Bool) : Prop := ∀ k, k < ps.length → st W (ps.getD k 0) = st bs k
theorem lies_act {ps : List Nat} {bs W : List Bool} {g g' : Gt} (nd : ps.Nodup) (hp : ∀ p ∈ ps, p < W.length) (hl : bs.length = ps.length) (m : MvG ps g g') (hi : g.1 < bs.length ∧ ∀ c ∈ g.2, c.1 < bs.length) (h : Lies ps bs W) :
    Lies ps (actL g bs) (actL g' W) ∧ ∀ i, i ∉ ps → st (actL g' W) i = st W i := by
  obtain ⟨m1, m2, _⟩ := m
  have mem : ∀ k, k < ps.length → ps.getD k 0 ∈ ps := fun k hk => by
    rw [List.getD_eq_getElem?_getD, List.getElem?_eq_getElem hk]
    exact List.getElem_mem hk
  have hh : holds g'.2 (st W) = holds g.2 (st bs) := by
    rw [← holds_perm m2 (st W)]
    unfold holds
    rw [List.all_map, Bool.eq_iff_iff, List.all_eq_true, List.all_eq_true]
    constructor
    · intro z c hc
      have := z c hc
      simp only [Function.comp] at this
      rw [h c.1 (by rw [← hl]; exact hi.2 c hc)] at this
      exact this
    · intro z c hc
      have := z c hc
      simp only [Function.comp]
      rw [h c.1 (by rw [← hl]; exact hi.2 c hc)]
      exact this
  have hg1 : g.1 < ps.length := by rw [← hl]; exact hi.1
  have hg' : g'.1 < W.length := by rw [m1]; exact hp _ (mem _ hg1)
  constructor
  · intro k hk
    rw [sx_act hg', sx_act hi.1, hh]
    by_cases e : k = g.1
    · rw [e, m1, h g.1 hg1]
      by_cases h2 : holds g.2 (st bs) = true
      · rw [if_pos ⟨rfl, h2⟩, if_pos ⟨rfl, h2⟩]
      · rw [if_neg fun z => h2 z.2, if_neg fun z => h2 z.2]
    · rw [if_neg fun z => e (nodup_get nd hk hg1 (z.1.trans m1)), if_neg fun z => e z.1]
      exact h k hk
  · intro i hi2
    rw [sx_act hg', if_neg fun z => hi2 (by rw [z.1, m1]; exact mem _ hg1)]
theorem lies_run {ps : List Nat} (nd : ps.Nodup) : ∀ {gs gs' : List Gt} {bs W : List Bool}, All2 (MvG ps) gs gs' → (∀ p ∈ ps, p < W.length) → bs.length = ps.length → (∀ g ∈ gs, g.1 < bs.length ∧ ∀ c ∈ g.2, c.1 < bs.length) → Lies ps bs W →
    Lies ps (runL gs bs) (runL gs' W) ∧ ∀ i, i ∉ ps → st (runL gs' W) i = st W i
  | _, _, _, _, .nil, _, _, _, h => ⟨h, fun _ _ => rfl⟩
  | g :: gs, g' :: gs', bs, W, .cons m r, hp, hl, hi, h => by
    obtain ⟨a, b⟩ := lies_act nd hp hl m (hi g (List.mem_cons_self ..)) h
    obtain ⟨c, d⟩ := lies_run nd (bs := actL g bs) (W := actL g' W) r (by rw [actL_len]; exact hp) (by rw [actL_len]; exact hl) (fun x hx => by rw [actL_len]; exact hi x (List.mem_cons_of_mem _ hx)) a
    exact ⟨c, fun i hi2 => (d i hi2).trans (b i hi2)⟩
/-- the moved circuit does the same on the places and leaves the others -/
theorem moved_run {ps : List Nat} {gs gs' : List Gt} {bs w : List Bool} (nd : ps.Nodup) (hp : ∀ p ∈ ps, p < w.length) (m : All2 (MvG ps) gs gs') (hl : bs.length = ps.length) (hi : ∀ g ∈ gs, g.1 < bs.length ∧ ∀ c ∈ g.2, c.1 < bs.length) :
    runL gs' (setN ps bs w ps.length) = setN ps (runL gs bs) (setN ps bs w ps.length) ps.length := by
  have hp2 : ∀ p ∈ ps, p < (setN ps bs w ps.length).length := by rw [setN_len]; exact hp
  obtain ⟨a, b⟩ := lies_run nd m hp2 hl hi (fun k hk => setN_in nd hp ps.length (Nat.le_refl _) k hk)
  refine sx_ext (by rw [runL_len, setN_len ps (runL gs bs)]) fun i hi2 => ?_
  by_cases e : i ∈ ps
  · obtain ⟨k, hk, rfl⟩ := List.getElem_of_mem e
    have e1 : ps.getD k 0 = ps[k] := by rw [List.getD_eq_getElem?_getD, List.getElem?_eq_getElem hk]; rfl
    rw [← e1, a k hk, setN_in nd hp2 ps.length (Nat.le_refl _) k hk]
  · rw [b i e, setN_out hp2 ps.length (Nat.le_refl _) i e]
theorem mv_nodup {ps : List Nat} {cs : List Ct} (nd : ps.Nodup) (up : (cs.map (·.1)).Pairwise (· < ·)) (h : ∀ c ∈ cs, c.1 < ps.length) : ((cs.map fun c => (ps.getD c.1 0, c.2)).map (·.1)).Nodup := by
  rw [List.map_map]
  have up2 := List.pairwise_map.mp up
  refine List.pairwise_map.mpr (up2.imp_of_mem fun {a b} ha hb lt e => ?_)
  have := nodup_get nd (h a ha) (h b hb) e
  omega
/-! ### dicts of ints -/
def getI (l : List (Int × Int)) (k : Int) : Option Int := (l.find? fun p => decide (p.1 = k)).map (·.2)
def putI (l : List (Int × Int)) (k v : Int) : List (Int × Int) := if (l.any fun p => decide (p.1 = k)) = true then l.map (fun p => if p.1 = k then (p.1, v) else p) else l ++ [(k, v)]
theorem getI_mem {l : List (Int × Int)} (nd : (l.map (·.1)).Nodup) {k v : Int} : (k, v) ∈ l ↔ getI l k = some v := by
  induction l with
  | nil => simp [getI]
  | cons p r ih =>
    rw [List.map_cons, List.nodup_cons] at nd
    have ih := ih nd.2
    unfold getI at ih ⊢
    rw [List.find?_cons]
    by_cases e : p.1 = k
    · simp only [e, decide_true]
      constructor
      · intro h
        rcases List.mem_cons.mp h with h | h
        · rw [← h]; rfl
        · exact absurd (List.mem_map.mpr ⟨_, h, e.symm⟩) nd.1
      · intro h
        have h : p.2 = v := Option.some.inj h
        exact List.mem_cons.mpr (.inl (by rw [← e, ← h]))
    · simp only [e, decide_false]
      rw [← ih]
      constructor
      · intro h
        rcases List.mem_cons.mp h with h | h
        · exact absurd (by rw [← h]) e
        · exact h
      · exact List.mem_cons_of_mem _
theorem putI_keys (l : List (Int × Int)) (k v : Int) : (putI l k v).map (·.1) = if k ∈ l.map (·.1) then l.map (·.1) else l.map (·.1) ++ [k] := by
  unfold putI
  have e : (l.any fun p => decide (p.1 = k)) = true ↔ k ∈ l.map (·.1) := by
    rw [List.any_eq_true, List.mem_map]
    constructor
    · rintro ⟨p, h1, h2⟩
      exact ⟨p, h1, of_decide_eq_true h2⟩
    · rintro ⟨p, h1, h2⟩
      exact ⟨p, h1, decide_eq_true h2⟩
  by_cases h : k ∈ l.map (·.1)
  · rw [if_pos h, if_pos (e.mpr h), List.map_map]
    refine List.map_congr_left fun p _ => ?_
    simp only [Function.comp]
    split <;> rfl
  · rw [if_neg h, if_neg fun z => h (e.mp z), List.map_append]
    rfl
theorem putI_nodup {l : List (Int × Int)} (nd : (l.map (·.1)).Nodup) (k v : Int) : ((putI l k v).map (·.1)).Nodup := by
  rw [putI_keys]
  by_cases h : k ∈ l.map (·.1)
  · rw [if_pos h]; exact nd
  · rw [if_neg h]
    refine List.nodup_append.mpr ⟨nd, List.nodup_cons.mpr ⟨by simp, .nil⟩, fun a ha b hb z => ?_⟩
    rw [List.mem_singleton.mp hb] at z
    exact h (by rw [← z]; exact ha)
theorem getI_none {l : List (Int × Int)} {k : Int} : getI l k = none ↔ k ∉ l.map (·.1) := by
  unfold getI
  rw [Option.map_eq_none_iff, List.find?_eq_none]
  constructor
  · intro h z
    obtain ⟨p, h1, h2⟩ := List.mem_map.mp z
    exact h p h1 (decide_eq_true h2)
  · intro h p hp z
    exact h (List.mem_map.mpr ⟨p, hp, of_decide_eq_true z⟩)
theorem getI_map (l : List (Int × Int)) (k v j : Int) : getI (l.map fun p => if p.1 = k then (p.1, v) else p) j = if j = k then (getI l j).map (fun _ => v) else getI l j := by
  induction l with
  | nil => unfold getI; split <;> rfl
  | cons p r ih =>
    unfold getI at ih ⊢
    rw [List.map_cons, List.find?_cons, List.find?_cons]
    by_cases e : p.1 = k
    · rw [if_pos e]
      by_cases e2 : p.1 = j
      · have e3 : j = k := e2.symm.trans e
        simp [e2, e3]
      · have e3 : ¬ j = k := fun z => e2 (e.trans z.symm)
        simp only [e2, decide_false]
        rw [ih]
    · rw [if_neg e]
      by_cases e2 : p.1 = j
      · have e3 : ¬ j = k := fun z => e (e2.trans z)
        simp [e2, e3]
      · simp only [e2, decide_false]
        rw [ih]
theorem getI_put (l : List (Int × Int)) (k v j : Int) : getI (putI l k v) j = if j = k then some v else getI l j := by
  unfold putI
  by_cases h : (l.any fun p => decide (p.1 = k)) = true
  · rw [if_pos h, getI_map]
    by_cases e : j = k
    · rw [if_pos e, if_pos e]
      have : getI l j ≠ none := fun z => by
        rw [getI_none] at z
        obtain ⟨p, h1, h2⟩ := List.any_eq_true.mp h
        exact z (List.mem_map.mpr ⟨p, h1, (of_decide_eq_true h2).trans e.symm⟩)
      obtain ⟨x, hx⟩ := Option.ne_none_iff_exists'.mp this
      rw [hx]
      rfl
    · rw [if_neg e, if_neg e]
  · rw [if_neg h]
    unfold getI
    rw [List.find?_append]
    by_cases e : j = k
    · rw [if_pos e]
      have : (l.find? fun p => decide (p.1 = j)) = none := List.find?_eq_none.mpr fun p hp z => h (List.any_eq_true.mpr ⟨p, hp, decide_eq_true ((of_decide_eq_true z).trans e)⟩)
      rw [this, e]
      simp
    · rw [if_neg e]
      have : ([(k, v)].find? fun p => decide (p.1 = j)) = none := by
        rw [List.find?_cons]
        have e2 : ¬ k = j := fun z => e z.symm
        simp [e2]
      rw [this]
      simp
/-! ### sorted lists -/
theorem asc_ext {a b : List Int} (ha : a.Pairwise (· < ·)) (hb : b.Pairwise (· < ·)) (h : ∀ x, x ∈ a ↔ x ∈ b) : a = b := by
  induction a generalizing b with
  | nil =>
    cases b with
    | nil => rfl
    | cons y r => exact nomatch (h y).mpr (List.mem_cons_self ..)
  | cons x r ih =>
    cases b with
    | nil => exact nomatch (h x).mp (List.mem_cons_self ..)
    | cons y s =>
      have ha' := List.pairwise_cons.mp ha
      have hb' := List.pairwise_cons.mp hb
      have e : x = y := by
        rcases List.mem_cons.mp ((h x).mp (List.mem_cons_self ..)) with e | e
        · exact e
        · rcases List.mem_cons.mp ((h y).mpr (List.mem_cons_self ..)) with e2 | e2
          · exact e2.symm
          · have := hb'.1 x e
            have := ha'.1 y e2
            omega
      subst e
      rw [ih ha'.2 hb'.2 fun z => ?_]
      constructor
      · intro hz
        rcases List.mem_cons.mp ((h z).mp (List.mem_cons_of_mem _ hz)) with e | e
        · have := ha'.1 z hz
          omega
        · exact e
      · intro hz
        rcases List.mem_cons.mp ((h z).mpr (List.mem_cons_of_mem _ hz)) with e | e
        · have := hb'.1 z hz
          omega
        · exact e
/-- how often each number stands -/
def cntD : List Int → List (Int × Int)
  | xs => xs.foldl (fun l x => putI l x ((getI l x).getD 0 + 1)) []
theorem cntD_snoc (xs : List Int) (x : Int) : cntD (xs ++ [x]) = putI (cntD xs) x ((getI (cntD xs) x).getD 0 + 1) := by
  unfold cntD
  rw [List.foldl_append]
  rfl
def CntOk (l : List (Int × Int)) (xs : List Int) : Prop := (l.map (·.1)).Nodup ∧ ∀ k, getI l k = if k ∈ xs then some (xs.count k : Int) else none
theorem CntOk.snoc {l : List (Int × Int)} {xs : List Int} (h : CntOk l xs) (x : Int) : CntOk (putI l x ((getI l x).getD 0 + 1)) (xs ++ [x]) := by
    obtain ⟨nd, g⟩ := h
    refine ⟨putI_nodup nd _ _, fun k => ?_⟩
    rw [getI_put, g x]
    by_cases e : k = x
    · rw [if_pos e, if_pos (show k ∈ xs ++ [x] from List.mem_append_right _ (by rw [e]; exact List.mem_singleton.mpr rfl)), e, List.count_append]
      by_cases m : x ∈ xs
      · simp [m]
      · simp [m, List.count_eq_zero_of_not_mem m]
    · rw [if_neg e, g k, List.count_append]
      have e2 : ¬ x = k := fun z => e z.symm
      by_cases m : k ∈ xs
      · simp [m, e2]
      · simp [m, e]
theorem cntOk_fold : ∀ (ys : List Int) (l : List (Int × Int)) (xs : List Int), CntOk l xs → CntOk (ys.foldl (fun l x => putI l x ((getI l x).getD 0 + 1)) l) (xs ++ ys)
  | [], l, xs, h => by rw [List.append_nil]; exact h
  | y :: r, l, xs, h => by
    have := cntOk_fold r _ _ (h.snoc y)
    rw [List.append_assoc] at this
    exact this
theorem cntD_get (xs : List Int) : ((cntD xs).map (·.1)).Nodup ∧ ∀ k, getI (cntD xs) k = if k ∈ xs then some (xs.count k : Int) else none := cntOk_fold xs [] [] ⟨.nil, fun k => rfl⟩
/-- the pairs in order are those of the sizes in order -/
theorem cnt_sorted {xs : List Int} {qs : List (Int × Int)} {ns : List Int} (hq : qs.Perm (cntD xs)) (up : qs.Pairwise fun a b => a.1 ≤ b.1) (hn : ns.Pairwise (· < ·)) (hm : ∀ k, k ∈ ns ↔ k ∈ xs) : qs = ns.map fun k => (k, (xs.count k : Int)) := by
  obtain ⟨nd, g⟩ := cntD_get xs
  have mem : ∀ q : Int × Int, q ∈ qs ↔ q.1 ∈ xs ∧ q.2 = (xs.count q.1 : Int) := fun q => by
    rw [hq.mem_iff, show q = (q.1, q.2) from rfl, getI_mem nd, g]
    by_cases m : q.1 ∈ xs
    · simp [m, eq_comm]
    · simp [m]
  have nd2 : (qs.map (·.1)).Nodup := ((hq.map _).nodup_iff).mpr nd
  have up2 : (qs.map (·.1)).Pairwise (· < ·) := by
    have u : (qs.map (·.1)).Pairwise (· ≤ ·) := List.pairwise_map.mpr up
    exact (u.and nd2).imp fun ⟨a, b⟩ => by omega
  have e : qs.map (·.1) = ns := asc_ext up2 hn fun k => by
    rw [hm k, List.mem_map]
    constructor
    · rintro ⟨q, h1, rfl⟩
      exact ((mem q).mp h1).1
    · intro h
      exact ⟨(k, (xs.count k : Int)), (mem _).mpr ⟨h, rfl⟩, rfl⟩
  rw [← e, List.map_map]
  conv => lhs; rw [← List.map_id qs]
  refine List.map_congr_left fun q hq2 => ?_
  show q = (q.1, _)
  rw [← ((mem q).mp hq2).2]
/-! ### layers -/
/-- Ls: the layers; D: for each wire the last layer that it is in, from 1 on -/
structure Lay (Ls : List (List Nat)) (D : Nat → Nat) : Prop where
  up : ∀ w j L, Ls[j]? = some L → w ∈ L → j + 1 ≤ D w
  at_ : ∀ w, D w = 0 ∨ ∃ L, Ls[D w - 1]? = some L ∧ w ∈ L
  ne : ∀ L ∈ Ls, L ≠ []
theorem Lay.top {Ls : List (List Nat)} {D : Nat → Nat} (h : Lay Ls D) {own : List Nat} {a m : Nat} (above : ∀ j L, a ≤ j → Ls[j]? = some L → ∀ w ∈ own, w ∉ L) (at0 : a = 0 ∨ ∃ L, Ls[a - 1]? = some L ∧ ∃ w ∈ own, w ∈ L)
    (hm : ∃ w ∈ own, m = D w) (hx : ∀ w ∈ own, D w ≤ m) : m = a := by
  obtain ⟨w, hw, rfl⟩ := hm
  rcases Nat.lt_trichotomy (D w) a with lt | e | gt
  · rcases at0 with z | ⟨L, h1, w2, h2, h3⟩
    · omega
    · have := h.up w2 _ L h1 h3
      have := hx w2 h2
      omega
  · exact e
  · rcases h.at_ w with z | ⟨L, h1, h2⟩
    · omega
    · exact absurd h2 (above _ L (by omega) h1 w hw)
/-- a gate more -/
def laid (Ls : List (List Nat)) (own : List Nat) (a : Nat) : List (List Nat) := if a = Ls.length then Ls ++ [own] else Ls.set a (Ls.getD a [] ++ own)
theorem Lay.step {Ls : List (List Nat)} {D : Nat → Nat} (h : Lay Ls D) {own : List Nat} {a : Nat} (ha : a ≤ Ls.length) (no : own ≠ []) (hx : ∀ w ∈ own, D w ≤ a) : Lay (laid Ls own a) (fun w => if w ∈ own then a + 1 else D w) := by
  have get : ∀ j, (laid Ls own a)[j]? = if j = a then some (Ls.getD a [] ++ own) else Ls[j]? := fun j => by
    unfold laid
    by_cases e : a = Ls.length
    · rw [if_pos e]
      by_cases e2 : j = a
      · rw [if_pos e2, e2, e, List.getElem?_append_right (Nat.le_refl _)]
        simp
      · rw [if_neg e2]
        rcases Nat.lt_or_ge j Ls.length with l | l
        · rw [List.getElem?_append_left l]
        · rw [List.getElem?_eq_none (by simp; omega), List.getElem?_eq_none l]
    · rw [if_neg e]
      by_cases e2 : j = a
      · rw [if_pos e2, e2, List.getElem?_set_self (by omega)]
      · rw [if_neg e2, List.getElem?_set_ne (fun z => e2 z.symm)]
  have old : ∀ (w : Nat), w ∈ Ls.getD a [] → Ls[a]? = some (Ls.getD a []) := fun w hw => by
    rw [List.getD_eq_getElem?_getD] at hw ⊢
    cases e : Ls[a]? with
    | none => rw [e] at hw; exact nomatch hw
    | some L => rfl
  refine ⟨fun w j L hj hw => ?_, fun w => ?_, fun L hL => ?_⟩
  · rw [get] at hj
    by_cases e : j = a
    · rw [if_pos e] at hj
      cases hj
      by_cases hwo : w ∈ own
      · simp only [hwo, if_true]; omega
      · simp only [hwo, if_false]
        rcases List.mem_append.mp hw with h1 | h1
        · rw [e]
          exact h.up w a _ (old w h1) h1
        · exact absurd h1 hwo
    · rw [if_neg e] at hj
      have := h.up w j L hj hw
      by_cases hwo : w ∈ own
      · have := hx w hwo
        simp only [hwo, if_true]; omega
      · simp only [hwo, if_false]; exact this
  · by_cases hwo : w ∈ own
    · refine .inr ⟨_, ?_, List.mem_append_right (Ls.getD a []) hwo⟩
      simp only [hwo, if_true]
      rw [get, if_pos (by omega)]
    · simp only [hwo, if_false]
      rcases h.at_ w with z | ⟨L, h1, h2⟩
      · exact .inl z
      · by_cases e : D w - 1 = a
        · refine .inr ⟨Ls.getD a [] ++ own, by rw [get, if_pos e], List.mem_append_left _ ?_⟩
          rw [e] at h1
          rw [List.getD_eq_getElem?_getD, h1]
          exact h2
        · exact .inr ⟨L, by rw [get, if_neg e]; exact h1, h2⟩
  · obtain ⟨j, hj, e⟩ := List.getElem_of_mem hL
    have hj2 : (laid Ls own a)[j]? = some L := by rw [List.getElem?_eq_getElem hj, e]
    rw [get] at hj2
    by_cases e2 : j = a
    · rw [if_pos e2] at hj2
      cases hj2
      intro z
      exact no (List.append_eq_nil_iff.mp z).2
    · rw [if_neg e2] at hj2
      exact h.ne L (List.mem_of_getElem? hj2)
/-- the greatest of the wires' last layers is the number of layers -/
theorem Lay.max {Ls : List (List Nat)} {D : Nat → Nat} (h : Lay Ls D) : (∀ w, D w ≤ Ls.length) ∧ (Ls ≠ [] → ∃ w, D w = Ls.length) := by
  have le : ∀ w, D w ≤ Ls.length := fun w => by
    rcases h.at_ w with z | ⟨L, h1, _⟩
    · omega
    · have := (List.getElem?_eq_some_iff.mp h1).1
      omega
  refine ⟨le, fun ne => ?_⟩
  have hl : 0 < Ls.length := List.length_pos_iff.mpr ne
  have g : Ls[Ls.length - 1]? = some Ls[Ls.length - 1] := List.getElem?_eq_getElem (by omega)
  obtain ⟨w, hw⟩ := List.exists_mem_of_ne_nil _ (h.ne _ (List.mem_of_getElem? g))
  have := h.up w _ _ g hw
  have := le w
  exact ⟨w, by omega⟩
end My
namespace My
theorem putI_len (l : List (Int × Int)) (k v : Int) : (putI l k v).length ≤ l.length + 1 := by
  unfold putI
  split
  · rw [List.length_map]; omega
  · rw [List.length_append, List.length_singleton]; omega
def wiresN (g : Gt) : List Nat := g.1 :: g.2.map (·.1)
def mx (D : Nat → Nat) : List Nat → Nat
  | [] => 0
  | w :: r => max (D w) (mx D r)
theorem mx_ok (D : Nat → Nat) : ∀ own : List Nat, (own ≠ [] → ∃ w ∈ own, mx D own = D w) ∧ ∀ w ∈ own, D w ≤ mx D own
  | [] => ⟨fun h => absurd rfl h, fun _ h => nomatch h⟩
  | w :: r => by
    obtain ⟨a, b⟩ := mx_ok D r
    refine ⟨fun _ => ?_, fun x hx => ?_⟩
    · by_cases e : mx D r ≤ D w
      · exact ⟨w, List.mem_cons_self .., Nat.max_eq_left e⟩
      · cases r with
        | nil => exact absurd (Nat.zero_le _) e
        | cons y s =>
          obtain ⟨z, h1, h2⟩ := a (by simp)
          exact ⟨z, List.mem_cons_of_mem _ h1, by show max (D w) (mx D (y :: s)) = _; rw [Nat.max_eq_right (by omega)]; exact h2⟩
    · show D x ≤ max (D w) (mx D r)
      rcases List.mem_cons.mp hx with e | h
      · rw [e]; exact Nat.le_max_left _ _
      · exact Nat.le_trans (b x h) (Nat.le_max_right _ _)
def stepL (s : List (List Nat) × (Nat → Nat)) (g : Gt) : List (List Nat) × (Nat → Nat) := (laid s.1 (wiresN g) (mx s.2 (wiresN g)), fun w => if w ∈ wiresN g then mx s.2 (wiresN g) + 1 else s.2 w)
def lay (gs : List Gt) : List (List Nat) × (Nat → Nat) := gs.foldl stepL ([], fun _ => 0)
theorem lay_snoc (gs : List Gt) (g : Gt) : lay (gs ++ [g]) = stepL (lay gs) g := by
  unfold lay
  rw [List.foldl_append]
  rfl
theorem Lay.step2 {s : List (List Nat) × (Nat → Nat)} (h : Lay s.1 s.2) (g : Gt) : Lay (stepL s g).1 (stepL s g).2 := by
  obtain ⟨a, b⟩ := mx_ok s.2 (wiresN g)
  obtain ⟨w, h1, h2⟩ := a (by simp [wiresN])
  exact h.step (by rw [h2]; exact h.max.1 w) (by simp [wiresN]) b
theorem lay_fold : ∀ (gs : List Gt) (s : List (List Nat) × (Nat → Nat)), Lay s.1 s.2 → Lay (gs.foldl stepL s).1 (gs.foldl stepL s).2
  | [], _, h => h
  | g :: r, s, h => lay_fold r _ (h.step2 g)
theorem lay_ok (gs : List Gt) : Lay (lay gs).1 (lay gs).2 := lay_fold gs _ ⟨fun w j L h => by simp at h, fun w => .inl rfl, fun L h => nomatch h⟩
/-- the dict of the wires' last layers -/
structure DepOk (l : List (Int × Int)) (D : Nat → Nat) : Prop where
  nd : (l.map (·.1)).Nodup
  nn : ∀ p ∈ l, 0 ≤ p.1
  get : ∀ w : Nat, (getI l (w : Int)).getD 0 = (D w : Int)
theorem putI_mem {l : List (Int × Int)} {k v : Int} {p : Int × Int} (h : p ∈ putI l k v) : p.1 = k ∨ p ∈ l := by
  unfold putI at h
  split at h
  · obtain ⟨q, h1, h2⟩ := List.mem_map.mp h
    by_cases e : q.1 = k
    · rw [if_pos e] at h2
      exact .inl (by rw [← h2]; exact e)
    · rw [if_neg e] at h2
      exact .inr (by rw [← h2]; exact h1)
  · rcases List.mem_append.mp h with h | h
    · exact .inr h
    · exact .inl (by rw [List.mem_singleton.mp h])
theorem DepOk.put {l : List (Int × Int)} {D : Nat → Nat} (h : DepOk l D) (w m : Nat) : DepOk (putI l w m) (fun x => if x = w then m else D x) := by
  refine ⟨putI_nodup h.nd _ _, fun p hp => ?_, fun x => ?_⟩
  · rcases putI_mem hp with e | h2
    · omega
    · exact h.nn p h2
  · rw [getI_put]
    by_cases e : x = w
    · rw [if_pos (by rw [e]), if_pos e]
      rfl
    · rw [if_neg (fun z => e (by omega)), if_neg e]
      exact h.get x
/-- the greatest last layer, 0 without wires -/
theorem dep_max {l : List (Int × Int)} {Ls : List (List Nat)} {D : Nat → Nat} (h : DepOk l D) (hl : Lay Ls D) : (l = [] → Ls.length = 0) ∧ ∀ m, m ∈ l.map (·.2) → (∀ y, y ∈ l.map (·.2) → y ≤ m) → m = (Ls.length : Int) := by
  obtain ⟨le, top⟩ := hl.max
  refine ⟨fun e => ?_, fun m hm hx => ?_⟩
  · by_cases z : Ls = []
    · rw [z]; rfl
    · obtain ⟨w, hw⟩ := top z
      have := h.get w
      rw [e] at this
      have h0 : (0 : Int) = (D w : Int) := this
      omega
  · obtain ⟨⟨k, v⟩, h1, rfl⟩ := List.mem_map.mp hm
    have hk := h.nn _ h1
    obtain ⟨n, rfl⟩ : ∃ n : Nat, k = (n : Int) := ⟨k.toNat, by have : 0 ≤ k := hk; omega⟩
    have g1 := (getI_mem h.nd).mp h1
    have g2 := h.get n
    rw [g1] at g2
    have g2 : v = (D n : Int) := g2
    have l1 := le n
    by_cases z : Ls = []
    · have : Ls.length = 0 := by rw [z]; rfl
      show v = _
      omega
    · obtain ⟨w, hw⟩ := top z
      have pos : 0 < Ls.length := List.length_pos_iff.mpr z
      have g3 := h.get w
      cases e : getI l (w : Int) with
      | none =>
        rw [e] at g3
        have g3 : (0 : Int) = (D w : Int) := g3
        omega
      | some y =>
        rw [e] at g3
        have g3 : y = (D w : Int) := g3
        have := hx y (List.mem_map.mpr ⟨_, (getI_mem h.nd).mpr e, rfl⟩)
        show v = _
        have this : y ≤ v := this
        omega
theorem laid_lens {Ls : List (List Nat)} {own : List Nat} {a b : Nat} (h : ∀ L ∈ Ls, L.length ≤ b) : ∀ L ∈ laid Ls own a, L.length ≤ b + own.length := fun L hL => by
  unfold laid at hL
  split at hL
  · rcases List.mem_append.mp hL with h1 | h1
    · have := h L h1; omega
    · rw [List.mem_singleton.mp h1]; omega
  · rcases List.mem_or_eq_of_mem_set hL with h1 | h1
    · have := h L h1; omega
    · rw [h1, List.length_append, List.getD_eq_getElem?_getD]
      cases e : Ls[a]? with
      | none =>
        show List.length ([] : List Nat) + _ ≤ _
        rw [List.length_nil]
        omega
      | some x =>
        have := h x (List.mem_of_getElem? e)
        show List.length x + _ ≤ _
        omega
theorem lay_lens {gs : List Gt} (h : ∀ g ∈ gs, (wiresN g).length ≤ 11) : ∀ L ∈ (lay gs).1, L.length ≤ 11 * gs.length := by
  have : ∀ (gs : List Gt) (s : List (List Nat) × (Nat → Nat)) (b : Nat), (∀ g ∈ gs, (wiresN g).length ≤ 11) → (∀ L ∈ s.1, L.length ≤ b) → ∀ L ∈ (gs.foldl stepL s).1, L.length ≤ b + 11 * gs.length := fun gs => by
    induction gs with
    | nil => exact fun s b _ h L hL => by have := h L hL; simpa using this
    | cons g r ih =>
      intro s b hg hs L hL
      have := ih (stepL s g) (b + (wiresN g).length) (fun x hx => hg x (List.mem_cons_of_mem _ hx)) (laid_lens hs) L hL
      have h2 := hg g (List.mem_cons_self ..)
      rw [List.length_cons]
      omega
  intro L hL
  have := this gs ([], fun _ => 0) 0 h (fun L h => nomatch h) L hL
  omega
/-- the places drawn on: from one to the next, round -/
def nextP (m p : Nat) : Nat := if p + 1 = m then 0 else p + 1
def farP (m q p : Nat) : Nat := if p ≤ q then q - p else q + m - p
theorem nextP_lt {m p : Nat} (h : p < m) : nextP m p < m := by
  unfold nextP
  split <;> omega
theorem farP_less {m q p : Nat} (hp : p < m) (hq : q < m) (ne : p ≠ q) : farP m q (nextP m p) < farP m q p := by
  unfold farP nextP
  split <;> split <;> split <;> omega
theorem free_place : ∀ (m : Nat) (ps : List Nat), ps.length < m → ∃ q, q < m ∧ q ∉ ps
  | 0, _, h => absurd h (Nat.not_lt_zero _)
  | m + 1, ps, h => by
    by_cases hm : m ∈ ps
    · have l : (ps.erase m).length = ps.length - 1 := by rw [List.length_erase_of_mem hm]
      have pos : 0 < ps.length := List.length_pos_of_mem hm
      obtain ⟨q, h1, h2⟩ := free_place m (ps.erase m) (by omega)
      exact ⟨q, by omega, fun z => h2 ((List.mem_erase_of_ne (by omega)).mpr z)⟩
    · exact ⟨m, Nat.lt_succ_self _, hm⟩
theorem next_mod {m p : Nat} (h : p < m) : (((p : Int) + 1).fmod (m : Int)) = (nextP m p : Int) := by
  rw [Int.fmod_eq_emod_of_nonneg _ (by omega)]
  unfold nextP
  by_cases e : p + 1 = m
  · rw [if_pos e, show (p : Int) + 1 = (m : Int) by omega, Int.emod_self]
    rfl
  · rw [if_neg e, Int.emod_eq_of_lt (by omega) (by omega)]
    omega
end My

set_option linter.all false
/-! steps on circuits: what they do to the map -/
namespace My
theorem holds_iff {cs : List Ct} {s : Sb} : holds cs s = true ↔ ∀ c ∈ cs, s c.1 = c.2 := by
  unfold holds
  rw [List.all_eq_true]
  exact ⟨fun h c hc => by simpa using h c hc, fun h c hc => by simpa using h c hc⟩
theorem bool_ext {a b : Bool} (h : a = true ↔ b = true) : a = b := by
  cases a <;> cases b <;> simp at h <;> rfl
/-- a gate with its controls in order, its target not among them -/
def Gd (g : Gt) : Prop := (g.2.map (·.1)).Pairwise (· < ·) ∧ Apt g
theorem asc_fn {cs : List Ct} (h : (cs.map (·.1)).Pairwise (· < ·)) {c d : Ct} (hc : c ∈ cs) (hd : d ∈ cs) (e : c.1 = d.1) : c = d := by
  obtain ⟨i, hi, ei⟩ := List.getElem_of_mem hc
  obtain ⟨j, hj, ej⟩ := List.getElem_of_mem hd
  have p := List.pairwise_iff_getElem.mp h
  rcases Nat.lt_trichotomy i j with l | l | l
  · have := p i j (by simpa using hi) (by simpa using hj) l
    rw [List.getElem_map, List.getElem_map, ei, ej] at this
    omega
  · subst l
    rw [← ei, ← ej]
  · have := p j i (by simpa using hj) (by simpa using hi) l
    rw [List.getElem_map, List.getElem_map, ei, ej] at this
    omega
/-- two lists in order with the same members are one -/
theorem asc_eq : ∀ {a b : List Ct}, (a.map (·.1)).Pairwise (· < ·) → (b.map (·.1)).Pairwise (· < ·) → (∀ c, c ∈ a ↔ c ∈ b) → a = b
  | [], [], _, _, _ => rfl
  | [], y :: r, _, _, h => nomatch (h y).mpr (List.mem_cons_self ..)
  | x :: r, [], _, _, h => nomatch (h x).mp (List.mem_cons_self ..)
  | x :: r, y :: q, ha, hb, h => by
    rw [List.map_cons] at ha hb
    have ha' := List.pairwise_cons.mp ha
    have hb' := List.pairwise_cons.mp hb
    have lx : ∀ c ∈ r, x.1 < c.1 := fun c hc => ha'.1 _ (List.mem_map.mpr ⟨c, hc, rfl⟩)
    have ly : ∀ c ∈ q, y.1 < c.1 := fun c hc => hb'.1 _ (List.mem_map.mpr ⟨c, hc, rfl⟩)
    have e : x = y := by
      rcases List.mem_cons.mp ((h x).mp (List.mem_cons_self ..)) with e | e
      · exact e
      · rcases List.mem_cons.mp ((h y).mpr (List.mem_cons_self ..)) with e2 | e2
        · exact e2.symm
        · have := lx y e2
          have := ly x e
          omega
    subst e
    rw [asc_eq ha'.2 hb'.2 fun c => ?_]
    constructor
    · intro hc
      rcases List.mem_cons.mp ((h c).mp (List.mem_cons_of_mem _ hc)) with e | e
      · have := lx c hc
        rw [e] at this
        omega
      · exact e
    · intro hc
      rcases List.mem_cons.mp ((h c).mpr (List.mem_cons_of_mem _ hc)) with e | e
      · have := ly c hc
        rw [e] at this
        omega
      · exact e
/-! ### exchange -/
def opp (cs ds : List Ct) : Bool := cs.any fun c => ds.any fun d => d.1 == c.1 && d.2 != c.2
theorem opp_iff {cs ds : List Ct} : opp cs ds = true ↔ ∃ c ∈ cs, ∃ d ∈ ds, d.1 = c.1 ∧ d.2 ≠ c.2 := by
  unfold opp
  simp only [List.any_eq_true, Bool.and_eq_true, beq_iff_eq, bne_iff_ne]
def freeP (g h : Gt) : Bool := (decide (g.1 ∉ h.2.map (·.1)) && decide (h.1 ∉ g.2.map (·.1))) || opp g.2 h.2
theorem holds_act {cs : List Ct} {g : Gt} (h : g.1 ∉ cs.map (·.1)) (s : Sb) : holds cs (act g s) = holds cs s := holds_eq fun c hc => act_ne fun e => h (List.mem_map.mpr ⟨c, hc, e⟩)
theorem apt_not {g : Gt} (h : Apt g) : g.1 ∉ g.2.map (·.1) := fun z => by
  obtain ⟨c, hc, e⟩ := List.mem_map.mp z
  exact h c hc e
theorem act_at (g : Gt) (s : Sb) (i : Nat) : act g s i = (s i ^^ (decide (i = g.1) && holds g.2 s)) := by
  by_cases e : i = g.1
  · rw [e, act_eq]; simp
  · rw [act_ne e]; simp [e]
theorem exchange_same {g h : Gt} (ag : Apt g) (ah : Apt h) (f : freeP g h = true) (s : Sb) : act h (act g s) = act g (act h s) := by
  unfold freeP at f
  rcases Bool.or_eq_true_iff.mp f with f | f
  · obtain ⟨f1, f2⟩ := (Bool.and_eq_true _ _).mp f
    have f1 := of_decide_eq_true f1
    have f2 := of_decide_eq_true f2
    funext i
    rw [act_at h, act_at g s i, act_at g, act_at h s i, holds_act f1, holds_act f2]
    cases s i <;> cases decide (i = g.1) <;> cases decide (i = h.1) <;> cases holds g.2 s <;> cases holds h.2 s <;> rfl
  · obtain ⟨c, hc, d, hd, e1, e2⟩ := opp_iff.mp f
    have n1 : c.1 ≠ g.1 := ag c hc
    have n2 : c.1 ≠ h.1 := by rw [← e1]; exact ah d hd
    have no : ∀ s : Sb, holds g.2 s = true → holds h.2 s = true → False := fun s a b => by
      have a := holds_iff.mp a c hc
      have b := holds_iff.mp b d hd
      rw [e1] at b
      exact e2 (b.symm.trans a)
    have no1 : holds g.2 s = true → holds h.2 (act g s) = false := fun a => by
      cases b : holds h.2 (act g s) with
      | false => rfl
      | true =>
        have a := holds_iff.mp a c hc
        have b := holds_iff.mp b d hd
        rw [e1, act_ne n1] at b
        exact absurd (b.symm.trans a) e2
    have no2 : holds h.2 s = true → holds g.2 (act h s) = false := fun b => by
      cases a : holds g.2 (act h s) with
      | false => rfl
      | true =>
        have a := holds_iff.mp a c hc
        have b := holds_iff.mp b d hd
        rw [act_ne n2] at a
        rw [e1] at b
        exact absurd (b.symm.trans a) e2
    have idle : ∀ (k : Gt) (s : Sb), holds k.2 s = false → act k s = s := fun k s e => by unfold act; rw [e]; rfl
    cases a : holds g.2 s with
    | true =>
      rw [idle h _ (no1 a)]
      cases b : holds h.2 s with
      | true => exact (no s a b).elim
      | false => rw [idle h s b]
    | false =>
      rw [idle g s a]
      cases b : holds h.2 s with
      | true => rw [idle g _ (no2 b)]
      | false => rw [idle h s b, idle g s a]
/-! ### merge -/
def leftP (cs ds : List Ct) : List Ct := cs.filter fun c => decide (c ∉ ds)
def flipP (e : Ct) (cs : List Ct) : List Ct := cs.map fun c => if c = e then (c.1, !c.2) else c
def mergeP (g h : Gt) : Option Gt :=
  if g.1 ≠ h.1 then none else
  match leftP g.2 h.2, leftP h.2 g.2 with
  | [c], [d] => if c.1 = d.1 then some (g.1, g.2.filter fun c => decide (c ∈ h.2)) else none
  | [c], [] => some (g.1, flipP c g.2)
  | [], [d] => some (g.1, flipP d h.2)
  | _, _ => none
theorem mem_left {cs ds : List Ct} {c : Ct} : c ∈ leftP cs ds ↔ c ∈ cs ∧ c ∉ ds := by
  unfold leftP
  rw [List.mem_filter, decide_eq_true_iff]
/-- cs is ds with one more control -/
theorem flip_holds {cs ds : List Ct} {e : Ct} (h1 : leftP cs ds = [e]) (h2 : leftP ds cs = []) (s : Sb) : (holds cs s ^^ holds ds s) = holds (flipP e cs) s := by
  have he := mem_left.mp (show e ∈ leftP cs ds by rw [h1]; exact List.mem_cons_self ..)
  have sub : ∀ d ∈ ds, d ∈ cs := fun d hd => by
    cases Classical.em (d ∈ cs) with
    | inl h => exact h
    | inr h =>
      have : d ∈ leftP ds cs := mem_left.mpr ⟨hd, h⟩
      rw [h2] at this
      exact nomatch this
  have rest : ∀ c ∈ cs, c ≠ e → c ∈ ds := fun c hc ne => by
    cases Classical.em (c ∈ ds) with
    | inl h => exact h
    | inr h =>
      have : c ∈ leftP cs ds := mem_left.mpr ⟨hc, h⟩
      rw [h1] at this
      exact absurd (List.mem_singleton.mp this) ne
  have a : holds cs s = (holds ds s && (s e.1 == e.2)) := bool_ext (by
    rw [Bool.and_eq_true, holds_iff, holds_iff, beq_iff_eq]
    exact ⟨fun h => ⟨fun d hd => h d (sub d hd), h e he.1⟩, fun ⟨h, k⟩ c hc => by
      by_cases z : c = e
      · rw [z]; exact k
      · exact h c (rest c hc z)⟩)
  have b : holds (flipP e cs) s = (holds ds s && (s e.1 == !e.2)) := bool_ext (by
    rw [Bool.and_eq_true, holds_iff, holds_iff, beq_iff_eq]
    constructor
    · intro h
      refine ⟨fun d hd => ?_, ?_⟩
      · have z : d ≠ e := fun z => he.2 (by rw [← z]; exact hd)
        have := h d (List.mem_map.mpr ⟨d, sub d hd, by rw [if_neg z]⟩)
        exact this
      · exact h (e.1, !e.2) (List.mem_map.mpr ⟨e, he.1, by rw [if_pos rfl]⟩)
    · rintro ⟨h, k⟩ c hc
      obtain ⟨d, hd, rfl⟩ := List.mem_map.mp hc
      by_cases z : d = e
      · rw [if_pos z, z]; exact k
      · rw [if_neg z]; exact h d (rest d hd z))
  rw [a, b]
  cases holds ds s <;> cases s e.1 <;> cases e.2 <;> rfl
theorem same_target {g h k : Gt} (e : g.1 = h.1) (ek : k.1 = g.1) (ag : Apt g) (ah : Apt h) (s : Sb) (hk : (holds g.2 s ^^ holds h.2 s) = holds k.2 s) : act h (act g s) = act k s := by
  have n : g.1 ∉ h.2.map (·.1) := by rw [e]; exact apt_not ah
  funext i
  rw [act_at h, act_at g s i, act_at k, holds_act n, ← hk, ek, ← e]
  cases s i <;> cases decide (i = g.1) <;> cases holds g.2 s <;> cases holds h.2 s <;> rfl
theorem merge_same {g h k : Gt} (gg : Gd g) (gh : Gd h) (m : mergeP g h = some k) (s : Sb) : act h (act g s) = act k s := by
  unfold mergeP at m
  by_cases e : g.1 = h.1
  · rw [if_neg (by simpa using e)] at m
    split at m
    · rename_i c d h1 h2
      split at m
      · rename_i ew
        cases m
        refine same_target (k := (g.1, g.2.filter fun c => decide (c ∈ h.2))) e rfl gg.2 gh.2 s ?_
        have hc := mem_left.mp (show c ∈ leftP g.2 h.2 by rw [h1]; exact List.mem_cons_self ..)
        have hd := mem_left.mp (show d ∈ leftP h.2 g.2 by rw [h2]; exact List.mem_cons_self ..)
        have ne : d.2 = !c.2 := by
          have : d.2 ≠ c.2 := fun z => hc.2 (by rw [show c = d from Prod.ext ew z.symm]; exact hd.1)
          revert this
          cases d.2 <;> cases c.2 <;> simp
        have part : ∀ {cs ds : List Ct} {x : Ct}, leftP cs ds = [x] → ∀ y ∈ cs, y ≠ x → y ∈ ds := fun {cs ds x} h1 y hy ny => by
          cases Classical.em (y ∈ ds) with
          | inl h => exact h
          | inr h =>
            have : y ∈ leftP cs ds := mem_left.mpr ⟨hy, h⟩
            rw [h1] at this
            exact absurd (List.mem_singleton.mp this) ny
        show _ = holds (g.2.filter fun c => decide (c ∈ h.2)) s
        have a : holds g.2 s = (holds (g.2.filter fun c => decide (c ∈ h.2)) s && (s c.1 == c.2)) := bool_ext (by
          rw [Bool.and_eq_true, holds_iff, holds_iff, beq_iff_eq]
          refine ⟨fun h => ⟨fun y hy => h y (List.mem_filter.mp hy).1, h c hc.1⟩, fun ⟨p, q⟩ y hy => ?_⟩
          by_cases z : y = c
          · rw [z]; exact q
          · exact p y (List.mem_filter.mpr ⟨hy, decide_eq_true (part h1 y hy z)⟩))
        have b : holds h.2 s = (holds (g.2.filter fun c => decide (c ∈ h.2)) s && (s d.1 == d.2)) := bool_ext (by
          rw [Bool.and_eq_true, holds_iff, holds_iff, beq_iff_eq]
          refine ⟨fun p => ⟨fun y hy => p y (of_decide_eq_true (List.mem_filter.mp hy).2), p d hd.1⟩, fun ⟨p, q⟩ y hy => ?_⟩
          by_cases z : y = d
          · rw [z]; exact q
          · exact p y (List.mem_filter.mpr ⟨part h2 y hy z, decide_eq_true hy⟩))
        rw [a, b, ← ew, ne]
        cases holds (g.2.filter fun c => decide (c ∈ h.2)) s <;> cases s c.1 <;> cases c.2 <;> rfl
      · cases m
    · rename_i c h1 h2
      cases m
      exact same_target (k := (g.1, flipP c g.2)) e rfl gg.2 gh.2 s (flip_holds h1 h2 s)
    · rename_i d h1 h2
      cases m
      refine same_target (k := (g.1, flipP d h.2)) e rfl gg.2 gh.2 s ?_
      rw [Bool.xor_comm]
      exact flip_holds h2 h1 s
    · cases m
  · rw [if_pos (by simpa using e)] at m
    cases m
/-! ### split and pass -/
theorem split_same {t x : Nat} {cs c0 c1 : List Ct} (p0 : (cs ++ [(x, false)]).Perm c0) (p1 : (cs ++ [(x, true)]).Perm c1) (ht : t ∉ cs.map (·.1)) (hx : x ≠ t) (s : Sb) : act (t, c1) (act (t, c0) s) = act (t, cs) s := by
  have n1 : t ∉ c1.map (·.1) := fun z => by
    have z2 := (p1.map (·.1)).mem_iff.mpr z
    rw [List.map_append] at z2
    rcases List.mem_append.mp z2 with z2 | z2
    · exact ht z2
    · exact hx (List.mem_singleton.mp z2).symm
  have a0 : holds c0 s = (holds cs s && (s x == false)) := by
    rw [← holds_perm p0, holds_app]
    show (_ && ((s x == false) && true)) = _
    rw [Bool.and_true]
  have a1 : holds c1 s = (holds cs s && (s x == true)) := by
    rw [← holds_perm p1, holds_app]
    show (_ && ((s x == true) && true)) = _
    rw [Bool.and_true]
  funext i
  rw [act_at (t, c1), act_at (t, c0), act_at (t, cs), holds_act (g := (t, c0)) (cs := c1) n1]
  show ((s i ^^ (decide (i = t) && holds c0 s)) ^^ (decide (i = t) && holds c1 s)) = (s i ^^ (decide (i = t) && holds cs s))
  rw [a0, a1]
  cases s i <;> cases decide (i = t) <;> cases holds cs s <;> cases s x <;> rfl
def passOk (g h : Gt) : Bool := decide (g.1 ∈ h.2.map (·.1)) && (decide (h.1 ∉ g.2.map (·.1)) && !opp g.2 h.2)
theorem pass_same {g h : Gt} {es : List Ct} (gg : Gd g) (gh : Gd h) (ok : passOk g h = true) (he : ∀ c, c ∈ es ↔ c ∈ g.2 ∨ (c ∈ h.2 ∧ c.1 ≠ g.1)) (s : Sb) : act h (act g s) = act (h.1, es) (act g (act h s)) := by
  obtain ⟨o1, o2⟩ := (Bool.and_eq_true _ _).mp ok
  obtain ⟨o2, _⟩ := (Bool.and_eq_true _ _).mp o2
  have o2 := of_decide_eq_true o2
  obtain ⟨d, hd, ed⟩ := List.mem_map.mp (of_decide_eq_true o1)
  have ne : g.1 ≠ h.1 := fun z => gh.2 d hd (ed.trans z)
  obtain ⟨D, eD⟩ : ∃ D, h.2.filter (fun c => decide (c.1 ≠ g.1)) = D := ⟨_, rfl⟩
  have mD : ∀ c, c ∈ D ↔ c ∈ h.2 ∧ c.1 ≠ g.1 := fun c => by rw [← eD, List.mem_filter, decide_eq_true_iff]
  have hh : ∀ s : Sb, holds h.2 s = (holds D s && (s g.1 == d.2)) := fun s => bool_ext (by
    rw [Bool.and_eq_true, holds_iff, holds_iff, beq_iff_eq]
    refine ⟨fun p => ⟨fun c hc => p c ((mD c).mp hc).1, by rw [← ed]; exact p d hd⟩, fun ⟨p, q⟩ c hc => ?_⟩
    by_cases z : c.1 = g.1
    · have : c = d := asc_fn gh.1 hc hd (z.trans ed.symm)
      rw [this, ed]
      exact q
    · exact p c ((mD c).mpr ⟨hc, z⟩))
  have hk : ∀ s : Sb, holds es s = (holds D s && holds g.2 s) := fun s => bool_ext (by
    rw [Bool.and_eq_true, holds_iff, holds_iff, holds_iff]
    refine ⟨fun p => ⟨fun c hc => p c ((he c).mpr (.inr ((mD c).mp hc))), fun c hc => p c ((he c).mpr (.inl hc))⟩, fun ⟨p, q⟩ c hc => ?_⟩
    rcases (he c).mp hc with z | z
    · exact q c z
    · exact p c ((mD c).mpr z))
  have nDg : g.1 ∉ D.map (·.1) := fun z => by
    obtain ⟨c, hc, e⟩ := List.mem_map.mp z
    exact ((mD c).mp hc).2 e
  have nDh : h.1 ∉ D.map (·.1) := fun z => by
    obtain ⟨c, hc, e⟩ := List.mem_map.mp z
    exact gh.2 c ((mD c).mp hc).1 e
  have a1 : ∀ s : Sb, holds D (act g s) = holds D s := holds_act nDg
  have a2 : ∀ s : Sb, holds D (act h s) = holds D s := holds_act nDh
  have a3 : ∀ s : Sb, holds g.2 (act h s) = holds g.2 s := holds_act o2
  have a4 : ∀ s : Sb, holds g.2 (act g s) = holds g.2 s := holds_act (apt_not gg.2)
  have a5 : act h s g.1 = s g.1 := act_ne ne
  funext i
  rw [act_at h, act_at g s i, act_at (h.1, es), act_at g (act h s) i, act_at h s i]
  show ((s i ^^ (decide (i = g.1) && holds g.2 s)) ^^ (decide (i = h.1) && holds h.2 (act g s))) = (((s i ^^ (decide (i = h.1) && holds h.2 s)) ^^ (decide (i = g.1) && holds g.2 (act h s))) ^^ (decide (i = h.1) && holds es (act g (act h s))))
  rw [hh, hk, hh, a1, a1, a2, a3, a4, a3, act_at g s g.1]
  have dg : decide (g.1 = g.1) = true := decide_eq_true rfl
  rw [dg]
  cases s i <;> cases decide (i = g.1) <;> cases decide (i = h.1) <;> cases holds g.2 s <;> cases holds D s <;> cases s g.1 <;> cases d.2 <;> rfl
/-- a piece of a circuit in the place of another one -/
theorem piece_same {x y : List Gt} (h : ∀ s, run x s = run y s) (a b : List Gt) (n : Nat) : runN (a ++ x ++ b) n = runN (a ++ y ++ b) n := by
  apply Nat.eq_of_testBit_eq
  intro i
  rw [tb_run, tb_run, run_app, run_app, run_app, run_app, h]
end My

set_option linter.all false
/-! the search for two gates: what stays right when two gates become one or none -/
namespace My
theorem free_iff {g x : Gt} : freeP g x = true ↔ (g.1 ∉ x.2.map (·.1) ∧ x.1 ∉ g.2.map (·.1)) ∨ ∃ c ∈ g.2, ∃ e ∈ x.2, e.1 = c.1 ∧ e.2 ≠ c.2 := by
  unfold freeP
  rw [Bool.or_eq_true, Bool.and_eq_true, decide_eq_true_iff, decide_eq_true_iff, opp_iff]
theorem free_symm (g h : Gt) : freeP g h = freeP h g := bool_ext (by
  rw [free_iff, free_iff]
  constructor
  · rintro (⟨a, b⟩ | ⟨c, hc, e, he, e1, e2⟩)
    · exact .inl ⟨b, a⟩
    · exact .inr ⟨e, he, c, hc, e1.symm, fun z => e2 z.symm⟩
  · rintro (⟨a, b⟩ | ⟨c, hc, e, he, e1, e2⟩)
    · exact .inl ⟨b, a⟩
    · exact .inr ⟨e, he, c, hc, e1.symm, fun z => e2 z.symm⟩)
theorem flip_free {t : Nat} {x : Gt} {cs ds ks : List Ct} {c : Ct} (ax : Apt x) (h1 : ∀ y ∈ cs, y = c ∨ y ∈ ds) (h2 : ks.map (·.1) = cs.map (·.1)) (h3 : ∀ y ∈ ds, y ∈ ks) (f1 : freeP (t, cs) x = true) (f2 : freeP (t, ds) x = true) : freeP (t, ks) x = true := by
  rcases free_iff.mp f2 with ⟨a2, b2⟩ | ⟨y, hy, e, he, e1, e2⟩
  · rcases free_iff.mp f1 with ⟨_, b1⟩ | ⟨y, hy, e, he, e1, e2⟩
    · refine free_iff.mpr (.inl ⟨a2, ?_⟩)
      show x.1 ∉ ks.map (·.1)
      rw [h2]
      exact b1
    · rcases h1 y hy with rfl | h
      · refine free_iff.mpr (.inl ⟨a2, ?_⟩)
        show x.1 ∉ ks.map (·.1)
        rw [h2]
        intro z
        obtain ⟨w, hw, ew⟩ := List.mem_map.mp z
        rcases h1 w hw with rfl | h
        · exact ax e he (e1.trans ew)
        · exact b2 (List.mem_map.mpr ⟨w, h, ew⟩)
      · exact free_iff.mpr (.inr ⟨y, h3 y h, e, he, e1, e2⟩)
  · exact free_iff.mpr (.inr ⟨y, h3 y hy, e, he, e1, e2⟩)
theorem flip_wires (e : Ct) (cs : List Ct) : (flipP e cs).map (·.1) = cs.map (·.1) := by
  unfold flipP
  rw [List.map_map]
  refine List.map_congr_left fun x _ => ?_
  simp only [Function.comp]
  split <;> rfl
theorem flip_case {t : Nat} {x : Gt} {cs ds : List Ct} {c : Ct} (ax : Apt x) (h1 : leftP cs ds = [c]) (h2 : leftP ds cs = []) (f1 : freeP (t, cs) x = true) (f2 : freeP (t, ds) x = true) : freeP (t, flipP c cs) x = true := by
  refine flip_free (c := c) ax (fun y hy => ?_) (flip_wires c cs) (fun y hy => ?_) f1 f2
  · cases Classical.em (y ∈ ds) with
    | inl h => exact .inr h
    | inr h =>
      have : y ∈ leftP cs ds := mem_left.mpr ⟨hy, h⟩
      rw [h1] at this
      exact .inl (List.mem_singleton.mp this)
  · have yc : y ∈ cs := Classical.byContradiction fun z => by
      have : y ∈ leftP ds cs := mem_left.mpr ⟨hy, z⟩
      rw [h2] at this
      exact nomatch this
    have hc := (mem_left.mp (show c ∈ leftP cs ds by rw [h1]; exact List.mem_cons_self ..)).2
    unfold flipP
    exact List.mem_map.mpr ⟨y, yc, if_neg fun z => hc (by rw [← z]; exact hy)⟩
/-- a gate that both let pass is let pass by the one that they become -/
theorem merge_free {g h k x : Gt} (gx : Gd x) (m : mergeP g h = some k) (f1 : freeP g x = true) (f2 : freeP h x = true) : freeP k x = true := by
  unfold mergeP at m
  by_cases e : g.1 = h.1
  case neg => rw [if_pos (by simpa using e)] at m; cases m
  rw [if_neg (by simpa using e)] at m
  obtain ⟨t, cs⟩ := g
  obtain ⟨t', ds⟩ := h
  have e : t = t' := e
  subst e
  have m : (match leftP cs ds, leftP ds cs with
      | [c], [d] => if c.1 = d.1 then some (t, cs.filter fun c => decide (c ∈ ds)) else none
      | [c], [] => some (t, flipP c cs)
      | [], [d] => some (t, flipP d ds)
      | _, _ => none) = some k := m
  split at m
  · rename_i c d h1 h2
    split at m
    · rename_i ew
      cases m
      have hc := mem_left.mp (show c ∈ leftP cs ds by rw [h1]; exact List.mem_cons_self ..)
      have hd := mem_left.mp (show d ∈ leftP ds cs by rw [h2]; exact List.mem_cons_self ..)
      have ne : d.2 ≠ c.2 := fun z => hc.2 (by rw [show c = d from Prod.ext ew z.symm]; exact hd.1)
      have part : ∀ {as bs : List Ct} {w : Ct}, leftP as bs = [w] → ∀ y ∈ as, y = w ∨ y ∈ bs := fun {as bs w} h1 y hy => by
        cases Classical.em (y ∈ bs) with
        | inl h => exact .inr h
        | inr h =>
          have : y ∈ leftP as bs := mem_left.mpr ⟨hy, h⟩
          rw [h1] at this
          exact .inl (List.mem_singleton.mp this)
      have inn : ∀ {y : Ct}, y ∈ cs → y ∈ ds → y ∈ cs.filter fun c => decide (c ∈ ds) := fun a b => List.mem_filter.mpr ⟨a, decide_eq_true b⟩
      rcases free_iff.mp f1 with ⟨a1, b1⟩ | ⟨y, hy, ee, he, e1, e2⟩
      · refine free_iff.mpr (.inl ⟨a1, fun z => b1 ?_⟩)
        obtain ⟨w, hw, ew⟩ := List.mem_map.mp z
        exact List.mem_map.mpr ⟨w, (List.mem_filter.mp hw).1, ew⟩
      rcases free_iff.mp f2 with ⟨a1, b1⟩ | ⟨y', hy', ee', he', e1', e2'⟩
      · refine free_iff.mpr (.inl ⟨a1, fun z => b1 ?_⟩)
        obtain ⟨w, hw, ew⟩ := List.mem_map.mp z
        exact List.mem_map.mpr ⟨w, of_decide_eq_true (List.mem_filter.mp hw).2, ew⟩
      rcases part h1 y hy with rfl | hyd
      · rcases part h2 y' hy' with rfl | hyc
        · have : ee = ee' := asc_fn gx.1 he he' (by rw [e1, e1', ew])
          subst this
          cases a : ee.2 <;> cases b : y.2 <;> cases c : y'.2 <;> simp_all
        · exact free_iff.mpr (.inr ⟨y', inn hyc hy', ee', he', e1', e2'⟩)
      · exact free_iff.mpr (.inr ⟨y, inn hy hyd, ee, he, e1, e2⟩)
    · cases m
  · rename_i c h1 h2
    cases m
    exact flip_case gx.2 h1 h2 f1 f2
  · rename_i d h1 h2
    cases m
    exact flip_case gx.2 h2 h1 f2 f1
  · cases m
/-! ### floors and partners -/
structure Look (fr ft : Nat → Bool) (a : Nat) (f p : Int) : Prop where
  f0 : -1 ≤ f
  f1 : f < a
  up : ∀ k : Nat, f < k → k < a → fr k = true
  fl : ∀ k : Nat, f = k → fr k = false
  pn : p = -1 → ∀ k : Nat, f ≤ k → k < a → ft k = false
  pp : p ≠ -1 → f ≤ p ∧ 0 ≤ p ∧ p < a ∧ (∀ k : Nat, p = k → ft k = true) ∧ ∀ k : Nat, f ≤ k → k < p → ft k = false
theorem Look.re {fr ft fr' ft' : Nat → Bool} {a a' : Nat} {f p f' p' : Int} (L : Look fr ft a f p) (σ : Nat → Nat) (mono : ∀ x y, x < y → σ x < σ y) (ha : σ a' = a)
    (hf : (f = -1 ∧ f' = -1) ∨ ∃ x : Nat, f' = x ∧ f = σ x) (hp : (p = -1 ∧ p' = -1) ∨ ∃ x : Nat, p' = x ∧ p = σ x)
    (hfr : ∀ x < a', f < σ x → fr (σ x) = true → fr' x = true) (hfr0 : ∀ x : Nat, f = σ x → fr' x = fr (σ x))
    (hft : ∀ x < a', f ≤ σ x → ft' x = true → ft (σ x) = true) (hft0 : ∀ x : Nat, p = σ x → ft' x = ft (σ x)) : Look fr' ft' a' f' p' := by
  have lt : ∀ {x y : Nat}, σ x < σ y ↔ x < y := fun {x y} => ⟨fun h => by
    rcases Nat.lt_trichotomy x y with z | z | z
    · exact z
    · rw [z] at h; exact absurd h (Nat.lt_irrefl _)
    · exact absurd (mono y x z) (Nat.lt_asymm h), mono x y⟩
  have fx : ∀ x : Nat, (f' < x → f < σ x) ∧ (f' ≤ x → f ≤ σ x) := fun x => by
    rcases hf with ⟨h1, h2⟩ | ⟨y, h1, h2⟩
    · constructor <;> intro _ <;> omega
    · rw [h1, h2]
      constructor
      · intro h
        have := mono y x (by omega)
        omega
      · intro h
        rcases Nat.lt_or_ge y x with z | z
        · have := mono y x z
          omega
        · have : y = x := by omega
          rw [this]
          omega
  refine ⟨?_, ?_, fun x h1 h2 => ?_, fun x h => ?_, fun h x h1 h2 => ?_, fun h => ?_⟩
  · rcases hf with ⟨_, h⟩ | ⟨y, h, _⟩ <;> omega
  · rcases hf with ⟨_, h⟩ | ⟨y, h1, h2⟩
    · omega
    · have := L.f1
      rw [h2, ← ha] at this
      have := lt.mp (show σ y < σ a' by omega)
      omega
  · have := (fx x).1 h1
    refine hfr x h2 this (L.up _ this ?_)
    rw [← ha]
    exact mono _ _ h2
  · rcases hf with ⟨_, z⟩ | ⟨y, z1, z2⟩
    · omega
    · have : y = x := by omega
      subst this
      rw [hfr0 y z2]
      exact L.fl _ z2
  · rcases hp with ⟨z, _⟩ | ⟨y, z, _⟩
    · cases e : ft' x with
      | false => rfl
      | true =>
        have q := (fx x).2 h1
        have := L.pn z _ q (by rw [← ha]; exact mono _ _ h2)
        rw [hft x h2 q e] at this
        cases this
    · omega
  · rcases hp with ⟨_, z⟩ | ⟨y, z1, z2⟩
    · exact absurd z h
    obtain ⟨q1, q2, q3, q4, q5⟩ := L.pp (by omega)
    have ya : y < a' := lt.mp (by omega)
    refine ⟨?_, by omega, by omega, fun k hk => ?_, fun k h1 h2 => ?_⟩
    · rcases hf with ⟨_, w⟩ | ⟨u, w1, w2⟩
      · omega
      · rcases Nat.lt_or_ge y u with c | c
        · have := mono y u c
          omega
        · omega
    · have : y = k := by omega
      subst this
      rw [hft0 y z2]
      exact q4 _ z2
    · cases e : ft' k with
      | false => rfl
      | true =>
        have q := (fx k).2 h1
        have := q5 (σ k) q (by rw [z2]; have := mono k y (by omega); omega)
        rw [hft k (by omega) q e] at this
        cases this
/-! ### the tables -/
def gt0 : Gt := (0, [])
def fitW (b : Bool) (g h : Gt) : Bool := if b then decide (g = h) else (mergeP g h).isSome
def atG (gs : List Gt) (k : Nat) : Gt := gs.getD k gt0
def LookG (b : Bool) (gs : List Gt) (a : Nat) (f p : Int) : Prop := Look (fun k => freeP (atG gs k) (atG gs a)) (fun k => fitW b (atG gs k) (atG gs a)) a f p
def mu (d : Nat) (v : Int) : Int := if v > d then v - 1 else v
def sg (d x : Nat) : Nat := if x < d then x else x + 1
theorem sg_mono (d : Nat) : ∀ x y, x < y → sg d x < sg d y := fun x y h => by
  unfold sg
  split <;> split <;> omega
theorem sg_ne (d x : Nat) : sg d x ≠ d := by
  unfold sg
  split <;> omega
theorem mu_sg {d m : Nat} (h : m ≠ d) : ∃ x : Nat, mu d m = x ∧ m = sg d x := by
  unfold mu sg
  rcases Nat.lt_or_gt_of_ne h with z | z
  · exact ⟨m, by rw [if_neg (by omega)], by rw [if_pos z]⟩
  · exact ⟨m - 1, by rw [if_pos (by omega)]; omega, by rw [if_neg (by omega)]; omega⟩
theorem mu_neg (d : Nat) : mu d (-1) = -1 := by
  unfold mu
  rw [if_neg (by omega)]
theorem atG_erase (gs : List Gt) (d k : Nat) : atG (gs.eraseIdx d) k = atG gs (sg d k) := by
  unfold atG sg
  rw [List.getD_eq_getElem?_getD, List.getD_eq_getElem?_getD, List.getElem?_eraseIdx]
  split <;> rfl
theorem getD_erase (fl : List Int) (d k : Nat) (h : k < (fl.eraseIdx d).length) : ((fl.eraseIdx d).map (mu d)).getD k 0 = mu d (fl.getD (sg d k) 0) := by
  unfold sg
  rw [List.getD_eq_getElem?_getD, List.getD_eq_getElem?_getD, List.getElem?_map]
  have e : (fl.eraseIdx d)[k]? = fl[if k < d then k else k + 1]? := by
    rw [List.getElem?_eraseIdx]
    split <;> rfl
  rw [← e, List.getElem?_eq_getElem h]
  rfl
structure Tab (b : Bool) (gs : List Gt) (fl pa : List Int) (S : Nat → Prop) : Prop where
  lf : fl.length = gs.length
  lp : pa.length = gs.length
  lk : ∀ a, a < gs.length → ¬ S a → LookG b gs a (fl.getD a 0) (pa.getD a 0)
theorem len_erase {α : Type} {l : List α} {d : Nat} (h : d < l.length) : (l.eraseIdx d).length = l.length - 1 := by
  rw [List.length_eraseIdx, if_pos h]
theorem sg_lt {n d x : Nat} (hd : d < n) (h : x < n - 1) : sg d x < n := by
  unfold sg
  split <;> omega
theorem Tab.erase {b : Bool} {gs : List Gt} {fl pa : List Int} {S : Nat → Prop} (T : Tab b gs fl pa S) {d : Nat} (hd : d < gs.length) (h : ∀ a, a < gs.length → ¬ S a → a ≠ d → fl.getD a 0 ≠ d ∧ pa.getD a 0 ≠ d) :
    Tab b (gs.eraseIdx d) ((fl.eraseIdx d).map (mu d)) ((pa.eraseIdx d).map (mu d)) fun a => S (sg d a) := by
  have lg := len_erase hd
  have l1 := len_erase (l := fl) (d := d) (by rw [T.lf]; exact hd)
  have l2 := len_erase (l := pa) (d := d) (by rw [T.lp]; exact hd)
  refine ⟨by rw [List.length_map, l1, lg, T.lf], by rw [List.length_map, l2, lg, T.lp], fun a ha hs => ?_⟩
  rw [lg] at ha
  have hf := T.lf
  have hp := T.lp
  rw [getD_erase fl d a (by omega), getD_erase pa d a (by omega)]
  have L := T.lk (sg d a) (sg_lt hd ha) hs
  obtain ⟨n1, n2⟩ := h (sg d a) (sg_lt hd ha) hs (sg_ne d a)
  have sh : ∀ v : Int, -1 ≤ v → v ≠ d → (v = -1 ∧ mu d v = -1) ∨ ∃ x : Nat, mu d v = x ∧ v = sg d x := fun v h0 hv => by
    by_cases z : v = -1
    · exact .inl ⟨z, by rw [z, mu_neg]⟩
    · obtain ⟨m, rfl⟩ : ∃ m : Nat, v = m := ⟨v.toNat, by omega⟩
      obtain ⟨x, e1, e2⟩ := mu_sg (d := d) (m := m) (by omega)
      exact .inr ⟨x, e1, by omega⟩
  have p0 : -1 ≤ pa.getD (sg d a) 0 := by
    by_cases z : pa.getD (sg d a) 0 = -1
    · omega
    · have := (L.pp z).2.1
      omega
  unfold LookG
  refine L.re (sg d) (sg_mono d) rfl (sh _ L.f0 n1) (sh _ p0 n2) (fun x _ _ e => ?_) (fun x _ => ?_) (fun x _ _ e => ?_) (fun x _ => ?_)
  · rw [atG_erase, atG_erase]; exact e
  · rw [atG_erase, atG_erase]
  · rw [atG_erase, atG_erase] at e; exact e
  · rw [atG_erase, atG_erase]
theorem atG_set (gs : List Gt) (i : Nat) (k : Gt) (a : Nat) : atG (gs.set i k) a = if a = i ∧ i < gs.length then k else atG gs a := by
  unfold atG
  rw [List.getD_eq_getElem?_getD, List.getD_eq_getElem?_getD, List.getElem?_set]
  by_cases e : i = a
  · subst e
    by_cases l : i < gs.length
    · rw [if_pos rfl, if_pos l, if_pos ⟨rfl, l⟩]; rfl
    · rw [if_pos rfl, if_neg l, if_neg (fun z => l z.2), List.getElem?_eq_none (by omega)]
  · rw [if_neg e, if_neg (fun z => e z.1.symm)]
theorem Tab.set {b : Bool} {gs : List Gt} {fl pa : List Int} {S : Nat → Prop} (T : Tab b gs fl pa S) {i : Nat} (k : Gt) (h : ∀ a, a < gs.length → ¬ S a → a ≠ i ∧ fl.getD a 0 ≠ i ∧ pa.getD a 0 ≠ i ∧ (i < a → fl.getD a 0 < i → freeP k (atG gs a) = true ∧ fitW b k (atG gs a) = false)) :
    Tab b (gs.set i k) fl pa S := by
  refine ⟨by rw [List.length_set]; exact T.lf, by rw [List.length_set]; exact T.lp, fun a ha hs => ?_⟩
  rw [List.length_set] at ha
  obtain ⟨n0, n1, n2, n3⟩ := h a ha hs
  have L := T.lk a ha hs
  have ea : atG (gs.set i k) a = atG gs a := by rw [atG_set, if_neg (fun z => n0 z.1)]
  have p0 : -1 ≤ pa.getD a 0 := by
    by_cases z : pa.getD a 0 = -1
    · omega
    · have := (L.pp z).2.1
      omega
  have sh : ∀ v : Int, -1 ≤ v → (v = -1 ∧ v = -1) ∨ ∃ x : Nat, v = x ∧ v = (x : Int) := fun v h0 => by
    by_cases z : v = -1
    · exact .inl ⟨z, z⟩
    · exact .inr ⟨v.toNat, by omega, by omega⟩
  unfold LookG
  rw [ea]
  refine L.re (fun x => x) (fun _ _ h => h) rfl (sh _ L.f0) (sh _ p0) (fun x hx hf e => ?_) (fun x hx => ?_) (fun x hx hf e => ?_) (fun x hx => ?_)
  · by_cases z : x = i ∧ i < gs.length
    · rw [atG_set, if_pos z]
      obtain ⟨rfl, _⟩ := z
      exact (n3 hx hf).1
    · rw [atG_set, if_neg z]; exact e
  · rw [atG_set, if_neg (fun z => n1 (by rw [hx, z.1]))]
  · by_cases z : x = i ∧ i < gs.length
    · rw [atG_set, if_pos z] at e
      obtain ⟨rfl, _⟩ := z
      rw [(n3 hx (by omega)).2] at e
      cases e
    · rw [atG_set, if_neg z] at e; exact e
  · rw [atG_set, if_neg (fun z => n2 (by rw [hx, z.1]))]
theorem Tab.look {b : Bool} {gs : List Gt} {fl pa : List Int} {S : Nat → Prop} (T : Tab b gs fl pa S) {a : Nat} {f p : Int} (L : LookG b gs a f p) : Tab b gs (fl.set a f) (pa.set a p) fun x => S x ∧ x ≠ a := by
  refine ⟨by rw [List.length_set]; exact T.lf, by rw [List.length_set]; exact T.lp, fun x hx hs => ?_⟩
  have hf := T.lf
  have hp := T.lp
  by_cases e : x = a
  · subst e
    have e1 : (fl.set x f).getD x 0 = f := by rw [List.getD_eq_getElem?_getD, List.getElem?_set, if_pos rfl, if_pos (by omega)]; rfl
    have e2 : (pa.set x p).getD x 0 = p := by rw [List.getD_eq_getElem?_getD, List.getElem?_set, if_pos rfl, if_pos (by omega)]; rfl
    rw [e1, e2]
    exact L
  · have e1 : (fl.set a f).getD x 0 = fl.getD x 0 := by rw [List.getD_eq_getElem?_getD, List.getElem?_set, if_neg (fun z => e z.symm), List.getD_eq_getElem?_getD]
    have e2 : (pa.set a p).getD x 0 = pa.getD x 0 := by rw [List.getD_eq_getElem?_getD, List.getElem?_set, if_neg (fun z => e z.symm), List.getD_eq_getElem?_getD]
    rw [e1, e2]
    exact T.lk x hx fun z => hs ⟨z, e⟩
/-! ### the first pair -/
def OkP (b : Bool) (gs : List Gt) (i j : Nat) : Prop := i < j ∧ j < gs.length ∧ fitW b (atG gs i) (atG gs j) = true ∧ ∀ k, i < k → k < j → freeP (atG gs k) (atG gs j) = true
structure Fst (b : Bool) (gs : List Gt) (i j : Nat) : Prop where
  ok : OkP b gs i j
  le : ∀ i' j', OkP b gs i' j' → i < i' ∨ (i = i' ∧ j ≤ j')
theorem Fst.uniq {b : Bool} {gs : List Gt} {i j i' j' : Nat} (h : Fst b gs i j) (h' : Fst b gs i' j') : i = i' ∧ j = j' := by
  have a := h.le _ _ h'.ok
  have c := h'.le _ _ h.ok
  omega
theorem Tab.ok {b : Bool} {gs : List Gt} {fl pa : List Int} (T : Tab b gs fl pa fun _ => False) {a p : Nat} (ha : a < gs.length) (hp : pa.getD a 0 = (p : Int)) : OkP b gs p a := by
  have L := T.lk a ha id
  obtain ⟨q1, q2, q3, q4, q5⟩ := L.pp (by omega)
  exact ⟨by omega, ha, q4 p hp, fun k h1 h2 => L.up k (by omega) h2⟩
theorem Tab.cand {b : Bool} {gs : List Gt} {fl pa : List Int} (T : Tab b gs fl pa fun _ => False) {i j : Nat} (h : OkP b gs i j) : ∃ p : Nat, pa.getD j 0 = (p : Int) ∧ p ≤ i := by
  obtain ⟨h1, h2, h3, h4⟩ := h
  have L := T.lk j h2 id
  have fi : fl.getD j 0 ≤ i := by
    by_cases z : fl.getD j 0 ≤ i
    · exact z
    · exfalso
      obtain ⟨m, hm⟩ : ∃ m : Nat, fl.getD j 0 = m := ⟨(fl.getD j 0).toNat, by omega⟩
      have f1 := L.f1
      have a := h4 m (by omega) (by omega)
      have c := L.fl m hm
      have c : freeP (atG gs m) (atG gs j) = false := c
      rw [a] at c
      cases c
  have pn : pa.getD j 0 ≠ -1 := fun z => by
    have := L.pn z i fi h1
    have this : fitW b (atG gs i) (atG gs j) = false := this
    rw [h3] at this
    cases this
  obtain ⟨q1, q2, q3, q4, q5⟩ := L.pp pn
  refine ⟨(pa.getD j 0).toNat, by omega, ?_⟩
  by_cases z : (pa.getD j 0).toNat ≤ i
  · exact z
  · exfalso
    have := q5 i fi (by omega)
    have this : fitW b (atG gs i) (atG gs j) = false := this
    rw [h3] at this
    cases this
theorem Tab.first {b : Bool} {gs : List Gt} {fl pa : List Int} (T : Tab b gs fl pa fun _ => False) {i j : Nat} (hj : j < gs.length) (hp : pa.getD j 0 = (i : Int)) (least : ∀ j' i' : Nat, j' < gs.length → pa.getD j' 0 = (i' : Int) → i < i' ∨ (i = i' ∧ j ≤ j')) : Fst b gs i j := by
  refine ⟨T.ok hj hp, fun i' j' h => ?_⟩
  obtain ⟨p, e, le⟩ := T.cand h
  have := least j' p h.2.1 e
  omega
theorem Tab.nothing {b : Bool} {gs : List Gt} {fl pa : List Int} (T : Tab b gs fl pa fun _ => False) (h : ∀ j, j < gs.length → pa.getD j 0 < 0) : ∀ i j, ¬ OkP b gs i j := fun i j ok => by
  obtain ⟨p, e, _⟩ := T.cand ok
  have := h j ok.2.1
  omega
/-! ### two gates become one or none -/
theorem merge_self (g : Gt) : mergeP g g = none := by
  have e : leftP g.2 g.2 = [] := List.eq_nil_iff_forall_not_mem.mpr fun c hc => (mem_left.mp hc).2 (mem_left.mp hc).1
  unfold mergeP
  rw [if_neg (by simp), e]
/-- what unite takes for stale -/
def Stale (b : Bool) (gs : List Gt) (fl pa : List Int) (i j : Nat) (k : Option Gt) (a : Nat) : Prop :=
  (i ≤ a ∧ fl.getD a 0 ≤ j ∧ a ≠ j) ∧ ((fl.getD a 0 = i ∨ fl.getD a 0 = j ∨ pa.getD a 0 = i ∨ pa.getD a 0 = j) ∨ ∃ g, k = some g ∧ fl.getD a 0 ≤ i ∧ (a = i ∨ fitW b g (atG gs a) = true))
theorem Tab.off {b : Bool} {gs : List Gt} {fl pa : List Int} (T : Tab b gs fl pa fun _ => False) {i j : Nat} (ij : i < j) {k : Option Gt} {a : Nat} (ha : a < gs.length) (hs : ¬ Stale b gs fl pa i j k a) (na : a ≠ j) :
    fl.getD a 0 ≠ j ∧ pa.getD a 0 ≠ j ∧ fl.getD a 0 ≠ i ∧ pa.getD a 0 ≠ i := by
  have L := T.lk a ha id
  have f1 := L.f1
  have pb : pa.getD a 0 = -1 ∨ (fl.getD a 0 ≤ pa.getD a 0 ∧ pa.getD a 0 < a) := by
    by_cases z : pa.getD a 0 = -1
    · exact .inl z
    · exact .inr ⟨(L.pp z).1, (L.pp z).2.2.1⟩
  by_cases z : i ≤ a ∧ fl.getD a 0 ≤ j ∧ a ≠ j
  · have : ¬ (fl.getD a 0 = i ∨ fl.getD a 0 = j ∨ pa.getD a 0 = i ∨ pa.getD a 0 = j) := fun y => hs ⟨z, .inl y⟩
    omega
  · omega
theorem Tab.one {b : Bool} {gs : List Gt} {fl pa : List Int} (T : Tab b gs fl pa fun _ => False) {i j : Nat} (ij : i < j) (hj : j < gs.length) (k : Option Gt) :
    Tab b (gs.eraseIdx j) ((fl.eraseIdx j).map (mu j)) ((pa.eraseIdx j).map (mu j)) fun a => Stale b gs fl pa i j k (sg j a) :=
  Tab.erase (S := Stale b gs fl pa i j k) ⟨T.lf, T.lp, fun a ha _ => T.lk a ha id⟩ hj fun a ha hs na => ⟨(T.off ij ha hs na).1, (T.off ij ha hs na).2.1⟩
theorem mu_eq {i j : Nat} (ij : i < j) {v : Int} (h : mu j v = i) : v = i := by
  unfold mu at h
  split at h <;> omega
theorem Tab.two {b : Bool} {gs : List Gt} {fl pa : List Int} (T : Tab b gs fl pa fun _ => False) {i j : Nat} (ij : i < j) (hj : j < gs.length) :
    Tab b ((gs.eraseIdx j).eraseIdx i) ((((fl.eraseIdx j).map (mu j)).eraseIdx i).map (mu i)) ((((pa.eraseIdx j).map (mu j)).eraseIdx i).map (mu i)) fun a => Stale b gs fl pa i j none (sg j (sg i a)) := by
  have lg := len_erase hj
  refine (T.one ij hj none).erase (by omega) fun a ha hs na => ?_
  rw [lg] at ha
  have hf := T.lf
  have hp := T.lp
  have l1 := len_erase (l := fl) (d := j) (by omega)
  have l2 := len_erase (l := pa) (d := j) (by omega)
  rw [getD_erase fl j a (by omega), getD_erase pa j a (by omega)]
  have o := T.off ij (sg_lt hj ha) hs (sg_ne j a)
  exact ⟨fun z => o.2.2.1 (mu_eq ij z), fun z => o.2.2.2 (mu_eq ij z)⟩
theorem Tab.joined {b : Bool} {gs : List Gt} {fl pa : List Int} (T : Tab b gs fl pa fun _ => False) (hg : ∀ g ∈ gs, Gd g) {i j : Nat} (ok : OkP b gs i j) {k : Gt} (m : mergeP (atG gs i) (atG gs j) = some k) :
    Tab b ((gs.eraseIdx j).set i k) ((fl.eraseIdx j).map (mu j)) ((pa.eraseIdx j).map (mu j)) fun a => Stale b gs fl pa i j (some k) (sg j a) := by
  obtain ⟨ij, hj, fit, free⟩ := ok
  have lg := len_erase hj
  refine (T.one ij hj (some k)).set k fun a ha hs => ?_
  rw [lg] at ha
  have hf := T.lf
  have hp := T.lp
  have l1 := len_erase (l := fl) (d := j) (by omega)
  have l2 := len_erase (l := pa) (d := j) (by omega)
  rw [getD_erase fl j a (by omega), getD_erase pa j a (by omega)]
  have sa := sg_lt hj ha
  obtain ⟨o1, o2, o3, o4⟩ := T.off ij sa hs (sg_ne j a)
  have L := T.lk (sg j a) sa id
  have ai : a = i → sg j a = i := fun z => by
    unfold sg
    rw [z, if_pos ij]
  refine ⟨fun z => ?_, fun z => o3 (mu_eq ij z), fun z => o4 (mu_eq ij z), fun h1 h2 => ?_⟩
  · have := L.f1
    rw [ai z] at hs this
    exact hs ⟨⟨Nat.le_refl _, by omega, by omega⟩, .inr ⟨k, rfl, by omega, .inl rfl⟩⟩
  · have h3 : fl.getD (sg j a) 0 < i := by
      unfold mu at h2
      split at h2 <;> omega
    have h4 : i < sg j a := by
      unfold sg
      split <;> omega
    have gd : Gd (atG gs (sg j a)) := by
      unfold atG
      rw [List.getD_eq_getElem?_getD, List.getElem?_eq_getElem sa]
      exact hg _ (List.getElem_mem sa)
    rw [atG_erase]
    refine ⟨merge_free gd m (L.up i h3 h4) ?_, ?_⟩
    · rcases Nat.lt_or_ge j (sg j a) with z | z
      · exact L.up j (by omega) z
      · have := sg_ne j a
        rw [free_symm]
        exact free _ h4 (by omega)
    · cases e : fitW b k (atG gs (sg j a)) with
      | false => rfl
      | true => exact absurd ⟨⟨by omega, by omega, sg_ne j a⟩, .inr ⟨k, rfl, by omega, .inr e⟩⟩ hs
end My

set_option linter.all false
/-! passes: their steps, and what they lead to -/
namespace My
theorem getE {gs : List Gt} {i : Nat} (h : i < gs.length) : gs[i] = atG gs i := by
  unfold atG
  rw [List.getD_eq_getElem?_getD, List.getElem?_eq_getElem h]
  rfl
def midG (gs : List Gt) (i j : Nat) : List Gt := (gs.drop (i + 1)).take (j - (i + 1))
theorem parts {gs : List Gt} {i j : Nat} (ij : i < j) (hj : j < gs.length) : gs = gs.take i ++ atG gs i :: (midG gs i j ++ atG gs j :: gs.drop (j + 1)) := by
  have e1 : gs.drop i = atG gs i :: gs.drop (i + 1) := by rw [List.drop_eq_getElem_cons (by omega), getE (by omega)]
  have e2 : gs.drop j = atG gs j :: gs.drop (j + 1) := by rw [List.drop_eq_getElem_cons hj, getE hj]
  have e3 : gs.drop (i + 1) = midG gs i j ++ gs.drop j := by
    unfold midG
    have := (List.take_append_drop (j - (i + 1)) (gs.drop (i + 1))).symm
    rw [List.drop_drop, show i + 1 + (j - (i + 1)) = j by omega] at this
    exact this
  rw [← e2, ← e3, ← e1, List.take_append_drop]
theorem mid_len {gs : List Gt} {i j : Nat} (ij : i < j) (hj : j < gs.length) : (midG gs i j).length = j - (i + 1) := by
  unfold midG
  rw [List.length_take, List.length_drop]
  omega
theorem mid_mem {gs : List Gt} {i j : Nat} (ij : i < j) (hj : j < gs.length) {z : Gt} (h : z ∈ midG gs i j) : ∃ k, i < k ∧ k < j ∧ atG gs k = z := by
  obtain ⟨m, hm, e⟩ := List.getElem_of_mem h
  have l := mid_len ij hj
  refine ⟨i + 1 + m, by omega, by omega, ?_⟩
  rw [← e, ← getE (by omega)]
  simp only [midG, List.getElem_take, List.getElem_drop]
def newG (b : Bool) (gs : List Gt) (i j : Nat) : List Gt := if b then [] else (mergeP (atG gs i) (atG gs j)).toList
def joinG (b : Bool) (gs : List Gt) (i j : Nat) : List Gt := gs.take i ++ newG b gs i j ++ (midG gs i j ++ gs.drop (j + 1))
theorem erase_two {gs : List Gt} {i j : Nat} (ij : i < j) (hj : j < gs.length) : gs.eraseIdx j = gs.take i ++ atG gs i :: (midG gs i j ++ gs.drop (j + 1)) := by
  have ll : (gs.take i).length = i := by rw [List.length_take]; omega
  have lm := mid_len ij hj
  have p := parts ij hj
  have e : ∀ (A M C : List Gt) (x y : Gt), A.length = i → M.length = j - (i + 1) → (A ++ x :: (M ++ y :: C)).eraseIdx j = A ++ x :: (M ++ C) := fun A M C x y h1 h2 => by
    rw [List.eraseIdx_append_of_length_le (by omega), h1, show j - i = (j - (i + 1)) + 1 by omega, List.eraseIdx_cons_succ, List.eraseIdx_append_of_length_le (by omega), h2, Nat.sub_self]
    rfl
  have := e (gs.take i) (midG gs i j) (gs.drop (j + 1)) (atG gs i) (atG gs j) ll lm
  rw [← p] at this
  exact this
theorem erase_none {gs : List Gt} {i j : Nat} (ij : i < j) (hj : j < gs.length) : (gs.eraseIdx j).eraseIdx i = gs.take i ++ [] ++ (midG gs i j ++ gs.drop (j + 1)) := by
  have ll : (gs.take i).length = i := by rw [List.length_take]; omega
  rw [erase_two ij hj, List.eraseIdx_append_of_length_le (by omega), ll, Nat.sub_self, List.append_nil]
  rfl
theorem erase_some {gs : List Gt} {i j : Nat} (ij : i < j) (hj : j < gs.length) (k : Gt) : (gs.eraseIdx j).set i k = gs.take i ++ [k] ++ (midG gs i j ++ gs.drop (j + 1)) := by
  have ll : (gs.take i).length = i := by rw [List.length_take]; omega
  rw [erase_two ij hj, List.set_append_right _ _ (by omega), ll, Nat.sub_self, List.append_assoc]
  rfl
/-- the exchanges, and the step with the two: 0 exchange, 1 cancel, 2 merge -/
def exs (a : Nat) : Nat → List (Nat × Nat)
  | 0 => []
  | m + 1 => (0, a + m) :: exs a m
def tagG (b : Bool) : Nat := if b then 1 else 2
def stepsG (b : Bool) (i j : Nat) : List (Nat × Nat) := exs (i + 1) (j - (i + 1)) ++ [(tagG b, i)]
inductive Gath (b : Bool) : List Gt → List (Nat × Nat) → List Gt → Prop
  | done {gs : List Gt} : (∀ i j, ¬ OkP b gs i j) → Gath b gs [] gs
  | step {gs gs' : List Gt} {i j : Nat} {st : List (Nat × Nat)} : Fst b gs i j → Gath b (joinG b gs i j) st gs' → Gath b gs (stepsG b i j ++ st) gs'
theorem Gath.uniq {b : Bool} {gs g1 : List Gt} {s1 : List (Nat × Nat)} (h : Gath b gs s1 g1) : ∀ {g2 : List Gt} {s2 : List (Nat × Nat)}, Gath b gs s2 g2 → s1 = s2 ∧ g1 = g2 := by
  induction h with
  | done h =>
    intro g2 s2 h2
    cases h2 with
    | done _ => exact ⟨rfl, rfl⟩
    | step f _ => exact absurd f.ok (h _ _)
  | step f _ ih =>
    intro g2 s2 h2
    cases h2 with
    | done h => exact absurd f.ok (h _ _)
    | step f2 r =>
      obtain ⟨rfl, rfl⟩ := f.uniq f2
      obtain ⟨rfl, rfl⟩ := ih r
      exact ⟨rfl, rfl⟩
theorem new_len (b : Bool) (gs : List Gt) (i j : Nat) : (newG b gs i j).length ≤ 1 := by
  unfold newG
  split
  · exact Nat.zero_le _
  · cases mergeP (atG gs i) (atG gs j) <;> simp
theorem join_len {b : Bool} {gs : List Gt} {i j : Nat} (ij : i < j) (hj : j < gs.length) : (joinG b gs i j).length < gs.length := by
  have := new_len b gs i j
  have lm := mid_len ij hj
  unfold joinG
  rw [List.length_append, List.length_append, List.length_append, List.length_take, List.length_drop, lm]
  omega
theorem Gath.len {b : Bool} {gs gs' : List Gt} {st : List (Nat × Nat)} (h : Gath b gs st gs') : gs'.length ≤ gs.length ∧ (st ≠ [] → gs'.length < gs.length) := by
  induction h with
  | done _ => exact ⟨Nat.le_refl _, fun h => absurd rfl h⟩
  | step f _ ih =>
    have := join_len f.ok.1 f.ok.2.1 (b := b)
    exact ⟨by omega, fun _ => by omega⟩
theorem steps_ne (b : Bool) (i j : Nat) (st : List (Nat × Nat)) : stepsG b i j ++ st ≠ [] := by
  unfold stepsG
  intro h
  have := congrArg List.length h
  simp at this
theorem Gath.nil {b : Bool} {gs gs' : List Gt} (h : Gath b gs [] gs') : gs' = gs ∧ ∀ i j, ¬ OkP b gs i j := by
  generalize e : ([] : List (Nat × Nat)) = st at h
  cases h with
  | done h => exact ⟨rfl, h⟩
  | step f _ => exact absurd e.symm (steps_ne _ _ _ _)
/-! ### the steps are taken -/
def tw (t : Nat) (g h : Gt) : Option (List Gt) := if t = 1 then (if g = h then some [] else none) else if t = 0 then (if freeP g h = true then some [h, g] else none) else (mergeP g h).map fun k => [k]
def ap1 (gs : List Gt) (s : Nat × Nat) : Option (List Gt) := match (gs.drop s.2).take 2 with
  | [g, h] => (tw s.1 g h).map fun x => gs.take s.2 ++ x ++ gs.drop (s.2 + 2)
  | _ => none
def apL : List (Nat × Nat) → List Gt → Option (List Gt)
  | [], gs => some gs
  | s :: r, gs => (ap1 gs s).bind (apL r)
theorem apL_app : ∀ (a b : List (Nat × Nat)) (gs : List Gt), apL (a ++ b) gs = (apL a gs).bind (apL b)
  | [], _, _ => rfl
  | s :: r, b, gs => by
    show (ap1 gs s).bind (apL (r ++ b)) = ((ap1 gs s).bind (apL r)).bind (apL b)
    cases ap1 gs s with
    | none => rfl
    | some g => exact apL_app r b g
theorem ap_at (T R : List Gt) (g h : Gt) (t : Nat) : ap1 (T ++ g :: h :: R) (t, T.length) = (tw t g h).map fun x => T ++ x ++ R := by
  unfold ap1
  have e1 : (T ++ g :: h :: R).drop T.length = g :: h :: R := List.drop_left ..
  have e2 : (T ++ g :: h :: R).take T.length = T := List.take_left ..
  have e3 : (T ++ g :: h :: R).drop (T.length + 2) = R := by rw [← List.drop_drop, e1]; rfl
  show (match ((T ++ g :: h :: R).drop T.length).take 2 with
    | [g', h'] => (tw t g' h').map fun x => (T ++ g :: h :: R).take T.length ++ x ++ (T ++ g :: h :: R).drop (T.length + 2)
    | _ => none) = _
  rw [e1, e2, e3]
  rfl
theorem ap_bring (A : List Gt) (y : Gt) : ∀ (m : Nat) (M C : List Gt), M.length = m → (∀ z ∈ M, freeP z y = true) → apL (exs A.length m) (A ++ M ++ y :: C) = some (A ++ y :: (M ++ C))
  | 0, M, C, h, _ => by
    obtain rfl := List.eq_nil_of_length_eq_zero h
    rw [List.append_nil]
    rfl
  | m + 1, M, C, h, f => by
    obtain ⟨M', z, rfl⟩ : ∃ M' z, M = M' ++ [z] := ⟨M.dropLast, M.getLast (by intro e; rw [e] at h; cases h), (List.dropLast_concat_getLast _).symm⟩
    rw [List.length_append, List.length_singleton] at h
    have h : M'.length = m := by omega
    show (ap1 (A ++ (M' ++ [z]) ++ y :: C) (0, A.length + m)).bind _ = _
    have e : A ++ (M' ++ [z]) ++ y :: C = (A ++ M') ++ z :: y :: C := by simp
    rw [e, show A.length + m = (A ++ M').length by rw [List.length_append, h], ap_at]
    have fz : freeP z y = true := f z (by simp)
    have et : tw 0 z y = some [y, z] := by unfold tw; rw [if_neg (by decide), if_pos rfl, if_pos fz]
    rw [et]
    show apL (exs A.length m) (A ++ M' ++ [y, z] ++ C) = _
    have ih := ap_bring A y m M' (z :: C) h fun w hw => f w (List.mem_append.mpr (.inl hw))
    rw [show A ++ M' ++ [y, z] ++ C = A ++ M' ++ y :: (z :: C) by simp, ih]
    congr 2
    simp
theorem ap_steps {b : Bool} {gs : List Gt} {i j : Nat} (ok : OkP b gs i j) : apL (stepsG b i j) gs = some (joinG b gs i j) := by
  obtain ⟨ij, hj, fit, free⟩ := ok
  have ll : (gs.take i).length = i := by rw [List.length_take]; omega
  unfold stepsG
  rw [apL_app]
  have p := parts ij hj
  have e : apL (exs (i + 1) (j - (i + 1))) gs = some (gs.take i ++ [atG gs i] ++ atG gs j :: (midG gs i j ++ gs.drop (j + 1))) := by
    have := ap_bring (gs.take i ++ [atG gs i]) (atG gs j) (j - (i + 1)) (midG gs i j) (gs.drop (j + 1)) (mid_len ij hj) fun z hz => by
      obtain ⟨k, h1, h2, rfl⟩ := mid_mem ij hj hz
      exact free k h1 h2
    rw [List.length_append, List.length_singleton, ll] at this
    rw [show gs.take i ++ [atG gs i] ++ midG gs i j ++ atG gs j :: gs.drop (j + 1) = gs by
      rw [List.append_assoc, List.append_assoc]
      exact p.symm] at this
    exact this
  rw [e]
  show (ap1 (gs.take i ++ [atG gs i] ++ atG gs j :: (midG gs i j ++ gs.drop (j + 1))) (tagG b, i)).bind (apL []) = _
  have a := ap_at (gs.take i) (midG gs i j ++ gs.drop (j + 1)) (atG gs i) (atG gs j) (tagG b)
  rw [ll] at a
  rw [show gs.take i ++ [atG gs i] ++ atG gs j :: (midG gs i j ++ gs.drop (j + 1)) = gs.take i ++ atG gs i :: atG gs j :: (midG gs i j ++ gs.drop (j + 1)) by simp, a]
  have et : tw (tagG b) (atG gs i) (atG gs j) = some (newG b gs i j) := by
    unfold fitW at fit
    unfold tw tagG newG
    cases b with
    | true =>
      rw [if_pos rfl] at fit
      rw [if_pos rfl, if_pos rfl, if_pos (of_decide_eq_true fit), if_pos rfl]
    | false =>
      rw [if_neg (by decide)] at fit
      rw [if_neg (by decide), if_neg (by decide), if_neg (by decide)]
      cases m : mergeP (atG gs i) (atG gs j) with
      | none => rw [m] at fit; cases fit
      | some k => rfl
  rw [et]
  rfl
theorem Gath.ap {b : Bool} {gs gs' : List Gt} {st : List (Nat × Nat)} (h : Gath b gs st gs') : apL st gs = some gs' := by
  induction h with
  | done _ => rfl
  | step f _ ih =>
    rw [apL_app, ap_steps f.ok]
    exact ih
/-! ### cancelling and merging in turn -/
inductive Shr : List Gt → List (Nat × Nat) → List Gt → Prop
  | stop {gs : List Gt} : (∀ i j, ¬ OkP true gs i j) → (∀ i j, ¬ OkP false gs i j) → Shr gs [] gs
  | turn {gs g1 g2 g3 : List Gt} {c m st : List (Nat × Nat)} : Gath true gs c g1 → Gath false g1 m g2 → c ++ m ≠ [] → Shr g2 st g3 → Shr gs (c ++ m ++ st) g3
theorem Shr.uniq {gs g1 : List Gt} {s1 : List (Nat × Nat)} (h : Shr gs s1 g1) : ∀ {g2 : List Gt} {s2 : List (Nat × Nat)}, Shr gs s2 g2 → s1 = s2 ∧ g1 = g2 := by
  induction h with
  | stop h1 h2 =>
    intro g2 s2 h
    cases h with
    | stop _ _ => exact ⟨rfl, rfl⟩
    | turn a b ne _ =>
      obtain ⟨rfl, rfl⟩ := (Gath.done h1).uniq a
      obtain ⟨rfl, rfl⟩ := (Gath.done h2).uniq b
      exact absurd rfl ne
  | turn a b ne _ ih =>
    intro g2 s2 h
    cases h with
    | stop h1 h2 =>
      obtain ⟨rfl, rfl⟩ := (Gath.done h1).uniq a
      obtain ⟨rfl, rfl⟩ := (Gath.done h2).uniq b
      exact absurd rfl ne
    | turn a2 b2 _ r =>
      obtain ⟨rfl, rfl⟩ := a.uniq a2
      obtain ⟨rfl, rfl⟩ := b.uniq b2
      obtain ⟨rfl, rfl⟩ := ih r
      exact ⟨rfl, rfl⟩
theorem Shr.ap {gs gs' : List Gt} {st : List (Nat × Nat)} (h : Shr gs st gs') : apL st gs = some gs' := by
  induction h with
  | stop _ _ => rfl
  | turn a b _ _ ih =>
    rw [apL_app, apL_app, a.ap]
    show ((apL _ _).bind _) = _
    rw [b.ap]
    exact ih
theorem Shr.len {gs gs' : List Gt} {st : List (Nat × Nat)} (h : Shr gs st gs') : gs'.length ≤ gs.length := by
  induction h with
  | stop _ _ => exact Nat.le_refl _
  | turn a b _ _ ih =>
    have := a.len.1
    have := b.len.1
    omega
theorem Shr.last {gs gs' : List Gt} {st : List (Nat × Nat)} (h : Shr gs st gs') : (∀ i j, ¬ OkP true gs' i j) ∧ ∀ i j, ¬ OkP false gs' i j := by
  induction h with
  | stop h1 h2 => exact ⟨h1, h2⟩
  | turn _ _ _ _ ih => exact ih
end My

set_option Elab.async false
set_option linter.all false
set_option maxRecDepth 100000
set_option maxHeartbeats 2000000
/-! rules of my own: t[::-1] of a tuple, set(list of ints), max(.., default=0) -/
namespace My
open PySem PySem.Spec PyProof.Rows L2
section
variable {prog : Program} {w : World} {A : Around} {E : Value → Shared → Prop} {s : Shared}
theorem adj_rev (n : Nat) : Builtin.Slice.sliceAdjust none none (-1) (n : Int) = ((n : Int) - 1, -1) := rfl
theorem plc_rev (n : Nat) : Builtin.Slice.slicePlaces ((n : Int) - 1) (-1) (-1) = n := by
  unfold Builtin.Slice.slicePlaces
  simp
  omega
theorem fm_map {α β : Type} {f : α → Option β} {g : α → β} : ∀ {l : List α}, (∀ m ∈ l, f m = some (g m)) → l.filterMap f = l.map g
  | [], _ => rfl
  | x :: r, h => by
    rw [List.filterMap_cons, h x List.mem_cons_self, List.map_cons, fm_map fun m hm => h m (List.mem_cons_of_mem _ hm)]
theorem pick_rev (xs : Array Value) : ((List.range xs.size).filterMap fun (m : Nat) => xs[(((xs.size : Int) - 1) + (m : Int) * (-1)).toNat]?) = xs.toList.reverse := by
  have h : ∀ m ∈ List.range xs.size, xs[(((xs.size : Int) - 1) + (m : Int) * (-1)).toNat]? = some (xs.toList.reverse.getD m .none) := fun m hm => by
    have hm := List.mem_range.mp hm
    have e : (((xs.size : Int) - 1) + (m : Int) * (-1)).toNat = xs.size - 1 - m := by omega
    rw [e, List.getD_eq_getElem?_getD, List.getElem?_reverse (by simpa using hm)]
    have : xs.size - 1 - m < xs.size := by omega
    rw [Array.getElem?_eq_getElem this, Array.length_toList, List.getElem?_eq_getElem (by simpa using this)]
    simp
  rw [fm_map h]
  refine List.ext_getElem? fun i => ?_
  rcases Nat.lt_or_ge i xs.size with z | z
  · have z2 : i < xs.toList.reverse.length := by simpa using z
    rw [List.getElem?_map, List.getElem?_range z, List.getElem?_eq_getElem z2]
    show some (xs.toList.reverse.getD i .none) = _
    rw [List.getD_eq_getElem?_getD, List.getElem?_eq_getElem z2]
    rfl
  · rw [List.getElem?_eq_none (by simpa using z), List.getElem?_eq_none (by simpa using z)]
theorem sl_rev {sl : Addr} {n : Nat} {u : Tok} {Q : Int × Int × Nat → Shared → Prop} (hs : s.heap.IsSliceOf sl .none .none (.int (-1) u)) (h : Q ((n : Int) - 1, -1, n) s) :
    wpAny (model prog w) A (Builtin.Slice.sliceApplied (.ref sl) (pure (n : Int))) Q E s := by
  obtain ⟨os, hos, hcs, hds⟩ := id hs
  unfold Builtin.Slice.sliceApplied Builtin.Slice.sliceFields
  refine wpAny_bind (wpAny_bind (wpAny_field hos hds (x := .none) rfl (wpAny_bind (wpAny_field hos hds (x := .none) rfl (wpAny_bind (wpAny_field hos hds (x := .int (-1) u) rfl (wpAny_pure ?_)))))))
  refine wpAny_bind (slicePart_int ?_)
  show wpAny _ _ (if ((-1 : Int) == 0) = true then _ else _) _ _ s
  rw [if_neg (by decide)]
  refine wpAny_bind (slicePart_none (wpAny_bind (slicePart_none (wpAny_bind (wpAny_pure ?_)))))
  show wpAny _ _ (match Builtin.Slice.sliceAdjust none none (-1) (n : Int) with | (a, b) => pure (a, (-1 : Int), Builtin.Slice.slicePlaces a b (-1))) _ _ s
  rw [adj_rev n]
  show wpAny _ _ (pure ((n : Int) - 1, (-1 : Int), Builtin.Slice.slicePlaces ((n : Int) - 1) (-1) (-1))) _ _ s
  rw [plc_rev]
  exact wpAny_pure h
theorem get_rev {t sl : Addr} {items : Array Value} {u : Tok} {Q : Value → Shared → Prop} (ht : IsTup s.heap t items) (hs : s.heap.IsSliceOf sl .none .none (.int (-1) u))
    (h : Q (.ref s.heap.objs.size) { s with heap := s.heap.push { cls := .type "tuple", data := .seq items.toList.reverse.toArray } }) (hsz : items.size ≤ sizeLine) : wpAny (model prog w) A (getItem (.ref t) (.ref sl)) Q E s := by
  have fit : sizeOk (.seq items.toList.reverse.toArray) := by
    show items.toList.reverse.toArray.size ≤ sizeLine
    rw [List.size_toArray, List.length_reverse, Array.length_toList]
    exact hsz
  obtain ⟨os, hos, hcs, hds⟩ := id hs
  have hTs : s.TypeIs (.ref sl) "slice" := ⟨os, hos, hcs⟩
  unfold getItem
  try with_reducible refine wpAny_holding ?_
  first | refine wpAny_bind (wpAny_pure ?_) | skip
  refine wpAny_bind (wpAny_sequenceKey ht.typeIs (by decide) ?_)
  refine wpAny_bind (wpAny_callSpecial?_slot (name := Str.ofString "__getitem__") ht.typeIs PyProof.Rows.slot_tuple_getitem (wpAny_call_entry PyProof.Rows.slot_tuple_getitem ht.typeIs entry_tuple_getitem ?_ (args_tuple_getitem _ _)))
  show wpAny _ _ (Builtin.Tuple.tupleItemsOf (.ref t) >>= _) _ _ s
  refine wpAny_bind (tupleItemsOf_ ht ?_)
  refine wpAny_bind (wpAny_typeOf hTs ?_)
  rw [if_pos (by decide)]
  refine wpAny_bind (sl_rev hs ?_)
  have no : ¬ ((((items.size : Int) - 1) == 0 && (-1 : Int) == 1 && items.size == items.size) = true) := by
    intro q
    rw [Bool.and_eq_true, Bool.and_eq_true] at q
    exact absurd q.1.2 (by decide)
  show wpAny _ _ (if (((items.size : Int) - 1) == 0 && (-1 : Int) == 1 && items.size == items.size) = true then _ else _) _ _ s
  rw [if_neg no, pick_rev]
  first
    | exact wpAny_bind (m := Builtin.Tuple.tupleExact _) (wpAny_newObj_type (wpAny_pure ⟨_, rfl, wpAny_pure h⟩) fit)
    | exact wpAny_bind (m := Builtin.Tuple.tupleExact _) (wpAny_newObj_type (wpAny_bind (wpAny_pure (wpAny_pure ⟨_, rfl, wpAny_pure h⟩))) fit)
    | exact wpAny_bind (wpAny_bind (m := Builtin.Tuple.tupleExact _) (wpAny_newObj_type (wpAny_pure (wpAny_pure ⟨_, rfl, wpAny_pure h⟩)) fit))
    | exact wpAny_bind (wpAny_bind (m := Builtin.Tuple.tupleExact _) (wpAny_newObj_type (wpAny_pure ⟨_, rfl, wpAny_pure h⟩) fit))
end
section
variable {X : Cx}
/-- t[::-1] of a tuple -/
def tRevT (K : PySem.W.Frag) (te : TE) : TE := fun σ H Q => te σ H fun x H1 => ∃ a xs, x = .ref a ∧ SqT K H1 a xs ∧ ∀ p, H1 p = none → Q (.ref p) (upd H1 p (.tup xs.reverse))
theorem pe_revT {e : Expr} {te : TE} {k : Nat} {p1 p2 p3 pos : Pos} (he : PE X e te) : PE X (.Subscript e (.Slice none none (some (.UnaryOp .USub (.Constant (.int 1) k p1) p2)) p3) pos) (tRevT X.K te) := by
  refine ⟨fun pins s σ H Q I h => ?_⟩
  refine Subscript_ (thn (he.run pins s σ H _ I h) fun v s1 ⟨x, H1, I1, r1, a, xs, ex, hx, q⟩ => ?_)
  subst ex
  cases r1
  have st : PO X (some (.UnaryOp .USub (.Constant (.int 1) k p1) p2)) (tPart (tUn (rU fun i => .int (-i)) (tC (.int 1)))) := po_some (pe_un un_neg pe_int)
  refine wpAny_Slice (thn (po_none.run pins s1 σ H1 (fun o H2 => o = none ∧ H2 = H1) I1 ⟨rfl, rfl⟩) fun vl s2 ⟨l, H2, I2, pl, el, e2⟩ => ?_)
  subst el e2
  refine thn (po_none.run pins s2 σ H2 (fun o H3 => o = none ∧ H3 = H2) I2 ⟨rfl, rfl⟩) fun vu s3 ⟨u, H3, I3, pu, eu, e3⟩ => ?_
  subst eu e3
  refine thn (st.run pins s3 σ H3 (fun o H4 => o = some (-1) ∧ H4 = H3) I3 ⟨1, rfl, -1, rfl, rfl, rfl⟩) fun vs s4 ⟨o, H4, I4, ps, eo, e4⟩ => ?_
  subst eo e4
  cases pl
  cases pu
  cases ps
  rename_i t _
  have I5 : Inv X pins σ H4 { s4 with heap := s4.heap.push { cls := .type "slice", data := .fields #[.none, .none, .int (-1) t] } } := I4.kept (t' := s4.toks) fun b ob q => Heap.get?_push_of_some _ q
  obtain ⟨its, r, ht, hz⟩ := I5.tuple hx
  have hlen := r.length
  refine tail_any (ops := [.ref a, .ref s4.heap.objs.size]) ht.typeIs PyProof.Rows.slot_tuple_getitem.lookup ?_ (by with_unfolding_all rfl)
  refine get_rev ht (Heap.IsSliceOf.new _ .none .none (.int (-1) t)) ?_ (by rw [List.size_toArray]; omega)
  refine ⟨.ref _, _, I5.laid (t' := s4.toks) (o := .tup xs.reverse) (fun b ob q => Heap.get?_push_of_some _ q) (Nat.le_refl _) ?_, rfl, q _ (I5.hok.fresh (Nat.le_refl _))⟩
  exact ⟨by rw [List.length_reverse]; omega, _, r.reverse, IsTup.new _ _⟩
end
/-! ### set(xs) of a list of ints -/
abbrev nSet (w : World) : Obj := { cls := .type "set", dict := none, data := .set #[] 0 (.fresh 0 0 (!w.params.followText "set-order")) }
section
variable {P : Program} {w : World} {A : Around} {E : Value → Shared → Prop} {s : Shared}
set_option maxHeartbeats 3200000 in
theorem set_of_list {l : Addr} {its : Array Value} (ns : List Int) {Q : Value → Shared → Prop} (hh : A.handled = none) (hl : s.heap.IsList l its) (hit : IntsAre its.toList ns) (hb : ns.length + 1 < scanBound)
    (fin : ∀ (g : Heap) (tk c : Nat), SetR w g s.heap.objs.size (fun j => decide (j ∈ ns)) c → c ≤ ns.length → (∀ b o, s.heap.get? b = some o → g.get? b = some o) → Q (.ref s.heap.objs.size) { s with heap := g, toks := tk }) :
    wpAny (model P w) A (call (.type "set") [.ref l]) Q E s := by
  have isz : its.size = ns.length := (Array.length_toList (xs := its)).symm.trans (IntsAre.length hit)
  obtain ⟨c, tl, mro⟩ := F.called_set.mro
  have made := F.called_set.made
  have sub := F.called_set.sub
  have n1 := F.called_set.notType
  have n2 := F.called_set.canCreate
  have n3 := F.typeCall_set_1 (.ref l)
  refine wpAny_call (codeAny_of_tree ?_)
  show wpAny _ _ (callAny (Value.type "set") _) _ _ _
  refine wpAny_pure ⟨Code.quiet_builtin _ (by decide +kernel), codeAny_builtin F.entry_type_call ?_⟩
  rw [Around.under_plain (weight_type_call_type "set" [.ref l] []) rfl]
  repeat (any_goals (first | assumption | wp_step))
  refine codeAny_mono (code_set_led1 (.ref l) (E := E) (Q₁ := fun ob s₁ => ob = .ref s.heap.objs.size ∧ s₁ = { s with heap := s.heap.push (nSet w) }) ⟨rfl, rfl⟩) fun r s₁ hr => ?_
  cases r with
  | error e => exact hr
  | ok fl =>
    cases fl with
    | ret ob =>
      obtain ⟨rfl, rfl⟩ := hr
      have hS : (s.heap.push (nSet w)).get? s.heap.objs.size = some (nSet w) := Heap.get?_push_size _ rfl
      have hT : Shared.TypeIs { s with heap := s.heap.push (nSet w) } (.ref s.heap.objs.size) "set" := ⟨_, hS, rfl⟩
      have i1 := F.called_set.init.lookup
      have i2 := F.called_set.init.bind (.ref s.heap.objs.size)
      repeat (any_goals (first | assumption | wp_step))
      refine codeAny_mono (codeAny_call_builtin (R := wants (fun r t => r = .none ∧ ∃ g tk c, t = { s with heap := g, toks := tk } ∧ SetR w g s.heap.objs.size (fun j => decide (j ∈ ns)) c ∧ c ≤ ns.length ∧ (∀ b o, s.heap.get? b = some o → g.get? b = some o)) E) F.called_set.init.plain F.entry_set_init (check_set_init_1 hT ?_)) fun r2 t hr2 => ?_
      · obtain ⟨ol, hol, hcl, nl, hdl⟩ := hl
        obtain ⟨oc, od, oda, osl⟩ := ol
        simp only at hcl hdl
        subst hcl
        subst hdl
        have hol2 : (s.heap.push (nSet w)).get? l = some { cls := .type "list", dict := od, data := .seq its nl, slots := osl } := Heap.get?_push_of_some _ hol
        have b1 := F.sub_list_set
        have b2 := F.sub_list_frozenset
        have b3 : (Value.type "list" == Value.type "dict") = false := by decide
        have hl1 : (s.heap.push (nSet w)).IsList l its := ⟨_, hol2, rfl, nl, rfl⟩
        unfold Builtin.«set.__init__» noKeywords Builtin.Frozenset.updateFrom
        generalize pI : pyIter = PI
        wp_walk
        subst pI
        refine wpAny_pyIter_list hl1 ?_
        refine wpAny_bind (wpAny_runValue ?_)
        have lS : l < s.heap.objs.size := Heap.lt_size hol
        have hh3 : A.in1.in1.in1.handled = none := by simp [hh]
        have z1 : (s.heap.push (nSet w)).objs.size = s.heap.objs.size + 1 := Heap.size_push ..
        have lI : l ≠ (s.heap.push (nSet w)).objs.size := by
          rw [z1]
          exact Nat.ne_of_lt (Nat.lt_succ_of_lt lS)
        have Sf : s.heap.objs.size ∉ [(s.heap.push (nSet w)).objs.size, l] := by
          rw [z1]
          intro q
          rcases List.mem_cons.mp q with q | q
          · exact Nat.ne_of_lt (Nat.lt_succ_self _) q
          · exact Nat.ne_of_gt lS (List.mem_singleton.mp q)
        have val : ∀ (i : Nat) (v : Value), its[i]? = some v → ∃ k t, ns[i]? = some k ∧ v = .int k t := fun i v hv => by
          obtain ⟨hi0, _⟩ := Array.getElem?_eq_some_iff.mp hv
          have hi : i < ns.length := by omega
          obtain ⟨t, e⟩ := IntsAre.int_at hit i v (by rw [Array.getElem?_toList]; exact hv)
          refine ⟨ns[i], t, List.getElem?_eq_getElem hi, e.trans ?_⟩
          rw [List.getD_eq_getElem?_getD, List.getElem?_eq_getElem hi]
          rfl
        refine set_update_ints ((Walks.list hh3 _ l lI its).toS) s.heap.objs.size Sf ns isz hb val (its.size - 0) 0 _ (by omega) (Nat.zero_le _) ⟨⟨_, Heap.get?_push_size _ rfl, rfl, rfl⟩, (hl1.push _)⟩ ?_ ?_
        · have e0 : ((s.heap.push (nSet w)).push { cls := .type "list_iterator", data := .fields #[.ref l, .int 0 0] }).get? s.heap.objs.size = some (nSet w) := Heap.get?_push_of_some _ hS
          exact ⟨0, Nat.le_refl 0, setR_new_at e0⟩
        · intro u c1 hm hc1 hS1
          obtain ⟨g, g2, d, tk, os⟩ := u
          have e1 : g2 = s.gens := hm.gens
          have e2 : d = s.drawn := hm.drawn
          have e3 : os = s.os := hm.os
          subst e1
          subst e2
          subst e3
          show wpAny _ _ _ _ _ _
          refine wpAny_pure ?_
          show wpAny _ _ (ret Value.none) _ _ _
          rw [isz] at hc1
          refine wpAny_pure ⟨rfl, g, tk, c1, rfl, hS1, hc1, fun b o e => ?_⟩
          have b0 : b < s.heap.objs.size := Heap.lt_size e
          refine hm.heap b o (fun q => ?_) (Heap.get?_push_of_some _ (Heap.get?_push_of_some _ e))
          rcases List.mem_cons.mp q with q | q
          · exact Nat.ne_of_lt b0 q
          · rw [List.mem_singleton.mp q, z1] at b0
            exact absurd b0 (Nat.not_lt.mpr (Nat.le_succ _))
      · cases r2 with
        | error e => exact hr2
        | ok f2 =>
          cases f2 with
          | ret r =>
            obtain ⟨rfl, g, tk, c1, rfl, hS2, hc2, hk2⟩ := hr2
            repeat (any_goals (first | assumption | wp_step))
            exact fin _ _ _ hS2 hc2 hk2
          | _ => exact hr2.elim
    | _ => exact hr.elim
end
section
variable {X : Cx}
/-- set(xs) of a list of ints -/
def rSetI (K : PySem.W.Frag) (w : World) : List V → Hp → VK → Prop := fun vs H Q => ∃ (l : Addr) (ns : List Int), vs = [.ref l] ∧ SqL K H l (ns.map V.int) ∧ ns.length ≤ 1000 ∧ ∀ (c : Nat) (p : Addr), c ≤ ns.length → H p = none → Q (.ref p) (upd H p (SetO w p (fun j => decide (j ∈ ns)) c))
theorem cr_setI (hc : X.calm = true) : CallR X (.type "set") (rSetI X.K X.w) := by
  intro pins s σ H xs us Q I rx h
  obtain ⟨l, ns, rfl, hl, hn, q⟩ := h
  rw [Vals.ref1 rx]
  obtain ⟨its, r, pl, hz⟩ := I.list hl
  refine set_of_list ns (I.ok.hd hc) pl.isList (by simpa using intsAre_of r) (by unfold scanBound; omega) fun g tk c R hcn k => ?_
  exact ⟨.ref _, upd H s.heap.objs.size (SetO X.w s.heap.objs.size (fun j => decide (j ∈ ns)) c), I.laid (s := s) (t' := tk) k (Nat.le_refl _) (setO_new R), rfl, q c _ hcn (I.hok.fresh (Nat.le_refl _))⟩
end
end My

set_option Elab.async false
set_option linter.all false
set_option maxRecDepth 100000
set_option maxHeartbeats 2000000
/-! max(d.values(), default=0) of a dict from numbers to numbers -/
namespace My
open PySem PySem.Spec PyProof.Rows L2
section
variable {P : Program} {w : World} {A : Around} {E : Value → Shared → Prop} {s : Shared}
/-- a builtin that goes on by itself, called with words -/
theorem call_treeK {id : String} {b : Builtin} {as : List Value} {kl : List (Str × Value)} {Q : Value → Shared → Prop} (hk : builtinKind id = none) (hp : plainId id = true) (hb : entryFor table id = some b) (ha : argsOk id ⟨as, kl⟩)
    (run : wpAny (model P w) A.in1 (b ⟨as, kl⟩) (fun f t => match f with
      | .done f => (match (Except.ok f : Result) with | .ok (.ret v) => Q v t | .ok _ => False | .error e => E e t)
      | .again c => c.quiet = true ∧ codeAny (model P w) A c (fun r t => match r with | .ok (.ret v) => Q v t | .ok _ => False | .error e => E e t) t) E s) :
    wpAny (model P w) A (call (.builtin id) as kl) Q E s := by
  refine wpAny_call (codeAny_call_builtin hp hb ?_)
  simp only [checkBuiltinCall, hk]
  cases e : Manifest.signature? id with
  | none => exact wpAny_pure run
  | some sg =>
    have h1 : Bind.checkArgs id sg ⟨as, kl⟩ = pure () := by simpa only [argsOk, e] using ha
    simp only [h1]
    exact wpAny_pure run
variable {R : Result → Shared → Prop} {I : Addr} {fp wr : List Addr} {n : Nat} {G : Nat → Value → Prop} {St : Nat → Heap → Prop} {kl : List (Str × Value)}
theorem nm_max : (toString "max" ++ toString ".loop" : String) = "max.loop" := by decide
theorem mx_loop (W : Walks P w A.in1 I fp wr n G St) (bt : Nat → Nat → Bool) (cmp : CmpOf P w A.in1 .Gt G bt) (S : Addr) (nS : S ∉ fp) :
    ∀ (k j : Nat) (s : Shared) (b : Value) (c : Nat), n - (j + 1) = k → j + 1 ≤ n → St (j + 1) s.heap → G (argBest bt j) b → s.heap.get? S = some { cls := .type "list", dict := none, data := .seq #[b, b] c, slots := #[] } →
    (∀ v g tk, G (argBest bt (n - 1)) v → (∀ a o, a ∉ wr → a ≠ S → s.heap.get? a = some o → g.get? a = some o) → R (.ok (.ret v)) { s with heap := g, toks := tk }) →
    codeAny (model P w) A (.builtin "max.loop" ⟨[.ref I, .none, .ref S], kl⟩) R s := by
  have nw : S ∉ wr := fun h => nS (W.sub _ h)
  intro k
  induction k with
  | zero =>
    intro j s b c hk hj st hb hS fin
    have ej : j + 1 = n := by omega
    refine codeAny_builtin F.entry_max_loop ?_
    rw [Around.under_plainId F.plain_max_loop _]
    show wpAny _ A.in1 (seqItems? (.ref S) >>= _) _ _ s
    refine wpAny_bind (wpAny_seqItems hS rfl ?_)
    show wpAny _ A.in1 (tryCatch (pyNext (.ref I)) _ >>= _) _ _ s
    refine wpAny_bind (wpAny_tryCatch (W.done s _ _ (ej ▸ st) fun g tk hg => ?_))
    have hS2 := hg S _ nw hS
    show wpAny _ A.in1 (updateSeq S (fun _ => #[]) >>= _) _ _ _
    refine wpAny_bind ?_
    refine wpAny_updateSeq hS2 rfl (wpAny_bind (wpAny_letGo (wpAny_pure ?_)))
    exact fin b _ tk (by rw [← ej]; exact hb) fun a o h1 h2 e => (Heap.get?_update_other _ _ (Ne.symm h2)).trans (hg a o h1 e)
  | succ k ih =>
    intro j s b c hk hj st hb hS fin
    have lt : j + 1 < n := by omega
    refine codeAny_builtin F.entry_max_loop ?_
    rw [Around.under_plainId F.plain_max_loop _]
    show wpAny _ A.in1 (seqItems? (.ref S) >>= _) _ _ s
    refine wpAny_bind (wpAny_seqItems hS rfl ?_)
    show wpAny _ A.in1 (tryCatch (pyNext (.ref I)) _ >>= _) _ _ s
    refine wpAny_bind (wpAny_tryCatch (W.item (j + 1) s _ _ lt st fun v g tk hv st2 hg => ?_))
    have hS2 := hg S _ nw hS
    show wpAny _ A.in1 (tryCatch (holding [v, v] (richCompare .Gt v b >>= _)) _ >>= _) _ _ _
    refine wpAny_bind (wpAny_tryCatch (wpAny_holding (wpAny_bind (cmp (j + 1) (argBest bt j) v b _ _ _ hv hb ?_))))
    refine wpAny_bind (wpAny_holding (wpAny_truthy_bool ?_))
    refine wpAny_bind (wpAny_letGo (wpAny_pure ?_))
    cases ht : bt (j + 1) (argBest bt j) with
    | true =>
      simp only [if_true]
      refine wpAny_bind ?_
      refine wpAny_updateSeq hS2 rfl (wpAny_bind (wpAny_letGo ?_))
      rw [nm_max]
      refine wpAny_pure ⟨plainId_quiet F.plain_max_loop _, ih (j + 1) _ v _ (by omega) lt (W.frame _ _ _ st2 fun a ha o e => ?_) (by simp only [argBest, ht, if_true]; exact hv) (Heap.get?_update_self _ hS2 rfl) fun v2 g2 t2 h1 h2 => ?_⟩
      · exact (Heap.get?_update_other _ _ (fun z : S = a => nS (by rw [z]; exact ha))).trans e
      · exact fin v2 g2 t2 h1 fun a o x y e => h2 a o x y ((Heap.get?_update_other _ _ (Ne.symm y)).trans (hg a o x e))
    | false =>
      simp only [Bool.false_eq_true, if_false]
      refine wpAny_bind (wpAny_letGo ?_)
      rw [nm_max]
      refine wpAny_pure ⟨plainId_quiet F.plain_max_loop _, ih (j + 1) _ b c (by omega) lt st2 (by simp only [argBest, ht, Bool.false_eq_true, if_false]; exact hb) hS2 fun v2 g2 t2 h1 h2 => ?_⟩
      exact fin v2 g2 t2 h1 fun a o x y e => h2 a o x y (hg a o x e)
theorem mx_first (W : Walks P w A.in1 I fp wr n G St) (bt : Nat → Nat → Bool) (cmp : CmpOf P w A.in1 .Gt G bt) (S : Addr) (nS : S ∉ fp) (dn : Str) (d : Value) {s : Shared} {c : Nat} (st : St 0 s.heap) (hS : s.heap.get? S = some { cls := .type "list", dict := none, data := .seq #[] c, slots := #[] })
    (fin : 0 < n → ∀ v g tk, G (argBest bt (n - 1)) v → (∀ a o, a ∉ wr → a ≠ S → s.heap.get? a = some o → g.get? a = some o) → R (.ok (.ret v)) { s with heap := g, toks := tk })
    (non : n = 0 → ∀ g tk, (∀ a o, a ∉ wr → a ≠ S → s.heap.get? a = some o → g.get? a = some o) → R (.ok (.ret d)) { s with heap := g, toks := tk }) :
    codeAny (model P w) A (.builtin "max.loop" ⟨[.ref I, .none, .ref S], [(dn, d)]⟩) R s := by
  have nw : S ∉ wr := fun h => nS (W.sub _ h)
  refine codeAny_builtin F.entry_max_loop ?_
  rw [Around.under_plainId F.plain_max_loop _]
  show wpAny _ A.in1 (seqItems? (.ref S) >>= _) _ _ s
  refine wpAny_bind (wpAny_seqItems hS rfl ?_)
  show wpAny _ A.in1 (tryCatch (pyNext (.ref I)) _ >>= _) _ _ s
  rcases Nat.eq_zero_or_pos n with z | z
  · refine wpAny_bind (wpAny_tryCatch (W.done s _ _ (by rw [z]; exact st) fun g tk hg => ?_))
    refine wpAny_bind (wpAny_rule (wpAny_pure ?_))
    exact non z g tk fun a o x _ e => hg a o x e
  · refine wpAny_bind (wpAny_tryCatch (W.item 0 s _ _ z st fun v g tk hv st2 hg => ?_))
    have hS2 := hg S _ nw hS
    show wpAny _ A.in1 (updateSeq S (fun _ => #[v, v]) >>= _) _ _ _
    refine wpAny_bind ?_
    refine wpAny_updateSeq hS2 rfl ?_
    rw [nm_max]
    refine wpAny_pure ⟨plainId_quiet F.plain_max_loop _, mx_loop W bt cmp S nS _ 0 _ v _ rfl z (W.frame _ _ _ st2 fun a ha o e => ?_) hv (Heap.get?_update_self _ hS2 rfl) fun v2 g2 t2 h1 h2 => ?_⟩
    · exact (Heap.get?_update_other _ _ (fun q : S = a => nS (by rw [q]; exact ha))).trans e
    · exact fin z v2 g2 t2 h1 fun a o x y e => h2 a o x y ((Heap.get?_update_other _ _ (Ne.symm y)).trans (hg a o x e))
theorem args_maxD (x d : Value) : argsOk "max" ⟨[x], [(Str.ofString "default", d)]⟩ := by unfold argsOk; kernel_rfl
theorem max_walkD {x d : Value} {Q : Value → Shared → Prop}
    (h : wpAny (model P w) A.in1 (pyIter x) (fun it t => ∃ I fp wr n G St bt, it = .ref I ∧ Walks P w A.in1 I fp wr n G St ∧ St 0 t.heap ∧ (∀ b ∈ fp, b < t.heap.objs.size) ∧ CmpOf P w A.in1 .Gt G bt ∧
      (0 < n → ∀ v g tk, G (argBest bt (n - 1)) v → (∀ b o, b ∉ wr → t.heap.get? b = some o → g.get? b = some o) → Q v { t with heap := g, toks := tk }) ∧ (n = 0 → ∀ g tk, (∀ b o, b ∉ wr → t.heap.get? b = some o → g.get? b = some o) → Q d { t with heap := g, toks := tk })) E s) :
    wpAny (model P w) A (call (.builtin "max") [x] [(Str.ofString "default", d)]) Q E s := by
  refine call_treeK F.kind_max F.plain_max F.entry_max (args_maxD _ _) ?_
  show wpAny _ A.in1 (Builtin.Builtins.bindParams "max" ["key", "default"] 0 ⟨[], [(Str.ofString "default", d)]⟩ >>= _) _ _ s
  refine wpAny_bind (wpAny_of_eq (show Builtin.Builtins.bindParams "max" ["key", "default"] 0 ⟨[], [(Str.ofString "default", d)]⟩ = pure [none, some d] from by kernel_rfl) ?_)
  refine wpAny_bind (wpAny_pure ?_)
  refine wpAny_bind (wpAny_mono h (fun it t q => ?_) fun _ _ e => e)
  obtain ⟨I, fp, wr, n, G, St, bt, rfl, W, st, hfp, cmp, fin, non⟩ := q
  refine wpAny_bind (wpAny_newObj_type ?_)
  have nS : t.heap.objs.size ∉ fp := fun hm => Nat.lt_irrefl _ (hfp _ hm)
  rw [nm_max]
  refine wpAny_pure ⟨plainId_quiet F.plain_max_loop _, mx_first W bt cmp t.heap.objs.size nS _ d (W.frame _ _ _ st fun b _ o e => Heap.get?_push_of_some _ e) (Heap.get?_push_size _ rfl) (fun z v g tk hv hk => ?_) (fun z g tk hk => ?_)⟩
  · exact fin z v g tk hv fun b o x e => hk b o x (Nat.ne_of_lt (Heap.lt_size e)) (Heap.get?_push_of_some _ e)
  · exact non z g tk fun b o x e => hk b o x (Nat.ne_of_lt (Heap.lt_size e)) (Heap.get?_push_of_some _ e)
end
section
variable {X : Cx}
/-- d.values() by itself -/
def tValsV (te : TE) : TE := fun σ H Q => te σ H fun x H1 => ∃ d kvs, x = .ref d ∧ H1 d = some (.dK kvs) ∧ ∀ p, H1 p = none → Q (.ref p) (upd H1 p (viewO "dict_values" p d))
theorem pe_valsV {e : Expr} {te : TE} {apos cpos : Pos} (he : PE X e te) (hbase : attributeBase e (Str.ofString "values") X.env (eval e X.env) = eval e X.env := by rfl) (hline : (apos.endLine == cpos.line) = true := by rfl) :
    PE X (.Call (.Attribute e (Str.ofString "values") apos) [] [] cpos) (tValsV te) :=
  ⟨fun pins s σ H Q I hq => by
    refine wpAny_Call_method hbase rfl hline PySem.F.plainAttrs_dict PySem.F.slot_dict_values PySem.F.type_dict_values (thn (he.run pins s σ H _ I hq) fun u s1 ⟨x, H1, I1, rx, d, kvs, ex, hd, q⟩ => ?_)
    subst ex
    have rx : u = Value.ref d := rx
    subst rx
    obtain ⟨hz, hs0, vs, kv, hdo⟩ := I1.hok d _ hd
    refine ⟨Heap.DictOf.typeIs hdo, Heap.MapOf.noDict (Heap.DictOf.mapOf hdo), ?_⟩
    refine method_meetsIn PySem.F.slot_dict_values PySem.F.entry_dict_values rfl (PySem.evalArgs_none ⟨rfl, Heap.DictOf.typeIs hdo, PySem.F.args_dict_values_1 (.ref d), _, meets_dict_values (mixKind X.prog X.w) d hs0, ⟨vs, hdo⟩, ?_⟩)
    exact ⟨.ref s1.heap.objs.size, _, I1.laid (t' := s1.toks) (fun b o q => Heap.get?_push_of_some _ q) (Nat.le_refl _) (viewO_ok (Heap.get?_push_size _ rfl)), rfl, q _ (I1.hok.fresh (Nat.le_refl _))⟩⟩
/-- max(view, default=z) -/
def rMaxV (K : PySem.W.Frag) : List V → List V → Hp → VK → Prop := fun vs zs H Q => ∃ (p d : Addr) (kvs : List (L2.Key × V)) (ns : List Int) (z : Int), vs = [.ref p] ∧ zs = [.int z] ∧ H p = some (viewO "dict_values" p d) ∧ H d = some (.dK kvs) ∧ kvs.map Prod.snd = ns.map V.int ∧ (ns = [] → Q (.int z) H) ∧ ∀ m, m ∈ ns → (∀ y, y ∈ ns → y ≤ m) → Q (.int m) H
theorem cr_maxV (hc : X.calm = true) : CallRK X (.builtin "max") [Str.ofString "default"] (rMaxV X.K) := by
  intro pins s σ H vs zs us ws Q I r rz h
  obtain ⟨p, d, kvs, ns, z, rfl, rfl, hp, hd, hns, qn, qm⟩ := h
  obtain rfl := Vals.ref1 r
  obtain ⟨w1, rfl, tz, rfl⟩ := vals1 rz
  have hv : s.heap.get? p = some (DSub.viewOb "dict_values" d) := (show ObjOk X.prog X.w H s.heap p (viewO "dict_values" p d) from I.hok p _ hp).1
  obtain ⟨hz, hs0, vs, kv, hdo⟩ := I.hok d _ hd
  obtain ⟨es, ep, ⟨o, ho, hex, hda⟩, hsz, hent⟩ := Heap.DictOf.raw hdo
  have lkv : vs.length = kvs.length := (Paired.length kv).symm
  have lns : kvs.length = ns.length := by
    have e := congrArg List.length hns
    rw [List.length_map, List.length_map] at e
    exact e
  have hes : es.size = ns.length := by rw [hsz, lkv, lns]
  have hP : ∀ (i : Nat) (e : DictEntry), es[i]? = some e → ∃ t, e.val = .int (ns.getD i 0) t := fun i e he => by
    obtain ⟨hi, ee⟩ := Array.getElem?_eq_some_iff.mp he
    have hi2 : i < kvs.length := by omega
    have hi3 : i < ns.length := by omega
    obtain ⟨⟨k, v⟩, g1, g2, g3⟩ := LiI.paired_get kv (i := i) (x := kvs[i]) (List.getElem?_eq_getElem hi2)
    obtain ⟨f1, f2⟩ := hent i hi k v g1
    have e2 : kvs[i].2 = V.int ns[i] := by
      have zz : (kvs.map Prod.snd)[i]? = (ns.map V.int)[i]? := by rw [hns]
      rw [List.getElem?_map, List.getElem?_map, List.getElem?_eq_getElem hi2, List.getElem?_eq_getElem hi3] at zz
      exact Option.some.inj zz
    have e3 : ns.getD i 0 = ns[i] := by
      rw [List.getD_eq_getElem?_getD, List.getElem?_eq_getElem hi3]
      rfl
    rw [e2] at g3
    obtain ⟨t, g4⟩ : ∃ t, v = Value.int ns[i] t := g3
    exact ⟨t, by rw [← ee, f2, g4, e3]⟩
  show wpAny (model X.prog X.w) X.A (call (.builtin "max") [.ref p] [(Str.ofString "default", .int z tz)]) (EP X pins σ Q) X.xe s
  refine max_walkD ?_
  refine DSub.iter_vals hv ho hda ?_
  have hdl : d < s.heap.objs.size := Heap.lt_size ho
  refine ⟨s.heap.objs.size, [s.heap.objs.size, d], [s.heap.objs.size], es.size, fun i v => ∃ t, v = .int (ns.getD i 0) t, _, fun i j => decide (ns.getD i 0 > ns.getD j 0), rfl, DSub.walksVal (a := d) (show X.A.in1.handled = none from I.ok.hd hc) (Nat.ne_of_lt hdl) hda hP, ⟨Heap.get?_push_size _ rfl, Heap.get?_push_of_some _ ho⟩, fun b hb => ?_, CmpOf.ints_gt (fun i => ns.getD i 0) (fun i v z => z), fun zn v g tk hv2 hk => ?_, fun zn g tk hk => ?_⟩
  · show b < (s.heap.push _).objs.size
    rw [size_push']
    rcases List.mem_cons.mp hb with q | q
    · rw [q]
      exact Nat.lt_succ_self _
    · rw [List.mem_singleton.mp q]
      exact Nat.lt_succ_of_lt hdl
  · obtain ⟨t, rfl⟩ := hv2
    obtain ⟨m1', m2'⟩ := argBest_gt (fun i => ns.getD i 0) (es.size - 1)
    have m1 : argBest (fun i j => decide (ns.getD i 0 > ns.getD j 0)) (es.size - 1) ≤ es.size - 1 := m1'
    have m2 : ∀ j, j ≤ es.size - 1 → ns.getD j 0 ≤ ns.getD (argBest (fun i j => decide (ns.getD i 0 > ns.getD j 0)) (es.size - 1)) 0 := m2'
    have k2 : ∀ b o, s.heap.get? b = some o → g.get? b = some o := fun b o e => hk b o (fun q => by rw [List.mem_singleton.mp q] at e; exact absurd (Heap.lt_size e) (Nat.lt_irrefl _)) (Heap.get?_push_of_some _ e)
    refine ⟨.int _, H, I.kept (t' := tk) k2, ⟨t, rfl⟩, qm _ (PySem.getD_mem (by omega)) fun y hy => ?_⟩
    obtain ⟨j, hj, e⟩ := List.mem_iff_getElem.mp hy
    have q := m2 j (by omega)
    have e3 : ns.getD j 0 = y := by
      rw [List.getD_eq_getElem?_getD, List.getElem?_eq_getElem hj, ← e]
      rfl
    rw [e3] at q
    exact q
  · have k2 : ∀ b o, s.heap.get? b = some o → g.get? b = some o := fun b o e => hk b o (fun q => by rw [List.mem_singleton.mp q] at e; exact absurd (Heap.lt_size e) (Nat.lt_irrefl _)) (Heap.get?_push_of_some _ e)
    exact ⟨.int z, H, I.kept (t' := tk) k2, ⟨tz, rfl⟩, qn (List.length_eq_zero_iff.mp (by omega))⟩
end
end My

set_option Elab.async false
set_option linter.all false
set_option maxRecDepth 100000
set_option maxHeartbeats 2000000
/-! min(list of pairs, default=None) -/
namespace My
open PySem PySem.Spec PyProof.Rows L2
section
variable {P : Program} {w : World} {A : Around} {E : Value → Shared → Prop} {s : Shared}
variable {R : Result → Shared → Prop} {I : Addr} {fp wr : List Addr} {n : Nat} {G : Nat → Value → Prop} {St : Nat → Heap → Prop} {kl : List (Str × Value)}
/-- two items compared, where the heap is as it should -/
def CmpH (P : Program) (w : World) (A : Around) (op : CmpOp) (G : Nat → Value → Prop) (bt : Nat → Nat → Bool) (Good : Heap → Prop) : Prop :=
  ∀ i j vi vj (s : Shared) (Q : Value → Shared → Prop) (E : Value → Shared → Prop), Good s.heap → G i vi → G j vj → Q (.bool (bt i j)) s → wpAny (model P w) A (richCompare op vi vj) Q E s
theorem nm_min : (toString "min" ++ toString ".loop" : String) = "min.loop" := by decide
theorem mn_loop (W : Walks P w A.in1 I fp wr n G St) (bt : Nat → Nat → Bool) (Good : Heap → Prop) (cmp : CmpH P w A.in1 .Lt G bt Good) (S : Addr) (nS : S ∉ fp) (gf : ∀ h h', Good h → (∀ a o, a ∉ wr → a ≠ S → h.get? a = some o → h'.get? a = some o) → Good h') :
    ∀ (k j : Nat) (s : Shared) (b : Value) (c : Nat), n - (j + 1) = k → j + 1 ≤ n → St (j + 1) s.heap → Good s.heap → G (argBest bt j) b → s.heap.get? S = some { cls := .type "list", dict := none, data := .seq #[b, b] c, slots := #[] } →
    (∀ v g tk, G (argBest bt (n - 1)) v → (∀ a o, a ∉ wr → a ≠ S → s.heap.get? a = some o → g.get? a = some o) → R (.ok (.ret v)) { s with heap := g, toks := tk }) →
    codeAny (model P w) A (.builtin "min.loop" ⟨[.ref I, .none, .ref S], kl⟩) R s := by
  have nw : S ∉ wr := fun h => nS (W.sub _ h)
  intro k
  induction k with
  | zero =>
    intro j s b c hk hj st gd hb hS fin
    have ej : j + 1 = n := by omega
    refine codeAny_builtin F.entry_min_loop ?_
    rw [Around.under_plainId F.plain_min_loop _]
    show wpAny _ A.in1 (seqItems? (.ref S) >>= _) _ _ s
    refine wpAny_bind (wpAny_seqItems hS rfl ?_)
    show wpAny _ A.in1 (tryCatch (pyNext (.ref I)) _ >>= _) _ _ s
    refine wpAny_bind (wpAny_tryCatch (W.done s _ _ (ej ▸ st) fun g tk hg => ?_))
    have hS2 := hg S _ nw hS
    show wpAny _ A.in1 (updateSeq S (fun _ => #[]) >>= _) _ _ _
    refine wpAny_bind ?_
    refine wpAny_updateSeq hS2 rfl (wpAny_bind (wpAny_letGo (wpAny_pure ?_)))
    exact fin b _ tk (by rw [← ej]; exact hb) fun a o h1 h2 e => (Heap.get?_update_other _ _ (Ne.symm h2)).trans (hg a o h1 e)
  | succ k ih =>
    intro j s b c hk hj st gd hb hS fin
    have lt : j + 1 < n := by omega
    refine codeAny_builtin F.entry_min_loop ?_
    rw [Around.under_plainId F.plain_min_loop _]
    show wpAny _ A.in1 (seqItems? (.ref S) >>= _) _ _ s
    refine wpAny_bind (wpAny_seqItems hS rfl ?_)
    show wpAny _ A.in1 (tryCatch (pyNext (.ref I)) _ >>= _) _ _ s
    refine wpAny_bind (wpAny_tryCatch (W.item (j + 1) s _ _ lt st fun v g tk hv st2 hg => ?_))
    have hS2 := hg S _ nw hS
    show wpAny _ A.in1 (tryCatch (holding [v, v] (richCompare .Lt v b >>= _)) _ >>= _) _ _ _
    refine wpAny_bind (wpAny_tryCatch (wpAny_holding (wpAny_bind (cmp (j + 1) (argBest bt j) v b _ _ _ (gf _ _ gd fun a o h1 h2 e => hg a o h1 e) hv hb ?_))))
    refine wpAny_bind (wpAny_holding (wpAny_truthy_bool ?_))
    refine wpAny_bind (wpAny_letGo (wpAny_pure ?_))
    cases ht : bt (j + 1) (argBest bt j) with
    | true =>
      simp only [if_true]
      refine wpAny_bind ?_
      refine wpAny_updateSeq hS2 rfl (wpAny_bind (wpAny_letGo ?_))
      rw [nm_min]
      refine wpAny_pure ⟨plainId_quiet F.plain_min_loop _, ih (j + 1) _ v _ (by omega) lt (W.frame _ _ _ st2 fun a ha o e => ?_) (gf _ _ gd fun a o h1 h2 e => (Heap.get?_update_other _ _ (Ne.symm h2)).trans (hg a o h1 e)) (by simp only [argBest, ht, if_true]; exact hv) (Heap.get?_update_self _ hS2 rfl) fun v2 g2 t2 h1 h2 => ?_⟩
      · exact (Heap.get?_update_other _ _ (fun z : S = a => nS (by rw [z]; exact ha))).trans e
      · exact fin v2 g2 t2 h1 fun a o x y e => h2 a o x y ((Heap.get?_update_other _ _ (Ne.symm y)).trans (hg a o x e))
    | false =>
      simp only [Bool.false_eq_true, if_false]
      refine wpAny_bind (wpAny_letGo ?_)
      rw [nm_min]
      refine wpAny_pure ⟨plainId_quiet F.plain_min_loop _, ih (j + 1) _ b c (by omega) lt st2 (gf _ _ gd fun a o h1 h2 e => hg a o h1 e) (by simp only [argBest, ht, Bool.false_eq_true, if_false]; exact hb) hS2 fun v2 g2 t2 h1 h2 => ?_⟩
      exact fin v2 g2 t2 h1 fun a o x y e => h2 a o x y (hg a o x e)
theorem mn_first (W : Walks P w A.in1 I fp wr n G St) (bt : Nat → Nat → Bool) (Good : Heap → Prop) (cmp : CmpH P w A.in1 .Lt G bt Good) (S : Addr) (nS : S ∉ fp) (gf : ∀ h h', Good h → (∀ a o, a ∉ wr → a ≠ S → h.get? a = some o → h'.get? a = some o) → Good h') (dn : Str) (d : Value) {s : Shared} {c : Nat} (st : St 0 s.heap) (gd : Good s.heap) (hS : s.heap.get? S = some { cls := .type "list", dict := none, data := .seq #[] c, slots := #[] })
    (fin : 0 < n → ∀ v g tk, G (argBest bt (n - 1)) v → (∀ a o, a ∉ wr → a ≠ S → s.heap.get? a = some o → g.get? a = some o) → R (.ok (.ret v)) { s with heap := g, toks := tk })
    (non : n = 0 → ∀ g tk, (∀ a o, a ∉ wr → a ≠ S → s.heap.get? a = some o → g.get? a = some o) → R (.ok (.ret d)) { s with heap := g, toks := tk }) :
    codeAny (model P w) A (.builtin "min.loop" ⟨[.ref I, .none, .ref S], [(dn, d)]⟩) R s := by
  have nw : S ∉ wr := fun h => nS (W.sub _ h)
  refine codeAny_builtin F.entry_min_loop ?_
  rw [Around.under_plainId F.plain_min_loop _]
  show wpAny _ A.in1 (seqItems? (.ref S) >>= _) _ _ s
  refine wpAny_bind (wpAny_seqItems hS rfl ?_)
  show wpAny _ A.in1 (tryCatch (pyNext (.ref I)) _ >>= _) _ _ s
  rcases Nat.eq_zero_or_pos n with z | z
  · refine wpAny_bind (wpAny_tryCatch (W.done s _ _ (by rw [z]; exact st) fun g tk hg => ?_))
    refine wpAny_bind (wpAny_rule (wpAny_pure ?_))
    exact non z g tk fun a o x _ e => hg a o x e
  · refine wpAny_bind (wpAny_tryCatch (W.item 0 s _ _ z st fun v g tk hv st2 hg => ?_))
    have hS2 := hg S _ nw hS
    show wpAny _ A.in1 (updateSeq S (fun _ => #[v, v]) >>= _) _ _ _
    refine wpAny_bind ?_
    refine wpAny_updateSeq hS2 rfl ?_
    rw [nm_min]
    refine wpAny_pure ⟨plainId_quiet F.plain_min_loop _, mn_loop W bt Good cmp S nS gf _ 0 _ v _ rfl z (W.frame _ _ _ st2 fun a ha o e => ?_) (gf _ _ gd fun a o h1 h2 e => (Heap.get?_update_other _ _ (Ne.symm h2)).trans (hg a o h1 e)) hv (Heap.get?_update_self _ hS2 rfl) fun v2 g2 t2 h1 h2 => ?_⟩
    · exact (Heap.get?_update_other _ _ (fun q : S = a => nS (by rw [q]; exact ha))).trans e
    · exact fin z v2 g2 t2 h1 fun a o x y e => h2 a o x y ((Heap.get?_update_other _ _ (Ne.symm y)).trans (hg a o x e))
theorem args_minD (x d : Value) : argsOk "min" ⟨[x], [(Str.ofString "default", d)]⟩ := by unfold argsOk; kernel_rfl
theorem min_walkD {x d : Value} {Q : Value → Shared → Prop}
    (h : wpAny (model P w) A.in1 (pyIter x) (fun it t => ∃ I fp wr n G St bt, ∃ Good : Heap → Prop, it = .ref I ∧ Walks P w A.in1 I fp wr n G St ∧ St 0 t.heap ∧ (∀ b ∈ fp, b < t.heap.objs.size) ∧ CmpH P w A.in1 .Lt G bt Good ∧ Good t.heap ∧ (∀ h h', Good h → (∀ a o, a ∉ wr → a < t.heap.objs.size → h.get? a = some o → h'.get? a = some o) → Good h') ∧
      (0 < n → ∀ v g tk, G (argBest bt (n - 1)) v → (∀ b o, b ∉ wr → t.heap.get? b = some o → g.get? b = some o) → Q v { t with heap := g, toks := tk }) ∧ (n = 0 → ∀ g tk, (∀ b o, b ∉ wr → t.heap.get? b = some o → g.get? b = some o) → Q d { t with heap := g, toks := tk })) E s) :
    wpAny (model P w) A (call (.builtin "min") [x] [(Str.ofString "default", d)]) Q E s := by
  refine call_treeK F.kind_min F.plain_min F.entry_min (args_minD _ _) ?_
  show wpAny _ A.in1 (Builtin.Builtins.bindParams "min" ["key", "default"] 0 ⟨[], [(Str.ofString "default", d)]⟩ >>= _) _ _ s
  refine wpAny_bind (wpAny_of_eq (show Builtin.Builtins.bindParams "min" ["key", "default"] 0 ⟨[], [(Str.ofString "default", d)]⟩ = pure [none, some d] from by kernel_rfl) ?_)
  refine wpAny_bind (wpAny_pure ?_)
  refine wpAny_bind (wpAny_mono h (fun it t q => ?_) fun _ _ e => e)
  obtain ⟨I, fp, wr, n, G, St, bt, Good, rfl, W, st, hfp, cmp, gd, gf, fin, non⟩ := q
  refine wpAny_bind (wpAny_newObj_type ?_)
  have nS : t.heap.objs.size ∉ fp := fun hm => Nat.lt_irrefl _ (hfp _ hm)
  rw [nm_min]
  refine wpAny_pure ⟨plainId_quiet F.plain_min_loop _, mn_first W bt Good cmp t.heap.objs.size nS (fun h h' g k => gf h h' g fun a o x lt e => k a o x (Nat.ne_of_lt lt) e) _ d (W.frame _ _ _ st fun b _ o e => Heap.get?_push_of_some _ e) (gf _ _ gd fun a o _ _ e => Heap.get?_push_of_some _ e) (Heap.get?_push_size _ rfl) (fun z v g tk hv hk => ?_) (fun z g tk hk => ?_)⟩
  · exact fin z v g tk hv fun b o x e => hk b o x (Nat.ne_of_lt (Heap.lt_size e)) (Heap.get?_push_of_some _ e)
  · exact non z g tk fun b o x e => hk b o x (Nat.ne_of_lt (Heap.lt_size e)) (Heap.get?_push_of_some _ e)
end
theorem argBest_lex (k : Nat → Int × Int) : ∀ m, argBest (fun i j => SrtO.lexB (k i) (k j)) m ≤ m ∧ ∀ j, j ≤ m → SrtO.lexB (k j) (k (argBest (fun i j => SrtO.lexB (k i) (k j)) m)) = false
  | 0 => ⟨Nat.le_refl _, fun j hj => by
    obtain rfl : j = 0 := by omega
    show SrtO.lexB (k 0) (k 0) = false
    exact SrtO.lexB_no.mpr (by omega)⟩
  | m + 1 => by
    obtain ⟨h1, h2⟩ := argBest_lex k m
    unfold argBest
    by_cases e : SrtO.lexB (k (m + 1)) (k (argBest (fun i j => SrtO.lexB (k i) (k j)) m)) = true
    · rw [if_pos e]
      refine ⟨Nat.le_refl _, fun j hj => ?_⟩
      have a := SrtO.lexB_iff.mp e
      rcases Nat.lt_or_ge j (m + 1) with l | l
      · have b := SrtO.lexB_no.mp (h2 j (by omega))
        refine SrtO.lexB_no.mpr ?_
        omega
      · obtain rfl : j = m + 1 := by omega
        exact SrtO.lexB_no.mpr (by omega)
    · rw [if_neg e]
      refine ⟨by omega, fun j hj => ?_⟩
      rcases Nat.lt_or_ge j (m + 1) with l | l
      · exact h2 j (by omega)
      · obtain rfl : j = m + 1 := by omega
        exact Bool.eq_false_iff.mpr e
section
variable {X : Cx}
/-- min(list of pairs, default=None) -/
def rMinPT (K : PySem.W.Frag) : List V → List V → Hp → VK → Prop := fun vs zs H Q => ∃ (p : Addr) (xs : List V) (k : Nat → Int × Int), vs = [.ref p] ∧ zs = [.non] ∧ SqL K H p xs ∧ (∀ i x, xs[i]? = some x → ∃ t, x = .ref t ∧ SqT K H t [.int (k i).1, .int (k i).2]) ∧ (xs = [] → Q .non H) ∧ ∀ i x, xs[i]? = some x → (∀ j, j < xs.length → SrtO.lexB (k j) (k i) = false) → Q x H
theorem cr_minPT (hc : X.calm = true) (hu : X.A.units + 1 < cLine) : CallRK X (.builtin "min") [Str.ofString "default"] (rMinPT X.K) := by
  intro pins s σ H vs zs us ws Q I r rz h
  obtain ⟨p, xs, k, rfl, rfl, hp, hk, qn, qm⟩ := h
  obtain rfl := Vals.ref1 r
  obtain ⟨w1, rfl, ew⟩ := vals1 rz
  obtain rfl : w1 = Value.none := ew
  obtain ⟨its, rv, pl, hz⟩ := I.list hp
  have lx : xs.length = its.length := rv.length
  have pair : ∀ i u, its[i]? = some u → ∃ (t : Addr) (vs : List Value), u = .ref t ∧ t < s.heap.objs.size ∧ IsTup s.heap t vs.toArray ∧ IntsAre vs [(k i).1, (k i).2] := fun i u hi => by
    obtain ⟨hi1, hi2⟩ := List.getElem?_eq_some_iff.mp hi
    have hx : xs[i]? = some xs[i] := List.getElem?_eq_getElem (by omega)
    obtain ⟨t, e, ht⟩ := hk i _ hx
    obtain ⟨u', hu', rl⟩ := LiI.paired_get rv hx
    obtain rfl : u' = u := Option.some.inj (hu'.symm.trans hi)
    rw [e] at rl
    obtain rfl : u' = Value.ref t := rl
    obtain ⟨vs, r2, tp, _⟩ := I.tuple ht
    refine ⟨t, vs, rfl, ?_, tp, ?_⟩
    · obtain ⟨o, ho, _⟩ := tp
      exact Heap.lt_size ho
    · obtain ⟨u1, u2, e2, ri, rj⟩ := vals2 r2
      obtain ⟨t1, e3⟩ := ri
      obtain ⟨t2, e4⟩ := rj
      subst e2 e3 e4
      exact .cons _ _ (.cons _ _ .nil)
  show wpAny (model X.prog X.w) X.A (call (.builtin "min") [.ref p] [(Str.ofString "default", .none)]) (EP X pins σ Q) X.xe s
  refine min_walkD ?_
  refine wpAny_pyIter_list pl.isList ?_
  obtain ⟨op, hop, _⟩ := pl.isList
  have hpl : p < s.heap.objs.size := Heap.lt_size hop
  have f2 : ∀ b u, s.heap.get? b = some u → (s.heap.push { cls := .type "list_iterator", data := .fields #[.ref p, .int 0 0] }).get? b = some u := fun b u e => Heap.get?_push_of_some _ e
  refine ⟨s.heap.objs.size, [s.heap.objs.size, p], [s.heap.objs.size], its.toArray.size, fun i v => its.toArray[i]? = some v, _, fun i j => SrtO.lexB (k i) (k j), fun h => ∀ i u, its[i]? = some u → ∃ (t : Addr) (vs : List Value), u = .ref t ∧ t < s.heap.objs.size ∧ IsTup h t vs.toArray ∧ IntsAre vs [(k i).1, (k i).2], rfl, Walks.list (show X.A.in1.handled = none from I.ok.hd hc) _ p (Nat.ne_of_lt hpl) its.toArray, ⟨⟨_, Heap.get?_push_size _ rfl, rfl, rfl⟩, ?_⟩, fun b hb => ?_, ?_, ?_, ?_, fun zn v g tk hv hk2 => ?_, fun zn g tk hk2 => ?_⟩
  · obtain ⟨o, ho, r⟩ := pl.isList
    exact ⟨o, f2 _ _ ho, r⟩
  · show b < (s.heap.push _).objs.size
    rw [size_push']
    rcases List.mem_cons.mp hb with q | q
    · rw [q]
      exact Nat.lt_succ_self _
    · rw [List.mem_singleton.mp q]
      exact Nat.lt_succ_of_lt hpl
  · intro i j vi vj s' Q' E' gd hi hj hq
    obtain ⟨t1, vs1, rfl, _, tp1, in1⟩ := gd i vi (by simpa using hi)
    obtain ⟨t2, vs2, rfl, _, tp2, in2⟩ := gd j vj (by simpa using hj)
    refine HT.lt_tupInts tp1 tp2 (by simpa using in1) (by simpa using in2) hu ?_
    have e : HT.lexLt [(k i).1, (k i).2] [(k j).1, (k j).2] = SrtO.lexB (k i) (k j) := by
      rw [HT.lexLt_cons, HT.lexLt_cons, HT.lexLt_nil_nil]
      unfold SrtO.lexB
      by_cases e1 : (k i).1 = (k j).1
      · rw [if_pos e1, if_pos e1]
        by_cases e2 : (k i).2 = (k j).2
        · rw [if_pos e2, decide_eq_false (by omega)]
        · rw [if_neg e2]
      · rw [if_neg e1, if_neg e1]
    rw [e]
    exact hq
  · intro i u hi
    obtain ⟨t, vs, e, lt, tp, ia⟩ := pair i u hi
    exact ⟨t, vs, e, lt, tp.keeps f2, ia⟩
  · intro h h' gd keep i u hi
    obtain ⟨t, vs, e, lt, ⟨o, ho, r⟩, ia⟩ := gd i u hi
    refine ⟨t, vs, e, lt, ⟨o, keep t o (fun q => ?_) ?_ ho, r⟩, ia⟩
    · rw [List.mem_singleton.mp q] at lt
      exact Nat.lt_irrefl _ lt
    · show t < (s.heap.push _).objs.size
      rw [size_push']
      exact Nat.lt_succ_of_lt lt
  · have k2 : ∀ b o, s.heap.get? b = some o → g.get? b = some o := fun b o e => hk2 b o (fun q => by rw [List.mem_singleton.mp q] at e; exact absurd (Heap.lt_size e) (Nat.lt_irrefl _)) (f2 _ _ e)
    have zs : its.toArray.size = its.length := by simp
    obtain ⟨m1, m2⟩ := argBest_lex k (its.length - 1)
    rw [zs] at hv zn
    have hv : its[argBest (fun i j => SrtO.lexB (k i) (k j)) (its.length - 1)]? = some v := by simpa using hv
    generalize argBest (fun i j => SrtO.lexB (k i) (k j)) (its.length - 1) = i at hv m1 m2
    have hx : xs[i]? = some xs[i] := List.getElem?_eq_getElem (by omega)
    obtain ⟨u', hu', rl⟩ := LiI.paired_get rv hx
    obtain rfl : u' = v := Option.some.inj (hu'.symm.trans hv)
    exact ⟨xs[i], H, I.kept (t' := tk) k2, rl, qm i _ hx fun j hj => m2 j (by omega)⟩
  · have k2 : ∀ b o, s.heap.get? b = some o → g.get? b = some o := fun b o e => hk2 b o (fun q => by rw [List.mem_singleton.mp q] at e; exact absurd (Heap.lt_size e) (Nat.lt_irrefl _)) (f2 _ _ e)
    have zs : its.toArray.size = its.length := by simp
    exact ⟨.non, H, I.kept (t' := tk) k2, rfl, qn (List.length_eq_zero_iff.mp (by omega))⟩
end
end My

set_option Elab.async false
set_option linter.all false
set_option maxRecDepth 100000
set_option maxHeartbeats 2000000
/-! {e for t in it} of ints -/
namespace My
open PySem PySem.Spec PyProof.Rows L2 PpSet
section
variable {Y : Cx}
/-- one more member -/
theorem add_int {pns : List (Addr × Obj)} {τ : L2.St} {G : Hp} {t : Shared} {E : Value → Shared → Prop} {D : Addr} {S : Int → Bool} {n : Nat} {y : Int} {k : Tok} {Q : Value → Shared → Prop} (J : L2.Inv Y pns τ G t) (hD : G D = some (SetO Y.w D S n)) (room : n + 1 < scanBound)
    (nxt : ∀ u, L2.Inv Y pns τ (upd G D (SetO Y.w D (fun j => S j || decide (j = y)) (if S y = true then n else n + 1))) u → Q .none u) : wpAny (model Y.prog Y.w) Y.A (call (.builtin "set.add") [.ref D, .int y k]) Q E t := by
  refine setR_add (setO_get J hD) room fun g sb new => nxt _ (J.write (e := D) (t' := t.toks + 1) (by rw [hD]; trivial) (.inl rfl) (fun b u hb hu => (sb.2 b hb).trans hu) ?_ (setO_new new))
  obtain ⟨o, _, _, _, ho, _⟩ := new
  exact ⟨o, ho⟩
/-- {elt for target in iter}, elt an int: D the new set -/
def tScI (w : World) (wi : TI) (g : TG) (tt : TT) (te : TE) (vs : List Nat) : TE := fun τ G Q => wi τ G fun J G1 => ∀ D, G1 D = none → ∃ W : Nat → Nat → Hp → Prop, (∃ m, W 0 m (upd G1 D (SetO w D (fun _ => false) 0))) ∧ ∀ i m G2, W i m G2 →
  (J.stop i G2 ∧ Q (.ref D) G2) ∨ (J.go i G2 ∧ ∃ N : Hp → Prop, (∀ G3, N G3 → ∃ k, k < m ∧ W (i + 1) k G3) ∧ ∀ x G3, J.yld i G2 x G3 → g x (wipe τ vs) G3 fun τ2 G4 => wipe τ2 vs = wipe τ vs ∧ tt τ2 G4 fun b G5 =>
    if b = true then te τ2 G5 fun y G6 => ∃ (c : Int) (S : Int → Bool) (n : Nat), y = .int c ∧ G6 D = some (SetO w D S n) ∧ n + 1 < scanBound ∧ N (upd G6 D (SetO w D (fun j => S j || decide (j = c)) (if S c = true then n else n + 1))) else N G5)
theorem pe_scI {elt tg iter : Expr} {ifs : List Expr} {sco : Scope} {own : List (PySem.Str × Nat)} {pos : Pos} {wi : TI} {g : TG} {tt : TT} {te : TE} (calm : Y.calm = true) (nd : Y.N.Nodup) (hi : PI Y tg iter wi) (ok : BlkOk Y.N Y.env.scope sco own)
    (pg : ∀ (t : Shared) (G : Hp) (C : Addr) (cl : List (PySem.Str × Addr)) (fq : List Addr), PG (Y.blk t G sco (compEnvC sco cl C Y.env) fq) tg g) (pt : ∀ (t : Shared) (G : Hp) (C : Addr) (cl : List (PySem.Str × Addr)) (fq : List Addr), PTs (Y.blk t G sco (compEnvC sco cl C Y.env) fq) ifs tt)
    (pe : ∀ (t : Shared) (G : Hp) (C : Addr) (cl : List (PySem.Str × Addr)) (fq : List Addr), PE (Y.blk t G sco (compEnvC sco cl C Y.env) fq) elt te) (fold : ∀ x, foldedSetIterable iter Y.env x = pure x := by intro _; rfl) :
    PE Y (.SetComp elt [⟨tg, iter, ifs, 0⟩] sco pos) (tScI Y.w wi g tt te (own.map (·.2))) := by
  refine ⟨fun pns t τ G Q J h => ?_⟩
  rw [eval_SetComp]
  have clo : closureFor sco Y.env = pure (cloFrom Y.env.cells sco.names []) := closure_ok fun y hy e => (ok.free y hy e).elim (fun k => J.ok.has _ (.inl k)) (fun k => J.ok.has _ (.inr k))
  refine wpAny_comprehension_free (use := none) rfl fold clo ok.kind (fun y hy e => by rw [ok.uniq y hy, e]) (thn (hi.run pns t τ G _ J h) fun _ t1 a => thn a fun _ t2 b => ?_)
  obtain ⟨it, fq, tn, I0, G2, rfl, J2, turns, st2, out2, q⟩ := b
  refine newSet_ok (newEnv_comp ?_)
  have free2 : G2 t2.heap.objs.size = none := J2.hok.fresh (Nat.le_refl _)
  obtain ⟨W, ⟨m0, w0⟩, step⟩ := q t2.heap.objs.size free2
  obtain ⟨D, eD⟩ : ∃ D, t2.heap.objs.size = D := ⟨_, rfl⟩
  obtain ⟨t3, e3⟩ : ∃ t3 : Shared, t3 = { t2 with heap := t2.heap.push { cls := .type "set", dict := none, data := .set #[] 0 (.fresh 0 0 (!Y.w.params.followText "set-order")) } } := ⟨_, rfl⟩
  obtain ⟨G3, eG⟩ : ∃ G3, upd G2 D (SetO Y.w D (fun _ => false) 0) = G3 := ⟨_, rfl⟩
  have J3 : L2.Inv Y pns τ G3 t3 := by
    rw [← eG, ← eD, e3]
    exact J2.laid (t' := t2.toks) (fun b o e => Heap.get?_push_of_some _ e) (Nat.le_refl _) (setO_new (setR_fresh Y.w))
  have old : ∀ b ∈ fq, b < D ∧ D < t3.heap.objs.size := fun b hb => by
    obtain ⟨o, e, _⟩ := turns.obj _ _ st2 b hb
    refine ⟨by rw [← eD]; exact Heap.lt_size e, ?_⟩
    rw [e3, ← eD]
    show t2.heap.objs.size < (t2.heap.push _).objs.size
    rw [Heap.size_push]
    exact Nat.lt_succ_self _
  have out3 : ∀ b ∈ fq, FpOk Y pns G3 b ∧ b < t3.heap.objs.size := fun b hb => ⟨⟨by rw [← eG, upd_ne (Nat.ne_of_lt (old b hb).1)]; exact (out2 b hb).1, (out2 b hb).2⟩, Nat.lt_trans (old b hb).1 (old b hb).2⟩
  have st3 : tn 0 t3.heap := turns.keep _ _ _ st2 fun b _ o e => by rw [e3]; exact Heap.get?_push_of_some _ e
  rw [eD] at w0 step
  rw [eG] at w0
  rw [eD, ← e3]
  have J4 := block_start J3 ok nd out3
  have g4 := pg t3 G3 t3.heap.objs.size (cellsFrom (t3.heap.objs.size + 1) sco.names (cloFrom Y.env.cells sco.names [])) fq
  have i4 := pt t3 G3 t3.heap.objs.size (cellsFrom (t3.heap.objs.size + 1) sco.names (cloFrom Y.env.cells sco.names [])) fq
  have x4 := pe t3 G3 t3.heap.objs.size (cellsFrom (t3.heap.objs.size + 1) sco.names (cloFrom Y.env.cells sco.names [])) fq
  have none3 : ∀ b ∈ fq, G3 b = none := fun b hb => (out3 b hb).1.1
  show codeAny _ _ (.compStart (.SetComp elt [⟨tg, iter, ifs, 0⟩] sco pos) 0 (.ref it) (.ref D) (compEnvC sco (cellsFrom (t3.heap.objs.size + 1) sco.names (cloFrom Y.env.cells sco.names [])) t3.heap.objs.size Y.env)) (compPost (model Y.prog Y.w) Y.A Y.xe none (EP Y pns τ Q) (.ref D) t3.heap.objs.size) { t3 with heap := pushCells (t3.heap.push { cls := .type "dict", data := .dict #[] }) sco.names }
  obtain ⟨ce, ec⟩ : ∃ ce, compEnvC sco (cellsFrom (t3.heap.objs.size + 1) sco.names (cloFrom Y.env.cells sco.names [])) t3.heap.objs.size Y.env = ce := ⟨_, rfl⟩
  obtain ⟨t4, e4⟩ : ∃ t4 : Shared, { t3 with heap := pushCells (t3.heap.push { cls := .type "dict", data := .dict #[] }) sco.names } = t4 := ⟨_, rfl⟩
  have loc : ce.locals = t3.heap.objs.size := by rw [← ec]; rfl
  have st4 : tn 0 t4.heap := turns.keep _ _ _ st3 fun b _ o e => by rw [← e4]; exact pushCells_keeps _ _ _ _ (Heap.get?_push_of_some _ e)
  rw [ec] at J4 g4 i4 x4 ⊢
  rw [e4] at J4 ⊢
  have stat : ∀ {τ' : L2.St} {G' : Hp} {u : Shared}, L2.Inv (Y.blk t3 G3 sco ce fq) [] τ' G' u → (∀ b ∈ fq, G' b = none) → ∀ b ∈ fq, FpOk (Y.blk t3 G3 sco ce fq) [] G' b := fun {τ' G' u} K hn b hb =>
    ⟨hn b hb, (K.ok.exf b hb).1, K.ok.exfs b hb, .inl hb, fun x c e => (K.ok.exf b hb).2 x c e, fun p hp => absurd (show p ∈ ([] : List (Addr × Obj)) ++ [] from hp) (by simp)⟩
  have loop : codeAny (model Y.prog Y.w) Y.A (.compLoop (.SetComp elt [⟨tg, iter, ifs, 0⟩] sco pos) 0 (.ref it) (.ref D) ce) (compPost (model Y.prog Y.w) Y.A Y.xe none (EP Y pns τ Q) (.ref D) t3.heap.objs.size) t4 := by
    refine compLoopS_any (fun n u => ∃ i G', L2.Inv (Y.blk t3 G3 sco ce fq) [] (wipe τ (own.map (·.2))) G' u ∧ tn i u.heap ∧ (∀ b ∈ fq, G' b = none) ∧ W i n G') ?_ m0 ⟨0, G3, J4, st4, none3, w0⟩
    rintro n t5 ⟨i, G5, J5, st5, none5, w5⟩
    rcases step i n G5 w5 with ⟨stop, last⟩ | ⟨go, N, less, turn⟩
    · refine thnF (turns.done (Y.blk t3 G3 sco ce fq) rfl rfl rfl calm i [] t5 _ G5 (fun _ _ => False) J5 (stat J5 none5) st5 stop) fun r t6 ⟨er, J6⟩ => ?_
      subst er
      have J7 : L2.Inv Y pns τ G5 t6 := J3.call' (ch := fq) J6.os J6.base J6.hok J6.bare fun b hb => by
        obtain ⟨⟨_, o2, o3, o4, o5, o6⟩, _⟩ := out3 b hb
        exact ⟨o4, o2, o5, o6⟩
      have nC : G5 t3.heap.objs.size = none := by
        have z : G5 ce.locals = none := J6.free
        rw [← loc]
        exact z
      obtain ⟨mm, hn, _⟩ := J6.loc
      have hn : t6.heap.Ns ce.locals mm := hn
      rw [loc] at hn
      obtain ⟨f0, f1, f2, f3, f4, f5⟩ := J3.fpOk (Nat.le_refl _) nC
      refine ⟨mm, hn, fun h'' sb => ?_⟩
      exact ⟨.ref D, G5, J7.turned (t' := t6.toks) (fun b o hb e => (sb.2 b hb).trans e) f0 f1 f3 f4 f5, rfl, last⟩
    · refine thnF (turns.item (Y.blk t3 G3 sco ce fq) rfl rfl rfl calm i [] t5 _ G5 (fun _ _ => False) J5 (stat J5 none5) st5 go) fun r t6 ⟨u, er, h6⟩ => ?_
      subst er
      refine thnF h6 fun _ t7 ⟨x, G7, J7, r7, y7, st7, none7⟩ => ?_
      have J7p := J7.pinned (stat J7 none7) (turns.obj _ _ st7)
      refine thnF (g4.run _ t7 _ G7 x u _ J7p r7 (turn x G7 y7)) fun _ t8 ⟨τ8, G8, J8, hw8, q8⟩ => ?_
      refine thnF (i4.run _ t8 τ8 G8 _ J8 q8) fun b t9 ⟨G9, J9, q9⟩ => ?_
      have fin : ∀ {u : Shared} {G' : Hp}, L2.Inv (Y.blk t3 G3 sco ce fq) ([] ++ pinsAt fq t7.heap) τ8 G' u → N G' → ∃ m, m < n ∧ ∃ i G', L2.Inv (Y.blk t3 G3 sco ce fq) [] (wipe τ (own.map (·.2))) G' u ∧ tn i u.heap ∧ (∀ b ∈ fq, G' b = none) ∧ W i m G' := fun {u G'} K hN => by
        obtain ⟨m1, lt1, w1⟩ := less G' hN
        have pin1 : ∀ b ∈ fq, ∀ o, t7.heap.get? b = some o → u.heap.get? b = some o ∧ G' b = none := fun b hb o e =>
          let z := K.pin (b, o) (List.mem_append_right _ (List.mem_append_right _ (mem_pinsAt hb e)))
          ⟨z.1, z.2.1⟩
        have len : (wipe τ (own.map (·.2))).length = τ8.length := by rw [← hw8, wipe_length]
        refine ⟨m1, lt1, i + 1, G', (K.unpinned (pins := [])).weak len (fun j v e => ?_), turns.keep _ _ _ st7 fun b hb o e => (pin1 b hb o e).1, fun b hb => ?_, w1⟩
        · rw [← hw8] at e
          exact (wipe_some e).1
        · obtain ⟨o, e, _⟩ := turns.obj _ _ st7 b hb
          exact (pin1 b hb o e).2
      cases b with
      | false =>
        simp only [Bool.false_eq_true, if_false] at q9 ⊢
        exact fin J9 q9
      | true =>
        simp only [if_true] at q9 ⊢
        refine thnF (x4.run _ t9 τ8 G9 _ J9 q9) fun z t10 ⟨yv, G10, J10, r10, c, S0, n0, ey, hD10, room, nx⟩ => ?_
        subst ey
        obtain ⟨tk, rfl⟩ : ∃ k, z = Value.int c k := r10
        exact add_int (Y := Y.blk t3 G3 sco ce fq) J10 hD10 room fun t11 J11 => fin J11 nx
  exact codeAny_compStart_set loop (turns.self Y.A 0 _ _ _ st4 loop)
end
end My

set_option Elab.async false
set_option linter.all false
set_option maxRecDepth 100000
set_option maxHeartbeats 2000000
/-! tuple(reversed(t)) of a tuple -/
namespace My
open PySem PySem.Spec PyProof.Rows RT
theorem nolen_rt : typeLookup (.type "reversed") "__len__" = pure none := by
  rw [typeLookup_type, builtinLookup_eq_fast]
  kernel_rfl
theorem hint_rt : typeLookup (.type "reversed") "__length_hint__" = pure (some (.builtin "reversed.__length_hint__")) := by
  rw [typeLookup_type, builtinLookup_eq_fast]
  kernel_rfl
theorem type_rt_hint : typeOf (.builtin "reversed.__length_hint__") = pure (.type "method_descriptor") := by
  show builtinType _ = _
  rw [builtinType_eq_fast]
  kernel_rfl
theorem slot_rt_hint : Slot "reversed" "__length_hint__" "reversed.__length_hint__" :=
  .of (owner := "reversed") (n := "__length_hint__") hint_rt (by decide +kernel) (by decide +kernel) (by decide +kernel) (by first | exact .inl (by decide +kernel) | exact .inr (by decide +kernel)) (by rw [isSubtype_type]; kernel_rfl)
theorem entry_rt_hint : entryFor table "reversed.__length_hint__" = some Builtin.«reversed.__length_hint__» := entryFor_of_tree (by kernel_rfl)
theorem args_rt_hint (a : Value) : argsOk "reversed.__length_hint__" ⟨[a], []⟩ := by
  unfold argsOk
  rw [signature?_of (id := "reversed.__length_hint__") (n := ['_', '_', 't', 'n', 'i', 'h', '_', 'h', 't', 'g', 'n', 'e', 'l', '_', '_']) (o := ['d', 'e', 's', 'r', 'e', 'v', 'e', 'r']) (by kernel_rfl) owner_rt]
  kernel_rfl
section
variable {P : Program} {w : World} {A : Around} {E : Value → Shared → Prop} {s : Shared}
theorem walk_rt (hh : A.handled = none) {it t : Addr} {its : Array Value} (ne : t ≠ it) (hz : its.size ≤ sizeLine) : Walks P w A it [it, t] [it] its.size (fun i v => its[its.size - 1 - i]? = some v) (fun i h => i ≤ its.size ∧ IsRt h it t ((its.size : Int) - 1 - (i : Nat)) ∧ IsTup h t its) where
  sub := fun b hb => by
    rw [List.mem_singleton.mp hb]
    exact List.mem_cons_self
  frame := fun i h g st k => by
    obtain ⟨h1, h2, h3⟩ := st
    refine ⟨h1, h2.at fun o e => k it List.mem_cons_self o e, ?_⟩
    obtain ⟨o, e, r⟩ := h3
    exact ⟨o, k t (List.mem_cons_of_mem _ List.mem_cons_self) o e, r⟩
  item := fun i s Q E hi st hQ => by
    obtain ⟨_, h2, h3⟩ := st
    have e1 : (its.size : Int) - 1 - ((i : Nat) : Int) = ((its.size - 1 - i : Nat) : Int) := by omega
    rw [e1] at h2
    have lt : its.size - 1 - i < its.size := by omega
    refine next_rt_item h2 h3 (x := its[its.size - 1 - i]) (Array.getElem?_eq_getElem lt) hz fun g st2 sb => hQ _ g (s.toks + 1) (Array.getElem?_eq_getElem lt) ⟨hi, ?_, ?_⟩ fun b o hb e => (sb.2 b (fun z => hb (by rw [z]; exact List.mem_singleton.mpr rfl))).trans e
    · have e2 : ((its.size - 1 - i : Nat) : Int) - 1 = (its.size : Int) - 1 - ((i + 1 : Nat) : Int) := by omega
      rw [e2] at st2
      exact st2
    · obtain ⟨o, e, r⟩ := h3
      exact ⟨o, (sb.2 t ne).trans e, r⟩
  done := fun s Q E st hQ => by
    obtain ⟨_, h2, _⟩ := st
    have e1 : (its.size : Int) - 1 - ((its.size : Nat) : Int) = -1 := by omega
    rw [e1] at h2
    exact next_rt_end hh h2 fun g eb => hQ g s.toks fun b o hb e => eb b o (fun z => hb (by rw [z]; exact List.mem_singleton.mpr rfl)) e
  self := fun i s Q E st h => iter_rt st.2.1 h
theorem run_hint {it t : Addr} {its : Array Value} {Q : Value → Shared → Prop} (hit : IsRt s.heap it t ((its.size : Int) - 1)) (ht : IsTup s.heap t its) (hz : its.size ≤ sizeLine) (h : ∀ k tk, Q (.int its.size k) { s with toks := tk }) :
    wpAny (model P w) A (call (.builtin "reversed.__length_hint__") [.ref it]) Q E s := by
  obtain ⟨o, ho, hc, hd⟩ := id hit
  have big : (its.size : Int) < 2 ^ 63 := by
    rw [sizeLine_eq] at hz
    omega
  refine wpAny_call_entry slot_rt_hint hit.typeIs entry_rt_hint ?_ (args_rt_hint _)
  unfold Builtin.«reversed.__length_hint__»
  refine wpAny_bind (wpAny_of_eq (a := Value.ref it) rfl ?_)
  refine wpAny_bind (wpAny_field ho hd (x := .ref t) rfl ?_)
  show wpAny _ _ (call (.builtin "len") [.ref t] >>= _) _ _ s
  refine wpAny_bind (PyProof.Rows.len_tuple ht big ?_)
  refine wpAny_bind (wpAny_of_eq (a := some ((its.size : Nat) : Int)) rfl ?_)
  refine wpAny_bind (wpAny_field (s := { s with toks := s.toks + 1 + 1 }) ho hd (x := rawInt ((its.size : Int) - 1)) rfl ?_)
  show wpAny _ _ (if (its.size : Int) < (its.size : Int) - 1 + 1 then _ else _) _ _ _
  rw [if_neg (by omega)]
  refine wpAny_bind (wpAny_mkInt (wpAny_pure ⟨_, rfl, ?_⟩))
  have e : (its.size : Int) - 1 + 1 = (its.size : Int) := by omega
  rw [e]
  exact h _ _
theorem collect_rt {it t : Addr} {its : Array Value} {Q : List Value → Shared → Prop} (hh : A.handled = none) (hit : IsRt s.heap it t ((its.size : Int) - 1)) (ht : IsTup s.heap t its) (ne : t ≠ it) (hz : its.size ≤ sizeLine)
    (fin : ∀ (g : Heap) (tk : Nat) (acc : Array Value), (∀ b o, b ≠ it → s.heap.get? b = some o → g.get? b = some o) → ItemsOf (fun i v => its[its.size - 1 - i]? = some v) acc its.size → Q acc.toList { s with heap := g, toks := tk }) :
    wpAny (model P w) A (collect (.ref it)) Q E s := by
  have W := (walk_rt (P := P) (w := w) (A := A.in1) hh ne hz).toS
  obtain ⟨o1, h1, _⟩ := id hit
  obtain ⟨o2, h2, _⟩ := id ht
  have nit : s.heap.objs.size ≠ it := Nat.ne_of_gt (Heap.lt_size h1)
  have nt : s.heap.objs.size ≠ t := Nat.ne_of_gt (Heap.lt_size h2)
  have nS : s.heap.objs.size ∉ [it, t] := fun q => by
    rcases List.mem_cons.mp q with q | q
    · exact nit q
    · exact nt (List.mem_singleton.mp q)
  unfold collect
  refine wpAny_bind (wpAny_runValue (codeAny_builtin F.entry_proto_collect ?_))
  rw [Around.under_plainId F.plain_proto_collect _]
  show wpAny _ A.in1 (newList [] >>= fun l => again (.builtin "list.__iadd__" ⟨[l, .ref it], []⟩)) _ _ s
  refine wpAny_bind (wpAny_newObj_type ?_)
  refine wpAny_pure ⟨plainId_quiet F.plain_list_iadd _, codeAny_builtin F.entry_list_iadd ?_⟩
  rw [Around.under_plainId F.plain_list_iadd _]
  obtain ⟨u, eu⟩ : ∃ u : Shared, u = { s with heap := s.heap.push { cls := .type "list", data := .seq ([] : List Value).toArray } } := ⟨_, rfl⟩
  have kp : ∀ b o, s.heap.get? b = some o → u.heap.get? b = some o := fun b o e => by rw [eu]; exact Heap.get?_push_of_some _ e
  have hS : u.heap.get? s.heap.objs.size = some { cls := .type "list", data := .seq ([] : List Value).toArray } := by rw [eu]; exact Heap.get?_push_size _ rfl
  have hit1 : IsRt u.heap it t ((its.size : Int) - 1) := hit.at fun o e => kp it o e
  have ht1 : IsTup u.heap t its := by
    obtain ⟨o, e, r⟩ := ht
    exact ⟨o, kp t o e, r⟩
  have hT : u.TypeIs (.ref it) "reversed" := hit1.typeIs
  have same : Builtin.List.listSameRef (.ref s.heap.objs.size) (.ref it) = false := by simp [Builtin.List.listSameRef, nit]
  rw [← eu]
  show wpAny _ A.in1 (Builtin.List.listExtendWith (.ref s.heap.objs.size) (.ref it) (.ref s.heap.objs.size)) _ _ u
  unfold Builtin.List.listExtendWith
  refine wpAny_bind (wpAny_typeOf hT ?_)
  rw [if_neg (by rw [same]; decide)]
  refine wpAny_bind (iter_rt hit1 ?_)
  refine wpAny_bind (wpAny_holding ?_)
  unfold Builtin.List.listLengthHint
  refine wpAny_bind (wpAny_specialOf hT nolen_rt ?_)
  show wpAny _ A.in1 (specialOf (Value.ref it) (Str.ofString "__length_hint__") >>= _) _ _ _
  refine wpAny_bind (wpAny_specialOf hT hint_rt ?_)
  generalize eid : ("reversed.__length_hint__" : String) = lid
  wp_delta
  rw [show splitId lid = some ("reversed", "__length_hint__") from by subst eid; decide +kernel]
  subst eid
  refine wpAny_bind (wpAny_isInstance (b := true) hT (by rw [isSubtype_type]; kernel_rfl) ?_)
  simp only [Bool.not_true, Bool.false_eq_true, if_false]
  rw [if_neg (by decide +kernel)]
  refine wpAny_bind (wpAny_rule ?_)
  refine wpAny_bind ?_
  unfold bindSpecial
  rw [type_rt_hint]
  refine wpAny_bind (wpAny_pure ?_)
  rw [if_pos (by decide)]
  refine wpAny_pure ?_
  refine wpAny_bind (wpAny_attempt (run_hint hit1 ht1 hz fun k tk => ?_))
  dsimp only
  rw [show asInt? (Value.int (its.size : Int) k) = pure (some (its.size : Int)) from rfl]
  simp only [pure_bind]
  have hz2 := hz
  rw [sizeLine_eq] at hz2
  have f1 : Builtin.List.listFitsIndex ((its.size : Nat) : Int) = true := by
    show (decide (-(2 ^ 63 : Int) ≤ (its.size : Int)) && decide ((its.size : Int) < 2 ^ 63)) = true
    rw [decide_eq_true (by omega), decide_eq_true (by omega)]
    rfl
  have f2 : Builtin.List.listTooLong ((its.size : Nat) : Int).toNat = false := L2.notLongL (by rw [Int.toNat_natCast]; exact hz)
  rw [if_neg (by rw [f1]; decide), if_neg (by omega), if_neg (by rw [f2]; decide)]
  refine wpAny_pure ?_
  have e0 : ((its.size : Nat) : Int) - 1 - ((0 : Nat) : Int) = (its.size : Int) - 1 := by omega
  have old : ∀ b o, b ≠ it → s.heap.get? b = some o → b ∉ s.heap.objs.size :: [it] := fun b o hb e q => by
    rcases List.mem_cons.mp q with q | q
    · exact absurd (Heap.lt_size e) (by rw [q]; exact Nat.lt_irrefl _)
    · exact hb (List.mem_singleton.mp q)
  rcases Nat.eq_zero_or_pos its.size with z | z
  · rw [if_neg (by rw [z]; decide +kernel)]
    refine wpAny_pure ⟨plainId_quiet F.plain_extend_loop _, codeAny_extend_loopS W hz _ nS _ its.size 0 _ _ _ rfl (Nat.zero_le _) ⟨Nat.zero_le _, by rw [e0]; exact hit1, ht1⟩ hS (ItemsOf.nil _) fun u2 acc c hm hS2 hacc => ?_⟩
    show wpAny _ A (load s.heap.objs.size >>= _) _ _ u2
    refine wpAny_bind (wpAny_load hS2 ?_)
    refine wpAny_pure ?_
    rw [Moved.eq_with hm, eu]
    exact fin u2.heap u2.toks acc (fun b o hb e => hm.heap b o (old b o hb e) (kp b o e)) hacc
  · rw [if_pos (by
      have : ((its.size : Int) != 0) = true := bne_iff_ne.mpr (by omega)
      rw [this]
      rfl)]
    clear hz2 f1 f2
    refine wpAny_bind (wpAny_rule ?_)
    refine wpAny_bind ?_
    show wpAny _ A.in1 (updateSeq s.heap.objs.size (·.push .none) >>= fun _ => updateSeq s.heap.objs.size (·.pop)) _ _ _
    refine wpAny_bind (wpAny_updateSeq hS rfl ?_)
    have hS3 := Heap.get?_update_self (Obj.mapSeq (·.push Value.none)) hS rfl
    refine wpAny_updateSeq hS3 rfl ?_
    have hS4 := Heap.get?_update_self (Obj.mapSeq (·.pop)) hS3 rfl
    have off : ∀ b o, b ≠ s.heap.objs.size → u.heap.get? b = some o → ((u.heap.update s.heap.objs.size (Obj.mapSeq (·.push Value.none))).update s.heap.objs.size (Obj.mapSeq (·.pop))).get? b = some o :=
      fun b o hb e => (Heap.get?_update_other _ _ (Ne.symm hb)).trans ((Heap.get?_update_other _ _ (Ne.symm hb)).trans e)
    refine wpAny_pure ⟨plainId_quiet F.plain_extend_loop _, codeAny_extend_loopS W hz _ nS _ its.size 0 _ _ _ rfl (Nat.zero_le _) ⟨Nat.zero_le _, by rw [e0]; exact hit1.at fun o e => off it o nit.symm e, ?_⟩ hS4 (ItemsOf.nil _) fun u2 acc c hm hS2 hacc => ?_⟩
    · obtain ⟨o, e, r⟩ := ht1
      exact ⟨o, off t o nt.symm e, r⟩
    show wpAny _ A (load s.heap.objs.size >>= _) _ _ u2
    refine wpAny_bind (wpAny_load hS2 ?_)
    refine wpAny_pure ?_
    rw [Moved.eq_with hm, eu]
    refine fin u2.heap u2.toks acc (fun b o hb e => hm.heap b o (old b o hb e) (off b o ?_ (kp b o e))) hacc
    exact Nat.ne_of_lt (Heap.lt_size e)
theorem new_rt {it t : Addr} {its : Array Value} {R : Value → Shared → Prop} (hh : A.handled = none) (hit : IsRt s.heap it t ((its.size : Int) - 1)) (ht : IsTup s.heap t its) (ne : t ≠ it) (hz : its.size ≤ sizeLine)
    (fin : ∀ (g : Heap) (tk : Nat) (acc : Array Value), (∀ b o, b ≠ it → s.heap.get? b = some o → g.get? b = some o) → ItemsOf (fun i v => its[its.size - 1 - i]? = some v) acc its.size → R (.ref g.objs.size) { s with heap := g.push { cls := .type "tuple", data := .seq acc }, toks := tk }) :
    codeAny (model P w) A (.call (.builtin "tuple.__new__") ⟨[.type "tuple", .ref it], []⟩) (wants R E) s := by
  refine codeAny_of_tree ?_
  show wpAny _ A.in1 (do checkBuiltinCall "tuple.__new__" ⟨[.type "tuple", .ref it], []⟩; again (.builtin "tuple.__new__" ⟨[.type "tuple", .ref it], []⟩)) _ _ s
  refine wpAny_bind (wpAny_of_eq (F.newCall_tuple_1 _) (wpAny_pure ⟨plainId_quiet F.plain_tuple_new _, codeAny_builtin F.entry_tuple_new ?_⟩))
  rw [Around.under_plainId F.plain_tuple_new _]
  have g1 := sub_tuple_self
  have g2 := init_tuple_lookup
  have g3 := madeHere_tuple
  have hT : s.TypeIs (.ref it) "reversed" := hit.typeIs
  have hh1 : A.in1.handled = none := hh
  wp_walk using wpAny_typeOf hT, collect_rt (A := A.in1) hh1 hit ht ne hz
  intro g tk acc hk hacc
  show wpAny _ _ (Builtin.Tuple.tupleExact acc.toList.toArray >>= fun v => ret v) _ _ _
  unfold Builtin.Tuple.tupleExact
  have e : acc.toList.toArray = acc := by simp
  rw [e]
  refine wpAny_bind (wpAny_newObj_type ?_ (by show acc.size ≤ sizeLine; rw [hacc.1]; exact hz))
  exact wpAny_pure (fin g tk acc hk hacc)
theorem call_rt {it t : Addr} {its : Array Value} {Q : Value → Shared → Prop} (hh : A.handled = none) (hit : IsRt s.heap it t ((its.size : Int) - 1)) (ht : IsTup s.heap t its) (ne : t ≠ it) (hz : its.size ≤ sizeLine)
    (fin : ∀ (g : Heap) (tk : Nat) (acc : Array Value), (∀ b o, b ≠ it → s.heap.get? b = some o → g.get? b = some o) → ItemsOf (fun i v => its[its.size - 1 - i]? = some v) acc its.size → Q (.ref g.objs.size) { s with heap := g.push { cls := .type "tuple", data := .seq acc }, toks := tk }) :
    wpAny (model P w) A (call (.type "tuple") [.ref it]) Q E s := by
  refine callType_codes (Q₁ := fun ob u => u.TypeIs ob "tuple" ∧ Q ob u) F.called_tuple (F.typeCall_tuple_1 _) F.entry_object_init (new_rt (A := A.in1) hh hit ht ne hz fun g tk acc hk hacc => ⟨⟨_, Heap.get?_push_size _ rfl, rfl⟩, fin g tk acc hk hacc⟩) fun ob u hu => ?_
  exact ⟨hu.1, F.args_object_init_2 ob _, object_init_meets F.called_tuple.init.lookup F.called_tuple.made (by decide) P w A.in1 _ u ⟨hu.1, rfl, hu.2⟩⟩
end
section
open L2
variable {X : Cx}
/-- tuple(reversed(t)) of a tuple -/
def tTRev (K : PySem.W.Frag) (te : TE) : TE := fun σ H Q => te σ H fun v H1 => ∃ (a : Addr) (xs : List V), v = .ref a ∧ SqT K H1 a xs ∧ ∀ q, H1 q = none → Q (.ref q) (upd H1 q (.tup xs.reverse))
theorem pe_tRev {e : Expr} {te : TE} {p p2 pos pos2 : Pos} (hc : X.calm = true) (hg : Gl X "tuple") (hm : X.mg "tuple" = none) (hg2 : Gl X "reversed") (hm2 : X.mg "reversed" = none) (he : PE X e te) (hs : starEach [e] X.env = (false, eval e X.env) :: starEach [] X.env := by rfl)
    (hs2 : starEach [.Call (.Name "reversed" p2) [e] [] pos2] X.env = (false, eval (.Call (.Name "reversed" p2) [e] [] pos2) X.env) :: starEach [] X.env := by rfl) : PE X (.Call (.Name "tuple" p) [.Call (.Name "reversed" p2) [e] [] pos2] [] pos) (tTRev X.K te) := by
  refine ⟨fun pins s σ H Q I h => ?_⟩
  refine Call_ (ld_blt I hg hm boot_tuple (PyProof.Rows.callWith_type1 (args_cons (Call_ (ld_blt I hg2 hm2 PyProof.Rows.boot_reversed (PyProof.Rows.callWith_type1 (args_cons (thn (he.run pins s σ H _ I h) fun u s1 ⟨v, H1, I1, r1, a, xs, ev, hq, q⟩ => args_nil ?_) hs) hs rfl))) hs2) hs2 rfl))
  subst ev
  obtain rfl : u = Value.ref a := r1
  obtain ⟨its, rv, ht, hz⟩ := I1.tuple hq
  have hn : its.toArray.size ≤ sizeLine := by rw [List.size_toArray, ← rv.length]; exact hz
  refine call_reversed_tup ht (fun A E Q k => PyProof.Rows.len_tuple ht (by have := hn; rw [sizeLine_eq] at this; omega) k) (args_nil ?_)
  have k0 : ∀ b o, s1.heap.get? b = some o → (s1.heap.push (rtObj a ((its.toArray.size : Int) - 1))).get? b = some o := fun b o e => Heap.get?_push_of_some _ e
  have I2 : L2.Inv X pins σ H1 { s1 with heap := s1.heap.push (rtObj a ((its.toArray.size : Int) - 1)), toks := s1.toks + 1 + 1 } := I1.kept (t' := s1.toks + 1 + 1) k0
  obtain ⟨f0, f1, f2, f3, f4, f5⟩ := I1.fpOk (H' := H1) (b := s1.heap.objs.size) (Nat.le_refl _) (I1.hok.fresh (Nat.le_refl _))
  obtain ⟨ol, hol, ro⟩ := id ht
  have ne : a ≠ s1.heap.objs.size := Nat.ne_of_lt (Heap.lt_size hol)
  refine call_rt (s := { s1 with heap := s1.heap.push (rtObj a ((its.toArray.size : Int) - 1)), toks := s1.toks + 1 + 1 }) (I1.ok.hd hc) ⟨_, Heap.get?_push_size _ rfl, rfl, rfl⟩ ⟨ol, k0 _ _ hol, ro⟩ ne hn fun g tk acc hk hi => ?_
  have I3 : L2.Inv X pins σ H1 { s1 with heap := g, toks := tk } := I2.turned (t' := tk) (fun b o hb e => hk b o hb e) f0 f1 f3 f4 f5
  refine ⟨.ref g.objs.size, upd H1 g.objs.size (.tup xs.reverse), I3.laid (t' := tk) (fun c o e => Heap.get?_push_of_some _ e) (Nat.le_refl _) (show ObjOk X.prog X.w _ _ _ (.tup xs.reverse) from ⟨by rw [List.length_reverse]; exact hz, acc.toList, vals_rev rv hi, ?_⟩), rfl, q _ (I3.hok.fresh (Nat.le_refl _))⟩
  rw [Array.toArray_toList]
  exact IsTup.new _ _
end
end My

set_option Elab.async false
set_option linter.all false
set_option maxRecDepth 100000
/-! walks: {e for t in it}, for .. else; list.count within a comprehension -/
namespace My
open PySem PySem.Spec PyProof.Rows L2 PpSet
section
variable {J : It} {n : Nat} {G : Hp → Prop} {Y : Nat → Hp → V → Hp → Prop}
theorem sc_it {wd : World} (w : Walk J n G Y) {g : TG} {tt : TT} {te : TE} {vs : List Nat} {τ : L2.St} {G1 : Hp} {D : Addr} {Qd : Hp → Prop} (Pv : Nat → Hp → Prop) (h0 : Pv 0 (upd G1 D (SetO wd D (fun _ => false) 0))) (hG : ∀ i H, i ≤ n → Pv i H → G H)
    (hs : ∀ i x H H', i < n → Pv i H → Y i H x H' → g x (wipe τ vs) H' fun τ2 G4 => wipe τ2 vs = wipe τ vs ∧ tt τ2 G4 fun b G5 =>
      if b = true then te τ2 G5 fun y G6 => ∃ (c : Int) (S : Int → Bool) (m : Nat), y = .int c ∧ G6 D = some (SetO wd D S m) ∧ m + 1 < scanBound ∧ Pv (i + 1) (upd G6 D (SetO wd D (fun j => S j || decide (j = c)) (if S c = true then m else m + 1))) else Pv (i + 1) G5) (hd : ∀ H, Pv n H → Qd H) :
    ∃ W : Nat → Nat → Hp → Prop, (∃ m, W 0 m (upd G1 D (SetO wd D (fun _ => false) 0))) ∧ ∀ i m G2, W i m G2 →
  (J.stop i G2 ∧ Qd G2) ∨ (J.go i G2 ∧ ∃ N : Hp → Prop, (∀ G3, N G3 → ∃ k, k < m ∧ W (i + 1) k G3) ∧ ∀ x G3, J.yld i G2 x G3 → g x (wipe τ vs) G3 fun τ2 G4 => wipe τ2 vs = wipe τ vs ∧ tt τ2 G4 fun b G5 =>
    if b = true then te τ2 G5 fun y G6 => ∃ (c : Int) (S : Int → Bool) (n : Nat), y = .int c ∧ G6 D = some (SetO wd D S n) ∧ n + 1 < scanBound ∧ N (upd G6 D (SetO wd D (fun j => S j || decide (j = c)) (if S c = true then n else n + 1))) else N G5) := by
  refine ⟨fun i m H => m = n - i ∧ i ≤ n ∧ Pv i H, ⟨n, by simp, Nat.zero_le _, h0⟩, ?_⟩
  rintro i m H ⟨rfl, hi, p⟩
  have q := hG i H hi p
  by_cases hlt : i < n
  · exact .inr ⟨w.goes i H hlt q, Pv (i + 1), fun H' p' => ⟨n - (i + 1), by omega, rfl, hlt, p'⟩, fun x H' y => hs i x H H' hlt p (w.yields i H x H' hlt q y)⟩
  · have e : i = n := by omega
    subst e
    exact .inl ⟨w.stops H q, hd H p⟩
theorem forE_it (w : Walk J n G Y) {g : TG} {tb u : TS} {D : Ends} {τ : L2.St} {H : Hp} (Pv : Nat → L2.St → Hp → Prop) (h0 : Pv 0 τ H) (hG : ∀ i τ H, i ≤ n → Pv i τ H → G H)
    (hs : ∀ i x τ H H', i < n → Pv i τ H → Y i H x H' → g x τ H' fun σ2 H2 => tb { D with nx := Pv (i + 1), ct := Pv (i + 1), bk := D.nx } σ2 H2) (hd : ∀ τ H, Pv n τ H → u D τ H) :
    ∃ W : Nat → Nat → L2.St → Hp → Prop, (∃ m, W 0 m τ H) ∧ ∀ i m σ H, W i m σ H →
      (J.stop i H ∧ u D σ H) ∨ (J.go i H ∧ ∃ N : L2.St → Hp → Prop, (∀ σ' H', N σ' H' → ∃ m', m' < m ∧ W (i + 1) m' σ' H') ∧ ∀ x H', J.yld i H x H' → g x σ H' fun σ2 H2 => tb { D with nx := N, ct := N, bk := D.nx } σ2 H2) := by
  refine ⟨fun i m σ H => m = n - i ∧ i ≤ n ∧ Pv i σ H, ⟨n, by simp, Nat.zero_le _, h0⟩, ?_⟩
  rintro i m σ H ⟨rfl, hi, p⟩
  have q := hG i σ H hi p
  by_cases hlt : i < n
  · exact .inr ⟨w.goes i H hlt q, Pv (i + 1), fun σ' H' p' => ⟨n - (i + 1), by omega, rfl, hlt, p'⟩, fun x H' y => hs i x σ H H' hlt p (w.yields i H x H' hlt q y)⟩
  · have e : i = n := by omega
    subst e
    exact .inl ⟨w.stops H q, hd σ H p⟩
end
theorem lcntK {X : Cx} {K : PySem.W.Frag} (h : X.K = K) : MtR X "list.count" (rCntI K) := by subst h; exact mt_lcount
end My

set_option Elab.async false
set_option linter.all false
set_option maxRecDepth 100000
set_option maxHeartbeats 1000000
/-! tuples that are known to have no dict of their own: tuple(list), dict(tuple); membership of data in a tuple -/
namespace My
open PySem PySem.Spec PyProof.Rows L2
def FzT (H : Hp) (a : Addr) (xs : List V) : Prop := ∃ o : Obj, o.dict = none ∧ H a = some (.frz o (.tup xs))
theorem FzT.sq {K : PySem.W.Frag} {H : Hp} {a : Addr} {xs : List V} (h : FzT H a xs) : SqT K H a xs := by
  obtain ⟨o, _, e⟩ := h
  exact .inl (.inr ⟨o, e⟩)
theorem KT.fzT {S : List Addr} {H H' : Hp} (k : KT S H H') {a : Addr} {xs : List V} (h : FzT H a xs) : FzT H' a xs := by
  obtain ⟨o, d, e⟩ := h
  exact ⟨o, d, k.fz _ _ _ e⟩
theorem FzT.new {H : Hp} {a : Addr} {xs : List V} {o : Obj} (h : o.dict = none) : FzT (upd H a (.frz o (.tup xs))) a xs := ⟨o, h, upd_same⟩
theorem FzT.ne {H : Hp} {a b : Addr} {xs ys : List V} (h : FzT H a xs) (hb : H b = some (.lst ys)) : a ≠ b := fun z => by
  obtain ⟨o, _, e⟩ := h
  rw [z, hb] at e
  cases e
section
variable {X : Cx}
/-- tuple(xs) of a list -/
theorem call_tupleF : CallR X (.type "tuple") (fun xs H Q => ∃ p ys, xs = [.ref p] ∧ SqL X.K H p ys ∧ ∀ (l : Addr) (o : Obj), H l = none → o.dict = none → Q (.ref l) (upd H l (.frz o (.tup ys)))) := by
  intro pins s σ H xs us Q I r h
  obtain ⟨p, ys, rfl, hq, q⟩ := h
  obtain ⟨u, rfl, rx⟩ := vals1 r
  cases rx
  obtain ⟨its, r', pl, hz⟩ := I.list hq
  have hlen := r'.length
  refine call_tuple_list pl.isList (fun h' kp => ?_) (by simp only [List.size_toArray] <;> omega)
  have I1 : Inv X pins σ H { s with heap := h' } := I.kept (t' := s.toks) kp
  have I2 : Inv X pins σ (upd H h'.objs.size (.frz { cls := .type "tuple", data := .seq its.toArray } (.tup ys))) { s with heap := h'.push { cls := .type "tuple", data := .seq its.toArray } } :=
    I1.laid (t' := s.toks) (fun b o e => Heap.get?_push_of_some _ e) (Nat.le_refl _) (show ObjOk X.prog X.w _ _ _ (.frz { cls := .type "tuple", data := .seq its.toArray } (.tup ys)) from ⟨Heap.get?_push_size _ rfl, hz, its, r', IsTup.new _ _⟩)
  exact ⟨.ref h'.objs.size, _, I2, rfl, q _ _ (I1.hok.fresh (Nat.le_refl _)) rfl⟩
theorem tpF {K : PySem.W.Frag} (h : X.K = K) : CallR X (.type "tuple") (fun xs H Q => ∃ p ys, xs = [.ref p] ∧ SqL K H p ys ∧ ∀ (l : Addr) (o : Obj), H l = none → o.dict = none → Q (.ref l) (upd H l (.frz o (.tup ys)))) := by subst h; exact call_tupleF
theorem pairs_of2 {pins : List (Addr × Obj)} {σ : L2.St} {H : Hp} {s : Shared} (I : L2.Inv X pins σ H s) : ∀ {ps : List Addr} {kvs : List (L2.Key × V)}, Paired (fun p kv => SqT X.K H p [kV kv.1, kv.2]) ps kvs →
    ∃ (prs : List (L2.Key × Value)) (us : List (Value × Value)), KV kvs prs ∧ prs.length = ps.length ∧ us.length = ps.length ∧ ∀ (j : Nat) (k v : Value), us[j]? = some (k, v) → ∃ (b : Addr) (key : L2.Key), ps[j]? = some b ∧ prs[j]? = some (key, v) ∧ IsTup s.heap b #[k, v] ∧ keyIs key k = true
  | _, _, .nil => ⟨[], [], .nil, rfl, rfl, fun j k v e => by simp at e⟩
  | _, _, .cons (a := p) (b := kv) h t => by
    obtain ⟨prs, us, r, hl, hl2, hp⟩ := pairs_of2 I t
    obtain ⟨its, rv, ht, _⟩ := I.tuple h
    obtain ⟨u, y, ei, ru, ry⟩ := vals2 rv
    subst ei
    refine ⟨(kv.1, y) :: prs, (u, y) :: us, .cons ⟨rfl, ry⟩ r, by rw [List.length_cons, List.length_cons, hl], by rw [List.length_cons, List.length_cons, hl2], fun j k v e => ?_⟩
    cases j with
    | zero =>
      have e' : (u, y) = (k, v) := Option.some.inj e
      cases e'
      exact ⟨p, kv.1, rfl, rfl, ht, kV_is (P := X.prog) (w := X.w) ru⟩
    | succ j =>
      obtain ⟨b, key, e1, e2, e3, e4⟩ := hp j k v (by simpa using e)
      exact ⟨b, key, by simpa using e1, by simpa using e2, e3, e4⟩
/-- dict(t) of a tuple of pairs -/
theorem call_dictF (hcalm : X.calm = true) : CallR X (.type "dict") (fun xs H Q => ∃ (a : Addr) (ps : List Addr) (kvs : List (L2.Key × V)), xs = [.ref a] ∧ FzT H a (ps.map V.ref) ∧ Paired (fun p kv => SqT X.K H p [kV kv.1, kv.2]) ps kvs ∧
    ∀ p, H p = none → Q (.ref p) (upd H p (.dK (mergeK [] kvs)))) := by
  intro pins s σ H xs us Q I r q
  obtain ⟨a, ps, kvs, ex, ⟨o, hd, ho⟩, hp, q⟩ := q
  subst ex
  obtain ⟨u, eu, rx⟩ := vals1 r
  subst eu
  cases rx
  have hok := I.hok a _ ho
  obtain ⟨hg, hz, its, rv, ⟨o2, hg2, hc, n, hdat⟩⟩ := hok
  have e2 : o2 = o := Option.some.inj (hg2.symm.trans hg)
  subst e2
  have ei := refs_at rv
  subst ei
  rw [List.length_map] at hz
  obtain ⟨prs, us2, rel, hl, hl2, hpr⟩ := pairs_of2 I hp
  have PA := PySem.PairArg.tuple (prog := X.prog) (w := X.w) a (ps.map Value.ref).toArray (fun j => ps.getD j 0) us2
  refine PySem.call_dict_pairs (knd := mixKind X.prog X.w) (kvs := prs) PA (I.ok.hd hcalm) ⟨⟨o2, n, hg, hc, hd, hdat⟩, by simp [hl2], fun j k v e => ?_⟩ ⟨by rw [hl, hl2], fun i k v e => ?_⟩ (by rw [hl2]; exact hz) fun h' tk hd' k => ?_
  · obtain ⟨b, key, e1, e2, e3, e4⟩ := hpr j k v e
    have eb : ps.getD j 0 = b := by rw [List.getD_eq_getElem?_getD, e1]; rfl
    show (List.map Value.ref ps).toArray[j]? = some (Value.ref (ps.getD j 0)) ∧ PySem.PairAt s.heap (ps.getD j 0) k v
    rw [eb]
    refine ⟨by simp [e1], .inl ?_⟩
    exact e3
  · obtain ⟨b, key, e1, e2, e3, e4⟩ := hpr i k v e
    exact ⟨key, e2, e4⟩
  · have hm : (s.heap.objs.size == sysModules) = false := beq_eq_false_iff_ne.mpr (Nat.ne_of_gt I.big)
    have hlen : (mergeK [] kvs).length ≤ sizeLine := by
      refine Nat.le_trans (length_mergeK kvs []) ?_
      rw [List.length_nil, Nat.zero_add, rel.length, hl]
      exact hz
    exact ⟨.ref s.heap.objs.size, upd H s.heap.objs.size (.dK (mergeK [] kvs)), I.laid (t' := tk) (fun b o e => k b o (by simp) e) (Nat.le_refl _) (show ObjOk X.prog X.w _ _ _ (.dK (mergeK [] kvs)) from ⟨hlen, hm, merged [] prs, KV.merge rel .nil, hd'⟩), rfl, q _ (I.hok.fresh (Nat.le_refl _))⟩
/-! ### x in t, x not in t, of data -/
def rInD (K : PySem.W.Frag) (neg : Bool) : R2 := fun x y H Q => ∃ d es, Dp K H x d ∧ Dp K H y (.tuple es) ∧ SeqAt.shaped d = true ∧ SeqAt.shaped (.tuple es) = true ∧ Q (.bl (if neg = true then !(es.any fun e => PyData.eqv e d) else es.any fun e => PyData.eqv e d)) H
theorem op_inD (hu : X.A.units + 66 < cLine) : OpR X (compareOp .In) (rInD X.K false) := by
  intro pins s σ H x y v u Q I rx ry h
  obtain ⟨d, es, hd, he, sd, se, q⟩ := h
  obtain ⟨as, r1⟩ := Dp.reads I d x v hd rx
  obtain ⟨bs, r2⟩ := Dp.reads I (.tuple es) y u he ry
  have h1 := SeqAt.depth_of_shaped sd
  exact SeqAt.in_tuple_reads r2 r1 (SeqAt.canLay_of_shaped se) (SeqAt.canLay_of_shaped sd) (by have := Nat.min_le_right (PyData.depthAll es) d.depth; omega) ⟨.bl _, H, I, rfl, q⟩
theorem op_notInD (hu : X.A.units + 66 < cLine) : OpR X (compareOp .NotIn) (rInD X.K true) := by
  intro pins s σ H x y v u Q I rx ry h
  obtain ⟨d, es, hd, he, sd, se, q⟩ := h
  obtain ⟨as, r1⟩ := Dp.reads I d x v hd rx
  obtain ⟨bs, r2⟩ := Dp.reads I (.tuple es) y u he ry
  have h1 := SeqAt.depth_of_shaped sd
  exact SeqAt.notIn_tuple_reads r2 r1 (SeqAt.canLay_of_shaped se) (SeqAt.canLay_of_shaped sd) (by have := Nat.min_le_right (PyData.depthAll es) d.depth; omega) ⟨.bl _, H, I, rfl, q⟩
end
/-! ### x in d, d a dict of the module -/
def KDin (K : PySem.W.Frag) (w : World) (a : Addr) (x : Str) (b : Bool) : Prop :=
  ∃ es n o, K.lookup a = some ⟨.type "dict", none, .dict es n, #[]⟩ ∧ PySem.W.KeysLit w.params es.toList ∧ PySem.W.nsIn K a x = some o ∧ b = o.isSome ∧ (a == sysModules) = false
def rInKD (K : PySem.W.Frag) (w : World) : R2 := fun x y H Q => ∃ p z b, x = .str z ∧ y = .ref p ∧ KDin K w p z b ∧ Q (.bl b) H
section
variable {X : Cx}
theorem op_inKD : OpR X (compareOp .In) (rInKD X.K X.w) := by
  intro pins s σ H x y v u Q I rx ry h
  obtain ⟨p, z, b, rfl, rfl, ⟨es, n, o, hl, hk, e, rfl, lo⟩, q⟩ := h
  obtain rfl : u = Value.ref p := ry
  obtain ⟨t, rfl⟩ := rx
  have hm := PySem.W.mapOf_K (prog := X.prog) (w := X.w) I.kIn hl hk
  refine wpAny_in_of (strKind_is X.prog X.w z t) lo hm ?_
  rw [PySem.W.find_K hl e]
  exact ⟨.bl o.isSome, H, I.tok _, rfl, q⟩
end
theorem inDK {X : Cx} {K : PySem.W.Frag} (h : X.K = K) (hu : X.A.units + 70 < cLine) : OpR X (compareOp .In) (rInD K false) := by subst h; exact op_inD (by omega)
theorem notInDK {X : Cx} {K : PySem.W.Frag} (h : X.K = K) (hu : X.A.units + 70 < cLine) : OpR X (compareOp .NotIn) (rInD K true) := by subst h; exact op_notInD (by omega)
end My

set_option Elab.async false
set_option linter.all false
set_option maxRecDepth 100000
/-! sorted(t) of a tuple of pairs of ints -/
namespace My
open PySem PySem.Spec PyProof.Rows L2 LiI PySem.MeetsSeq
section
variable {prog : Program} {w : World} {A : Around} {E : Value → Shared → Prop} {s : Shared}
/-- a tuple's items, the heap having grown -/
theorem collect_tup {a : Addr} {vs : List Value} {Q : List Value → Shared → Prop} (ht : IsTup s.heap a vs.toArray) (hz : vs.length ≤ sizeLine)
    (h : ∀ h' : Heap, (∀ b o, s.heap.get? b = some o → h'.get? b = some o) → s.heap.objs.size ≤ h'.objs.size → Q vs { s with heap := h' }) : wpAny (model prog w) A (collect (.ref a)) Q E s := by
  obtain ⟨o, ho, hc, n, hd⟩ := ht
  have f1 := Heap.get?_push_size (o := seqObj "list" #[] 0) s.heap rfl
  have f2 : ∀ b u, s.heap.get? b = some u → (s.heap.push (seqObj "list" #[] 0)).get? b = some u := fun b u e => Heap.get?_push_of_some _ e
  have fin : wpAny (model prog w) A (do match (← load s.heap.objs.size).data with
      | .seq xs _ => pure xs.toList
      | _ => unsupported "internal:collect") Q E { s with heap := (s.heap.push (seqObj "list" #[] 0)).update s.heap.objs.size (Obj.mapSeq (· ++ vs.toArray)) } := by
    refine wpAny_bind (wpAny_load (Heap.get?_update_self (Obj.mapSeq (· ++ vs.toArray)) f1 rfl) (wpAny_pure ?_))
    show Q (((#[] : Array Value) ++ vs.toArray).toList) _
    rw [Array.toList_append, List.nil_append, List.toList_toArray]
    refine h _ (fun b u e => (Heap.get?_update_other _ _ (Nat.ne_of_gt (Heap.lt_size e))).trans (f2 b u e)) ?_
    rw [Heap.size_update, size_push']
    exact Nat.le_succ _
  unfold collect
  refine wpAny_bind (wpAny_runValue (codeAny_builtin F.entry_proto_collect ?_)); rw [Around.under_plainId F.plain_proto_collect _]
  refine wpAny_bind (m := newList []) (wpAny_newObj_type (wpAny_pure ⟨plainId_quiet F.plain_list_iadd _, codeAny_builtin F.entry_list_iadd ?_⟩)); rw [Around.under_plainId F.plain_list_iadd _]
  have ex := wpAny_extend_seq (prog := prog) (w := w) (A := A) (R := fun r s' => r = .ok (.ret (.ref s.heap.objs.size)) ∧ s' = { s with heap := (s.heap.push (seqObj "list" #[] 0)).update s.heap.objs.size (Obj.mapSeq (· ++ vs.toArray)) }) (s := { s with heap := s.heap.push (seqObj "list" #[] 0) }) s.heap.objs.size a (.ref s.heap.objs.size) 0 (T := "tuple") (.inr rfl) f1 (f2 _ _ ho) hc hd ⟨rfl, rfl⟩ (by simpa using hz)
  refine wpAny_mono ex (fun r s' g => ?_) fun e s' g => nomatch g.1
  match r, g with
  | .done f, ⟨e1, e2⟩ => cases e1; cases e2; exact fin
  | .again c, ⟨g1, g2⟩ => exact ⟨g1, codeAny_mono g2 fun r s'' ⟨e1, e2⟩ => by cases e1; cases e2; exact fin⟩
end
theorem sorted_pairsT {prog : Program} {w : World} {A : Around} {E : Value → Shared → Prop} {s : Shared} {a : Addr} {vs : List Value} {k : Value → Int × Int} {Q : Value → Shared → Prop} (ht : IsTup s.heap a vs.toArray) (hz : vs.length ≤ sizeLine) (hp : ∀ v ∈ vs, Srt.IsPair s.heap v (k v).1 (k v).2)
    (h : ∀ (h' : Heap) (d : Addr) (out : List Value), SrtO.Srtd (fun v u => SrtO.lexB (k v) (k u)) out → SrtO.Stb (fun v u => SrtO.lexB (k v) (k u)) out vs → (∀ b o, s.heap.get? b = some o → h'.get? b = some o) → s.heap.objs.size ≤ d → (∃ n, h'.get? d = some (seqObj "list" out.toArray n)) → Q (.ref d) { s with heap := h' }) :
    wpAny (model prog w) A (call (.builtin "sorted") [.ref a]) Q E s := by
  obtain ⟨o, ho, hc, n, hd⟩ := id ht
  refine Calls.call_function_entry kind_sorted plain_sorted entry_sorted (args_sorted1 (.ref a)) ?_
  refine wpAny_bind (wpAny_pure (wpAny_bind (collect_tup ht hz fun h1 k1 hLs => ?_)))
  refine wpAny_bind (wpAny_newList ?_ hz)
  have hoL : (h1.push (seqObj "list" vs.toArray 0)).get? h1.objs.size = some (seqObj "list" vs.toArray 0) := Heap.get?_push_size h1 rfl
  refine wpAny_bind (wpAny_holding (wpAny_call_entry slot_list_sort ⟨_, hoL, rfl⟩ entry_list_sort (SrtO.list_sort_ord (SrtO.swo_lex k) hoL hz (fun h2 => ?_) fun out hs hb => ⟨.none, rfl, wpAny_pure ⟨.ref _, rfl, ?_⟩⟩) (args_list_sort _)))
  · refine SrtO.pairs_sortableO (by omega) (fun v hm => (hp v hm).keeps fun b o e _ => Heap.get?_push_of_some _ (k1 b o e)) (fun o e c => ?_)
    · rw [hoL] at e
      cases e
      have c : Value.type "list" = Value.type "tuple" := c
      exact absurd (Value.type.inj c) (by decide)
  · obtain ⟨c, hc⟩ := sortedHeap_at (out := out.toArray) hoL
    have keep : ∀ (b : Addr) (o : Obj), h1.get? b = some o → (sortedHeap (h1.push (seqObj "list" vs.toArray 0)) h1.objs.size vs out.toArray).get? b = some o := fun b o e => by
      have hlt := Heap.lt_size e
      have e2 := Heap.get?_push_of_some (seqObj "list" vs.toArray 0) e
      rw [sortedHeap_old (Nat.ne_of_lt hlt) (Heap.lt_size e2)]
      exact e2
    exact h _ _ out hs hb (fun b o e => keep b o (k1 b o e)) hLs ⟨c, hc⟩
def rSortedPT (K : PySem.W.Frag) : List V → Hp → VK → Prop := fun vs H Q => ∃ (a : Addr) (xs : List V) (k : V → Int × Int), vs = [V.ref a] ∧ SqT K H a xs ∧ (∀ x ∈ xs, ∃ t, x = V.ref t ∧ H t = some (.tup [.int (k x).1, .int (k x).2])) ∧
  ∀ (ys : List V) (p : Addr), SrtO.Srtd (ltP k) ys → SrtO.Stb (ltP k) ys xs → H p = none → Q (.ref p) (upd H p (.lst ys))
theorem cr_sortedPT {X : Cx} : CallR X (.builtin "sorted") (rSortedPT X.K) := fun pins s σ H vs us Q I r h => by
  obtain ⟨a, xs, k, rfl, hs, hx, q⟩ := h
  obtain ⟨its, rv, ht, hz⟩ := I.tuple hs
  have eu := Vals.ref1 r
  subst eu
  have back := refs_back rv fun x m => (hx x m).imp fun t e => e.1
  refine sorted_pairsT (k := fun u => k (backV u)) ht (by rw [← rv.length]; exact hz) (fun v hv => ?_) fun h' d out h1 h2 kp hd hn => ?_
  · obtain ⟨t, et⟩ := back.2 v hv
    subst et
    obtain ⟨t', e, hT⟩ := hx (V.ref t) (by rw [back.1]; exact List.mem_map.mpr ⟨_, hv, rfl⟩)
    cases e
    obtain ⟨_, its2, r2, o, ho, hc, n, hd⟩ := I.hok _ _ hT
    obtain ⟨u1, u2, e2, ri, rj⟩ := vals2 r2
    subst e2
    obtain ⟨t1, e3⟩ := ri
    obtain ⟨t2, e4⟩ := rj
    subst e3 e4
    exact ⟨t, o, t1, t2, n, rfl, ho, hc, hd⟩
  · have ref : ∀ u ∈ out, ∃ a, u = Value.ref a := fun u hu => back.2 u (h2.perm.mem_iff.mp hu)
    obtain ⟨n, hn⟩ := hn
    have stb : SrtO.Stb (ltP k) (out.map backV) xs := by rw [back.1]; exact SrtO.Stb.map (ltP_swo k) backV h2
    have lz : (out.map backV).length ≤ sizeLine := by rw [stb.len]; exact hz
    exact ⟨.ref d, upd H d (.lst (out.map backV)), I.laid (t' := s.toks) kp hd ⟨lz, out, n, vals_back ref, hn⟩, rfl, q _ d (SrtO.srtd_map h1) stb (I.hok.fresh hd)⟩
theorem stPTK {X : Cx} {K : PySem.W.Frag} (h : X.K = K) : CallR X (.builtin "sorted") (rSortedPT K) := by subst h; exact cr_sortedPT
end My

set_option Elab.async false
set_option linter.all false
set_option maxRecDepth 100000
set_option maxHeartbeats 1000000
/-! {**a, **b} -/
namespace My
open PySem PySem.Spec PyProof.Rows L2
section
variable {prog : Program} {w : World} {K : Type} [DecidableEq K] {knd : KeyKind prog w K} {A : Around} {E : Value → Shared → Prop} {s : Shared}
theorem put_pairs {q : Addr} {kvs : List (K × Value)} {k : K} {key v : Value} {Q : Unit → Shared → Prop} (is : knd.is k key = true) (at_ : s.heap.DictOf knd q kvs) (room : kvs.length ≤ sizeLine)
    (nx : ∀ g : Heap, g.DictOf knd q (stored kvs k v) → Heap.SameBut q s.heap g → Q () { s with heap := g }) : wpAny (model prog w) A (dictPut q (knd.hash k) key v) Q E s := by
  obtain ⟨ob, rows, age, e1, e2, e3, e4, e5, e6⟩ := at_
  have fits : rows.size ≤ sizeLine := by
    have z := e5.length
    rw [Array.length_toList] at z
    omega
  have same : rows.findIdx? (fun e => knd.is k e.key) = kvs.findIdx? fun kv => decide (kv.1 = k) := by
    rw [← e5.findIdx k]
    obtain ⟨l⟩ := rows
    simp
  unfold dictPut
  refine wpAny_bind (wpAny_dictFind_of is e1 e3 e4 ?_)
  cases c : rows.findIdx? fun e => knd.is k e.key with
  | some i =>
    have any1 := any_of_findIdx_some (same ▸ c)
    refine wpAny_updateDict e1 e3 (nx _ ⟨_, _, age, Heap.get?_update_self _ e1 (Obj.isFreed_of_dict (Obj.data_mapDict e3 _)), e2.mapDict _, Obj.data_mapDict e3 _, e4.modify _ _, ?_, ?_⟩ (Heap.SameBut.update ..))
    · have c2 : rows.toList.findIdx? (fun e => knd.is k e.key) = some i := by rw [← c]; obtain ⟨l⟩ := rows; simp
      have z := e5.modify e6 c2 v
      rw [stored, if_pos any1]
      obtain ⟨l⟩ := rows
      simpa using z
    · rw [stored, if_pos any1, keys_map_store]
      exact e6
  | none =>
    have out : k ∉ kvs.map (·.1) := not_mem_of_findIdx_none (same ▸ c)
    have any0 : ¬ (kvs.any fun kv => decide (kv.1 = k)) = true := fun z => by
      obtain ⟨kv, m, e⟩ := List.any_eq_true.mp z
      exact out (List.mem_map.mpr ⟨kv, m, of_decide_eq_true e⟩)
    refine wpAny_updateDictKeys (hz := fits) e1 e3 (nx _ ⟨_, _, age + 1, Heap.get?_update_self _ e1 (Obj.isFreed_of_dict (Obj.data_mapDictKeys e3 _)), e2.mapDictKeys _, Obj.data_mapDictKeys e3 _, e4.push is _, ?_, ?_⟩ (Heap.SameBut.update ..))
    · have z := e5.append is (knd.hash k) v
      rw [stored, if_neg any0]
      simpa using z
    · rw [stored, if_neg any0, List.map_append]
      exact List.nodup_append.mpr ⟨e6, by simp, fun x hx y hy z => out (by simp at hy; rw [← hy, ← z]; exact hx)⟩
end
section
variable {M : Model} {A : Around} {E : Value → Shared → Prop} {s : Shared}
theorem ifyes {α : Type} {c : Prop} [Decidable c] {a b : Sem α} {Q : α → Shared → Prop} (hc : c) (h : wpAny M A a Q E s) : wpAny M A (if c then a else b) Q E s := by rw [if_pos hc]; exact h
theorem ifno {α : Type} {c : Prop} [Decidable c] {a b : Sem α} {Q : α → Shared → Prop} (hc : ¬ c) (h : wpAny M A b Q E s) : wpAny M A (if c then a else b) Q E s := by rw [if_neg hc]; exact h
theorem disp_two {v1 v2 : Sem Value} {Q : Value → Shared → Prop}
    (h : wpAny M A v1 (fun m s2 => wpAny M A (mergeMapping s.heap.objs.size m false) (fun _ s3 => wpAny M A v2 (fun m2 s4 => wpAny M A (mergeMapping s.heap.objs.size m2 false) (fun _ s5 => Q (.ref s.heap.objs.size) s5) (fun _ _ => False) s4) E s3) (fun _ _ => False) s2) E { s with heap := s.heap.push { cls := .type "dict", data := .dict #[] } }) :
    wpAny M A (dictDisplay [(none, v1), (none, v2)]) Q E s := by
  unfold dictDisplay
  simp only [List.forIn_cons, List.forIn_nil]
  have no : ∀ {α : Type} {t : Sem α} {R : α → Shared → Prop} {F : Value → Shared → Prop} {u : Shared}, wpAny M A t R (fun _ _ => False) u → wpAny M A t R F u := fun g => wpAny_mono g (fun _ _ h => h) fun _ _ h => h.elim
  refine wpAny_bind (wpAny_bind (wpAny_bind (ifyes rfl (wpAny_pure ?_))))
  refine wpAny_bind (wpAny_alloc (wpAny_bind (wpAny_holding (wpAny_mono h (fun m s2 h2 => ?_) fun _ _ z => z))))
  refine wpAny_bind (wpAny_onRaise (wpAny_tryCatch (wpAny_onRaise (wpAny_holding (no (wpAny_mono h2 (fun _ s3 h3 => ?_) fun _ _ z => z))))))
  refine wpAny_pure (wpAny_bind (wpAny_bind (ifyes rfl (wpAny_pure ?_))))
  refine wpAny_bind (wpAny_pure (wpAny_bind (wpAny_holding (wpAny_mono h3 (fun m2 s4 h4 => ?_) fun _ _ z => z))))
  refine wpAny_bind (wpAny_onRaise (wpAny_tryCatch (wpAny_onRaise (wpAny_holding (no (wpAny_mono h4 (fun _ s5 h5 => ?_) fun _ _ z => z))))))
  exact wpAny_pure (wpAny_pure (wpAny_bind (ifyes rfl (wpAny_pure (wpAny_pure h5)))))
end
section
variable {prog : Program} {w : World} {A : Around} {E : Value → Shared → Prop} {s : Shared}
theorem merge_pairs {d o : Addr} {acc more : List (L2.Key × Value)} {Q : Unit → Shared → Prop} (ne : d ≠ o) (lo : (o == sysModules) = false) (hd : s.heap.DictOf (mixKind prog w) d acc) (ho : s.heap.DictOf (mixKind prog w) o more) (fit : acc.length + more.length ≤ sizeLine)
    (nx : ∀ g : Heap, g.DictOf (mixKind prog w) d (merged acc more) → Heap.SameBut d s.heap g → Q () { s with heap := g }) : wpAny (model prog w) A (mergeMapping d (.ref o) false) Q E s := by
  obtain ⟨od, rd, ad, d1, d2, d3, d4, d5, d6⟩ := id hd
  obtain ⟨oo, ro, ao, o1, o2, o3, o4, o5, o6⟩ := id ho
  have ln : more.length = ro.size := by rw [← o5.length, Array.length_toList]
  unfold mergeMapping
  refine wpAny_bind (wpAny_isInstance ho.typeIs isSubtype_dict_dict ?_)
  dsimp only
  refine ifyes rfl ?_
  refine wpAny_bind (wpAny_specialOf ho.typeIs F.slot_dict_iter.lookup ?_)
  have e1 : (some (Value.builtin "dict.__iter__") == some (Value.builtin "dict.__iter__")) = true := beq_self_eq_true _
  rw [e1]
  refine wpAny_bind (wpAny_pure (ifno (by rw [lo]; decide) ?_))
  have keys : ∀ x ∈ ro.toList, ∀ b : Addr, x.key ≠ .ref b := fun x hx b z => by
    obtain ⟨i, hi, e⟩ := Array.getElem_of_mem (Array.mem_toList_iff.mp hx)
    obtain ⟨k, h1, _⟩ := o4 ro[i] (Array.getElem_mem hi)
    rw [e, z] at h1
    rcases keyIs_shape h1 with ⟨_, _, _, h⟩ | ⟨_, _, _, h⟩ <;> cases h
  have fin : ∀ g : Heap, g.DictOf (mixKind prog w) d (merged acc (more.take ro.size)) → Heap.SameBut d s.heap g → Q () { s with heap := g } := fun g hg sb => by
    rw [← ln, List.take_length] at hg
    exact nx g hg sb
  have turns : wpAny (model prog w) A (forIn (List.range ro.size) PUnit.unit fun (i : Nat) (_ : PUnit) => (do
      let l ← dictEntries o
      match l[i]? with
      | some e => do
        holding [e.key, e.val] (if false = true then do
            let f ← dictFind d e.key e.hash
            if f.isSome = true then do
                rule "dict.merge.duplicate-key"
                let x ← newExc (Value.type "KeyError") [e.key]
                raiseNew x
                dictPut d e.hash e.key e.val
              else dictPut d e.hash e.key e.val
          else dictPut d e.hash e.key e.val)
        let y ← dictEpoch o
        if (y != ao) = true then do
            (unsupported "dict.changed-during-merge" : Sem PUnit)
            pure (ForInStep.yield PUnit.unit)
          else pure (ForInStep.yield PUnit.unit)
      | _ => do
        (unsupported "dict.changed-during-merge" : Sem PUnit)
        pure (ForInStep.yield PUnit.unit) : Sem (ForInStep PUnit))) (fun _ s' => Q () s') E s := by
    refine wpAny_forIn_list _ (fun rest _ s' => ∃ i g, rest = List.range' i (ro.size - i) ∧ i ≤ ro.size ∧ s' = { s with heap := g } ∧ g.DictOf (mixKind prog w) d (merged acc (more.take i)) ∧ Heap.SameBut d s.heap g) _ (fun x rest b s' hI => ?_) (fun b s' hI => ?_) _ _ ⟨0, s.heap, by rw [Nat.sub_zero, List.range_eq_range'], Nat.zero_le _, rfl, by simpa [merged] using hd, Heap.SameBut.refl _ _⟩
    · obtain ⟨i, g, er, hi, rfl, hg, sb⟩ := hI
      have lt : i < ro.size := by
        rcases Nat.lt_or_ge i ro.size with h | h
        · exact h
        · rw [Nat.sub_eq_zero_of_le h] at er
          cases er
      rw [show ro.size - i = (ro.size - (i + 1)) + 1 by omega, List.range'_succ] at er
      obtain ⟨e1, e2⟩ := List.cons.inj er
      subst e1
      have og : g.get? o = some oo := (sb.2 o (Ne.symm ne)).trans o1
      obtain ⟨⟨k, v⟩, hkv⟩ : ∃ kv, more[x]? = some kv := ⟨more[x]'(by rw [ln]; exact lt), List.getElem?_eq_getElem _⟩
      obtain ⟨hkey, hval⟩ := o5.get? (e := ro[x]) (by simp [lt]) hkv
      obtain ⟨k', hkey', hhash⟩ := o4 ro[x] (Array.getElem_mem lt)
      have ek : k' = k := (mixKind prog w).inj _ _ _ hkey' hkey
      subst ek
      refine wpAny_bind (wpAny_dictEntries og o3 ?_)
      rw [Array.getElem?_eq_getElem lt]
      have room : (merged acc (more.take x)).length ≤ sizeLine := by
        have a1 := merged_length_le acc (more.take x)
        rw [List.length_take] at a1
        omega
      refine wpAny_bind (wpAny_holding (ifno (by decide) ?_))
      rw [hhash, hval]
      refine put_pairs hkey hg room fun g2 hg2 sb2 => ?_
      have og2 : g2.get? o = some oo := (sb2.2 o (Ne.symm ne)).trans og
      refine wpAny_bind (wpAny_dictEpoch og2 o3 (ifno (by simp) (wpAny_pure ?_)))
      exact ⟨x + 1, g2, e2, lt, rfl, by rw [merged_take_succ acc more x (k', v) hkv]; exact hg2, sb.trans sb2⟩
    · obtain ⟨i, g, er, hi, rfl, hg, sb⟩ := hI
      have ei : i = ro.size := by
        rcases Nat.lt_or_ge i ro.size with h | h
        · rw [show ro.size - i = (ro.size - (i + 1)) + 1 by omega, List.range'_succ] at er
          cases er
        · omega
      subst ei
      exact fin g hg sb
  refine wpAny_bind (wpAny_dictEntries d1 d3 ?_)
  by_cases em : rd.isEmpty = true
  · refine ifyes em (wpAny_bind (wpAny_dictEntries o1 o3 (wpAny_bind ?_)))
    refine MeetsSeq2.wpAny_forIn_array _ (fun rest _ s' => s' = s ∧ ∀ x ∈ rest, ∀ b : Addr, x.key ≠ .ref b) _ (fun x rest b s' hI => ?_) (fun b s' hI => ?_) _ _ ⟨rfl, keys⟩
    · obtain ⟨rfl, hk⟩ := hI
      have hx := hk x (List.mem_cons_self ..)
      have go : wpAny (model prog w) A (pure (ForInStep.yield PUnit.unit)) (fun r s'' => match r with | .yield b' => s'' = s' ∧ ∀ x ∈ rest, ∀ b : Addr, x.key ≠ .ref b | .done b' => False) E s' := wpAny_pure ⟨rfl, fun y hy => hk y (List.mem_cons_of_mem _ hy)⟩
      split
      · rename_i b2 eb
        exact absurd eb (hx b2)
      · exact wpAny_pure ⟨rfl, fun y hy => hk y (List.mem_cons_of_mem _ hy)⟩
    · obtain ⟨rfl, _⟩ := hI
      exact wpAny_bind (wpAny_dictEntries o1 o3 (wpAny_bind (wpAny_dictEpoch o1 o3 (wpAny_bind (wpAny_mono turns (fun _ _ h => wpAny_pure h) fun _ _ h => h)))))
  · exact ifno em (wpAny_bind (wpAny_dictEntries o1 o3 (wpAny_bind (wpAny_dictEpoch o1 o3 (wpAny_bind (wpAny_mono turns (fun _ _ h => wpAny_pure h) fun _ _ h => h))))))
end
section
variable {X : Cx}
/-- {**a, **b} -/
def tMrg (t1 t2 : TE) : TE := fun σ H Q => ∀ p, H p = none → t1 σ (upd H p (.dK [])) fun x H1 => ∃ (a : Addr) (k1 : List (L2.Key × V)), x = .ref a ∧ a ≠ p ∧ H1 a = some (.dK k1) ∧ H1 p = some (.dK []) ∧ k1.length ≤ sizeLine ∧
  t2 σ (upd H1 p (.dK (mergeK [] k1))) fun y H2 => ∃ (b : Addr) (k2 : List (L2.Key × V)), y = .ref b ∧ b ≠ p ∧ H2 b = some (.dK k2) ∧ H2 p = some (.dK (mergeK [] k1)) ∧ k1.length + k2.length ≤ sizeLine ∧ Q (.ref p) (upd H2 p (.dK (mergeK (mergeK [] k1) k2)))
theorem merge_step {pins : List (Addr × Obj)} {σ : L2.St} {H : Hp} {s : Shared} {p a : Addr} {acc k1 : List (L2.Key × V)} {F : Value → Shared → Prop} {Q : Unit → Shared → Prop} (I : L2.Inv X pins σ H s) (ne : a ≠ p) (ha : H a = some (.dK k1)) (hp : H p = some (.dK acc)) (fit : acc.length + k1.length ≤ sizeLine)
    (nx : ∀ s', L2.Inv X pins σ (upd H p (.dK (mergeK acc k1))) s' → Q () s') : wpAny (model X.prog X.w) X.A (mergeMapping p (.ref a) false) Q F s := by
  obtain ⟨za, la, va, ra, da⟩ := dk_of I.hok ha
  obtain ⟨zp, lp, vp, rp, dp⟩ := dk_of I.hok hp
  have l1 := ra.length
  have l2 := rp.length
  refine merge_pairs (Ne.symm ne) la dp da (by omega) fun g hg sb => ?_
  have hz : (mergeK acc k1).length ≤ sizeLine := Nat.le_trans (length_mergeK k1 acc) fit
  have he : ∃ q, g.get? p = some q := let ⟨q, _, _, hq, _⟩ := hg; ⟨q, hq⟩
  exact nx _ (d_write I (by rw [hp]; exact True.intro) sb he (dk_new hz lp (ra.merge rp) hg))
theorem pe_mrg {e1 e2 : Expr} {t1 t2 : TE} {pos : Pos} (h1 : PE X e1 t1) (h2 : PE X e2 t2) : PE X (.Dict [none, none] [e1, e2] pos) (tMrg t1 t2) := by
  refine ⟨fun pins s σ H Q I q => ?_⟩
  rw [arm_eval_Dict]
  refine wpAny_bind (wpAny_standAt ?_)
  refine disp_two ?_
  have hn := I.hok.fresh (Nat.le_refl s.heap.objs.size)
  have I1 := I.laid (a := s.heap.objs.size) (o := .dK []) (h' := s.heap.push { cls := .type "dict", data := .dict #[] }) (t' := s.toks) (fun _ _ q => Heap.get?_push_of_some _ q) (Nat.le_refl _) (dk_empty s.heap I.big)
  obtain ⟨p, ep⟩ : ∃ p, s.heap.objs.size = p := ⟨_, rfl⟩
  rw [ep] at hn I1 ⊢
  refine wpAny_bind (thn (h1.run pins _ σ _ _ I1 (q _ hn)) fun u s1 ⟨x, H1, I2, rx, a, k1, ex, na, ha, hp, hl, q2⟩ => wpAny_bind (wpAny_standAt (wpAny_pure ?_)))
  subst ex
  obtain rfl : u = Value.ref a := rx
  refine merge_step I2 na ha hp (by rw [List.length_nil]; omega) fun s2 I3 => ?_
  refine wpAny_bind (thn (h2.run pins _ σ _ _ I3 q2) fun u s3 ⟨y, H2, I4, ry, b, k2, ey, nb, hb, hp2, hl2, q3⟩ => wpAny_bind (wpAny_standAt (wpAny_pure ?_)))
  subst ey
  obtain rfl : u = Value.ref b := ry
  have lm := length_mergeK k1 []
  rw [List.length_nil] at lm
  exact merge_step I4 nb hb hp2 (by omega) fun s4 I5 => ⟨.ref p, _, I5, rfl, q3⟩
end
end My

set_option Elab.async false
set_option linter.all false
set_option maxRecDepth 100000
/-! t += u of tuples -/
namespace My
open PySem PySem.Spec PyProof.Rows L2 HT
theorem noI_tuple_add : typeLookup (.type "tuple") (dunderI "add") = pure none := by rw [typeLookup_type, builtinLookup_eq_fast]; kernel_rfl
section
variable {prog : Program} {w : World} {A : Around} {E : Value → Shared → Prop} {s : Shared}
theorem iconcat_meets {T id : String} {B : Builtin} {a b : Value} {S : PySem.Spec} {Q : Value → Shared → Prop} (ha : s.TypeIs a T) (hb : s.TypeIs b T) (hno : typeLookup (.type T) (dunderI "add") = pure none)
    (hfill : fillsNumberSlot (.type T) "add" = pure false) (hseq : seqSlot? (.type T) "__add__" = pure (some (.builtin id))) (slot : Slot T "__add__" id)
    (entry : entryFor table id = some B) (args : argsOk id ⟨[a, b], []⟩) (g : Meets (B ⟨[a, b], []⟩) S) (h : S A (wants Q E) s) : wpAny (model prog w) A (inplaceOp .Add a b) Q E s :=
  wpAny_inplaceOp_concat ha hb hno hfill hseq (call_meets slot ha entry args g h)
theorem icat_tup {t b : Addr} {vs ws : List Value} {Q : Value → Shared → Prop} (ht : IsTup s.heap t vs.toArray) (hb : IsTup s.heap b ws.toArray) (h0 : vs = [] → Q (.ref b) s)
    (h1 : vs ≠ [] → ws = [] → Q (.ref t) s) (h2 : vs ≠ [] → ws ≠ [] → Q (.ref s.heap.objs.size) { s with heap := s.heap.push { cls := .type "tuple", data := .seq (vs ++ ws).toArray } })
    (hsz : vs.length + ws.length ≤ sizeLine) : wpAny (model prog w) A (inplaceOp .Add (.ref t) (.ref b)) Q E s := by
  obtain ⟨⟨cls, dd, data, sl⟩, ho, hc, n, hd⟩ := id ht
  obtain ⟨⟨cls2, dd2, data2, sl2⟩, ho2, hc2, n2, hd2⟩ := id hb
  simp only at hc hd hc2 hd2
  subst hc hd hc2 hd2
  have e : vs.toArray ++ ws.toArray = (vs ++ ws).toArray := by simp
  by_cases hv : vs = []
  · exact iconcat_meets ⟨_, ho, rfl⟩ ⟨_, ho2, rfl⟩ noI_tuple_add noFill_tuple_add seq_tuple_add PySem.F.slot_tuple_add PySem.F.entry_tuple_add (PySem.F.args_tuple_add_2 _ _)
      (tuple_addW0 t b vs.toArray ws.toArray n n2 dd dd2 sl sl2 (by simp [hv])) ⟨ho, ho2, h0 hv⟩
  by_cases hw : ws = []
  · exact iconcat_meets ⟨_, ho, rfl⟩ ⟨_, ho2, rfl⟩ noI_tuple_add noFill_tuple_add seq_tuple_add PySem.F.slot_tuple_add PySem.F.entry_tuple_add (PySem.F.args_tuple_add_2 _ _)
      (tuple_addW1 t b vs.toArray ws.toArray n n2 dd dd2 sl sl2 (by simpa using hv) (by simp [hw])) ⟨ho, ho2, h1 hv hw⟩
  · refine iconcat_meets ⟨_, ho, rfl⟩ ⟨_, ho2, rfl⟩ noI_tuple_add noFill_tuple_add seq_tuple_add PySem.F.slot_tuple_add PySem.F.entry_tuple_add (PySem.F.args_tuple_add_2 _ _)
      (tuple_addW2 t b vs.toArray ws.toArray n n2 dd dd2 sl sl2 (by simpa using hv) (by simpa using hw) (by rw [List.size_toArray, List.size_toArray]; exact hsz)) ⟨ho, ho2, ?_⟩
    rw [e]
    exact h2 hv hw
end
theorem ip_catA {X : Cx} : PIp X .Add (rCatA X.K) := by
  intro pins s σ H x y v u Q I rx ry h
  obtain ⟨a, b, xs, ys, rfl, rfl, ha, hb, hz, q0, q1, q2⟩ := h
  cases rx
  cases ry
  obtain ⟨its, r1, p1, _⟩ := I.tuple ha
  obtain ⟨its2, r2, p2, _⟩ := I.tuple hb
  refine icat_tup p1 p2 (fun z => ⟨.ref b, H, I, rfl, q0 (r1.nil_iff.mp z)⟩) (fun z z2 => ⟨.ref a, H, I, rfl, q1 (fun y => z (r1.nil_iff.mpr y)) (r2.nil_iff.mp z2)⟩) (fun z z2 => ?_) (by rw [← r1.length, ← r2.length]; exact hz)
  refine ⟨.ref s.heap.objs.size, _, I.laid (t' := s.toks) (o := .tup (xs ++ ys)) (fun b ob q => Heap.get?_push_of_some _ q) (Nat.le_refl _) ?_, rfl, q2 (fun w => z (r1.nil_iff.mpr w)) (fun w => z2 (r2.nil_iff.mpr w)) _ (I.hok.fresh (Nat.le_refl _))⟩
  exact ⟨by rw [List.length_append]; exact hz, _, r1.append r2, IsTup.new _ _⟩
end My

set_option Elab.async false
set_option linter.all false
set_option maxRecDepth 100000
namespace My
open PySem PySem.Spec PyProof.Rows L2
def topS (i : Nat) : Stmt := PySem.Challenge.pw_backrun_k51_passes_on_circuits.main.body.getD i (.Pass ⟨0, 0, 0, 0⟩)
abbrev s_is_whole : Stmt := topS 1
abbrev N_is_whole : List Str := ["value"]
theorem sc_is_whole : FnScope N_is_whole ["value"] (defScope s_is_whole) := ⟨rfl, rfl, rfl, by decide +kernel, rfl, by decide +kernel, by decide +kernel⟩
abbrev s_is_integer : Stmt := topS 2
abbrev N_is_integer : List Str := ["value", "low", "high"]
theorem sc_is_integer : FnScope N_is_integer ["value", "low", "high"] (defScope s_is_integer) := ⟨rfl, rfl, rfl, by decide +kernel, rfl, by decide +kernel, by decide +kernel⟩
abbrev s_is_count : Stmt := topS 3
abbrev N_is_count : List Str := ["value"]
theorem sc_is_count : FnScope N_is_count ["value"] (defScope s_is_count) := ⟨rfl, rfl, rfl, by decide +kernel, rfl, by decide +kernel, by decide +kernel⟩
abbrev s_begins_with_word : Stmt := topS 4
abbrev N_begins_with_word : List Str := ["value"]
theorem sc_begins_with_word : FnScope N_begins_with_word ["value"] (defScope s_begins_with_word) := ⟨rfl, rfl, rfl, by decide +kernel, rfl, by decide +kernel, by decide +kernel⟩
abbrev s_is_pair : Stmt := topS 8
abbrev N_is_pair : List Str := ["value"]
theorem sc_is_pair : FnScope N_is_pair ["value"] (defScope s_is_pair) := ⟨rfl, rfl, rfl, by decide +kernel, rfl, by decide +kernel, by decide +kernel⟩
abbrev s_is_control : Stmt := topS 9
abbrev N_is_control : List Str := ["value"]
theorem sc_is_control : FnScope N_is_control ["value"] (defScope s_is_control) := ⟨rfl, rfl, rfl, by decide +kernel, rfl, by decide +kernel, by decide +kernel⟩
abbrev s_wires_of : Stmt := topS 10
abbrev N_wires_of : List Str := ["gate", "target", "controls", "wire", "_"]
theorem sc_wires_of : FnScope N_wires_of ["gate"] (defScope s_wires_of) := ⟨rfl, rfl, rfl, by decide +kernel, rfl, by decide +kernel, by decide +kernel⟩
abbrev s_is_gate : Stmt := topS 7
abbrev N_is_gate : List Str := ["value", "named", "is_ascending", "wire", "_", "before", "behind", "item"]
theorem sc_is_gate : FnScope N_is_gate ["value"] (defScope s_is_gate) := ⟨rfl, rfl, rfl, by decide +kernel, rfl, by decide +kernel, by decide +kernel⟩
abbrev s_gate_fault : Stmt := topS 6
abbrev N_gate_fault : List Str := ["wires", "value", "wire"]
theorem sc_gate_fault : FnScope N_gate_fault ["wires", "value"] (defScope s_gate_fault) := ⟨rfl, rfl, rfl, by decide +kernel, rfl, by decide +kernel, by decide +kernel⟩
abbrev s_cancelled : Stmt := topS 15
abbrev N_cancelled : List Str := ["first", "second"]
theorem sc_cancelled : FnScope N_cancelled ["first", "second"] (defScope s_cancelled) := ⟨rfl, rfl, rfl, by decide +kernel, rfl, by decide +kernel, by decide +kernel⟩
abbrev s_are_opposed : Stmt := topS 21
abbrev N_are_opposed : List Str := ["controls", "others", "values", "wire", "value"]
theorem sc_are_opposed : FnScope N_are_opposed ["controls", "others"] (defScope s_are_opposed) := ⟨rfl, rfl, rfl, by decide +kernel, rfl, by decide +kernel, by decide +kernel⟩
abbrev s_can_exchange : Stmt := topS 20
abbrev N_can_exchange : List Str := ["first", "second", "target", "controls", "follower", "looked_at"]
theorem sc_can_exchange : FnScope N_can_exchange ["first", "second"] (defScope s_can_exchange) := ⟨rfl, rfl, rfl, by decide +kernel, rfl, by decide +kernel, by decide +kernel⟩
abbrev s_exchanged : Stmt := topS 16
abbrev N_exchanged : List Str := ["first", "second"]
theorem sc_exchanged : FnScope N_exchanged ["first", "second"] (defScope s_exchanged) := ⟨rfl, rfl, rfl, by decide +kernel, rfl, by decide +kernel, by decide +kernel⟩
abbrev s_other_value : Stmt := topS 23
abbrev N_other_value : List Str := ["control"]
theorem sc_other_value : FnScope N_other_value ["control"] (defScope s_other_value) := ⟨rfl, rfl, rfl, by decide +kernel, rfl, by decide +kernel, by decide +kernel⟩
abbrev s_merged_gate : Stmt := topS 22
abbrev N_merged_gate : List Str := ["first", "second", "target", "controls", "others", "left", "right", "extra", "longer", "control"]
theorem sc_merged_gate : FnScope N_merged_gate ["first", "second"] (defScope s_merged_gate) := ⟨rfl, rfl, rfl, by decide +kernel, rfl, by decide +kernel, by decide +kernel⟩
abbrev s_merged : Stmt := topS 17
abbrev N_merged : List Str := ["first", "second", "gate"]
theorem sc_merged : FnScope N_merged ["first", "second"] (defScope s_merged) := ⟨rfl, rfl, rfl, by decide +kernel, rfl, by decide +kernel, by decide +kernel⟩
abbrev s_passed : Stmt := topS 18
abbrev N_passed : List Str := ["first", "second", "target", "controls", "follower", "looked_at", "both"]
theorem sc_passed : FnScope N_passed ["first", "second"] (defScope s_passed) := ⟨rfl, rfl, rfl, by decide +kernel, rfl, by decide +kernel, by decide +kernel⟩
abbrev s_two_instead : Stmt := topS 14
abbrev N_two_instead : List Str := ["word", "gates", "action"]
theorem sc_two_instead : FnScope N_two_instead ["word", "gates"] (defScope s_two_instead) := ⟨rfl, rfl, rfl, by decide +kernel, rfl, by decide +kernel, by decide +kernel⟩
abbrev s_twice : Stmt := topS 24
abbrev N_twice : List Str := ["wires", "gate"]
theorem sc_twice : FnScope N_twice ["wires", "gate"] (defScope s_twice) := ⟨rfl, rfl, rfl, by decide +kernel, rfl, by decide +kernel, by decide +kernel⟩
abbrev s_split_gate : Stmt := topS 25
abbrev N_split_gate : List Str := ["wires", "gate", "wire", "target", "controls", "value"]
theorem sc_split_gate : FnScope N_split_gate ["wires", "gate", "wire"] (defScope s_split_gate) := ⟨rfl, rfl, rfl, by decide +kernel, rfl, by decide +kernel, by decide +kernel⟩
abbrev s_apply_step : Stmt := topS 12
abbrev N_apply_step : List Str := ["circuit", "step", "wires", "gates", "word", "at", "count", "instead"]
theorem sc_apply_step : FnScope N_apply_step ["circuit", "step"] (defScope s_apply_step) := ⟨rfl, rfl, rfl, by decide +kernel, rfl, by decide +kernel, by decide +kernel⟩
abbrev s_z_draw : Stmt := topS 35
abbrev N_z_draw : List Str := ["script", "seed", "cell"]
theorem sc_z_draw : FnScope N_z_draw ["script"] (defScope s_z_draw) := ⟨rfl, rfl, rfl, by decide +kernel, rfl, by decide +kernel, by decide +kernel⟩
abbrev s_z_take : Stmt := topS 36
abbrev N_z_take : List Str := ["draw", "many", "found"]
theorem sc_z_take : FnScope N_z_take ["draw", "many"] (defScope s_z_take) := ⟨rfl, rfl, rfl, by decide +kernel, rfl, by decide +kernel, by decide +kernel⟩
abbrev s_z_gate : Stmt := topS 37
abbrev N_z_gate : List Str := ["draw", "wires", "most", "target", "controls", "wire"]
theorem sc_z_gate : FnScope N_z_gate ["draw", "wires", "most"] (defScope s_z_gate) := ⟨rfl, rfl, rfl, by decide +kernel, rfl, by decide +kernel, by decide +kernel⟩
abbrev s_z_turned : Stmt := topS 39
abbrev N_z_turned : List Str := ["gates", "bits", "target", "controls", "wire", "value"]
theorem sc_z_turned : FnScope N_z_turned ["gates", "bits"] (defScope s_z_turned) := ⟨rfl, rfl, rfl, by decide +kernel, rfl, by decide +kernel, by decide +kernel⟩
abbrev s_z_bits : Stmt := topS 40
abbrev N_z_bits : List Str := ["number", "wires", "k"]
theorem sc_z_bits : FnScope N_z_bits ["number", "wires"] (defScope s_z_bits) := ⟨rfl, rfl, rfl, by decide +kernel, rfl, by decide +kernel, by decide +kernel⟩
abbrev s_z_value : Stmt := topS 41
abbrev N_z_value : List Str := ["bits", "k"]
theorem sc_z_value : FnScope N_z_value ["bits"] (defScope s_z_value) := ⟨rfl, rfl, rfl, by decide +kernel, rfl, by decide +kernel, by decide +kernel⟩
abbrev s_z_map : Stmt := topS 42
abbrev N_z_map : List Str := ["circuit", "k"]
theorem sc_z_map : FnScope N_z_map ["circuit"] (defScope s_z_map) := ⟨rfl, rfl, rfl, by decide +kernel, rfl, by decide +kernel, by decide +kernel⟩
abbrev s_z_free : Stmt := topS 43
abbrev N_z_free : List Str := ["one", "two", "first", "second", "wire"]
theorem sc_z_free : FnScope N_z_free ["one", "two"] (defScope s_z_free) := ⟨rfl, rfl, rfl, by decide +kernel, rfl, by decide +kernel, by decide +kernel⟩
abbrev s_z_ordered : Stmt := topS 44
abbrev N_z_ordered : List Str := ["controls", "wire"]
theorem sc_z_ordered : FnScope N_z_ordered ["controls"] (defScope s_z_ordered) := ⟨rfl, rfl, rfl, by decide +kernel, rfl, by decide +kernel, by decide +kernel⟩
abbrev s_z_one : Stmt := topS 45
abbrev N_z_one : List Str := ["one", "two", "long", "short", "apart", "more", "wire"]
theorem sc_z_one : FnScope N_z_one ["one", "two"] (defScope s_z_one) := ⟨rfl, rfl, rfl, by decide +kernel, rfl, by decide +kernel, by decide +kernel⟩
abbrev s_z_rich : Stmt := topS 51
abbrev N_z_rich : List Str := ["draw", "wires", "many", "gates", "k", "what", "gate", "controls", "wire"]
theorem sc_z_rich : FnScope N_z_rich ["draw", "wires", "many"] (defScope s_z_rich) := ⟨rfl, rfl, rfl, by decide +kernel, rfl, by decide +kernel, by decide +kernel⟩
abbrev s_moved_up : Stmt := topS 33
abbrev N_moved_up : List Str := ["numbers", "gone", "at"]
theorem sc_moved_up : FnScope N_moved_up ["numbers", "gone"] (defScope s_moved_up) := ⟨rfl, rfl, rfl, by decide +kernel, rfl, by decide +kernel, by decide +kernel⟩
abbrev s_Search___init__ : Stmt := inClass (topS 32) 0
abbrev N_Search___init__ : List Str := ["self", "circuit", "word", "gates"]
theorem sc_Search___init__ : FnScope N_Search___init__ ["self", "circuit", "word"] (defScope s_Search___init__) := ⟨rfl, rfl, rfl, by decide +kernel, rfl, by decide +kernel, by decide +kernel⟩
abbrev s_Search_fits : Stmt := inClass (topS 32) 2
abbrev N_Search_fits : List Str := ["self", "first", "second"]
theorem sc_Search_fits : FnScope N_Search_fits ["self", "first", "second"] (defScope s_Search_fits) := ⟨rfl, rfl, rfl, by decide +kernel, rfl, by decide +kernel, by decide +kernel⟩
abbrev s_Search_look_from : Stmt := inClass (topS 32) 3
abbrev N_Search_look_from : List Str := ["self", "at", "gate", "floor", "other"]
theorem sc_Search_look_from : FnScope N_Search_look_from ["self", "at"] (defScope s_Search_look_from) := ⟨rfl, rfl, rfl, by decide +kernel, rfl, by decide +kernel, by decide +kernel⟩
abbrev s_Search_first_pair : Stmt := inClass (topS 32) 4
abbrev N_Search_first_pair : List Str := ["self", "found", "at", "partner"]
theorem sc_Search_first_pair : FnScope N_Search_first_pair ["self"] (defScope s_Search_first_pair) := ⟨rfl, rfl, rfl, by decide +kernel, rfl, by decide +kernel, by decide +kernel⟩
abbrev s_Search_take_out : Stmt := inClass (topS 32) 6
abbrev N_Search_take_out : List Str := ["self", "gone"]
theorem sc_Search_take_out : FnScope N_Search_take_out ["self", "gone"] (defScope s_Search_take_out) := ⟨rfl, rfl, rfl, by decide +kernel, rfl, by decide +kernel, by decide +kernel⟩
abbrev s_Search_is_stale : Stmt := inClass (topS 32) 7
abbrev N_Search_is_stale : List Str := ["self", "at", "early", "late", "joined"]
theorem sc_Search_is_stale : FnScope N_Search_is_stale ["self", "at", "early", "late", "joined"] (defScope s_Search_is_stale) := ⟨rfl, rfl, rfl, by decide +kernel, rfl, by decide +kernel, by decide +kernel⟩
abbrev s_Search_unite : Stmt := inClass (topS 32) 5
abbrev N_Search_unite : List Str := ["self", "early", "late", "at", "joined", "near", "stale"]
theorem sc_Search_unite : FnScope N_Search_unite ["self", "early", "late"] (defScope s_Search_unite) := ⟨rfl, rfl, rfl, by decide +kernel, rfl, by decide +kernel, by decide +kernel⟩
abbrev s_Search_outcome : Stmt := inClass (topS 32) 1
abbrev N_Search_outcome : List Str := ["self", "at", "pair"]
theorem sc_Search_outcome : FnScope N_Search_outcome ["self"] (defScope s_Search_outcome) := ⟨rfl, rfl, rfl, by decide +kernel, rfl, by decide +kernel, by decide +kernel⟩
abbrev s_cancelled_all : Stmt := topS 30
abbrev N_cancelled_all : List Str := ["circuit"]
theorem sc_cancelled_all : FnScope N_cancelled_all ["circuit"] (defScope s_cancelled_all) := ⟨rfl, rfl, rfl, by decide +kernel, rfl, by decide +kernel, by decide +kernel⟩
abbrev s_merged_all : Stmt := topS 31
abbrev N_merged_all : List Str := ["circuit"]
theorem sc_merged_all : FnScope N_merged_all ["circuit"] (defScope s_merged_all) := ⟨rfl, rfl, rfl, by decide +kernel, rfl, by decide +kernel, by decide +kernel⟩
abbrev s_cancelling : Stmt := topS 27
abbrev N_cancelling : List Str := ["circuit", "_", "steps"]
theorem sc_cancelling : FnScope N_cancelling ["circuit"] (defScope s_cancelling) := ⟨rfl, rfl, rfl, by decide +kernel, rfl, by decide +kernel, by decide +kernel⟩
abbrev s_merging : Stmt := topS 28
abbrev N_merging : List Str := ["circuit", "_", "steps"]
theorem sc_merging : FnScope N_merging ["circuit"] (defScope s_merging) := ⟨rfl, rfl, rfl, by decide +kernel, rfl, by decide +kernel, by decide +kernel⟩
abbrev s_shrink : Stmt := topS 29
abbrev N_shrink : List Str := ["circuit", "steps", "cancels", "merges"]
theorem sc_shrink : FnScope N_shrink ["circuit"] (defScope s_shrink) := ⟨rfl, rfl, rfl, by decide +kernel, rfl, by decide +kernel, by decide +kernel⟩
abbrev s_apply_steps : Stmt := topS 13
abbrev N_apply_steps : List Str := ["circuit", "steps", "at", "step"]
theorem sc_apply_steps : FnScope N_apply_steps ["circuit", "steps"] (defScope s_apply_steps) := ⟨rfl, rfl, rfl, by decide +kernel, rfl, by decide +kernel, by decide +kernel⟩
abbrev s_z_pair : Stmt := topS 52
abbrev N_z_pair : List Str := ["gates", "word", "i", "j", "fits", "k"]
theorem sc_z_pair : FnScope N_z_pair ["gates", "word"] (defScope s_z_pair) := ⟨rfl, rfl, rfl, by decide +kernel, rfl, by decide +kernel, by decide +kernel⟩
abbrev s_z_gathered : Stmt := topS 53
abbrev N_z_gathered : List Str := ["circuit", "word", "steps", "turn", "pair", "k", "gates", "new"]
theorem sc_z_gathered : FnScope N_z_gathered ["circuit", "word"] (defScope s_z_gathered) := ⟨rfl, rfl, rfl, by decide +kernel, rfl, by decide +kernel, by decide +kernel⟩
abbrev s_law : Stmt := topS 54
abbrev N_law : List Str := ["script", "draw", "circuit", "ours", "word", "steps", "behind", "told", "due", "small", "turn", "count", "found"]
theorem sc_law : FnScope N_law ["script"] (defScope s_law) := ⟨rfl, rfl, rfl, by decide +kernel, rfl, by decide +kernel, by decide +kernel⟩
/-- what the top has left -/
structure Txt (K : PySem.W.Frag) (mg : Str → Option Value) where
  f_is_whole : Addr
  d_is_whole : FuncData
  F_is_whole : Fun K "is_whole" "is_whole" s_is_whole f_is_whole d_is_whole
  g_is_whole : mg "is_whole" = some (.ref f_is_whole)
  b_is_whole : Binds K d_is_whole ["value"] []
  f_is_integer : Addr
  d_is_integer : FuncData
  F_is_integer : Fun K "is_integer" "is_integer" s_is_integer f_is_integer d_is_integer
  g_is_integer : mg "is_integer" = some (.ref f_is_integer)
  b_is_integer : Binds K d_is_integer ["value", "low", "high"] []
  f_is_count : Addr
  d_is_count : FuncData
  F_is_count : Fun K "is_count" "is_count" s_is_count f_is_count d_is_count
  g_is_count : mg "is_count" = some (.ref f_is_count)
  b_is_count : Binds K d_is_count ["value"] []
  f_begins_with_word : Addr
  d_begins_with_word : FuncData
  F_begins_with_word : Fun K "begins_with_word" "begins_with_word" s_begins_with_word f_begins_with_word d_begins_with_word
  g_begins_with_word : mg "begins_with_word" = some (.ref f_begins_with_word)
  b_begins_with_word : Binds K d_begins_with_word ["value"] []
  f_is_pair : Addr
  d_is_pair : FuncData
  F_is_pair : Fun K "is_pair" "is_pair" s_is_pair f_is_pair d_is_pair
  g_is_pair : mg "is_pair" = some (.ref f_is_pair)
  b_is_pair : Binds K d_is_pair ["value"] []
  f_is_control : Addr
  d_is_control : FuncData
  F_is_control : Fun K "is_control" "is_control" s_is_control f_is_control d_is_control
  g_is_control : mg "is_control" = some (.ref f_is_control)
  b_is_control : Binds K d_is_control ["value"] []
  f_wires_of : Addr
  d_wires_of : FuncData
  F_wires_of : Fun K "wires_of" "wires_of" s_wires_of f_wires_of d_wires_of
  g_wires_of : mg "wires_of" = some (.ref f_wires_of)
  b_wires_of : Binds K d_wires_of ["gate"] []
  f_is_gate : Addr
  d_is_gate : FuncData
  F_is_gate : Fun K "is_gate" "is_gate" s_is_gate f_is_gate d_is_gate
  g_is_gate : mg "is_gate" = some (.ref f_is_gate)
  b_is_gate : Binds K d_is_gate ["value"] []
  f_gate_fault : Addr
  d_gate_fault : FuncData
  F_gate_fault : Fun K "gate_fault" "gate_fault" s_gate_fault f_gate_fault d_gate_fault
  g_gate_fault : mg "gate_fault" = some (.ref f_gate_fault)
  b_gate_fault : Binds K d_gate_fault ["wires", "value"] []
  f_cancelled : Addr
  d_cancelled : FuncData
  F_cancelled : Fun K "cancelled" "cancelled" s_cancelled f_cancelled d_cancelled
  g_cancelled : mg "cancelled" = some (.ref f_cancelled)
  b_cancelled : Binds K d_cancelled ["first", "second"] []
  f_are_opposed : Addr
  d_are_opposed : FuncData
  F_are_opposed : Fun K "are_opposed" "are_opposed" s_are_opposed f_are_opposed d_are_opposed
  g_are_opposed : mg "are_opposed" = some (.ref f_are_opposed)
  b_are_opposed : Binds K d_are_opposed ["controls", "others"] []
  f_can_exchange : Addr
  d_can_exchange : FuncData
  F_can_exchange : Fun K "can_exchange" "can_exchange" s_can_exchange f_can_exchange d_can_exchange
  g_can_exchange : mg "can_exchange" = some (.ref f_can_exchange)
  b_can_exchange : Binds K d_can_exchange ["first", "second"] []
  f_exchanged : Addr
  d_exchanged : FuncData
  F_exchanged : Fun K "exchanged" "exchanged" s_exchanged f_exchanged d_exchanged
  g_exchanged : mg "exchanged" = some (.ref f_exchanged)
  b_exchanged : Binds K d_exchanged ["first", "second"] []
  f_other_value : Addr
  d_other_value : FuncData
  F_other_value : Fun K "other_value" "other_value" s_other_value f_other_value d_other_value
  g_other_value : mg "other_value" = some (.ref f_other_value)
  b_other_value : Binds K d_other_value ["control"] []
  f_merged_gate : Addr
  d_merged_gate : FuncData
  F_merged_gate : Fun K "merged_gate" "merged_gate" s_merged_gate f_merged_gate d_merged_gate
  g_merged_gate : mg "merged_gate" = some (.ref f_merged_gate)
  b_merged_gate : Binds K d_merged_gate ["first", "second"] []
  f_merged : Addr
  d_merged : FuncData
  F_merged : Fun K "merged" "merged" s_merged f_merged d_merged
  g_merged : mg "merged" = some (.ref f_merged)
  b_merged : Binds K d_merged ["first", "second"] []
  f_passed : Addr
  d_passed : FuncData
  F_passed : Fun K "passed" "passed" s_passed f_passed d_passed
  g_passed : mg "passed" = some (.ref f_passed)
  b_passed : Binds K d_passed ["first", "second"] []
  f_two_instead : Addr
  d_two_instead : FuncData
  F_two_instead : Fun K "two_instead" "two_instead" s_two_instead f_two_instead d_two_instead
  g_two_instead : mg "two_instead" = some (.ref f_two_instead)
  b_two_instead : Binds K d_two_instead ["word", "gates"] []
  f_twice : Addr
  d_twice : FuncData
  F_twice : Fun K "twice" "twice" s_twice f_twice d_twice
  g_twice : mg "twice" = some (.ref f_twice)
  b_twice : Binds K d_twice ["wires", "gate"] []
  f_split_gate : Addr
  d_split_gate : FuncData
  F_split_gate : Fun K "split_gate" "split_gate" s_split_gate f_split_gate d_split_gate
  g_split_gate : mg "split_gate" = some (.ref f_split_gate)
  b_split_gate : Binds K d_split_gate ["wires", "gate", "wire"] []
  f_apply_step : Addr
  d_apply_step : FuncData
  F_apply_step : Fun K "apply_step" "apply_step" s_apply_step f_apply_step d_apply_step
  g_apply_step : mg "apply_step" = some (.ref f_apply_step)
  b_apply_step : Binds K d_apply_step ["circuit", "step"] []
  f_z_draw : Addr
  d_z_draw : FuncData
  F_z_draw : Fun K "_law_draw" "_law_draw" s_z_draw f_z_draw d_z_draw
  g_z_draw : mg "_law_draw" = some (.ref f_z_draw)
  b_z_draw : Binds K d_z_draw ["script"] []
  f_z_take : Addr
  d_z_take : FuncData
  F_z_take : Fun K "_law_take" "_law_take" s_z_take f_z_take d_z_take
  g_z_take : mg "_law_take" = some (.ref f_z_take)
  b_z_take : Binds K d_z_take ["draw", "many"] []
  f_z_gate : Addr
  d_z_gate : FuncData
  F_z_gate : Fun K "_law_gate" "_law_gate" s_z_gate f_z_gate d_z_gate
  g_z_gate : mg "_law_gate" = some (.ref f_z_gate)
  b_z_gate : Binds K d_z_gate ["draw", "wires", "most"] []
  f_z_turned : Addr
  d_z_turned : FuncData
  F_z_turned : Fun K "_law_turned" "_law_turned" s_z_turned f_z_turned d_z_turned
  g_z_turned : mg "_law_turned" = some (.ref f_z_turned)
  b_z_turned : Binds K d_z_turned ["gates", "bits"] []
  f_z_bits : Addr
  d_z_bits : FuncData
  F_z_bits : Fun K "_law_bits" "_law_bits" s_z_bits f_z_bits d_z_bits
  g_z_bits : mg "_law_bits" = some (.ref f_z_bits)
  b_z_bits : Binds K d_z_bits ["number", "wires"] []
  f_z_value : Addr
  d_z_value : FuncData
  F_z_value : Fun K "_law_value" "_law_value" s_z_value f_z_value d_z_value
  g_z_value : mg "_law_value" = some (.ref f_z_value)
  b_z_value : Binds K d_z_value ["bits"] []
  f_z_map : Addr
  d_z_map : FuncData
  F_z_map : Fun K "_law_map" "_law_map" s_z_map f_z_map d_z_map
  g_z_map : mg "_law_map" = some (.ref f_z_map)
  b_z_map : Binds K d_z_map ["circuit"] []
  f_z_free : Addr
  d_z_free : FuncData
  F_z_free : Fun K "_law_free" "_law_free" s_z_free f_z_free d_z_free
  g_z_free : mg "_law_free" = some (.ref f_z_free)
  b_z_free : Binds K d_z_free ["one", "two"] []
  f_z_ordered : Addr
  d_z_ordered : FuncData
  F_z_ordered : Fun K "_law_ordered" "_law_ordered" s_z_ordered f_z_ordered d_z_ordered
  g_z_ordered : mg "_law_ordered" = some (.ref f_z_ordered)
  b_z_ordered : Binds K d_z_ordered ["controls"] []
  f_z_one : Addr
  d_z_one : FuncData
  F_z_one : Fun K "_law_one" "_law_one" s_z_one f_z_one d_z_one
  g_z_one : mg "_law_one" = some (.ref f_z_one)
  b_z_one : Binds K d_z_one ["one", "two"] []
  f_z_rich : Addr
  d_z_rich : FuncData
  F_z_rich : Fun K "_law_rich" "_law_rich" s_z_rich f_z_rich d_z_rich
  g_z_rich : mg "_law_rich" = some (.ref f_z_rich)
  b_z_rich : Binds K d_z_rich ["draw", "wires", "many"] []
  f_moved_up : Addr
  d_moved_up : FuncData
  F_moved_up : Fun K "moved_up" "moved_up" s_moved_up f_moved_up d_moved_up
  g_moved_up : mg "moved_up" = some (.ref f_moved_up)
  b_moved_up : Binds K d_moved_up ["numbers", "gone"] []
  f_cancelled_all : Addr
  d_cancelled_all : FuncData
  F_cancelled_all : Fun K "cancelled_all" "cancelled_all" s_cancelled_all f_cancelled_all d_cancelled_all
  g_cancelled_all : mg "cancelled_all" = some (.ref f_cancelled_all)
  b_cancelled_all : Binds K d_cancelled_all ["circuit"] []
  f_merged_all : Addr
  d_merged_all : FuncData
  F_merged_all : Fun K "merged_all" "merged_all" s_merged_all f_merged_all d_merged_all
  g_merged_all : mg "merged_all" = some (.ref f_merged_all)
  b_merged_all : Binds K d_merged_all ["circuit"] []
  f_cancelling : Addr
  d_cancelling : FuncData
  F_cancelling : Fun K "cancelling" "cancelling" s_cancelling f_cancelling d_cancelling
  g_cancelling : mg "cancelling" = some (.ref f_cancelling)
  b_cancelling : Binds K d_cancelling ["circuit"] []
  f_merging : Addr
  d_merging : FuncData
  F_merging : Fun K "merging" "merging" s_merging f_merging d_merging
  g_merging : mg "merging" = some (.ref f_merging)
  b_merging : Binds K d_merging ["circuit"] []
  f_shrink : Addr
  d_shrink : FuncData
  F_shrink : Fun K "shrink" "shrink" s_shrink f_shrink d_shrink
  g_shrink : mg "shrink" = some (.ref f_shrink)
  b_shrink : Binds K d_shrink ["circuit"] []
  f_apply_steps : Addr
  d_apply_steps : FuncData
  F_apply_steps : Fun K "apply_steps" "apply_steps" s_apply_steps f_apply_steps d_apply_steps
  g_apply_steps : mg "apply_steps" = some (.ref f_apply_steps)
  b_apply_steps : Binds K d_apply_steps ["circuit", "steps"] []
  f_z_pair : Addr
  d_z_pair : FuncData
  F_z_pair : Fun K "_law_pair" "_law_pair" s_z_pair f_z_pair d_z_pair
  g_z_pair : mg "_law_pair" = some (.ref f_z_pair)
  b_z_pair : Binds K d_z_pair ["gates", "word"] []
  f_z_gathered : Addr
  d_z_gathered : FuncData
  F_z_gathered : Fun K "_law_gathered" "_law_gathered" s_z_gathered f_z_gathered d_z_gathered
  g_z_gathered : mg "_law_gathered" = some (.ref f_z_gathered)
  b_z_gathered : Binds K d_z_gathered ["circuit", "word"] []
  f_law : Addr
  d_law : FuncData
  F_law : Fun K "law" "law" s_law f_law d_law
  g_law : mg "law" = some (.ref f_law)
  m_abs : mg "abs" = none
  m_all : mg "all" = none
  m_any : mg "any" = none
  m_bool : mg "bool" = none
  m_dict : mg "dict" = none
  m_enumerate : mg "enumerate" = none
  m_int : mg "int" = none
  m_isinstance : mg "isinstance" = none
  m_len : mg "len" = none
  m_list : mg "list" = none
  m_min : mg "min" = none
  m_range : mg "range" = none
  m_reversed : mg "reversed" = none
  m_sorted : mg "sorted" = none
  m_str : mg "str" = none
  m_sum : mg "sum" = none
  m_tuple : mg "tuple" = none
  m_zip : mg "zip" = none
/-- the methods -/
structure TxM (K : PySem.W.Frag) (mg : Str → Option Value) (C : Addr) where
  f_Search___init__ : Addr
  d_Search___init__ : FuncData
  F_Search___init__ : Fun K "__init__" "Search.__init__" s_Search___init__ f_Search___init__ d_Search___init__
  b_Search___init__ : Binds K d_Search___init__ ["self", "circuit", "word"] []
  mkc : Mk K C f_Search___init__
  gC : mg "Search" = some (.ref C)
  f_Search_fits : Addr
  d_Search_fits : FuncData
  F_Search_fits : Fun K "fits" "Search.fits" s_Search_fits f_Search_fits d_Search_fits
  b_Search_fits : Binds K d_Search_fits ["self", "first", "second"] []
  m_Search_fits : Meth K C "fits" f_Search_fits
  f_Search_look_from : Addr
  d_Search_look_from : FuncData
  F_Search_look_from : Fun K "look_from" "Search.look_from" s_Search_look_from f_Search_look_from d_Search_look_from
  b_Search_look_from : Binds K d_Search_look_from ["self", "at"] []
  m_Search_look_from : Meth K C "look_from" f_Search_look_from
  f_Search_first_pair : Addr
  d_Search_first_pair : FuncData
  F_Search_first_pair : Fun K "first_pair" "Search.first_pair" s_Search_first_pair f_Search_first_pair d_Search_first_pair
  b_Search_first_pair : Binds K d_Search_first_pair ["self"] []
  m_Search_first_pair : Meth K C "first_pair" f_Search_first_pair
  f_Search_take_out : Addr
  d_Search_take_out : FuncData
  F_Search_take_out : Fun K "take_out" "Search.take_out" s_Search_take_out f_Search_take_out d_Search_take_out
  b_Search_take_out : Binds K d_Search_take_out ["self", "gone"] []
  m_Search_take_out : Meth K C "take_out" f_Search_take_out
  f_Search_is_stale : Addr
  d_Search_is_stale : FuncData
  F_Search_is_stale : Fun K "is_stale" "Search.is_stale" s_Search_is_stale f_Search_is_stale d_Search_is_stale
  b_Search_is_stale : Binds K d_Search_is_stale ["self", "at", "early", "late", "joined"] []
  m_Search_is_stale : Meth K C "is_stale" f_Search_is_stale
  f_Search_unite : Addr
  d_Search_unite : FuncData
  F_Search_unite : Fun K "unite" "Search.unite" s_Search_unite f_Search_unite d_Search_unite
  b_Search_unite : Binds K d_Search_unite ["self", "early", "late"] []
  m_Search_unite : Meth K C "unite" f_Search_unite
  f_Search_outcome : Addr
  d_Search_outcome : FuncData
  F_Search_outcome : Fun K "outcome" "Search.outcome" s_Search_outcome f_Search_outcome d_Search_outcome
  b_Search_outcome : Binds K d_Search_outcome ["self"] []
  m_Search_outcome : Meth K C "outcome" f_Search_outcome

section
variable {P : Program} {w : World} {K : PySem.W.Frag} {mg : Str → Option Value} {base : Heap}
/-! ### the draw -/
/-- the cells stay where they are -/
def Cs (p : Addr) (H H' : Hp) : Prop := ∀ c t, H p = some (.lst (.ref c :: t)) → ∃ t', H' p = some (.lst (.ref c :: t'))
theorem Cs.refl (p : Addr) (H : Hp) : Cs p H H := fun _ t e => ⟨t, e⟩
theorem Cs.trans {p : Addr} {H H1 H2 : Hp} (a : Cs p H H1) (b : Cs p H1 H2) : Cs p H H2 := fun c t e => let ⟨t', e'⟩ := a c t e; b c t' e'
theorem Cs.new {p q : Addr} {H : Hp} {o : HO} (h : H q = none) : Cs p H (upd H q o) := fun c t e => ⟨t, by rw [upd_ne (ne_of_none e h)]; exact e⟩
/-- a number from 0 to m - 1, the draw turned -/
def spTake : Sp := fun vs H Q _ => ∃ (p : Addr) (m : Int), vs = [.ref p, .int m] ∧ DrawAt H p ∧ 0 < m ∧ m ≤ 2 ^ 40 ∧ ∀ (r : Int) (H' : Hp), 0 ≤ r → r < m → KeepBut p H H' → Cs p H H' → DrawAt H' p → Q (.int r) H'
theorem ok_z_take (T : Txt K mg) : FnOk P w K mg base CX0 1 T.f_z_take T.d_z_take ["draw", "many"] spTake := by
  refine T.F_z_take.ok sc_z_take (fun vs H Q E h => ?_) (fun cdv A outer s H vs Q E hr h => ?_)
  · obtain ⟨p, m, rfl, _⟩ := h
    rfl
  · obtain ⟨p, m, rfl, ⟨c, cells, pos, rest, seed, D⟩, hm, hm2, q⟩ := h
    have hc0 := D.hp
    refine ⟨_, (pss_cons (ps_cut (ps_if (pt_cmpR op_eq (pe_ix ix_list (pv 0) pe_int (fun _ _ => rfl)) pe_int (nomark _))
        (pss_cons (ps_asg (pe_op op_add (pe_ix ix_list (pv 0) pe_int (fun _ _ => rfl)) pe_int) (pg_sub (pv 0) pe_int set_list))
        (pss_cons (ps_cut (ps_if (pt_cmpR op_lt (pe_ix ix_list (pv 0) pe_int (fun _ _ => rfl)) (pe_callB call_len_seq (by rfl) T.m_len (by decide +kernel) (pa_cons (pe_ix ix_list (pv 0) pe_int (fun _ _ => rfl)) pa_nil)) (nomark _))
          (pss_one (ps_asg (pe_ix ix_list (pe_ix ix_list (pv 0) pe_int (fun _ _ => rfl)) (pe_ix ix_list (pv 0) pe_int (fun _ _ => rfl)) (fun _ _ => rfl)) (pg_sub (pv 0) pe_int set_list)))
          pss_nil))
        (pss_one (ps_if (pt_cmpR op_eq (pe_ix ix_list (pv 0) pe_int (fun _ _ => rfl)) pe_int (nomark _))
          (pss_cons (ps_asg (pe_op op_modN (pe_callTy call_int1 (by rfl) T.m_int (by decide +kernel) (pa_cons (pe_op op_add (pe_op op_mul (pe_ix ix_list (pv 0) pe_int (fun _ _ => rfl)) pe_int) pe_int) pa_nil)) pe_int) (pg_sub (pv 0) pe_int set_list))
          (pss_one (ps_asg (pe_ix ix_list (pv 0) pe_int (fun _ _ => rfl)) (pg_sub (pv 0) pe_int set_list))))
          pss_nil))))
        pss_nil))
      (pss_cons (ps_set (i := 2) sc_z_take.nd rfl (Or.inl rfl) (pe_op op_modN (pe_callTy call_int1 (by rfl) T.m_int (by decide +kernel) (pa_cons (pe_ix ix_list (pv 0) pe_int (fun _ _ => rfl)) pa_nil)) (pv 1)))
      (pss_cons (ps_asg (pe_op op_fdivW (pe_ix ix_list (pv 0) pe_int (fun _ _ => rfl)) (pv 1)) (pg_sub (pv 0) pe_int set_list))
      (pss_one (ps_ret (pv 2)))))), ?_⟩
    refine ⟨fun σ H1 => ∃ pos rest seed, σ = [some (.ref p), some (.int m), none] ∧ DrawIs H1 p c cells pos rest seed ∧ KeepBut p H H1, ?_, ?_⟩
    · -- draw[2] == 0
      refine ⟨_, rfl, _, _, _, _, rfl, rfl, SqL.of D.hp, rfl, rfl, _, rfl, ite2 (fun e => ?_) (fun e => ?_)⟩
      · -- draw[1] = draw[1] + 1
        refine ⟨_, rfl, _, _, _, _, rfl, rfl, SqL.of D.hp, rfl, _, _, rfl, rfl, _, rfl, _, _, _, 1, rfl, rfl, D.hp, rfl, ?_⟩
        have h1 := D.po
        have D1 : DrawIs (upd H p (.lst [.ref c, .int (pos + 1), .int rest, .int seed])) p c cells (pos + 1) rest seed := D.put (by omega) D.re D.s0 D.s1
        have k1 : KeepBut p H (upd H p (.lst [.ref c, .int (pos + 1), .int rest, .int seed])) := .put _ _ _
        refine ⟨fun σ H1 => ∃ rest, σ = [some (.ref p), some (.int m), none] ∧ DrawIs H1 p c cells (pos + 1) rest seed ∧ KeepBut p H H1, ?_, ?_⟩
        · -- draw[1] < len(draw[0])
          refine ⟨_, rfl, _, _, _, _, rfl, rfl, SqL.of D1.hp, rfl, _, rfl, _, _, _, _, rfl, rfl, SqL.of D1.hp, rfl, _, _, rfl, .inl (SqL.of D1.hc), _, _, rfl, rfl, _, rfl, ite2 (fun e => ?_) (fun e => ?_)⟩
          · have e1 : pos + 1 < ((cells.map V.int).length : Int) := of_decide_eq_true e
            rw [List.length_map] at e1
            obtain ⟨n, hn⟩ := int_nat (show 0 ≤ pos + 1 by omega)
            have hn2 : n < cells.length := by omega
            refine ⟨_, rfl, _, _, _, _, rfl, rfl, SqL.of D1.hp, rfl, _, rfl, _, _, _, _, rfl, rfl, SqL.of D1.hp, rfl, _, _, _, .int cells[n], rfl, rfl, SqL.of D1.hc, ?_, _, rfl, _, _, _, 2, rfl, rfl, D1.hp, rfl, ?_⟩
            · rw [hn]
              exact atI_nat (by rw [List.getElem?_map, List.getElem?_eq_getElem hn2]; rfl)
            · exact ⟨_, rfl, D1.put D1.po (D1.nn _ (List.getElem_mem hn2)) D1.s0 D1.s1, k1.trans (.put _ _ _)⟩
          · exact ⟨rest, rfl, D1, k1⟩
        · rintro σ H1 ⟨rest1, rfl, D2, k2⟩
          -- draw[2] == 0
          refine ⟨_, rfl, _, _, _, _, rfl, rfl, SqL.of D2.hp, rfl, rfl, _, rfl, ite2 (fun e => ?_) (fun e => ?_)⟩
          · have s0 := D2.s0
            have s1 := D2.s1
            refine ⟨_, rfl, _, _, _, _, rfl, rfl, SqL.of D2.hp, rfl, _, _, rfl, rfl, .inl ⟨by omega, by omega⟩, _, _, rfl, rfl, .inl ⟨_, rfl, _, _, rfl, rfl, (show (2147483647 : Int) ≠ 0 by decide), _, rfl, _, _, _, 3, rfl, rfl, D2.hp, rfl, ?_⟩⟩
            have f0 : 0 ≤ (seed * 48271 + 11).fmod 2147483647 := fmod_lo (by decide)
            have f1 : (seed * 48271 + 11).fmod 2147483647 < 2147483647 := fmod_hi (by decide)
            have D3 := D2.put (seed' := (seed * 48271 + 11).fmod 2147483647) D2.po D2.re f0 f1
            refine ⟨_, rfl, _, _, _, _, rfl, rfl, SqL.of D3.hp, rfl, _, rfl, _, _, _, 2, rfl, rfl, D3.hp, rfl, ?_⟩
            exact ⟨_, _, _, rfl, D3.put D3.po f0 f0 f1, (k2.trans (.put _ _ _)).trans (.put _ _ _)⟩
          · exact ⟨_, _, _, rfl, D2, k2⟩
      · exact ⟨_, _, _, rfl, D, .refl _ _⟩
    · rintro σ H1 ⟨pos, rest, seed, rfl, D, k⟩
      -- found = int(draw[2]) % many; draw[2] = draw[2] // many
      refine ⟨_, rfl, _, _, _, _, rfl, rfl, SqL.of D.hp, rfl, .inl ⟨_, rfl, _, rfl, _, _, rfl, rfl, (by omega), ?_⟩⟩
      refine ⟨_, rfl, _, _, _, _, rfl, rfl, SqL.of D.hp, rfl, _, rfl, _, _, rfl, rfl, wide_div (b := 41) hm (by omega) (by decide) (by decide), _, rfl, _, _, _, 2, rfl, rfl, D.hp, rfl, ?_⟩
      exact ⟨_, rfl, q _ _ (fmod_lo hm) (fmod_hi hm) (k.trans (.put _ _ _)) (fun c' t e => by rw [hc0] at e; cases e; exact ⟨_, upd_same⟩) ⟨_, _, _, _, _, D.put D.po (div_lo D.re hm) D.s0 D.s1⟩⟩
theorem drawAt_isl {H : Hp} {p : Addr} (D : DrawAt H p) : ∃ xs, H p = some (.lst xs) := by
  obtain ⟨c, cells, pos, rest, seed, d⟩ := D
  exact ⟨_, d.hp⟩
theorem KT.of_but {H H' : Hp} {p : Addr} (D : DrawAt H p) (D' : DrawAt H' p) (k : KeepBut p H H') (cs : Cs p H H') : KT [p] H H' := by
  obtain ⟨xs, e⟩ := (drawAt_isl D)
  obtain ⟨ys, e'⟩ := (drawAt_isl D')
  have ne : ∀ b o, H b = some o → (∀ q, o ≠ .lst q) → b ≠ p := fun b o q n z => by rw [z, e] at q; exact n xs (Option.some.inj q).symm
  refine ⟨fun b o n q => k b o (fun z => n (by rw [z]; exact List.mem_singleton.mpr rfl)) q, fun b xs q => k b _ (ne b _ q fun _ z => by cases z) q, fun b o u q => k b _ (ne b _ q fun _ z => by cases z) q, fun b o q => ?_, fun b c t q => ?_⟩
  rotate_left
  · by_cases z : b = p
    · subst z
      exact cs c t q
    · exact ⟨t, k b _ z q⟩
  by_cases z : b = p
  · exact ⟨_, by rw [z]; exact e'⟩
  · exact ⟨o, k b o z q⟩
/-- the draw is led on: all else stays -/
structure GS (dr : Addr) (H H' : Hp) : Prop where
  k : KT [dr] H H'
  d : DrawAt H' dr
  c : Cs dr H H'
theorem GS.trans {dr : Addr} {H H1 H2 : Hp} (a : GS dr H H1) (b : GS dr H1 H2) : GS dr H H2 := ⟨a.k.trans b.k, b.d, a.c.trans b.c⟩
theorem GS.new {dr p : Addr} {H : Hp} {o : HO} (D : DrawAt H dr) (h : H p = none) : GS dr H (upd H p o) := ⟨KT.new _ h, D.upd h, .new h⟩
theorem GS.refl {dr : Addr} {H : Hp} (D : DrawAt H dr) : GS dr H H := ⟨KT.refl _ _, D, .refl _ _⟩
theorem GS.late {dr p : Addr} {H H1 : Hp} {o : HO} (a : GS dr H H1) (D : DrawAt H dr) (h : H p = none) : GS dr H (upd H1 p o) := by
  obtain ⟨u, e⟩ := D.some
  have n : dr ≠ p := ne_of_none e h
  obtain ⟨c, cells, pos, rest, seed, d⟩ := id D
  have hp1 : H1 p = none ∨ ∃ o', H1 p = some o' := by cases e : H1 p <;> simp
  refine ⟨a.k.late h, ?_, fun c' t e' => ?_⟩
  · obtain ⟨c1, cells1, pos1, rest1, seed1, d1⟩ := a.d
    obtain ⟨t', e1⟩ := a.c _ _ d.hp
    have hc1 : c1 = c := by
      have := d1.hp.symm.trans e1
      simp at this
      exact this.1
    subst hc1
    have nc : c1 ≠ p := fun z => by
      have := d.hc
      rw [z, h] at this
      cases this
    exact ⟨c1, cells1, pos1, rest1, seed1, ⟨by rw [upd_ne n]; exact d1.hp, by rw [upd_ne nc]; exact d1.hc, d1.nn, d1.po, d1.re, d1.s0, d1.s1⟩⟩
  · obtain ⟨t', e1⟩ := a.c c' t e'
    exact ⟨t', by rw [upd_ne n]; exact e1⟩
def spTakeG : Sp := fun vs H Q _ => ∃ (p : Addr) (m : Int), vs = [.ref p, .int m] ∧ DrawAt H p ∧ 0 < m ∧ m ≤ 2 ^ 40 ∧ ∀ (r : Int) (H' : Hp), 0 ≤ r → r < m → GS p H H' → Q (.int r) H'
theorem okG_z_take (T : Txt K mg) : FnOk P w K mg base CX0 1 T.f_z_take T.d_z_take ["draw", "many"] spTakeG :=
  (ok_z_take T).imp fun vs H Q E ⟨p, m, h1, h2, h3, h4, h5⟩ => ⟨p, m, h1, h2, h3, h4, fun r H' r0 r1 k c D => h5 r H' r0 r1 ⟨KT.of_but h2 D k c, D, c⟩⟩
theorem sz1 : (1 : Nat) ≤ sizeLine := by decide
theorem sz2 : (2 : Nat) ≤ sizeLine := by decide
end

section
variable {P : Program} {w : World} {K : PySem.W.Frag} {mg : Str → Option Value} {base : Heap}
def spDraw (K : PySem.W.Frag) : Sp := fun vs H Q _ => ∃ (a : Addr) (ns : List Int), vs = [.ref a] ∧ SqL K H a (ns.map V.int) ∧ ns.length ≤ 63 ∧ ∀ (H' : Hp) (p : Addr), Same H H' → H p = none → DrawAt H' p → Q (.ref p) H'
def absI (i : Int) : Int := if i < 0 then -i else i
theorem absI_nn (i : Int) : 0 ≤ absI i := by
  unfold absI
  split <;> omega
theorem ok_z_draw (T : Txt K mg) : FnOk P w K mg base CX0 1 T.f_z_draw T.d_z_draw ["script"] (spDraw K) := by
  refine T.F_z_draw.ok sc_z_draw (fun vs H Q E h => ?_) (fun cdv A outer s H vs Q E hr h => ?_)
  · obtain ⟨a, ns, rfl, _⟩ := h
    rfl
  · obtain ⟨a, ns, rfl, hS, hlen, q⟩ := h
    have itm : ∀ (i : Nat) (x : V), (ns.map V.int)[i]? = some x → ∃ z, ns[i]? = some z ∧ x = V.int z := fun i x e => by
      rw [List.getElem?_map] at e
      cases e2 : ns[i]? with
      | none => rw [e2] at e; cases e
      | some z => rw [e2] at e; exact ⟨z, rfl, (Option.some.inj e).symm⟩
    refine ⟨_, (pss_cons (ps_set (i := 1) sc_z_draw.nd rfl (Or.inl rfl) pe_int)
      (pss_cons (ps_for PassesOwn.never rfl (pi_list (pv 0)) (pg_name (i := 2) sc_z_draw.nd rfl (Or.inl rfl))
        (pss_one (ps_set (i := 1) sc_z_draw.nd rfl (Or.inl rfl) (pe_op op_modN (pe_callTy call_int1 (by rfl) T.m_int (by decide +kernel) (pa_cons (pe_op op_add (pe_op op_add (pe_op op_mul (pv 1) pe_int) (pe_op op_modN (pe_callB call_abs (by rfl) T.m_abs (by decide +kernel) (pa_cons (pe_callTy call_int1 (by rfl) T.m_int (by decide +kernel) (pa_cons (pv 2) pa_nil)) pa_nil)) pe_int)) pe_int) pa_nil)) pe_int))))
      (pss_one (ps_ret (pe_lst (pa_cons (pe_lc (own := [("cell", 2)]) (g := gName 2) (by rfl) sc_z_draw.nd (pi_list (pv 0)) (blkOk_by (own := [("cell", 2)]) (N := N_z_draw) (sc := defScope s_z_draw) (by decide +kernel)) (fun _ _ _ _ _ => (pg_name (i := 2) sc_z_draw.nd rfl (Or.inl rfl))) (fun _ _ _ _ _ => pts_nil) (fun _ _ _ _ _ => (pe_callB call_abs (by rfl) T.m_abs (by decide +kernel) (pa_cons (pe_callTy call_int1 (by rfl) T.m_int (by decide +kernel) (pa_cons (pv 2) pa_nil)) pa_nil)))) (pa_cons (pe_un un_neg pe_int) (pa_cons pe_int (pa_cons (pv 1) pa_nil))))))))), ?_⟩
    refine ⟨_, rfl, a, rfl, ⟨_, hS⟩, for_list (xs := ns.map V.int) (fun i σ H1 => ∃ (seed : Int) (c : Option V), σ = [some (.ref a), some (.int seed), c] ∧ H1 = H ∧ 0 ≤ seed ∧ seed < 2147483647) ⟨7, none, rfl, rfl, by decide, by decide⟩ ?_ ?_ ?_⟩
    · rintro i σ H1 _ ⟨_, _, _, rfl, _⟩
      exact hS
    · rintro i x σ H1 hx ⟨seed, c, rfl, rfl, s0, s1⟩
      obtain ⟨z, hz, rfl⟩ := itm i x hx
      refine ⟨_, rfl, _, _, rfl, rfl, .inl ⟨by omega, by omega⟩, _, rfl, .inl ⟨_, rfl, _, rfl, _, _, rfl, rfl, (show (65521 : Int) ≠ 0 by decide), _, _, rfl, rfl, _, _, rfl, rfl, .inl ⟨_, rfl, _, _, rfl, rfl, (show (2147483647 : Int) ≠ 0 by decide), ?_⟩⟩⟩
      exact ⟨_, _, rfl, rfl, fmod_lo (by decide), fmod_hi (by decide)⟩
    · rintro σ H1 ⟨seed, c, rfl, rfl, s0, s1⟩
      -- the cells
      refine ⟨_, rfl, a, rfl, ⟨_, hS⟩, fun D hD => lc_list (xs := ns.map V.int) (fun i H2 => ∃ acc : List Int, Same H1 H2 ∧ H2 D = some (.lst (acc.map V.int)) ∧ acc.length = i ∧ ∀ x ∈ acc, 0 ≤ x) ⟨[], same_upd hD, upd_same, rfl, fun _ z => nomatch z⟩ ?_ ?_ ?_⟩
      · rintro i H2 _ ⟨acc, sm, _⟩
        exact sm.seq hS
      · rintro i x H2 hx ⟨acc, sm, hA, hl, hn⟩
        obtain ⟨z, hz, rfl⟩ := itm i x hx
        have hi : i < ns.length := (List.getElem?_eq_some_iff.mp hz).1
        refine ⟨rfl, ⟨_, rfl, .inl ⟨_, rfl, _, rfl, _, hA, small1000 (by rw [List.length_map]; omega), acc ++ [absI z], fun b o e => ?_, ?_, ?_, fun x hx => ?_⟩⟩⟩
        · rw [upd_ne (ne_of_none e hD)]
          exact sm _ _ e
        · rw [upd_same, List.map_append]
          rfl
        · rw [List.length_append, hl]; rfl
        · rcases List.mem_append.mp hx with h | h
          · exact hn x h
          · rw [List.mem_singleton.mp h]
            exact absI_nn z
      · rintro H2 ⟨acc, sm, hA, hl, hn⟩
        refine ⟨_, rfl, _, rfl, (by show 4 ≤ sizeLine; decide), fun p hp => ?_⟩
        refine q _ p (sm.trans (same_upd hp)) (sm.free hp) ⟨D, acc, -1, 0, seed, ⟨upd_same, ?_, hn, by decide, by decide, s0, s1⟩⟩
        rw [upd_ne (ne_of_none hA hp)]
        exact hA
/-! ### the law -/
theorem atI_in {α : Type} {xs : List α} {r : Int} (h0 : 0 ≤ r) (h1 : r < xs.length) : ∃ v, atI xs r = some v ∧ v ∈ xs := by
  obtain ⟨n, rfl⟩ := int_nat h0
  have hn : n < xs.length := by omega
  exact ⟨xs[n], atI_nat (List.getElem?_eq_getElem hn), List.getElem_mem hn⟩
end

/-! ### kinds of values -/
def isIr (lo hi : Int) : PyData → Bool
  | .int i => decide (lo ≤ i) && decide (i ≤ hi)
  | _ => false
def isTupD : PyData → Bool
  | .tuple _ => true
  | _ => false
def isIntD : PyData → Bool
  | .int _ => true
  | .bool _ => true
  | _ => false
def isBoolD : PyData → Bool
  | .bool _ => true
  | _ => false
section
variable {K : PySem.W.Frag} {H : Hp} {v : V} {d : PyData} {Q : VK}
theorem tyx_tup {H : Hp} {a : Addr} {xs : List V} (h : SqT K H a xs) : TyX K H (.ref a) (.type "tuple") := by
  rcases h with (h | ⟨o, h⟩) | ⟨o, _, _, h, c, _⟩
  · exact .base (.tup h)
  · exact .fTuple h
  · exact .kTuple h c
theorem isi_tup (h : Rp K H v d) : ∃ t, TyX K H v t ∧ PySem.W.kitOne K t (.type "tuple") = some (isTupD d) := by
  cases d with
  | none => cases h; exact ⟨_, .base .non, kit_ty (r := false) (by decide +kernel)⟩
  | bool b => cases h; exact ⟨_, .base (.bl b), kit_ty (r := false) (by decide +kernel)⟩
  | int b => cases h; exact ⟨_, .base (.int b), kit_ty (r := false) (by decide +kernel)⟩
  | str b => cases h; exact ⟨_, .base (.str b), kit_ty (r := false) (by decide +kernel)⟩
  | list ds => cases h
  | dict ds => cases h
  | tuple ds =>
    obtain ⟨a, xs, rfl, hs, _⟩ := h.inv
    exact ⟨_, tyx_tup hs, kit_ty (r := true) (by decide +kernel)⟩
theorem isi_int (h : Rp K H v d) : ∃ t, TyX K H v t ∧ PySem.W.kitOne K t (.type "int") = some (isIntD d) := by
  cases d with
  | none => cases h; exact ⟨_, .base .non, kit_ty (r := false) (by decide +kernel)⟩
  | bool b => cases h; exact ⟨_, .base (.bl b), kit_ty (r := true) (by decide +kernel)⟩
  | int b => cases h; exact ⟨_, .base (.int b), kit_ty (r := true) (by decide +kernel)⟩
  | str b => cases h; exact ⟨_, .base (.str b), kit_ty (r := false) (by decide +kernel)⟩
  | list ds => cases h
  | dict ds => cases h
  | tuple ds =>
    obtain ⟨a, xs, rfl, hs, _⟩ := h.inv
    exact ⟨_, tyx_tup hs, kit_ty (r := false) (by decide +kernel)⟩
theorem isi_bool (h : Rp K H v d) : ∃ t, TyX K H v t ∧ PySem.W.kitOne K t (.type "bool") = some (isBoolD d) := by
  cases d with
  | none => cases h; exact ⟨_, .base .non, kit_ty (r := false) (by decide +kernel)⟩
  | bool b => cases h; exact ⟨_, .base (.bl b), kit_ty (r := true) (by decide +kernel)⟩
  | int b => cases h; exact ⟨_, .base (.int b), kit_ty (r := false) (by decide +kernel)⟩
  | str b => cases h; exact ⟨_, .base (.str b), kit_ty (r := false) (by decide +kernel)⟩
  | list ds => cases h
  | dict ds => cases h
  | tuple ds =>
    obtain ⟨a, xs, rfl, hs, _⟩ := h.inv
    exact ⟨_, tyx_tup hs, kit_ty (r := false) (by decide +kernel)⟩
end
def spWhK (K : PySem.W.Frag) : Sp := fun vs H Q _ => ∃ (v : V) (d : PyData), vs = [v] ∧ Rp K H v d ∧ Q (.bl (isIntD d && !isBoolD d)) H
def spIsI (K : PySem.W.Frag) : Sp := fun vs H Q _ => ∃ (v : V) (lo hi : Int) (d : PyData), vs = [v, .int lo, .int hi] ∧ Rp K H v d ∧ Q (.bl (isIr lo hi d)) H
section
variable {P : Program} {w : World} {K : PySem.W.Frag} {mg : Str → Option Value} {base : Heap}
theorem ok_is_whole (T : Txt K mg) : FnOk P w K mg base CX0 1 T.f_is_whole T.d_is_whole ["value"] (spWhK K) := by
  refine T.F_is_whole.ok sc_is_whole (fun vs H Q E h => ?_) (fun cdv A outer s H vs Q E hr h => ?_)
  · obtain ⟨v, d, rfl, _⟩ := h
    rfl
  · obtain ⟨v, d, rfl, hv, q⟩ := h
    refine ⟨_, (pss_one (ps_ret (pe_and (pe_callB call_isi (by rfl) T.m_isinstance (by decide +kernel) (pa_cons (pv 0) (pa_cons (pe_bltn (v := .ty "int") (by rfl) T.m_int (by decide +kernel) rfl) pa_nil))) (pe_one (pe_not (pe_callB call_isi (by rfl) T.m_isinstance (by decide +kernel) (pa_cons (pv 0) (pa_cons (pe_bltn (v := .ty "bool") (by rfl) T.m_bool (by decide +kernel) rfl) pa_nil)))))))), ?_⟩
    obtain ⟨t1, y1, k1⟩ := isi_int hv
    obtain ⟨t2, y2, k2⟩ := isi_bool hv
    refine ⟨_, rfl, _, _, _, _, _, rfl, .ty "int", y1, k1, _, rfl, ?_⟩
    cases d with
    | none => exact ite_f (fun z => by cases z) q
    | str b => exact ite_f (fun z => by cases z) q
    | list ds => cases hv
    | dict ds => cases hv
    | tuple ds => exact ite_f (fun z => by cases z) q
    | bool b => exact ite_t rfl ⟨_, rfl, _, _, _, _, _, rfl, .ty "bool", y2, k2, _, rfl, q⟩
    | int b => exact ite_t rfl ⟨_, rfl, _, _, _, _, _, rfl, .ty "bool", y2, k2, _, rfl, q⟩
theorem ok_is_integer (T : Txt K mg) : FnOk P w K mg base CX0 2 T.f_is_integer T.d_is_integer ["value", "low", "high"] (spIsI K) := by
  have G_is_whole := ok_is_whole (P := P) (w := w) (base := base) T
  refine T.F_is_integer.ok sc_is_integer (fun vs H Q E h => ?_) (fun cdv A outer s H vs Q E hr h => ?_)
  · obtain ⟨v, lo, hi, d, rfl, _⟩ := h
    rfl
  · obtain ⟨v, lo, hi, d, rfl, hv, q⟩ := h
    refine ⟨_, (pss_one (ps_ret (pe_and (pe_call G_is_whole (hr.mono (by omega)) (by rfl) T.g_is_whole T.F_is_whole.kp T.b_is_whole .nil pass0 (pa_cons (pv 0) pa_nil)) (pe_one (pe_chain op_le op_le (pv 1) (pv 0) (pv 2)))))), ?_⟩
    refine ⟨_, rfl, v, d, rfl, hv, _, rfl, ?_⟩
    cases d with
    | none => exact ite_f (fun z => by cases z) q
    | str b => exact ite_f (fun z => by cases z) q
    | list ds => cases hv
    | dict ds => cases hv
    | tuple ds => exact ite_f (fun z => by cases z) q
    | bool b => exact ite_f (fun z => by cases z) q
    | int b =>
      cases hv
      refine ite_t rfl ?_
      refine ⟨_, rfl, _, rfl, _, _, rfl, rfl, _, rfl, ?_⟩
      have q : Q (.bl (decide (lo ≤ b) && decide (b ≤ hi))) H := q
      by_cases h : lo ≤ b
      · rw [decide_eq_true h, Bool.true_and] at q
        exact ite_t (decide_eq_true h) ⟨_, rfl, _, _, rfl, rfl, q⟩
      · rw [decide_eq_false h, Bool.false_and] at q
        exact ite_f (by rw [decide_eq_false h]; decide) q
end

inductive P2 {α : Type} (R : V → α → Prop) : List V → List α → Prop
  | nil : P2 R [] []
  | cons {v : V} {vs : List V} {d : α} {ds : List α} : R v d → P2 R vs ds → P2 R (v :: vs) (d :: ds)
theorem P2.mono {α : Type} {R S : V → α → Prop} (f : ∀ v d, R v d → S v d) : ∀ {vs : List V} {ds : List α}, P2 R vs ds → P2 S vs ds
  | _, _, .nil => .nil
  | _, _, .cons h g => .cons (f _ _ h) (g.mono f)
theorem P2.len {α : Type} {R : V → α → Prop} : ∀ {vs : List V} {ds : List α}, P2 R vs ds → vs.length = ds.length
  | _, _, .nil => rfl
  | _, _, .cons h g => congrArg (· + 1) g.len
theorem P2.app {α : Type} {R : V → α → Prop} : ∀ {vs us : List V} {ds es : List α}, P2 R vs ds → P2 R us es → P2 R (vs ++ us) (ds ++ es)
  | _, _, _, _, .nil, h => h
  | _, _, _, _, .cons h g, k => .cons h (g.app k)
theorem P2.snoc {α : Type} {R : V → α → Prop} {vs : List V} {ds : List α} {v : V} {d : α} (h : P2 R vs ds) (g : R v d) : P2 R (vs ++ [v]) (ds ++ [d]) := h.app (.cons g .nil)
theorem P2.get {α : Type} {R : V → α → Prop} : ∀ {vs : List V} {ds : List α} {i : Nat} {v : V}, P2 R vs ds → vs[i]? = some v → ∃ d, ds[i]? = some d ∧ R v d
  | _, _, i, v, .nil, e => by simp at e
  | _, _, 0, v, .cons h g, e => by simp at e; subst e; exact ⟨_, rfl, h⟩
  | _, _, i + 1, v, .cons h g, e => by
    obtain ⟨d, h1, h2⟩ := g.get (i := i) (by simpa using e)
    exact ⟨d, by simpa using h1, h2⟩
theorem P2.drop {α : Type} {R : V → α → Prop} : ∀ {vs : List V} {ds : List α} (n : Nat), P2 R vs ds → P2 R (vs.drop n) (ds.drop n)
  | _, _, _, .nil => by simp; exact .nil
  | _, _, 0, .cons h g => .cons h g
  | _, _, n + 1, .cons h g => by simpa using g.drop n
theorem P2.mem {α : Type} {R : V → α → Prop} {vs : List V} {ds : List α} {v : V} (h : P2 R vs ds) (m : v ∈ vs) : ∃ d ∈ ds, R v d := by
  obtain ⟨i, hi, e⟩ := List.getElem_of_mem m
  obtain ⟨d, h1, h2⟩ := h.get (List.getElem?_eq_some_iff.mpr ⟨hi, e⟩)
  exact ⟨d, List.mem_of_getElem? h1, h2⟩
def b2 (b : Bool) : Int := if b then 1 else 0
def PrV (H : Hp) (v : V) (c : Ct) : Prop := ∃ t, v = .ref t ∧ H t = some (.tup [.int c.1, .int (b2 c.2)])
def GtV (H : Hp) (v : V) (g : Gt) : Prop := ∃ t u vs, v = .ref t ∧ H t = some (.tup [.int g.1, .ref u]) ∧ FzT H u vs ∧ P2 (PrV H) vs g.2
theorem PrV.keep {S : List Addr} {H H' : Hp} (k : KT S H H') {v : V} {c : Ct} : PrV H v c → PrV H' v c := fun ⟨t, h1, h2⟩ => ⟨t, h1, k.tp _ _ h2⟩
theorem prs_keep {S : List Addr} {H H' : Hp} (k : KT S H H') {vs : List V} {cs : List Ct} (h : P2 (PrV H) vs cs) : P2 (PrV H') vs cs := h.mono fun _ _ => .keep k
theorem GtV.keep {S : List Addr} {H H' : Hp} (k : KT S H H') {v : V} {c : Gt} : GtV H v c → GtV H' v c := fun ⟨t, u, vs, h1, h2, h3, h4⟩ => ⟨t, u, vs, h1, k.tp _ _ h2, k.fzT h3, prs_keep k h4⟩
theorem gts_keep {S : List Addr} {H H' : Hp} (k : KT S H H') {vs : List V} {cs : List Gt} (h : P2 (GtV H) vs cs) : P2 (GtV H') vs cs := h.mono fun _ _ => .keep k
def ivs (ns : List Nat) : List V := ns.map fun (n : Nat) => V.int (n : Int)
theorem ivs_len (ns : List Nat) : (ivs ns).length = ns.length := List.length_map ..
theorem ivs_get {ns : List Nat} {i : Nat} {x : V} (h : (ivs ns)[i]? = some x) : ∃ n, ns[i]? = some n ∧ x = .int (n : Int) := by
  unfold ivs at h
  rw [List.getElem?_map] at h
  cases e : ns[i]? with
  | none => rw [e] at h; cases h
  | some n => rw [e] at h; exact ⟨n, rfl, (Option.some.inj h).symm⟩
theorem ivs_at {ns : List Nat} {i : Nat} {n : Nat} (h : ns[i]? = some n) : atI (ivs ns) (i : Int) = some (.int (n : Int)) := by
  refine atI_nat ?_
  unfold ivs
  rw [List.getElem?_map, h]
  rfl
def GOk (n : Nat) (g : Gt) : Prop := g.1 < n ∧ (∀ c ∈ g.2, c.1 < n) ∧ (g.2.map (·.1)).Pairwise (· < ·) ∧ ∀ c ∈ g.2, c.1 ≠ g.1
theorem ivs_snoc (a : List Nat) (n : Nat) : ivs (a ++ [n]) = ivs a ++ [.int (n : Int)] := by
  unfold ivs
  rw [List.map_append]
  rfl
theorem ivs_drop (ns : List Nat) (n : Nat) : (ivs ns).drop n = ivs (ns.drop n) := by
  unfold ivs
  rw [List.map_drop]
theorem cutV_nat1 (xs : List V) : cutV xs (some 1) none = xs.drop 1 := by
  unfold cutV HT.sIx
  cases xs with
  | nil => rfl
  | cons x r =>
    simp
theorem ivs_flat (ns : List Nat) : (ivs ns).all flatV = true := List.all_eq_true.mpr fun x hx => by
  obtain ⟨n, _, rfl⟩ := List.mem_map.mp hx
  rfl
theorem inV_ivs (x : Nat) : ∀ xs : List Nat, inV (V.int (x : Int)) (ivs xs) = decide (x ∈ xs)
  | [] => by simp [inV, ivs]
  | y :: r => by
    have ih := inV_ivs x r
    have e : inV (V.int (x : Int)) (ivs (y :: r)) = (eqV (V.int (y : Int)) (V.int (x : Int)) || inV (V.int (x : Int)) (ivs r)) := rfl
    rw [e, ih]
    have e2 : eqV (V.int (y : Int)) (V.int (x : Int)) = decide (y = x) := by
      show ((y : Int) == (x : Int)) = _
      rw [Bool.eq_iff_iff, beq_iff_eq, decide_eq_true_iff]
      omega
    rw [e2]
    by_cases h : y = x
    · simp [h]
    · by_cases h2 : x ∈ r
      · simp [h2]
      · have h3 : ¬ x = y := fun z => h z.symm
        simp [h, h2, h3]
theorem all_true {bs : List Bool} (h : ∀ b ∈ bs, b = true) : bs.all _root_.id = true := List.all_eq_true.mpr fun b hb => h b hb
theorem trues {n : Nat} : (List.replicate n true).all _root_.id = true := all_true fun _ h => (List.mem_replicate.mp h).2
theorem P2.perm {R : V → Ct → Prop} {vs us : List V} (p : vs.Perm us) : ∀ {cs : List Ct}, P2 R vs cs → ∃ ds, P2 R us ds ∧ cs.Perm ds := by
  induction p with
  | nil => intro cs h; exact ⟨cs, h, .refl _⟩
  | cons x _ ih =>
    intro cs h
    cases h with
    | cons h1 h2 =>
      obtain ⟨ds, a, b⟩ := ih h2
      exact ⟨_, .cons h1 a, b.cons _⟩
  | swap x y l =>
    intro cs h
    cases h with
    | cons h1 h2 =>
      cases h2 with
      | cons h3 h4 => exact ⟨_, .cons h3 (.cons h1 h4), .swap ..⟩
  | trans _ _ ih1 ih2 =>
    intro cs h
    obtain ⟨ds, a, b⟩ := ih1 h
    obtain ⟨es, c, d⟩ := ih2 a
    exact ⟨es, c, b.trans d⟩
theorem cutV_from (xs : List V) (a : Nat) : cutV xs (some (a : Int)) none = xs.drop a := by
  unfold cutV
  rw [HT.sIx_nat, HT.sIx_none]
  rcases Nat.lt_or_ge a xs.length with h | h
  · rw [Nat.min_eq_left (by omega), List.take_of_length_le (by rw [List.length_drop]; omega)]
  · rw [Nat.min_eq_right h, List.drop_eq_nil_of_le h, List.drop_eq_nil_of_le (Nat.le_refl _), List.take_nil]
theorem cutV_mid (xs : List V) (a b : Nat) (hb : b ≤ xs.length) (ha : a ≤ b) : cutV xs (some (a : Int)) (some (b : Int)) = (xs.drop a).take (b - a) := by
  unfold cutV
  rw [HT.sIx_nat, HT.sIx_nat, Nat.min_eq_left hb, Nat.min_eq_left (by omega)]
theorem ivs_take (ns : List Nat) (n : Nat) : (ivs ns).take n = ivs (ns.take n) := by
  unfold ivs
  rw [List.map_take]
theorem PrV.put {H : Hp} {D : Addr} {xs ys : List V} (hD : H D = some (.lst xs)) {v : V} {c : Ct} : PrV H v c → PrV (upd H D (.lst ys)) v c := fun ⟨t, h1, h2⟩ => ⟨t, h1, by
  rw [upd_ne]
  · exact h2
  · intro z
    rw [z, hD] at h2
    cases h2⟩
theorem FzT.put {H : Hp} {D a : Addr} {xs ys zs : List V} (h : FzT H a xs) (hD : H D = some (.lst zs)) : FzT (upd H D (.lst ys)) a xs := by
  obtain ⟨o, d, e⟩ := h
  exact ⟨o, d, by rw [upd_ne (fun z => by rw [z, hD] at e; cases e)]; exact e⟩
theorem GtV.put {H : Hp} {D : Addr} {xs ys : List V} (hD : H D = some (.lst xs)) {v : V} {c : Gt} : GtV H v c → GtV (upd H D (.lst ys)) v c := fun ⟨t, u, vs, h1, h2, h3, h4⟩ => ⟨t, u, vs, h1, (by
  rw [upd_ne]
  · exact h2
  · intro z
    rw [z, hD] at h2
    cases h2), h3.put hD, h4.mono fun _ _ => .put hD⟩
def bvs (bs : List Bool) : List V := bs.map fun (b : Bool) => V.int (b2 b)
theorem bvs_len (bs : List Bool) : (bvs bs).length = bs.length := List.length_map ..
theorem bvs_get {bs : List Bool} {i : Nat} (h : i < bs.length) : (bvs bs)[i]? = some (.int (b2 (st bs i))) := by
  unfold bvs st
  rw [List.getElem?_map, List.getElem?_eq_getElem h, List.getD_eq_getElem?_getD, List.getElem?_eq_getElem h]
  rfl
theorem bvs_set (bs : List Bool) (i : Nat) (b : Bool) : (bvs bs).set i (.int (b2 b)) = bvs (bs.set i b) := by
  unfold bvs
  rw [List.map_set]
theorem b2_inj {a b : Bool} : (b2 a = b2 b) ↔ a = b := by cases a <;> cases b <;> simp [b2]
theorem b2_not (a : Bool) : 1 - b2 a = b2 (!a) := by cases a <;> rfl
theorem dp_ints {K : PySem.W.Frag} {H : Hp} : ∀ xs : List Int, DpAll K H (xs.map V.int) (xs.map PyData.int)
  | [] => .nil
  | x :: r => .cons (.int x) (dp_ints r)
theorem lay_ints : ∀ xs : List Int, PyData.canLayAll0 (xs.map PyData.int) = true
  | [] => rfl
  | x :: r => by
    show (PyData.canLay0 (.int x) && PyData.canLayAll0 (r.map PyData.int)) = true
    rw [lay_ints r]
    rfl
theorem deep_ints : ∀ xs : List Int, PyData.depthAll (xs.map PyData.int) = 0
  | [] => rfl
  | x :: r => by
    show max (PyData.depth (.int x)) (PyData.depthAll (r.map PyData.int)) = 0
    rw [deep_ints r]
    rfl
theorem shaped_ints (xs : List Int) : SeqAt.shaped (.list (xs.map PyData.int)) = true := by
  unfold SeqAt.shaped
  rw [Bool.and_eq_true]
  refine ⟨lay_ints xs, decide_eq_true ?_⟩
  show PyData.depthAll (xs.map PyData.int) + 1 ≤ 64
  rw [deep_ints]
  decide
theorem shaped_intsT (xs : List Int) : SeqAt.shaped (.tuple (xs.map PyData.int)) = true := by
  unfold SeqAt.shaped
  rw [Bool.and_eq_true]
  refine ⟨lay_ints xs, decide_eq_true ?_⟩
  show PyData.depthAll (xs.map PyData.int) + 1 ≤ 64
  rw [deep_ints]
  decide
theorem ivs_int (ns : List Nat) : ivs ns = (ns.map fun (n : Nat) => (n : Int)).map V.int := by
  unfold ivs
  rw [List.map_map]
  rfl
theorem bvs_int (bs : List Bool) : bvs bs = (bs.map b2).map V.int := by
  unfold bvs
  rw [List.map_map]
  rfl
theorem shaped_nil : SeqAt.shaped (.list []) = true := shaped_ints []
def In (n : Nat) (gs : List Gt) : Prop := ∀ g ∈ gs, g.1 < n ∧ ∀ c ∈ g.2, c.1 < n
def spTu : Sp := fun vs H Q _ => ∃ (a b : Addr) (gvs : List V) (gs : List Gt) (bs : List Bool), vs = [.ref a, .ref b] ∧ H a = some (.tup gvs) ∧ P2 (GtV H) gvs gs ∧ H b = some (.tup (bvs bs)) ∧ In bs.length gs ∧ (∀ g ∈ gs, g.2.length ≤ 1000) ∧
  ∀ (t : Addr) (H' : Hp), KT [] H H' → H' t = some (.tup (bvs (runL gs bs))) → Q (.ref t) H'
theorem val_snoc (a : List Nat) (w : Nat) (s : Sb) : val (a ++ [w]) s = val a s + (s w).toNat * 2 ^ a.length := by
  induction a with
  | nil => simp [val]
  | cons x r ih =>
    rw [List.cons_append, val, val, ih, List.length_cons, Nat.pow_succ]
    rw [Nat.mul_add, Nat.add_assoc]
    congr 2
    rw [← Nat.mul_assoc, Nat.mul_comm 2, Nat.mul_assoc, Nat.mul_comm 2]
theorem b2_nat (b : Bool) : b2 b = ((b.toNat : Nat) : Int) := by cases b <;> rfl
theorem perm_erase {l : List Nat} {n : Nat} (h : n < l.length) : (l[n] :: l.eraseIdx n).Perm l := by
  have e : l = l.take n ++ l[n] :: l.drop (n + 1) := by rw [← List.drop_eq_getElem_cons h, List.take_append_drop]
  rw [List.eraseIdx_eq_take_drop_succ]
  exact List.perm_middle.symm.trans (.of_eq e.symm)
theorem ivs_erase (l : List Nat) (n : Nat) : (ivs l).eraseIdx n = ivs (l.eraseIdx n) := by
  rw [List.eraseIdx_eq_take_drop_succ, List.eraseIdx_eq_take_drop_succ, ivs_take, ivs_drop]
  unfold ivs
  rw [List.map_append]
theorem ixn_nat {n m : Nat} (h : n < m) : ixN m (n : Int) = some n := by
  have h1 : (0 : Int) ≤ n := by omega
  have h2 : (n : Int) < m := by omega
  simp only [ixN, h1, h2, if_true, Int.toNat_natCast]
theorem seqIx {n m : Nat} (h : n < m) : seqIndex? (n : Int) m = some n := by
  unfold seqIndex?
  have h1 : ¬ (n : Int) < 0 := by omega
  simp [h1, h]
set_option maxHeartbeats 4000000 in
theorem ok_z_turned {P : Program} {w : World} {K : PySem.W.Frag} {mg : Str → Option Value} {base : Heap} (T : Txt K mg) : FnOk P w K mg base CX0 1 T.f_z_turned T.d_z_turned ["gates", "bits"] spTu := by
  refine T.F_z_turned.ok sc_z_turned (fun vs H Q E h => ?_) (fun cdv A outer s H vs Q E hr h => ?_)
  · obtain ⟨a, b, gvs, gs, bs, rfl, _⟩ := h
    rfl
  · obtain ⟨a, b, gvs, gs, bs, rfl, ha, hg, hb, hin, hln, q⟩ := h
    refine ⟨_, (pss_cons (ps_set (i := 1) sc_z_turned.nd rfl (Or.inr rfl) (pe_callTy call_list_of (by rfl) T.m_list (by decide +kernel) (pa_cons (pv 1) pa_nil)))
      (pss_cons (ps_for PassesOwn.never rfl (pi_tup (pv 0)) (pg_tup (by rfl) (pgs_cons (pg_name (i := 2) sc_z_turned.nd rfl (Or.inl rfl)) (pgs_cons (pg_name (i := 3) sc_z_turned.nd rfl (Or.inl rfl)) pgs_nil)))
        (pss_one (ps_if (pt_cmpR (op_eqD hr.units) (pe_lc (own := [("wire", 4), ("value", 5)]) (g := gTup K 2 (gCons (gName 4) (gCons (gName 5) gNil))) (by rfl) sc_z_turned.nd (pi_tup (pv 3)) (blkOk_by (own := [("wire", 4), ("value", 5)]) (N := N_z_turned) (sc := defScope s_z_turned) (by decide +kernel)) (fun _ _ _ _ _ => (pg_tup (by rfl) (pgs_cons (pg_name (i := 4) sc_z_turned.nd rfl (Or.inl rfl)) (pgs_cons (pg_name (i := 5) sc_z_turned.nd rfl (Or.inl rfl)) pgs_nil)))) (fun _ _ _ _ _ => (pts_one (pt_cmpR op_ne (pe_ix (ixL (K := K) rfl) (pv 1) (pv 4) (fun _ _ => rfl)) (pv 5) (nomark _)))) (fun _ _ _ _ _ => (pv 4))) (pe_lst pa_nil) (nomark _))
          (pss_one (ps_asg (pe_op op_sub pe_int (pe_ix ix_list (pv 1) (pv 2) (fun _ _ => rfl))) (pg_sub (pv 1) (pv 2) set_list)))
          pss_nil)))
      (pss_one (ps_ret (pe_callTy call_tuple_of (by rfl) T.m_tuple (by decide +kernel) (pa_cons (pv 1) pa_nil)))))), ?_⟩
    refine ⟨_, rfl, b, _, rfl, .inr (SqT.of hb), fun B nB => ?_⟩
    have k0 := KT.new [] nB (o := .lst (bvs bs))
    refine ⟨_, rfl, a, rfl, ⟨_, SqT.of (k0.tp _ _ ha)⟩, ?_⟩
    refine for_it (walk_tup (K := K) (a := a) (xs := gvs)) (fun i σ H1 => ∃ (x2 x3 : Option V), σ = [some (.ref a), some (.ref B), x2, x3, none, none] ∧ KT [] H H1 ∧ H1 B = some (.lst (bvs (runL (gs.take i) bs)))) ?_ ?_ ?_ ?_
    · exact ⟨none, none, rfl, k0, upd_same⟩
    · rintro i σ H1 _ ⟨_, _, _, k, _⟩
      exact SqT.of (k.tp _ _ ha)
    · rintro i x σ H1 H2 hi ⟨x2, x3, rfl, k, hB⟩ ⟨rfl, hx⟩
      obtain ⟨g, h1, t, u, vs, rfl, ht, hu, hP⟩ := hg.get hx
      have mg := List.mem_of_getElem? h1
      obtain ⟨in1, in2⟩ := hin g mg
      have hl := hln g mg
      obtain ⟨cur, ecur⟩ : ∃ cur, runL (gs.take i) bs = cur := ⟨_, rfl⟩
      have lcur : cur.length = bs.length := by rw [← ecur, runL_len]
      rw [ecur] at hB
      have enext : runL (gs.take (i + 1)) bs = actL g cur := by
        rw [List.take_succ, h1, ← ecur]
        exact runL_snoc _ _ _
      rw [enext]
      refine ⟨t, _, rfl, SqT.of (k.tp _ _ ht), rfl, _, _, rfl, _, _, rfl, rfl, ?_⟩
      refine ⟨_, rfl, u, rfl, ⟨_, (k.fzT hu).sq⟩, fun D nD => ?_⟩
      have nBD : B ≠ D := ne_of_none hB nD
      refine lc_it (walk_tup (K := K) (a := u) (xs := vs)) (fun j H3 => ∃ ns : List Nat, KT [] H2 H3 ∧ H3 D = some (.lst (ivs ns)) ∧ ns.isEmpty = holds (g.2.take j) (st cur) ∧ ns.length ≤ j) ?_ ?_ ?_ ?_
      · exact ⟨[], KT.new _ nD, upd_same, rfl, Nat.le_refl _⟩
      · rintro j H3 _ ⟨ns, k3, _⟩
        exact (k3.fzT (k.fzT hu)).sq
      · rintro j x H3 H4 hj ⟨ns, k3, hD, hns, hnl⟩ ⟨rfl, hx⟩
        obtain ⟨c, hc1, t2, rfl, ht2⟩ := hP.get hx
        have hci := in2 c (List.mem_of_getElem? hc1)
        have hjl : j < g.2.length := by rw [← hP.len]; exact hj
        have eh : holds (g.2.take (j + 1)) (st cur) = (holds (g.2.take j) (st cur) && (st cur c.1 == c.2)) := by
          rw [List.take_succ, hc1, holds_app]
          show (_ && holds [c] (st cur)) = _
          rw [holds_cons]
          show (_ && (_ && true)) = _
          rw [Bool.and_true]
        refine ⟨t2, _, rfl, SqT.of (k3.tp _ _ (k.tp _ _ ht2)), rfl, _, _, rfl, _, _, rfl, rfl, by rfl, ?_⟩
        refine ⟨_, rfl, _, rfl, B, _, _, _, rfl, rfl, SqL.of (k3.kp _ _ (by simp) hB), atI_nat (bvs_get (by rw [lcur]; exact hci)), _, rfl, rfl, _, rfl, ?_⟩
        by_cases e : st cur c.1 = c.2
        · refine ite_f (not_bl ?_) ⟨ns, k3, hD, ?_, by omega⟩
          · show (!decide (V.int (b2 (st cur c.1)) = V.int (b2 c.2))) = false
            rw [e]
            simp
          · rw [eh, hns, e]
            simp
        · refine ite_t ?_ ⟨_, rfl, _, hD, ?_, ns ++ [c.1], k3.late nD, ?_, ?_, ?_⟩
          · show (!decide (V.int (b2 (st cur c.1)) = V.int (b2 c.2))) = true
            rw [decide_eq_false (fun z => e (b2_inj.mp (V.int.inj z)))]
            rfl
          · rw [ivs_len]
            exact Nat.lt_of_le_of_lt (by omega : _ ≤ 1000) (by decide)
          · rw [upd_same, ivs_snoc]
          · have e3 : (st cur c.1 == c.2) = false := by
              rw [beq_eq_false_iff_ne]
              exact e
            rw [eh, e3, Bool.and_false]
            simp
          · rw [List.length_append]
            simp
            omega
      · rintro H3 ⟨ns, k3, hD, hns, _⟩
        rw [hP.len, List.take_length] at hns
        refine ⟨Nat.zero_le _, fun l nl => ?_⟩
        have kl := KT.new [] nl (o := .lst [])
        refine ⟨.list ((ns.map fun (n : Nat) => (n : Int)).map PyData.int), .list [], .lst (SqL.of (kl.kp _ _ (by simp) hD)) ?_, .lst (SqL.of upd_same) .nil, shaped_ints _, shaped_nil, _, rfl, ?_⟩
        · rw [ivs_int]
          exact dp_ints _
        · have eE : PyData.eqv (.list ((ns.map fun (n : Nat) => (n : Int)).map PyData.int)) (.list []) = holds g.2 (st cur) := by
            rw [eqv_nil, ← hns]
            cases ns <;> rfl
          rw [eE]
          have hB4 := kl.kp _ _ (by simp) (k3.kp _ _ (by simp) hB)
          have k4 := (k.trans k3).trans kl
          cases hh : holds g.2 (st cur) with
          | false =>
            refine ite_f (by decide) ⟨_, _, rfl, k4, ?_⟩
            rw [hB4, actL, hh]
            rfl
          | true =>
            refine ite_t rfl ?_
            refine ⟨_, rfl, _, rfl, B, _, _, _, rfl, rfl, SqL.of hB4, atI_nat (bvs_get (by rw [lcur]; exact in1)), _, _, rfl, rfl, _, rfl, _, rfl, B, _, _, g.1, rfl, rfl, hB4, ?_, ?_⟩
            · rw [bvs_len]
              exact ixn_nat (by rw [lcur]; exact in1)
            · refine ⟨_, _, rfl, k4.late nB, ?_⟩
              rw [upd_same, actL, hh]
              show some (HO.lst ((bvs cur).set g.1 (V.int (1 - b2 (st cur g.1))))) = _
              rw [b2_not, bvs_set]
              rfl
    · rintro σ H1 ⟨x2, x3, rfl, k, hB⟩
      rw [hg.len, List.take_length] at hB
      refine ⟨_, rfl, B, _, rfl, .inl ⟨SqL.of hB, fun t nt => ?_⟩⟩
      exact q t _ (k.trans (KT.new _ nt)) upd_same
def spLaw (K : PySem.W.Frag) : Sp := fun vs H Q _ => ∃ (a : Addr) (ns : List Int), vs = [.ref a] ∧ SqL K H a (ns.map V.int) ∧ ns.length ≤ 63 ∧ ∀ H', Q (.bl true) H'
theorem ne_dr {H : Hp} {dr D : Addr} {us : List Nat} (d : DrawAt H dr) (h : H D = some (.lst (ivs us))) : D ≠ dr := fun z => by
  obtain ⟨c, cells, pos, rest, seed, I⟩ := d
  rw [z, I.hp] at h
  cases us with
  | nil => cases h
  | cons x r =>
    have := (List.cons.inj (HO.lst.inj (Option.some.inj h))).1
    cases this
theorem ne_new {H : Hp} {dr D : Addr} (d : DrawAt H dr) (h : H D = none) : D ≠ dr := fun z => by
  obtain ⟨o, e⟩ := d.some
  rw [z, e] at h
  cases h
theorem KT.same {H H' : Hp} (k : KT [] H H') : Same H H' := fun b o e => k.kp b o (by simp) e
theorem GS.of {dr : Addr} {H H' : Hp} (d : DrawAt H dr) (k : KT [] H H') : GS dr H H' := ⟨k.mono (fun _ h => (nomatch h)), d.keep k.same, fun c t e => ⟨t, k.same _ _ e⟩⟩
theorem cutV_to (xs : List V) (b : Nat) (hb : b ≤ xs.length) : cutV xs none (some (b : Int)) = xs.take b := by
  unfold cutV
  rw [HT.sIx_nat, HT.sIx_none, Nat.min_eq_left hb]
  rfl
theorem rgV_nat (n : Nat) : rgV 0 (n : Int) = ivs (List.range n) := by
  unfold rgV ivs
  simp

theorem valB_lt : ∀ bs : List Bool, valB bs < 2 ^ bs.length
  | [] => Nat.one_pos
  | b :: r => by
    have := valB_lt r
    have h2 := Bool.toNat_le b
    rw [valB, List.length_cons, Nat.pow_succ]
    omega
def spBits : Sp := fun vs H Q _ => ∃ (x n : Nat), vs = [.int x, .int n] ∧ n ≤ 1000 ∧ ∀ (t : Addr) (H' : Hp), KT [] H H' → H' t = some (.tup (bvs (bitsL x n))) → Q (.ref t) H'
def spVal : Sp := fun vs H Q _ => ∃ (t : Addr) (bs : List Bool), vs = [.ref t] ∧ H t = some (.tup (bvs bs)) ∧ bs.length ≤ 1000 ∧ ∀ (H' : Hp), KT [] H H' → Q (.int (valB bs : Nat)) H'
theorem shl_nat (a b : Nat) : (a : Int) * 2 ^ ((b : Nat) : Int).toNat = ((a * 2 ^ b : Nat) : Int) := by
  rw [Int.toNat_natCast]
  push_cast
  rfl
theorem shr_nat (a b : Nat) : (a : Int) / 2 ^ ((b : Nat) : Int).toNat = ((a / 2 ^ b : Nat) : Int) := by
  rw [Int.toNat_natCast]
  push_cast
  rfl
theorem bit_nat (a b : Nat) : Builtin.bitAnd ((a : Int) / 2 ^ ((b : Nat) : Int).toNat) 1 = b2 (a.testBit b) := by
  rw [shr_nat, show (1 : Int) = ((1 : Nat) : Int) from rfl, bitAnd_nat, Nat.and_one_is_mod, ← Nat.toNat_testBit, b2_nat]
theorem one_shl (b : Nat) : (1 : Int) * 2 ^ ((b : Nat) : Int).toNat = ((2 ^ b : Nat) : Int) := by
  have := shl_nat 1 b
  rw [Nat.one_mul] at this
  exact this
theorem eqN {a b : Nat} : (decide (V.int (a : Int) = V.int (b : Int))) = decide (a = b) := by
  by_cases h : a = b
  · rw [h, decide_eq_true rfl, decide_eq_true rfl]
  · rw [decide_eq_false h]
    exact decide_eq_false fun z => h (by have := V.int.inj z; omega)
def GW (n : Nat) (g : Gt) : Prop := g.1 < n ∧ (∀ c ∈ g.2, c.1 < n ∧ c.1 ≠ g.1) ∧ (g.2.map (·.1)).Pairwise (· < ·) ∧ g.2.length ≤ n
theorem GW.apt {n : Nat} {g : Gt} (h : GW n g) : Apt g := fun c hc => (h.2.1 c hc).2
theorem GW.ins {n : Nat} {gs : List Gt} (h : ∀ g ∈ gs, GW n g) : In n gs := fun g hg => ⟨(h g hg).1, fun c hc => ((h g hg).2.1 c hc).1⟩
def spMap : Sp := fun vs H Q _ => ∃ (t u : Addr) (w : Nat) (gvs : List V) (gs : List Gt), vs = [.ref t] ∧ H t = some (.tup [.int w, .ref u]) ∧ H u = some (.tup gvs) ∧ P2 (GtV H) gvs gs ∧ (∀ g ∈ gs, GW w g) ∧ w ≤ 9 ∧ ∀ (D : Addr) (H' : Hp), KT [] H H' → H' D = some (.lst (ivs ((List.range (2 ^ w)).map (runN gs)))) → Q (.ref D) H'
def spGate : Sp := fun vs H Q _ => ∃ (dr : Addr) (w most : Nat), vs = [.ref dr, .int w, .int most] ∧ DrawAt H dr ∧ 1 ≤ w ∧ w ≤ 10 ∧ ∀ (v : V) (H' : Hp) (g : Gt), GS dr H H' → GtV H' v g → GW w g → Q v H'
def CircAt (H : Hp) (t : Addr) (w : Nat) (gs : List Gt) : Prop := ∃ (u : Addr) (gvs : List V), H t = some (.tup [.int w, .ref u]) ∧ H u = some (.tup gvs) ∧ P2 (GtV H) gvs gs
theorem CircAt.keep {S : List Addr} {H H' : Hp} {t : Addr} {w : Nat} {gs : List Gt} (k : KT S H H') : CircAt H t w gs → CircAt H' t w gs := fun ⟨u, gvs, h1, h2, h3⟩ => ⟨u, gvs, k.tp _ _ h1, k.tp _ _ h2, gts_keep k h3⟩
def TupG (H : Hp) (v : V) (gs : List Gt) : Prop := ∃ a vs, v = .ref a ∧ H a = some (.tup vs) ∧ P2 (GtV H) vs gs
theorem TupG.keep {S : List Addr} {H H' : Hp} {v : V} {gs : List Gt} (k : KT S H H') : TupG H v gs → TupG H' v gs := fun ⟨a, vs, h1, h2, h3⟩ => ⟨a, vs, h1, k.tp _ _ h2, gts_keep k h3⟩
theorem P2.take {α : Type} {R : V → α → Prop} : ∀ {vs : List V} {ds : List α} (n : Nat), P2 R vs ds → P2 R (vs.take n) (ds.take n)
  | _, _, _, .nil => by simp; exact .nil
  | _, _, 0, .cons h g => by simp; exact .nil
  | _, _, n + 1, .cons h g => by rw [List.take_succ_cons, List.take_succ_cons]; exact .cons h (g.take n)
def ctD (c : Ct) : PyData := .tuple [.int c.1, .int (b2 c.2)]
def gtD (g : Gt) : PyData := .tuple [.int g.1, .tuple (g.2.map ctD)]
theorem ct_dp {K : PySem.W.Frag} {H : Hp} {v : V} {c : Ct} (h : PrV H v c) : Dp K H v (ctD c) := by
  obtain ⟨t, rfl, h⟩ := h
  exact .tup (SqT.of h) (.cons (.int _) (.cons (.int _) .nil))
theorem cts_dp {K : PySem.W.Frag} {H : Hp} : ∀ {vs : List V} {cs : List Ct}, P2 (PrV H) vs cs → DpAll K H vs (cs.map ctD)
  | _, _, .nil => .nil
  | _, _, .cons h g => .cons (ct_dp h) (cts_dp g)
theorem gt_dp {K : PySem.W.Frag} {H : Hp} {v : V} {g : Gt} (h : GtV H v g) : Dp K H v (gtD g) := by
  obtain ⟨t, u, vs, rfl, h1, h2, h3⟩ := h
  exact .tup (SqT.of h1) (.cons (.int _) (.cons (.tup h2.sq (cts_dp h3)) .nil))
theorem gts_dp {K : PySem.W.Frag} {H : Hp} : ∀ {vs : List V} {gs : List Gt}, P2 (GtV H) vs gs → DpAll K H vs (gs.map gtD)
  | _, _, .nil => .nil
  | _, _, .cons h g => .cons (gt_dp h) (gts_dp g)
theorem cts_lay : ∀ cs : List Ct, PyData.canLayAll0 (cs.map ctD) = true
  | [] => rfl
  | c :: r => by
    show (PyData.canLay0 (ctD c) && PyData.canLayAll0 (r.map ctD)) = true
    rw [cts_lay r]
    rfl
theorem cts_deep : ∀ cs : List Ct, PyData.depthAll (cs.map ctD) ≤ 1
  | [] => Nat.zero_le _
  | c :: r => by
    show max (PyData.depth (ctD c)) (PyData.depthAll (r.map ctD)) ≤ 1
    have : PyData.depth (ctD c) = 1 := rfl
    have := cts_deep r
    omega
theorem gts_lay : ∀ gs : List Gt, PyData.canLayAll0 (gs.map gtD) = true
  | [] => rfl
  | g :: r => by
    show ((true && (PyData.canLayAll0 (g.2.map ctD) && true)) && PyData.canLayAll0 (r.map gtD)) = true
    rw [gts_lay r, cts_lay]
    rfl
theorem gts_deep : ∀ gs : List Gt, PyData.depthAll (gs.map gtD) ≤ 3
  | [] => Nat.zero_le _
  | g :: r => by
    show max (max 0 (max (PyData.depthAll (g.2.map ctD) + 1) 0) + 1) (PyData.depthAll (r.map gtD)) ≤ 3
    have h1 := cts_deep g.2
    have h2 := gts_deep r
    omega
theorem shaped_gts (gs : List Gt) : SeqAt.shaped (.tuple (gs.map gtD)) = true := by
  unfold SeqAt.shaped
  rw [Bool.and_eq_true]
  refine ⟨gts_lay gs, decide_eq_true ?_⟩
  show PyData.depthAll (gs.map gtD) + 1 ≤ 64
  have := gts_deep gs
  omega
theorem shaped_circ (w : Nat) (gs : List Gt) : SeqAt.shaped (.tuple [.int w, .tuple (gs.map gtD)]) = true := by
  unfold SeqAt.shaped
  rw [Bool.and_eq_true]
  refine ⟨?_, decide_eq_true ?_⟩
  · show (true && (PyData.canLayAll0 (gs.map gtD) && true)) = true
    rw [gts_lay]
    rfl
  · show max 0 (max (PyData.depthAll (gs.map gtD) + 1) 0) + 1 ≤ 64
    have := gts_deep gs
    omega
theorem shaped_nilT : SeqAt.shaped (.tuple []) = true := shaped_intsT []
def kOf (H : Hp) : V → Int × Int
  | .ref t => match H t with
    | some (.tup [.int a, .int b]) => (a, b)
    | _ => (0, 0)
  | _ => (0, 0)
theorem kOf_prv {H : Hp} {v : V} {c : Ct} (h : PrV H v c) : kOf H v = ((c.1 : Int), b2 c.2) := by
  obtain ⟨t, rfl, h⟩ := h
  show (match H t with | some (.tup [.int a, .int b]) => ((a, b) : Int × Int) | _ => (0, 0)) = _
  rw [h]
theorem srt_pw {H : Hp} : ∀ {ys : List V} {cs : List Ct}, P2 (PrV H) ys cs → SrtO.Srtd (ltP (kOf H)) ys → (cs.map (·.1)).Pairwise (· ≤ ·)
  | _, _, .nil, _ => .nil
  | v :: ys, c :: cs, .cons h g, s => by
    have s2 := List.pairwise_cons.mp s
    refine .cons (fun x hx => ?_) (srt_pw g s2.2)
    obtain ⟨d, hd, rfl⟩ := List.mem_map.mp hx
    obtain ⟨i, hi, e⟩ := List.getElem_of_mem hd
    have hi2 : i < ys.length := by rw [g.len]; exact hi
    obtain ⟨d', h1, h2⟩ := g.get (List.getElem?_eq_getElem hi2)
    have e2 : d' = d := by
      rw [List.getElem?_eq_getElem hi, e] at h1
      exact (Option.some.inj h1).symm
    subst e2
    have lt := s2.1 _ (List.getElem_mem hi2)
    have lt := SrtO.lexB_no.mp lt
    rw [kOf_prv h, kOf_prv h2] at lt
    simp only at lt
    show c.1 ≤ d'.1
    omega
theorem pw_lt {l : List Nat} (h : l.Pairwise (· ≤ ·)) (n : l.Nodup) : l.Pairwise (· < ·) := (h.and n).imp fun ⟨a, b⟩ => Nat.lt_of_le_of_ne a b
section
variable {P : Program} {w : World} {K : PySem.W.Frag} {mg : Str → Option Value} {base : Heap}
theorem ok_z_bits (T : Txt K mg) : FnOk P w K mg base CX0 1 T.f_z_bits T.d_z_bits ["number", "wires"] spBits := by
  refine T.F_z_bits.ok sc_z_bits (fun vs H Q E h => ?_) (fun cdv A outer s H vs Q E hr h => ?_)
  · obtain ⟨x, n, rfl, _⟩ := h
    rfl
  · obtain ⟨x, n, rfl, hn, q⟩ := h
    refine ⟨_, (pss_one (ps_ret (pe_callTy call_tuple_of (by rfl) T.m_tuple (by decide +kernel) (pa_cons (pe_lc (own := [("k", 2)]) (g := gName 2) (by rfl) sc_z_bits.nd (pi_range1 (by rfl) T.m_range (pa_cons (pv 1) pa_nil)) (blkOk_by (own := [("k", 2)]) (N := N_z_bits) (sc := defScope s_z_bits) (by decide +kernel)) (fun _ _ _ _ _ => (pg_name (i := 2) sc_z_bits.nd rfl (Or.inl rfl))) (fun _ _ _ _ _ => pts_nil) (fun _ _ _ _ _ => (pe_op op_and (pe_op op_shr (pv 0) (pv 2)) pe_int))) pa_nil)))), ?_⟩
    refine ⟨_, rfl, (n : Int), rfl, by omega, by omega, fun D nD => ?_⟩
    rw [Int.toNat_natCast]
    refine lc_range (fun i H1 => KT [] H H1 ∧ H1 D = some (.lst (bvs (bitsL x i)))) ?_ ?_ ?_
    · exact ⟨KT.new _ nD, upd_same⟩
    · rintro i H1 hi ⟨k, hD⟩
      rw [Int.zero_add]
      refine ⟨rfl, _, rfl, _, rfl, _, _, rfl, rfl, by omega, _, _, rfl, rfl, _, hD, ?_, k.late nD, ?_⟩
      · rw [bvs_len, bitsL_len]
        exact Nat.lt_of_le_of_lt (by omega : _ ≤ 1000) (by decide)
      · rw [upd_same, bitsL_succ]
        show some (HO.lst (_ ++ [V.int (Builtin.bitAnd ((x : Int) / 2 ^ ((i : Nat) : Int).toNat) 1)])) = _
        rw [bit_nat, bvs, bvs, List.map_append]
        rfl
    · rintro H1 ⟨k, hD⟩
      exact ⟨_, _, rfl, .inl ⟨SqL.of hD, fun t nt => q t _ (k.trans (KT.new _ nt)) upd_same⟩⟩
theorem ok_z_value (T : Txt K mg) : FnOk P w K mg base CX0 1 T.f_z_value T.d_z_value ["bits"] spVal := by
  refine T.F_z_value.ok sc_z_value (fun vs H Q E h => ?_) (fun cdv A outer s H vs Q E hr h => ?_)
  · obtain ⟨t, bs, rfl, _⟩ := h
    rfl
  · obtain ⟨t, bs, rfl, ht, hn, q⟩ := h
    refine ⟨_, (pss_one (ps_ret (pe_callB (cr_sum rfl) (by rfl) T.m_sum (by decide +kernel) (pa_cons (pe_lc (own := [("k", 1)]) (g := gName 1) (by rfl) sc_z_value.nd (pi_range1 (by rfl) T.m_range (pa_cons (pe_callB call_len_seq (by rfl) T.m_len (by decide +kernel) (pa_cons (pv 0) pa_nil)) pa_nil)) (blkOk_by (own := [("k", 1)]) (N := N_z_value) (sc := defScope s_z_value) (by decide +kernel)) (fun _ _ _ _ _ => (pg_name (i := 1) sc_z_value.nd rfl (Or.inl rfl))) (fun _ _ _ _ _ => pts_nil) (fun _ _ _ _ _ => (pe_op op_shl (pe_ix (ixT (K := K) rfl) (pv 0) (pv 1) (fun _ _ => rfl)) (pv 1)))) pa_nil)))), ?_⟩
    refine ⟨_, rfl, _, _, rfl, .inr (SqT.of ht), ((bvs bs).length : Int), rfl, by omega, by rw [bvs_len]; omega, fun D nD => ?_⟩
    have e0 : ((bvs bs).length : Int).toNat = bs.length := by rw [bvs_len]; rfl
    rw [e0]
    refine lc_range (fun i H1 => ∃ L : List Int, KT [] H H1 ∧ H1 D = some (.lst (L.map V.int)) ∧ L.length = i ∧ L.sum = (valB (bs.take i) : Nat)) ?_ ?_ ?_
    · exact ⟨[], KT.new _ nD, upd_same, rfl, rfl⟩
    · rintro i H1 hi ⟨L, k, hD, hL, hs⟩
      rw [Int.zero_add]
      refine ⟨rfl, _, rfl, _, rfl, t, _, _, _, rfl, rfl, SqT.of (k.tp _ _ ht), atI_nat (bvs_get hi), _, rfl, _, _, rfl, rfl, ⟨by omega, by omega, ?_⟩, ?_⟩
      · cases st bs i <;> decide
      · refine ⟨_, hD, ?_, L ++ [b2 (st bs i) * 2 ^ i], k.late nD, ?_, ?_, ?_⟩
        · rw [List.length_map, hL]
          exact Nat.lt_of_le_of_lt (by omega : _ ≤ 1000) (by decide)
        · rw [upd_same, List.map_append]
          rfl
        · rw [List.length_append, hL]; rfl
        · have e1 : bs.take (i + 1) = bs.take i ++ [st bs i] := by
            rw [List.take_succ, List.getElem?_eq_getElem hi]
            unfold st
            rw [List.getD_eq_getElem?_getD, List.getElem?_eq_getElem hi]
            rfl
          rw [List.sum_append, hs, e1, valB_snoc, List.length_take, Nat.min_eq_left (by omega), b2_nat]
          simp
    · rintro H1 ⟨L, k, hD, hL, hs⟩
      rw [List.take_length] at hs
      refine ⟨_, L, rfl, SqL.of hD, ?_⟩
      rw [hs]
      exact q _ k
theorem ok_z_map (T : Txt K mg) : FnOk P w K mg base CX0 2 T.f_z_map T.d_z_map ["circuit"] spMap := by
  have G_z_bits := ok_z_bits (P := P) (w := w) (base := base) T
  have G_z_turned := ok_z_turned (P := P) (w := w) (base := base) T
  have G_z_value := ok_z_value (P := P) (w := w) (base := base) T
  refine T.F_z_map.ok sc_z_map (fun vs H Q E h => ?_) (fun cdv A outer s H vs Q E hr h => ?_)
  · obtain ⟨t, u, w, gvs, gs, rfl, _⟩ := h
    rfl
  · obtain ⟨t, u, wn, gvs, gs, rfl, ht, hu, hP, hg, hw, q⟩ := h
    refine ⟨_, (pss_one (ps_ret (pe_lc (own := [("k", 1)]) (g := gName 1) (by rfl) sc_z_map.nd (pi_range1 (by rfl) T.m_range (pa_cons (pe_op op_shl pe_int (pe_ix ix_tup (pv 0) pe_int (fun _ _ => rfl))) pa_nil)) (blkOk_by (own := [("k", 1)]) (N := N_z_map) (sc := defScope s_z_map) (by decide +kernel)) (fun _ _ _ _ _ => (pg_name (i := 1) sc_z_map.nd rfl (Or.inl rfl))) (fun _ _ _ _ _ => pts_nil) (fun _ _ _ _ _ => (pe_call G_z_value (hr.mono (by omega)) (by rfl) T.g_z_value T.F_z_value.kp T.b_z_value .nil pass0 (pa_cons (pe_call G_z_turned (hr.mono (by omega)) (by rfl) T.g_z_turned T.F_z_turned.kp T.b_z_turned .nil pass0 (pa_cons (pe_ix (ixT (K := K) rfl) (pv 0) pe_int (fun _ _ => rfl)) (pa_cons (pe_call G_z_bits (hr.mono (by omega)) (by rfl) T.g_z_bits T.F_z_bits.kp T.b_z_bits .nil pass0 (pa_cons (pv 1) (pa_cons (pe_ix (ixT (K := K) rfl) (pv 0) pe_int (fun _ _ => rfl)) pa_nil))) pa_nil))) pa_nil)))))), ?_⟩
    have hw9 : 2 ^ wn ≤ 512 := Nat.le_trans (Nat.pow_le_pow_right (by decide) hw) (by decide)
    obtain ⟨N, eN⟩ : ∃ N, 2 ^ wn = N := ⟨_, rfl⟩
    refine ⟨_, rfl, t, _, _, _, rfl, rfl, SqT.of ht, rfl, _, _, rfl, rfl, ⟨by omega, by omega, by decide⟩, ((N : Nat) : Int), ?_, by omega, by omega, fun D nD => ?_⟩
    · show [V.int ((1 : Int) * 2 ^ ((wn : Nat) : Int).toNat)] = _
      rw [one_shl, eN]
    rw [Int.toNat_natCast]
    refine lc_range (fun i H1 => KT [] H H1 ∧ H1 D = some (.lst (ivs ((List.range i).map (runN gs))))) ?_ ?_ ?_
    · exact ⟨KT.new _ nD, upd_same⟩
    · rintro i H1 hi ⟨k, hD⟩
      rw [Int.zero_add]
      refine ⟨rfl, _, rfl, t, _, _, _, rfl, rfl, SqT.of (k.tp _ _ ht), rfl, _, rfl, _, rfl, t, _, _, _, rfl, rfl, SqT.of (k.tp _ _ ht), rfl, i, wn, rfl, by omega, fun b H2 k2 hb => ?_⟩
      refine ⟨u, b, gvs, gs, _, rfl, k2.tp _ _ (k.tp _ _ hu), gts_keep (k.trans k2) hP, hb, by rw [bitsL_len]; exact GW.ins hg, fun g hg' => Nat.le_trans (hg g hg').2.2.2 (by omega), fun t2 H3 k3 ht2 => ?_⟩
      refine ⟨t2, _, rfl, ht2, by rw [runL_len, bitsL_len]; omega, fun H4 k4 => ?_⟩
      have kk := (k2.trans k3).trans k4
      have hi2 : i < 2 ^ wn := by omega
      have lt : ∀ g ∈ gs, g.1 < wn := fun g hg' => (hg g hg').1
      rw [runL_bits lt hi2, valB_bits, Nat.mod_eq_of_lt (runN_lt lt hi2)]
      refine ⟨_, kk.same _ _ hD, ?_, (k.trans kk).late nD, ?_⟩
      · rw [ivs_len, List.length_map, List.length_range]
        exact Nat.lt_of_le_of_lt (by omega : _ ≤ 1000) (by decide)
      · rw [upd_same, List.range_succ, List.map_append, ivs, ivs, List.map_append]
        rfl
    · rintro H1 ⟨k, hD⟩
      rw [← eN] at hD
      exact q _ _ k hD
theorem ok_z_gate (T : Txt K mg) : FnOk P w K mg base CX0 2 T.f_z_gate T.d_z_gate ["draw", "wires", "most"] spGate := by
  have G_z_take := okG_z_take (P := P) (w := w) (base := base) T
  refine T.F_z_gate.ok sc_z_gate (fun vs H Q E h => ?_) (fun cdv A outer s H vs Q E hr h => ?_)
  · obtain ⟨dr, w, most, rfl, _⟩ := h
    rfl
  · obtain ⟨dr, n, most, rfl, hd, h1, h10, q⟩ := h
    refine ⟨_, (pss_cons (ps_set (i := 3) sc_z_gate.nd rfl (Or.inl rfl) (pe_call G_z_take (hr.mono (by omega)) (by rfl) T.g_z_take T.F_z_take.kp T.b_z_take .nil pass0 (pa_cons (pv 0) (pa_cons (pv 1) pa_nil))))
      (pss_cons (ps_set (i := 4) sc_z_gate.nd rfl (Or.inl rfl) (pe_lst pa_nil))
      (pss_cons (ps_for PassesOwn.never rfl (pi_range1 (by rfl) T.m_range (pa_cons (pv 1) pa_nil)) (pg_name (i := 5) sc_z_gate.nd rfl (Or.inl rfl))
        (pss_one (ps_if (PW.pt (pw_and (pt_cmpR op_ne (pv 5) (pv 3) (nomark _)) (pw_and (pt_cmpR op_lt (pe_callB call_len_seq (by rfl) T.m_len (by decide +kernel) (pa_cons (pv 4) pa_nil)) (pv 2) (nomark _)) (pw_and1 (pt_cmpR op_eq (pe_call G_z_take (hr.mono (by omega)) (by rfl) T.g_z_take T.F_z_take.kp T.b_z_take .nil pass0 (pa_cons (pv 0) (pa_cons pe_int pa_nil))) pe_int (nomark _))))))
          (pss_one (ps_expr (pe_bm PySem.F.plainAttrs_list PySem.F.slot_list_append PySem.F.type_list_append mt_append (pv 4) (pa_cons (pe_tup (pa_cons (pv 5) (pa_cons (pe_call G_z_take (hr.mono (by omega)) (by rfl) T.g_z_take T.F_z_take.kp T.b_z_take .nil pass0 (pa_cons (pv 0) (pa_cons pe_int pa_nil))) pa_nil))) pa_nil))))
          pss_nil)))
      (pss_one (ps_ret (pe_tup (pa_cons (pv 3) (pa_cons (pe_callTy call_tupleF (by rfl) T.m_tuple (by decide +kernel) (pa_cons (pv 4) pa_nil)) pa_nil)))))))), ?_⟩
    refine ⟨_, rfl, _, rfl, dr, (n : Int), rfl, hd, by omega, Int.le_trans (by omega : (n : Int) ≤ 10) (by decide), fun r H1 r0 r1 g1 => ?_⟩
    obtain ⟨tg, rfl⟩ := int_nat r0
    refine ⟨Nat.zero_le _, fun L nL => ?_⟩
    have nLH : H L = none := g1.k.free nL
    refine ⟨_, rfl, (n : Int), rfl, by omega, by omega, ?_⟩
    rw [Int.toNat_natCast]
    refine for_range (n := n) (fun i σ H2 => ∃ (x5 : Option V) (cvs : List V) (cs : List Ct), σ = [some (.ref dr), some (.int (n : Nat)), some (.int (most : Nat)), some (.int (tg : Nat)), some (.ref L), x5] ∧ GS dr H H2 ∧ H2 L = some (.lst cvs) ∧ P2 (PrV H2) cvs cs ∧ (∀ c ∈ cs, c.1 < i ∧ c.1 ≠ tg) ∧ (cs.map (·.1)).Pairwise (· < ·) ∧ cs.length ≤ i) ?_ ?_ ?_
    · exact ⟨none, [], [], rfl, g1.trans (.new g1.d nL), upd_same, .nil, (fun _ h => (nomatch h)), .nil, Nat.le_refl _⟩
    · rintro i σ H2 hi ⟨x5, cvs, cs, rfl, g, hL, hP, hc, up, ln⟩
      rw [Int.zero_add]
      have stay : ∃ (x5 : Option V) (cvs : List V) (cs : List Ct), [some (.ref dr), some (.int (n : Nat)), some (.int (most : Nat)), some (.int (tg : Nat)), some (.ref L), some (.int (i : Nat))] = [some (.ref dr), some (.int (n : Nat)), some (.int (most : Nat)), some (.int (tg : Nat)), some (.ref L), x5] ∧ GS dr H H2 ∧ H2 L = some (.lst cvs) ∧ P2 (PrV H2) cvs cs ∧ (∀ c ∈ cs, c.1 < i + 1 ∧ c.1 ≠ tg) ∧ (cs.map (·.1)).Pairwise (· < ·) ∧ cs.length ≤ i + 1 :=
        ⟨_, cvs, cs, rfl, g, hL, hP, fun c h => ⟨Nat.lt_succ_of_lt (hc c h).1, (hc c h).2⟩, up, Nat.le_succ_of_le ln⟩
      refine ⟨_, rfl, _, rfl, rfl, _, rfl, ?_⟩
      rw [eqN]
      by_cases e : i = tg
      · rw [decide_eq_true e]
        exact ite_f (by decide) (ite_f (by decide) stay)
      · rw [decide_eq_false e]
        refine ite_t rfl ⟨_, rfl, _, _, rfl, .inl (SqL.of hL), _, rfl, _, _, rfl, rfl, _, rfl, ite2 (fun e2 => ?_) (fun e2 => ?_)⟩
        · refine ⟨_, rfl, dr, 2, rfl, g.d, by decide, by decide, fun r H3 r0 r1 g3 => ?_⟩
          have nLd := ne_new hd nLH
          refine ⟨rfl, _, rfl, ite2 (fun e3 => ?_) (fun e3 => ?_)⟩
          · have hL3 := g3.k.kp _ _ (by simp [nLd]) hL
            refine ⟨_, rfl, .inl ⟨rfl, _, SqL.of hL3⟩, _, rfl, _, rfl, dr, 2, rfl, g3.d, by decide, by decide, fun r2 H4 s0 s1 g4 => ⟨sz2, fun t nt => ?_⟩⟩
            obtain ⟨bit, rfl⟩ : ∃ b : Bool, r2 = b2 b := by
              rcases (by omega : r2 = 0 ∨ r2 = 1) with h | h
              · exact ⟨false, h⟩
              · exact ⟨true, h⟩
            have g5 := (g3.trans g4).trans (GS.new g4.d nt (o := .tup [.int i, .int (b2 bit)]))
            have hL5 := g5.k.kp _ _ (by simp [nLd]) hL
            refine ⟨L, _, _, rfl, rfl, hL5, ?_, ?_⟩
            · rw [hP.len]
              exact Nat.lt_of_le_of_lt (by omega : _ ≤ 1000) (by decide)
            · refine ⟨_, cvs ++ [.ref t], cs ++ [(i, bit)], rfl, (g.trans g5).late hd nLH, upd_same, ?_, ?_, ?_, ?_⟩
              · exact ((prs_keep g5.k hP).snoc ⟨t, rfl, upd_same⟩).mono fun _ _ => PrV.put hL5
              · intro c hc'
                rcases List.mem_append.mp hc' with h | h
                · exact ⟨Nat.lt_succ_of_lt (hc c h).1, (hc c h).2⟩
                · rw [List.mem_singleton.mp h]
                  exact ⟨Nat.lt_succ_self _, e⟩
              · rw [List.map_append]
                refine List.pairwise_append.mpr ⟨up, List.pairwise_singleton _ _, fun x hx y hy => ?_⟩
                obtain ⟨c, hc1, rfl⟩ := List.mem_map.mp hx
                have : y = i := by simpa using hy
                rw [this]
                exact (hc c hc1).1
              · rw [List.length_append, List.length_singleton]
                omega
          · refine ⟨_, cvs, cs, rfl, g.trans g3, g3.k.kp _ _ (by simp [nLd]) hL, prs_keep g3.k hP, fun c h => ⟨Nat.lt_succ_of_lt (hc c h).1, (hc c h).2⟩, up, Nat.le_succ_of_le ln⟩
        · exact stay
    · rintro σ H2 ⟨x5, cvs, cs, rfl, g, hL, hP, hc, up, ln⟩
      refine ⟨_, rfl, _, rfl, L, _, rfl, SqL.of hL, fun u ob nu hob => ⟨sz2, fun t nt => ?_⟩⟩
      have kk := (KT.new [] nu (o := .frz ob (.tup cvs))).trans (KT.new [] nt (o := .tup [.int tg, .ref u]))
      exact q _ _ (tg, cs) (g.trans (GS.of g.d kk)) ⟨t, u, cvs, rfl, upd_same, (KT.new [] nt).fzT (.new hob), prs_keep kk hP⟩ ⟨by omega, hc, up, ln⟩
end

end My

set_option Elab.async false
set_option linter.all false
set_option maxRecDepth 100000
namespace My
open PySem PySem.Spec PyProof.Rows L2
/-! ### circuits as data -/
def isWhD (d : PyData) : Bool := isIntD d && !isBoolD d
def isPrD : PyData → Bool
  | .tuple ds => decide (ds.length = 2)
  | _ => false
def nthD (d : PyData) (i : Nat) : PyData := match d with
  | .tuple ds => ds.getD i .none
  | _ => .none
def elsD : PyData → List PyData
  | .tuple ds => ds
  | _ => []
def asI : PyData → Int
  | .int i => i
  | _ => 0
def isCtD (d : PyData) : Bool := isPrD d && (isWhD (nthD d 0) && isIr 0 1 (nthD d 1))
def fstI (d : PyData) : Int := asI (nthD d 0)
def namesD (d : PyData) : List Int := (elsD (nthD d 1)).map fstI
def ascI (ns : List Int) : Bool := (List.zip ns (ns.drop 1)).all fun p => decide (p.1 < p.2)
def isGtD (d : PyData) : Bool := isPrD d && (isWhD (nthD d 0) && (isTupD (nthD d 1) && ((elsD (nthD d 1)).all isCtD && (ascI (namesD d) && !decide (fstI d ∈ namesD d)))))
def wiresD (d : PyData) : List Int := fstI d :: namesD d
def gfD (n : Int) (d : PyData) : Option Str := if isGtD d = true then (if ((wiresD d).all fun x => decide (0 ≤ x) && decide (x < n)) = true then none else some "wire") else some "gate"
def isCntD (d : PyData) : Bool := isWhD d && decide (0 ≤ asI d)
def fl (n : Int) (gs : List PyData) : Nat → List (Int × Str)
  | 0 => []
  | i + 1 => fl n gs i ++ (match gfD n (gs.getD i .none) with | none => [] | some c => [((i : Int), c)])
def okCD (d : PyData) : Bool := isPrD d && (isCntD (nthD d 0) && isTupD (nthD d 1))
def cfD (d : PyData) : List (Int × Str) := if okCD d = true then fl (fstI d) (elsD (nthD d 1)) (elsD (nthD d 1)).length else [(-1, "form")]
/-- no more than a thousand -/
def SmD (d : PyData) : Prop := (elsD (nthD d 1)).length ≤ 1000
section
variable {K : PySem.W.Frag} {H : Hp} {v : V} {d : PyData}
theorem wh_inv (h : Rp K H v d) (e : isWhD d = true) : ∃ i, d = .int i ∧ v = .int i := by
  cases d with
  | int i => exact ⟨i, rfl, h.iInv⟩
  | none => cases e
  | bool b => cases e
  | str b => cases e
  | list b => cases e
  | dict b => cases e
  | tuple b => cases e
theorem tup_inv (h : Rp K H v d) (e : isTupD d = true) : ∃ a xs, v = .ref a ∧ d = .tuple (elsD d) ∧ SqT K H a xs ∧ RpA K H xs (elsD d) := by
  cases d with
  | tuple ds =>
    obtain ⟨a, xs, h1, h2, h3⟩ := h.inv
    exact ⟨a, xs, h1, rfl, h2, h3⟩
  | none => cases e
  | bool b => cases e
  | str b => cases e
  | list b => cases e
  | dict b => cases e
  | int b => cases e
theorem pr_inv (h : Rp K H v d) (e : isPrD d = true) : ∃ a x y, v = .ref a ∧ d = .tuple [nthD d 0, nthD d 1] ∧ SqT K H a [x, y] ∧ Rp K H x (nthD d 0) ∧ Rp K H y (nthD d 1) := by
  cases d with
  | tuple ds =>
    obtain ⟨a, xs, h1, h2, h3⟩ := h.inv
    have l : ds.length = 2 := of_decide_eq_true e
    match ds, l, h3 with
    | [d0, d1], _, h3 =>
      obtain ⟨x, r, rfl, hx, h4⟩ := h3.inv
      obtain ⟨y, r, rfl, hy, h5⟩ := h4.inv
      have := h5.inv0
      subst this
      exact ⟨a, x, y, h1, rfl, h2, hx, hy⟩
  | none => cases e
  | bool b => cases e
  | str b => cases e
  | list b => cases e
  | dict b => cases e
  | int b => cases e
theorem RpA.at {ds : List PyData} {vs : List V} {i : Nat} {x : V} (h : RpA K H vs ds) (e : vs[i]? = some x) : i < ds.length ∧ ds[i]? = some (ds.getD i .none) ∧ Rp K H x (ds.getD i .none) := by
  obtain ⟨d, h1, h2⟩ := h.get e
  have e2 : ds.getD i .none = d := by rw [List.getD_eq_getElem?_getD, h1]; rfl
  rw [e2]
  exact ⟨(List.getElem?_eq_some_iff.mp h1).1, h1, h2⟩
end
theorem int_get {ns : List Int} {i : Nat} {x : V} (h : (ns.map V.int)[i]? = some x) : ∃ n, ns[i]? = some n ∧ x = .int n := by
  rw [List.getElem?_map] at h
  cases e : ns[i]? with
  | none => rw [e] at h; cases h
  | some n => rw [e] at h; exact ⟨n, rfl, (Option.some.inj h).symm⟩
theorem inV_int (x : Int) : ∀ xs : List Int, inV (V.int x) (xs.map V.int) = decide (x ∈ xs)
  | [] => by simp [inV]
  | y :: r => by
    have ih := inV_int x r
    have e : inV (V.int x) ((y :: r).map V.int) = (eqV (V.int y) (V.int x) || inV (V.int x) (r.map V.int)) := rfl
    rw [e, ih]
    have e2 : eqV (V.int y) (V.int x) = decide (y = x) := by
      show (y == x) = _
      rw [Bool.eq_iff_iff, beq_iff_eq, decide_eq_true_iff]
    rw [e2]
    by_cases h : y = x
    · simp [h]
    · by_cases h2 : x ∈ r
      · simp [h2]
      · have h3 : ¬ x = y := fun z => h z.symm
        simp [h, h2, h3]
theorem ints_flat (ns : List Int) : (ns.map V.int).all flatV = true := List.all_eq_true.mpr fun x hx => by
  obtain ⟨n, _, rfl⟩ := List.mem_map.mp hx
  rfl
theorem all_map {α : Type} (f : α → Bool) (xs : List α) : (xs.map f).all _root_.id = xs.all f := by
  rw [List.all_map]
  rfl
theorem small_int {n : Nat} (h : n ≤ 1000) : n < sizeLine := Nat.lt_of_le_of_lt h (by decide)
def spPrD (K : PySem.W.Frag) : Sp := fun vs H Q _ => ∃ (v : V) (d : PyData), vs = [v] ∧ Rp K H v d ∧ Q (.bl (isPrD d)) H
def spItD (K : PySem.W.Frag) : Sp := fun vs H Q _ => ∃ (v u : V) (lo : Int) (d : PyData), vs = [v, .int lo, u] ∧ Rp K H v d ∧ (isWhD d = false → Q (.bl false) H) ∧ ∀ i, d = .int i → ∃ hi, u = .int hi ∧ Q (.bl (decide (lo ≤ i) && decide (i ≤ hi))) H
def spCnD (K : PySem.W.Frag) : Sp := fun vs H Q _ => ∃ (v : V) (d : PyData), vs = [v] ∧ Rp K H v d ∧ Q (.bl (isCntD d)) H
def spCtD (K : PySem.W.Frag) : Sp := fun vs H Q _ => ∃ (v : V) (d : PyData), vs = [v] ∧ Rp K H v d ∧ Q (.bl (isCtD d)) H
def spGtD (K : PySem.W.Frag) : Sp := fun vs H Q _ => ∃ (v : V) (d : PyData), vs = [v] ∧ Rp K H v d ∧ SmD d ∧ ∀ H', KT [] H H' → Q (.bl (isGtD d)) H'
def spWoD (K : PySem.W.Frag) : Sp := fun vs H Q _ => ∃ (v : V) (d : PyData), vs = [v] ∧ Rp K H v d ∧ SmD d ∧ isGtD d = true ∧ ∀ (l : Addr) (H' : Hp), KT [] H H' → H' l = some (.lst ((wiresD d).map V.int)) → Q (.ref l) H'
def optS : Option Str → V
  | none => .non
  | some c => .str c
def spGfD (K : PySem.W.Frag) : Sp := fun vs H Q _ => ∃ (n : Int) (v : V) (d : PyData), vs = [.int n, v] ∧ Rp K H v d ∧ SmD d ∧ ∀ H', KT [] H H' → Q (optS (gfD n d)) H'
def FtV (H : Hp) (v : V) (p : Int × Str) : Prop := ∃ t, v = .ref t ∧ H t = some (.tup [.int p.1, .str p.2])
def FaV (H : Hp) (v : V) (p : Nat × Option Str) : Prop := ∃ t, v = .ref t ∧ H t = some (.tup [.int p.1, optS p.2])
theorem FtV.keep {S : List Addr} {H H' : Hp} (k : KT S H H') {v : V} {p : Int × Str} : FtV H v p → FtV H' v p := fun ⟨t, h1, h2⟩ => ⟨t, h1, k.tp _ _ h2⟩
theorem FaV.keep {S : List Addr} {H H' : Hp} (k : KT S H H') {v : V} {p : Nat × Option Str} : FaV H v p → FaV H' v p := fun ⟨t, h1, h2⟩ => ⟨t, h1, k.tp _ _ h2⟩
theorem FtV.put {H : Hp} {D : Addr} {xs ys : List V} (hD : H D = some (.lst xs)) {v : V} {p : Int × Str} : FtV H v p → FtV (upd H D (.lst ys)) v p := fun ⟨t, h1, h2⟩ => ⟨t, h1, by
  rw [upd_ne]
  · exact h2
  · intro z
    rw [z, hD] at h2
    cases h2⟩
theorem FaV.put {H : Hp} {D : Addr} {xs ys : List V} (hD : H D = some (.lst xs)) {v : V} {p : Nat × Option Str} : FaV H v p → FaV (upd H D (.lst ys)) v p := fun ⟨t, h1, h2⟩ => ⟨t, h1, by
  rw [upd_ne]
  · exact h2
  · intro z
    rw [z, hD] at h2
    cases h2⟩
/-- the faults of a value of any kind -/
def spCfD (K : PySem.W.Frag) : Sp := fun vs H Q _ => ∃ (v : V) (d : PyData), vs = [v] ∧ Rp K H v d ∧ SmD d ∧ (∀ g ∈ elsD (nthD d 1), SmD g) ∧ ∀ (l : Addr) (us : List V) (H' : Hp), KT [] H H' → H' l = some (.lst us) → P2 (FtV H') us (cfD d) → Q (.ref l) H'
section
variable {P : Program} {w : World} {K : PySem.W.Frag} {mg : Str → Option Value} {base : Heap}
theorem ok_isPairD (T : Txt K mg) : FnOk P w K mg base CX0 1 T.f_is_pair T.d_is_pair ["value"] (spPrD K) := by
  refine T.F_is_pair.ok sc_is_pair (fun vs H Q E h => ?_) (fun cdv A outer s H vs Q E hr h => ?_)
  · obtain ⟨v, d, rfl, _⟩ := h
    rfl
  · obtain ⟨v, d, rfl, hv, q⟩ := h
    refine ⟨_, (pss_one (ps_ret (pe_and (pe_callB call_isi (by rfl) T.m_isinstance (by decide +kernel) (pa_cons (pv 0) (pa_cons (pe_bltn (v := .ty "tuple") (by rfl) T.m_tuple (by decide +kernel) rfl) pa_nil))) (pe_one (pe_cmpR op_eq (pe_callB call_len_seq (by rfl) T.m_len (by decide +kernel) (pa_cons (pv 0) pa_nil)) pe_int (nomark _)))))), ?_⟩
    obtain ⟨t1, y1, k1⟩ := isi_tup hv
    refine ⟨_, rfl, _, _, _, _, _, rfl, .ty "tuple", y1, k1, _, rfl, ?_⟩
    cases d with
    | none => exact ite_f (fun z => by cases z) q
    | str b => exact ite_f (fun z => by cases z) q
    | list ds => cases hv
    | dict ds => cases hv
    | bool b => exact ite_f (fun z => by cases z) q
    | int b => exact ite_f (fun z => by cases z) q
    | tuple ds =>
      obtain ⟨a, xs, rfl, hs, hr⟩ := hv.inv
      refine ite_t rfl ⟨_, rfl, _, _, rfl, .inr hs, rfl, ?_⟩
      have e : decide (V.int (xs.length : Int) = V.int 2) = isPrD (.tuple ds) := by
        show _ = decide (ds.length = 2)
        rw [hr.length]
        by_cases h : ds.length = 2
        · rw [h]; rfl
        · rw [decide_eq_false h, decide_eq_false]
          intro z
          have := V.int.inj z
          omega
      show Q (.bl (decide (V.int (xs.length : Int) = V.int 2))) H
      rw [e]
      exact q
theorem ok_isIntD (T : Txt K mg) : FnOk P w K mg base CX0 2 T.f_is_integer T.d_is_integer ["value", "low", "high"] (spItD K) := by
  have G_is_whole := ok_is_whole (P := P) (w := w) (base := base) T
  refine T.F_is_integer.ok sc_is_integer (fun vs H Q E h => ?_) (fun cdv A outer s H vs Q E hr h => ?_)
  · obtain ⟨v, u, lo, d, rfl, _⟩ := h
    rfl
  · obtain ⟨v, u, lo, d, rfl, hv, q0, q⟩ := h
    refine ⟨_, (pss_one (ps_ret (pe_and (pe_call G_is_whole (hr.mono (by omega)) (by rfl) T.g_is_whole T.F_is_whole.kp T.b_is_whole .nil pass0 (pa_cons (pv 0) pa_nil)) (pe_one (pe_chain op_le op_le (pv 1) (pv 0) (pv 2)))))), ?_⟩
    refine ⟨_, rfl, v, d, rfl, hv, _, rfl, ?_⟩
    cases e : isWhD d with
    | false => exact ite_f (by rw [show (isIntD d && !isBoolD d) = false from e]; decide) (q0 e)
    | true =>
      obtain ⟨b, rfl, rfl⟩ := wh_inv hv e
      obtain ⟨hi, rfl, q1⟩ := q b rfl
      refine ite_t rfl ?_
      refine ⟨_, rfl, _, rfl, _, _, rfl, rfl, _, rfl, ?_⟩
      have q : Q (.bl (decide (lo ≤ b) && decide (b ≤ hi))) H := q1
      by_cases h : lo ≤ b
      · rw [decide_eq_true h, Bool.true_and] at q
        exact ite_t (decide_eq_true h) ⟨_, rfl, _, _, rfl, rfl, q⟩
      · rw [decide_eq_false h, Bool.false_and] at q
        exact ite_f (by rw [decide_eq_false h]; decide) q
theorem ok_isCntD (T : Txt K mg) : FnOk P w K mg base CX0 3 T.f_is_count T.d_is_count ["value"] (spCnD K) := by
  have G_is_integer := ok_isIntD (P := P) (w := w) (base := base) T
  refine T.F_is_count.ok sc_is_count (fun vs H Q E h => ?_) (fun cdv A outer s H vs Q E hr h => ?_)
  · obtain ⟨i, d, rfl, _⟩ := h
    rfl
  · obtain ⟨v, d, rfl, hv, q⟩ := h
    refine ⟨_, (pss_one (ps_ret (pe_call G_is_integer (hr.mono (by omega)) (by rfl) T.g_is_integer T.F_is_integer.kp T.b_is_integer .nil pass0 (pa_cons (pv 0) (pa_cons pe_int (pa_cons (pv 0) pa_nil)))))), ?_⟩
    refine ⟨_, rfl, _, rfl, v, v, 0, d, rfl, hv, fun e => ?_, fun i e => ?_⟩
    · have : isCntD d = false := by unfold isCntD; rw [e]; rfl
      rw [this] at q
      exact q
    · subst e
      obtain rfl := hv.iInv
      refine ⟨i, rfl, ?_⟩
      have : isCntD (.int i) = (decide (0 ≤ i) && decide (i ≤ i)) := by
        show (true && decide (0 ≤ i)) = _
        rw [decide_eq_true (Int.le_refl i), Bool.and_true, Bool.true_and]
      rw [this] at q
      exact q
theorem ok_isCtD (T : Txt K mg) : FnOk P w K mg base CX0 3 T.f_is_control T.d_is_control ["value"] (spCtD K) := by
  have G_is_integer := ok_is_integer (P := P) (w := w) (base := base) T
  have G_is_pair := ok_isPairD (P := P) (w := w) (base := base) T
  have G_is_whole := ok_is_whole (P := P) (w := w) (base := base) T
  refine T.F_is_control.ok sc_is_control (fun vs H Q E h => ?_) (fun cdv A outer s H vs Q E hr h => ?_)
  · obtain ⟨v, d, rfl, _⟩ := h
    rfl
  · obtain ⟨v, d, rfl, hv, q⟩ := h
    refine ⟨_, (pss_one (ps_ret (pe_and (pe_call G_is_pair (hr.mono (by omega)) (by rfl) T.g_is_pair T.F_is_pair.kp T.b_is_pair .nil pass0 (pa_cons (pv 0) pa_nil)) (pe_and (pe_call G_is_whole (hr.mono (by omega)) (by rfl) T.g_is_whole T.F_is_whole.kp T.b_is_whole .nil pass0 (pa_cons (pe_ix ix_tup (pv 0) pe_int (fun _ _ => rfl)) pa_nil)) (pe_one (pe_call G_is_integer (hr.mono (by omega)) (by rfl) T.g_is_integer T.F_is_integer.kp T.b_is_integer .nil pass0 (pa_cons (pe_ix ix_tup (pv 0) pe_int (fun _ _ => rfl)) (pa_cons pe_int (pa_cons pe_int pa_nil))))))))), ?_⟩
    refine ⟨_, rfl, v, d, rfl, hv, _, rfl, ?_⟩
    cases e1 : isPrD d with
    | false =>
      have : isCtD d = false := by unfold isCtD; rw [e1]; rfl
      rw [this] at q
      exact ite_f (by decide) q
    | true =>
      obtain ⟨a, x, y, rfl, e2, hs, h0, h1⟩ := pr_inv hv e1
      refine ite_t rfl ?_
      refine ⟨_, rfl, _, _, _, _, rfl, rfl, hs, rfl, _, _, rfl, h0, _, rfl, ?_⟩
      cases e3 : isWhD (nthD d 0) with
      | false =>
        have : isCtD d = false := by unfold isCtD; rw [e1, e3]; rfl
        rw [this] at q
        have e3 : (isIntD (nthD d 0) && !isBoolD (nthD d 0)) = false := e3
        rw [e3]
        exact ite_f (by decide) q
      | true =>
        have : isCtD d = isIr 0 1 (nthD d 1) := by unfold isCtD; rw [e1, e3]; rfl
        rw [this] at q
        have e3 : (isIntD (nthD d 0) && !isBoolD (nthD d 0)) = true := e3
        rw [e3]
        exact ite_t rfl ⟨_, rfl, _, _, _, _, rfl, rfl, hs, rfl, _, _, _, _, rfl, h1, q⟩
end

section
variable {P : Program} {w : World} {K : PySem.W.Frag} {mg : Str → Option Value} {base : Heap}
theorem getD_mem {α : Type} {l : List α} {i : Nat} {d : α} (h : i < l.length) : l.getD i d ∈ l := by
  rw [List.getD_eq_getElem?_getD, List.getElem?_eq_getElem h]
  exact List.getElem_mem h
theorem take_get {α : Type} {l : List α} {i : Nat} {d : α} (h : i < l.length) : l.take (i + 1) = l.take i ++ [l.getD i d] := by
  rw [List.take_succ, List.getD_eq_getElem?_getD, List.getElem?_eq_getElem h]
  rfl
/-- a control in the heap: the pair of its names -/
theorem ctl_at {H : Hp} {vs : List V} {cs : List PyData} {i : Nat} {x : V} (h : RpA K H vs cs) (hc : cs.all isCtD = true) (e : vs[i]? = some x) : i < cs.length ∧ ∃ (t : Addr) (y : V), x = .ref t ∧ SqT K H t [.int (fstI (cs.getD i .none)), y] := by
  obtain ⟨hi, _, hr⟩ := h.at e
  have hm : isCtD (cs.getD i .none) = true := List.all_eq_true.mp hc _ (getD_mem hi)
  unfold isCtD at hm
  obtain ⟨h1, h2⟩ := (Bool.and_eq_true _ _).mp hm
  obtain ⟨h2, h3⟩ := (Bool.and_eq_true _ _).mp h2
  obtain ⟨a, x0, y0, rfl, _, hs, r0, _⟩ := pr_inv hr h1
  obtain ⟨n, e1, rfl⟩ := wh_inv r0 h2
  refine ⟨hi, a, y0, rfl, ?_⟩
  have : fstI (cs.getD i .none) = n := by unfold fstI; rw [e1]; rfl
  rw [this]
  exact hs
theorem ok_wiresD (T : Txt K mg) : FnOk P w K mg base CX0 1 T.f_wires_of T.d_wires_of ["gate"] (spWoD K) := by
  refine T.F_wires_of.ok sc_wires_of (fun vs H Q E h => ?_) (fun cdv A outer s H vs Q E hr h => ?_)
  · obtain ⟨v, g, rfl, _⟩ := h
    rfl
  · obtain ⟨v, g, rfl, hv, hl, hg, q⟩ := h
    refine ⟨_, (pss_cons (ps_asg (pv 0) (pg_tup (by rfl) (pgs_cons (pg_name (i := 1) sc_wires_of.nd rfl (Or.inl rfl)) (pgs_cons (pg_name (i := 2) sc_wires_of.nd rfl (Or.inl rfl)) pgs_nil))))
      (pss_one (ps_ret (pe_op op_cat (pe_lst (pa_cons (pv 1) pa_nil)) (pe_lc (own := [("wire", 3), ("_", 4)]) (g := gTup K 2 (gCons (gName 3) (gCons (gName 4) gNil))) (by rfl) sc_wires_of.nd (pi_tup (pv 2)) (blkOk_by (own := [("wire", 3), ("_", 4)]) (N := N_wires_of) (sc := defScope s_wires_of) (by decide +kernel)) (fun _ _ _ _ _ => (pg_tup (by rfl) (pgs_cons (pg_name (i := 3) sc_wires_of.nd rfl (Or.inl rfl)) (pgs_cons (pg_name (i := 4) sc_wires_of.nd rfl (Or.inl rfl)) pgs_nil)))) (fun _ _ _ _ _ => pts_nil) (fun _ _ _ _ _ => (pv 3))))))), ?_⟩
    unfold isGtD at hg
    obtain ⟨g1, hg⟩ := (Bool.and_eq_true _ _).mp hg
    obtain ⟨g2, hg⟩ := (Bool.and_eq_true _ _).mp hg
    obtain ⟨g3, hg⟩ := (Bool.and_eq_true _ _).mp hg
    obtain ⟨g4, _⟩ := (Bool.and_eq_true _ _).mp hg
    obtain ⟨t, x, y, rfl, _, ht, r0, r1⟩ := pr_inv hv g1
    obtain ⟨n, e1, rfl⟩ := wh_inv r0 g2
    obtain ⟨u, vs, rfl, _, hu, hc⟩ := tup_inv r1 g3
    have e2 : fstI g = n := by unfold fstI; rw [e1]; rfl
    have lc := hc.length
    refine ⟨_, rfl, t, _, rfl, ht, rfl, _, _, rfl, _, _, rfl, rfl, ?_⟩
    refine ⟨_, rfl, sz1, fun l nl => ⟨_, rfl, u, rfl, ⟨_, (KT.new [] nl).sqT hu⟩, fun D nD => ?_⟩⟩
    have k0 : KT [] H (upd H l (.lst [.int n])) := KT.new _ nl
    refine lc_it (walk_tup (K := K) (a := u) (xs := vs)) (fun i H1 => KT [] (upd H l (.lst [.int n])) H1 ∧ H1 D = some (.lst ((((elsD (nthD g 1)).take i).map fstI).map V.int))) ?_ ?_ ?_ ?_
    · exact ⟨KT.new _ nD, upd_same⟩
    · rintro i H1 _ ⟨k, _⟩
      exact k.sqT (k0.sqT hu)
    · rintro i x H1 H2 hi ⟨k, hD⟩ ⟨rfl, hx⟩
      obtain ⟨hi2, t2, y2, rfl, hs⟩ := ctl_at (hc.keep (k0.trans k)) g4 hx
      refine ⟨t2, _, rfl, hs, rfl, _, _, rfl, _, _, rfl, rfl, by rfl, ?_⟩
      refine ⟨_, rfl, _, hD, ?_, k.late nD, ?_⟩
      · rw [List.length_map, List.length_map, List.length_take]
        have : (elsD (nthD g 1)).length ≤ 1000 := hl
        exact small_int (by omega)
      · rw [upd_same, take_get hi2, List.map_append, List.map_append]
        rfl
    · rintro H1 ⟨k, hD⟩
      rw [lc, List.take_length] at hD
      refine ⟨_, _, _, _, rfl, rfl, k.kp _ _ (by simp) upd_same, hD, ?_, fun p np => q _ _ ((k0.trans k).trans (KT.new _ np)) ?_⟩
      · rw [List.length_map, List.length_map, List.length_singleton]
        have : (elsD (nthD g 1)).length ≤ 1000 := hl
        exact Nat.le_trans (by omega : _ ≤ 1001) (by decide)
      · rw [upd_same]
        show _ = some (HO.lst (V.int (fstI g) :: _))
        rw [e2]
        rfl
theorem ok_isGtD (T : Txt K mg) : FnOk P w K mg base CX0 4 T.f_is_gate T.d_is_gate ["value"] (spGtD K) := by
  have G_is_pair := ok_isPairD (P := P) (w := w) (base := base) T
  have G_is_whole := ok_is_whole (P := P) (w := w) (base := base) T
  have G_is_control := ok_isCtD (P := P) (w := w) (base := base) T
  refine T.F_is_gate.ok sc_is_gate (fun vs H Q E h => ?_) (fun cdv A outer s H vs Q E hr h => ?_)
  · obtain ⟨v, g, rfl, _⟩ := h
    rfl
  · obtain ⟨v, g, rfl, hv, hl, q⟩ := h
    have hl : (elsD (nthD g 1)).length ≤ 1000 := hl
    refine ⟨_, (pss_cons (ps_if (PW.pt (pw_or (pt_not (pt_val (pe_call G_is_pair (hr.mono (by omega)) (by rfl) T.g_is_pair T.F_is_pair.kp T.b_is_pair .nil pass0 (pa_cons (pv 0) pa_nil)))) (pw_or (pt_not (pt_val (pe_call G_is_whole (hr.mono (by omega)) (by rfl) T.g_is_whole T.F_is_whole.kp T.b_is_whole .nil pass0 (pa_cons (pe_ix ix_tup (pv 0) pe_int (fun _ _ => rfl)) pa_nil)))) (pw_or1 (pt_not (pt_val (pe_callB call_isi (by rfl) T.m_isinstance (by decide +kernel) (pa_cons (pe_ix ix_tup (pv 0) pe_int (fun _ _ => rfl)) (pa_cons (pe_bltn (v := .ty "tuple") (by rfl) T.m_tuple (by decide +kernel) rfl) pa_nil)))))))))
        (pss_one (ps_ret pe_bl))
        pss_nil)
      (pss_cons (ps_if (pt_not (pt_val (pe_callB (cr_all rfl) (by rfl) T.m_all (by decide +kernel) (pa_cons (pe_lc (own := [("item", 7)]) (g := gName 7) (by rfl) sc_is_gate.nd (pi_tup (pe_ix ix_tup (pv 0) pe_int (fun _ _ => rfl))) (blkOk_by (own := [("item", 7)]) (N := N_is_gate) (sc := defScope s_is_gate) (by decide +kernel)) (fun _ _ _ _ _ => (pg_name (i := 7) sc_is_gate.nd rfl (Or.inl rfl))) (fun _ _ _ _ _ => pts_nil) (fun _ _ _ _ _ => (pe_call G_is_control (hr.mono (by omega)) (by rfl) T.g_is_control T.F_is_control.kp T.b_is_control .nil pass0 (pa_cons (pv 7) pa_nil)))) pa_nil))))
        (pss_one (ps_ret pe_bl))
        pss_nil)
      (pss_cons (ps_setLc (i := 1) (own := [("wire", 3), ("_", 4)]) (g := gTup K 2 (gCons (gName 3) (gCons (gName 4) gNil))) rfl sc_is_gate.nd rfl rfl (sw_true rfl rfl rfl (by decide +kernel)) (pi_tup (pe_ix ix_tup (pv 0) pe_int (fun _ _ => rfl))) (blkOk_by (own := [("wire", 3), ("_", 4)]) (N := N_is_gate) (sc := defScope s_is_gate) (by decide +kernel)) (fun _ _ _ _ _ => (pg_tup (by rfl) (pgs_cons (pg_name (i := 3) sc_is_gate.nd rfl (Or.inl rfl)) (pgs_cons (pg_name (i := 4) sc_is_gate.nd rfl (Or.inl rfl)) pgs_nil)))) (fun _ _ _ _ _ => pts_nil) (fun _ _ _ _ _ => (pv 3)))
      (pss_cons (ps_set (i := 2) sc_is_gate.nd rfl (Or.inl rfl) (pe_callB (cr_all rfl) (by rfl) T.m_all (by decide +kernel) (pa_cons (pe_lc (own := [("before", 5), ("behind", 6)]) (g := gTup K 2 (gCons (gName 5) (gCons (gName 6) gNil))) (by rfl) sc_is_gate.nd (RZ.pi_zipA (by rfl) T.m_zip (pa_cons (pv 1) (pa_cons (pe_slice sl_list (pv 1) (po_some pe_int) po_none) pa_nil))) (blkOk_by (own := [("before", 5), ("behind", 6)]) (N := N_is_gate) (sc := defScope s_is_gate) (by decide +kernel)) (fun _ _ _ _ _ => (pg_tup (by rfl) (pgs_cons (pg_name (i := 5) sc_is_gate.nd rfl (Or.inl rfl)) (pgs_cons (pg_name (i := 6) sc_is_gate.nd rfl (Or.inl rfl)) pgs_nil)))) (fun _ _ _ _ _ => pts_nil) (fun _ _ _ _ _ => (pe_cmpR op_lt (pv 5) (pv 6) (nomark _)))) pa_nil)))
      (pss_one (ps_ret (pe_and (pv 2) (pe_one (pe_cmpR op_notIn_seq (pe_ix ix_tup (pv 0) pe_int (fun _ _ => rfl)) (pv 1) (by rfl)))))))))), ?_⟩
    unfold isGtD at q
    refine ⟨_, rfl, v, g, rfl, hv, _, rfl, ?_⟩
    cases g1 : isPrD g with
    | false =>
      rw [g1] at q
      exact ite_t rfl (q _ (.refl _ _))
    | true =>
    rw [g1] at q
    obtain ⟨t, x, y, rfl, _, ht, r0, r1⟩ := pr_inv hv g1
    refine ite_f (by decide) ⟨_, rfl, _, _, _, _, rfl, rfl, ht, rfl, _, _, rfl, r0, _, rfl, ?_⟩
    cases g2 : isWhD (nthD g 0) with
    | false =>
      rw [g2] at q
      have g2 : (isIntD (nthD g 0) && !isBoolD (nthD g 0)) = false := g2
      rw [g2]
      exact ite_t rfl (q _ (.refl _ _))
    | true =>
    rw [g2] at q
    have g2' : (isIntD (nthD g 0) && !isBoolD (nthD g 0)) = true := g2
    rw [g2']
    obtain ⟨t1, y1, k1⟩ := isi_tup r1
    refine ite_f (by decide) ⟨_, rfl, _, _, _, _, rfl, rfl, ht, rfl, _, _, _, _, _, rfl, .ty "tuple", y1, k1, _, rfl, ?_⟩
    cases g3 : isTupD (nthD g 1) with
    | false =>
      rw [g3] at q
      exact ite_t rfl (q _ (.refl _ _))
    | true =>
    rw [g3] at q
    obtain ⟨n, e1, rfl⟩ := wh_inv r0 g2
    obtain ⟨u, vs, rfl, _, hu, hc⟩ := tup_inv r1 g3
    have e2 : fstI g = n := by unfold fstI; rw [e1]; rfl
    have lc := hc.length
    refine ite_f (by decide) ?_
    -- all([is_control(item) for item in value[1]])
    refine ⟨_, rfl, _, _, _, _, rfl, rfl, ht, rfl, u, rfl, ⟨_, hu⟩, fun D nD => ?_⟩
    refine lc_it (walk_tup (K := K) (a := u) (xs := vs)) (fun i H1 => KT [] H H1 ∧ H1 D = some (.lst ((((elsD (nthD g 1)).take i).map isCtD).map V.bl))) ?_ ?_ ?_ ?_
    · exact ⟨KT.new _ nD, upd_same⟩
    · rintro i H1 _ ⟨k, _⟩
      exact k.sqT hu
    · rintro i x H1 H2 hi ⟨k, hD⟩ ⟨rfl, hx⟩
      obtain ⟨hi2, _, hr2⟩ := (hc.keep k).at hx
      refine ⟨rfl, ⟨_, rfl, _, _, rfl, hr2, _, hD, ?_, k.late nD, ?_⟩⟩
      · rw [List.length_map, List.length_map, List.length_take]
        exact small_int (by omega)
      · rw [upd_same, take_get hi2, List.map_append, List.map_append]
        rfl
    · rintro H1 ⟨k, hD⟩
      rw [lc, List.take_length] at hD
      refine ⟨_, _, rfl, SqL.of hD, ?_⟩
      rw [all_map]
      cases g4 : (elsD (nthD g 1)).all isCtD with
      | false =>
        rw [g4] at q
        exact ⟨_, rfl, ite_t rfl (q _ k)⟩
      | true =>
      rw [g4] at q
      refine ⟨true, rfl, ite_f (by decide) ?_⟩
      -- named
      refine ⟨_, rfl, _, _, _, _, rfl, rfl, k.sqT ht, rfl, u, rfl, ⟨_, k.sqT hu⟩, fun L nL => ?_⟩
      refine lc_it (walk_tup (K := K) (a := u) (xs := vs)) (fun i H2 => KT [] H1 H2 ∧ H2 L = some (.lst ((((elsD (nthD g 1)).take i).map fstI).map V.int))) ?_ ?_ ?_ ?_
      · exact ⟨KT.new _ nL, upd_same⟩
      · rintro i H2 _ ⟨k2, _⟩
        exact k2.sqT (k.sqT hu)
      · rintro i x H2 H3 hi ⟨k2, hD⟩ ⟨rfl, hx⟩
        obtain ⟨hi2, t2, y2, rfl, hs⟩ := ctl_at (hc.keep (k.trans k2)) g4 hx
        refine ⟨t2, _, rfl, hs, rfl, _, _, rfl, _, _, rfl, rfl, by rfl, ?_⟩
        refine ⟨_, rfl, _, hD, ?_, k2.late nL, ?_⟩
        · rw [List.length_map, List.length_map, List.length_take]
          exact small_int (by omega)
        · rw [upd_same, take_get hi2, List.map_append, List.map_append]
          rfl
      · rintro H2 ⟨k2, hD⟩
        rw [lc, List.take_length] at hD
        obtain ⟨ns, en⟩ : ∃ ns, namesD g = ns := ⟨_, rfl⟩
        have hD : H2 L = some (.lst (ns.map V.int)) := by rw [← en]; exact hD
        have lns : ns.length ≤ 1000 := by rw [← en]; unfold namesD; rw [List.length_map]; exact hl
        rw [en] at q
        refine ⟨_, rfl, _, rfl, 1, rfl, L, _, rfl, SqL.of hD, fun p np => ⟨L, p, _, _, rfl, .inl ⟨SqL.of (by rw [upd_ne (ne_of_none hD np)]; exact hD), SqL.of upd_same, fun M nM => ?_⟩⟩⟩
        have eS : cutV (ns.map V.int) (some 1) none = (ns.drop 1).map V.int := by
          rw [cutV_nat1, List.map_drop]
        rw [eS] at nM ⊢
        have kp : KT [] H2 (upd H2 p (.lst ((ns.drop 1).map V.int))) := KT.new _ np
        have hD1 := kp.kp _ _ (by simp) hD
        have hS1 : (upd H2 p (.lst ((ns.drop 1).map V.int))) p = some (.lst ((ns.drop 1).map V.int)) := upd_same
        obtain ⟨H3, e3⟩ : ∃ H3, upd H2 p (.lst ((ns.drop 1).map V.int)) = H3 := ⟨_, rfl⟩
        rw [e3] at kp hD1 hS1 nM ⊢
        refine lc_it (walk_zip (K := K) (a := L) (b := p) (xs := ns.map V.int) (ys := (ns.drop 1).map V.int) rfl) (fun i H4 => KT [] H3 H4 ∧ H4 M = some (.lst ((((List.zip ns (ns.drop 1)).take i).map fun p => decide (p.1 < p.2)).map V.bl))) ?_ ?_ ?_ ?_
        · exact ⟨KT.new _ nM, upd_same⟩
        · rintro i H4 _ ⟨k4, _⟩
          exact ⟨SqL.of (k4.kp _ _ (by simp) hD1), SqL.of (k4.kp _ _ (by simp) hS1)⟩
        · rintro i x H4 H5 hi ⟨k4, hM⟩ ⟨T, x1, y1, rfl, nT, rfl, hx, hy⟩
          obtain ⟨a, ha, rfl⟩ := int_get hx
          obtain ⟨b, hb, rfl⟩ := int_get hy
          have kT : KT [] H4 (upd H4 T (.tup [.int a, .int b])) := KT.new _ nT
          have hz : (List.zip ns (ns.drop 1))[i]? = some (a, b) := List.getElem?_zip_eq_some.mpr ⟨ha, hb⟩
          refine ⟨T, _, rfl, SqT.of upd_same, rfl, _, _, rfl, _, _, rfl, rfl, by rfl, ?_⟩
          refine ⟨_, rfl, _, rfl, _, _, rfl, rfl, _, kT.kp _ _ (by simp) hM, ?_, (k4.trans kT).late nM, ?_⟩
          · rw [List.length_map, List.length_map, List.length_take, List.length_zip]
            exact small_int (by omega)
          · rw [upd_same, List.take_succ, hz, List.map_append, List.map_append]
            rfl
        · rintro H4 ⟨k4, hM⟩
          have eT : ∀ m, m = min (ns.map V.int).length ((ns.drop 1).map V.int).length → (List.zip ns (ns.drop 1)).take m = List.zip ns (ns.drop 1) := fun m e => List.take_of_length_le (by rw [List.length_zip, e, List.length_map, List.length_map]; exact Nat.le_refl _)
          rw [eT _ (by first | rfl | (rw [List.length_map, List.length_map, List.length_drop]; omega))] at hM
          refine ⟨_, _, rfl, SqL.of hM, ?_⟩
          rw [all_map]
          have k5 := kp.trans k4
          have kk := ((k.trans k2).trans kp).trans k4
          refine ⟨_, rfl, _, rfl, ?_⟩
          have ea : ascI ns = (List.zip ns (ns.drop 1)).all fun p => decide (p.1 < p.2) := rfl
          rw [← ea]
          cases g5 : ascI ns with
          | false =>
            rw [g5] at q
            exact ite_f (by decide) (q _ kk)
          | true =>
          rw [g5] at q
          refine ite_t rfl ?_
          refine ⟨_, rfl, _, _, _, _, rfl, rfl, kk.sqT ht, rfl, _, rfl, _, _, rfl, .inl (SqL.of (k5.kp _ _ (by simp) hD)), rfl, ?_, ?_⟩
          · exact ints_flat _
          · have e0 : (if true = true then !inV (V.int n) (ns.map V.int) else inV (V.int n) (ns.map V.int)) = !decide (fstI g ∈ ns) := by
              rw [if_pos rfl, inV_int, e2]
            rw [e0]
            exact q _ kk
theorem ok_gfD (T : Txt K mg) : FnOk P w K mg base CX0 5 T.f_gate_fault T.d_gate_fault ["wires", "value"] (spGfD K) := by
  have G_is_gate := ok_isGtD (P := P) (w := w) (base := base) T
  have G_wires_of := ok_wiresD (P := P) (w := w) (base := base) T
  refine T.F_gate_fault.ok sc_gate_fault (fun vs H Q E h => ?_) (fun cdv A outer s H vs Q E hr h => ?_)
  · obtain ⟨n, v, d, rfl, _⟩ := h
    rfl
  · obtain ⟨n, v, d, rfl, hv, hl, q⟩ := h
    refine ⟨_, (pss_cons (ps_if (pt_not (pt_val (pe_call G_is_gate (hr.mono (by omega)) (by rfl) T.g_is_gate T.F_is_gate.kp T.b_is_gate .nil pass0 (pa_cons (pv 1) pa_nil))))
        (pss_one (ps_ret pe_str))
        pss_nil)
      (pss_cons (ps_if (pt_not (pt_val (pe_callB (cr_all rfl) (by rfl) T.m_all (by decide +kernel) (pa_cons (pe_lc (own := [("wire", 2)]) (g := gName 2) (by rfl) sc_gate_fault.nd (pi_list (pe_call G_wires_of (hr.mono (by omega)) (by rfl) T.g_wires_of T.F_wires_of.kp T.b_wires_of .nil pass0 (pa_cons (pv 1) pa_nil))) (blkOk_by (own := [("wire", 2)]) (N := N_gate_fault) (sc := defScope s_gate_fault) (by decide +kernel)) (fun _ _ _ _ _ => (pg_name (i := 2) sc_gate_fault.nd rfl (Or.inl rfl))) (fun _ _ _ _ _ => pts_nil) (fun _ _ _ _ _ => (pe_chain op_le op_lt pe_int (pv 2) (pv 0)))) pa_nil))))
        (pss_one (ps_ret pe_str))
        pss_nil)
      (pss_one (ps_ret pe_non)))), ?_⟩
    refine ⟨_, rfl, v, d, rfl, hv, hl, fun H1 k1 => ⟨_, rfl, ?_⟩⟩
    unfold gfD at q
    cases g1 : isGtD d with
    | false =>
      rw [g1] at q
      exact ite_t rfl (q _ k1)
    | true =>
    rw [if_pos g1] at q
    refine ite_f (by decide) ?_
    refine ⟨_, rfl, v, d, rfl, hv.keep k1, hl, g1, fun l H2 k2 hL => ⟨l, rfl, ⟨_, SqL.of hL⟩, fun D nD => ?_⟩⟩
    have ln : (wiresD d).length ≤ 1001 := by
      unfold wiresD namesD
      rw [List.length_cons, List.length_map]
      have : (elsD (nthD d 1)).length ≤ 1000 := hl
      omega
    refine lc_it (walk_list (K := K) (a := l) (xs := (wiresD d).map V.int)) (fun i H3 => KT [] H2 H3 ∧ H3 D = some (.lst ((((wiresD d).take i).map fun x => decide (0 ≤ x) && decide (x < n)).map V.bl))) ?_ ?_ ?_ ?_
    · exact ⟨KT.new _ nD, upd_same⟩
    · rintro i H3 _ ⟨k, _⟩
      exact SqL.of (k.kp _ _ (by simp) hL)
    · rintro i x H3 H4 hi ⟨k, hD⟩ ⟨rfl, hx⟩
      obtain ⟨a, ha, rfl⟩ := int_get hx
      have lt : (((((wiresD d).take i).map fun x => decide (0 ≤ x) && decide (x < n)).map V.bl).length) < sizeLine := by
        rw [List.length_map, List.length_map, List.length_take]
        exact Nat.lt_of_le_of_lt (by omega : _ ≤ 1001) (by decide)
      refine ⟨rfl, ?_⟩
      by_cases h0 : 0 ≤ a
      · refine ⟨_, rfl, _, _, rfl, rfl, _, rfl, ite_t (decide_eq_true h0) ⟨_, rfl, _, _, rfl, rfl, _, hD, lt, k.late nD, ?_⟩⟩
        rw [upd_same, List.take_succ, ha, List.map_append, List.map_append]
        show some (HO.lst (_ ++ [V.bl (decide (a < n))])) = some (HO.lst (_ ++ [V.bl (decide (0 ≤ a) && decide (a < n))]))
        rw [decide_eq_true h0, Bool.true_and]
      · refine ⟨_, rfl, _, _, rfl, rfl, _, rfl, ite_f (by rw [decide_eq_false h0]; decide) ⟨_, hD, lt, k.late nD, ?_⟩⟩
        rw [upd_same, List.take_succ, ha, List.map_append, List.map_append]
        show some (HO.lst (_ ++ [V.bl false])) = some (HO.lst (_ ++ [V.bl (decide (0 ≤ a) && decide (a < n))]))
        rw [decide_eq_false h0, Bool.false_and]
    · rintro H3 ⟨k, hD⟩
      rw [List.length_map, List.take_length] at hD
      refine ⟨_, _, rfl, SqL.of hD, ?_⟩
      rw [all_map]
      have kk := (k1.trans k2).trans k
      cases g2 : (wiresD d).all fun x => decide (0 ≤ x) && decide (x < n) with
      | false =>
        rw [g2] at q
        exact ⟨_, rfl, ite_t rfl (q _ kk)⟩
      | true =>
        rw [g2] at q
        exact ⟨_, rfl, ite_f (by decide) (q _ kk)⟩
end

theorem cts_rp {K : PySem.W.Frag} {H : Hp} : ∀ {vs : List V} {cs : List Ct}, P2 (PrV H) vs cs → RpA K H vs (cs.map ctD)
  | _, _, .nil => .nil
  | _, _, .cons ⟨t, e, h⟩ g => by
    subst e
    exact .cons (.tup (SqT.of h) (.cons (.int _) (.cons (.int _) .nil))) (cts_rp g)
theorem gt_rp {K : PySem.W.Frag} {H : Hp} {v : V} {g : Gt} (h : GtV H v g) : Rp K H v (gtD g) := by
  obtain ⟨t, u, vs, rfl, h1, h2, h3⟩ := h
  exact .tup (SqT.of h1) (.cons (.int _) (.cons (.tup h2.sq (cts_rp h3)) .nil))
theorem gts_rp {K : PySem.W.Frag} {H : Hp} : ∀ {vs : List V} {gs : List Gt}, P2 (GtV H) vs gs → RpA K H vs (gs.map gtD)
  | _, _, .nil => .nil
  | _, _, .cons h g => .cons (gt_rp h) (gts_rp g)
theorem names_gt (g : Gt) : namesD (gtD g) = g.2.map fun c => (c.1 : Int) := by
  show (g.2.map ctD).map fstI = _
  rw [List.map_map]
  rfl
theorem asc_of {ns : List Nat} (h : ns.Pairwise (· < ·)) : ascI (ns.map fun (n : Nat) => (n : Int)) = true := by
  unfold ascI
  rw [List.all_eq_true]
  intro p hp
  obtain ⟨i, hi, e⟩ := List.getElem_of_mem hp
  have h2 : (List.zip (ns.map fun (n : Nat) => (n : Int)) ((ns.map fun (n : Nat) => (n : Int)).drop 1))[i]? = some p := by rw [List.getElem?_eq_getElem hi, e]
  obtain ⟨a, b⟩ := List.getElem?_zip_eq_some.mp h2
  rw [List.getElem?_map] at a
  rw [List.getElem?_drop, List.getElem?_map] at b
  cases ea : ns[i]? with
  | none => rw [ea] at a; cases a
  | some x =>
    cases eb : ns[1 + i]? with
    | none => rw [eb] at b; cases b
    | some y =>
      rw [ea] at a
      rw [eb] at b
      obtain ⟨x1, x2⟩ := List.getElem?_eq_some_iff.mp ea
      obtain ⟨y1, y2⟩ := List.getElem?_eq_some_iff.mp eb
      have lt := List.pairwise_iff_getElem.mp h i (1 + i) x1 y1 (by omega)
      rw [x2, y2] at lt
      have a : (x : Int) = p.1 := Option.some.inj a
      have b : (y : Int) = p.2 := Option.some.inj b
      refine decide_eq_true ?_
      omega
theorem is_good {n : Nat} {g : Gt} (h : GW n g) : isGtD (gtD g) = true := by
  obtain ⟨h1, h2, h3, h4⟩ := h
  show (true && (true && (true && ((g.2.map ctD).all isCtD && (ascI (namesD (gtD g)) && !decide ((g.1 : Int) ∈ namesD (gtD g))))))) = true
  have e1 : (g.2.map ctD).all isCtD = true := by
    rw [List.all_map, List.all_eq_true]
    rintro ⟨x, b⟩ _
    cases b <;> rfl
  have e2 : ascI (namesD (gtD g)) = true := by
    rw [names_gt, show (g.2.map fun c => (c.1 : Int)) = (g.2.map (·.1)).map (fun (n : Nat) => (n : Int)) by rw [List.map_map]; rfl]
    exact asc_of h3
  have e3 : decide ((g.1 : Int) ∈ namesD (gtD g)) = false := by
    rw [names_gt]
    refine decide_eq_false fun z => ?_
    obtain ⟨c, hc, e⟩ := List.mem_map.mp z
    exact (h2 c hc).2 (by omega)
  rw [e1, e2, e3]
  rfl
theorem gf_good {n : Nat} {g : Gt} (h : GW n g) : gfD (n : Int) (gtD g) = none := by
  have e := is_good h
  obtain ⟨h1, h2, h3, h4⟩ := h
  unfold gfD
  rw [if_pos e, if_pos]
  rw [List.all_eq_true]
  intro x hx
  rcases List.mem_cons.mp hx with e | hx
  · rw [e]
    show (decide ((0 : Int) ≤ (g.1 : Int)) && decide ((g.1 : Int) < (n : Int))) = true
    rw [decide_eq_true (by omega), decide_eq_true (by omega)]
    rfl
  · rw [names_gt] at hx
    obtain ⟨c, hc, rfl⟩ := List.mem_map.mp hx
    have := (h2 c hc).1
    rw [decide_eq_true (by omega), decide_eq_true (by omega)]
    rfl
theorem sm_gt {n : Nat} {g : Gt} (h : GW n g) (hn : n ≤ 1000) : SmD (gtD g) := by
  show (g.2.map ctD).length ≤ 1000
  rw [List.length_map]
  exact Nat.le_trans h.2.2.2 hn
theorem wires_gt (g : Gt) : (wiresD (gtD g)).map V.int = ivs (wiresN g) := by
  show V.int (g.1 : Int) :: (namesD (gtD g)).map V.int = _
  rw [names_gt]
  unfold ivs wiresN
  rw [List.map_cons, List.map_map, List.map_map]
  rfl
theorem wiresN_len {n : Nat} {g : Gt} (h : GW n g) : (wiresN g).length ≤ n + 1 := by
  unfold wiresN
  rw [List.length_cons, List.length_map]
  have := h.2.2.2
  omega
def MkD (K : PySem.W.Frag) (te : TE) (d : PyData) : Prop := ∀ σ H (Q : VK), (∀ v H', KT [] H H' → Rp K H' v d → Q v H') → te σ H Q
def MkA (K : PySem.W.Frag) (ta : TA) (ds : List PyData) : Prop := ∀ σ H (Q : List V → Hp → Prop), (∀ vs H', KT [] H H' → RpA K H' vs ds → Q vs H') → ta σ H Q
variable {K : PySem.W.Frag}
theorem mk_int (i : Int) : MkD K (tC (.int i)) (.int i) := fun _ _ _ h => h _ _ (.refl _ _) (.int i)
theorem mk_bl (i : Bool) : MkD K (tC (.bl i)) (.bool i) := fun _ _ _ h => h _ _ (.refl _ _) (.bl i)
theorem mk_str (i : Str) : MkD K (tC (.str i)) (.str i) := fun _ _ _ h => h _ _ (.refl _ _) (.str i)
theorem mk_non : MkD K (tC .non) .none := fun _ _ _ h => h _ _ (.refl _ _) .non
theorem mk_neg (i : Int) : MkD K (tUn (rU fun i => .int (-i)) (tC (.int i))) (.int (-i)) := fun _ _ _ h => ⟨i, rfl, h _ _ (.refl _ _) (.int _)⟩
theorem mk_nil : MkA K tNil [] := fun _ _ _ h => h _ _ (.refl _ _) .nil
theorem mk_cons {te : TE} {ta : TA} {d : PyData} {ds : List PyData} (a : MkD K te d) (b : MkA K ta ds) : MkA K (tCons te ta) (d :: ds) := fun σ H _ h => a σ H _ fun v H1 k1 r1 => b σ H1 _ fun vs H2 k2 r2 => h _ _ (k1.trans k2) (.cons (r1.keep k2) r2)
theorem mk_tup {ta : TA} {ds : List PyData} (a : MkA K ta ds) (hl : ds.length ≤ 1000) : MkD K (tTup ta) (.tuple ds) := fun σ H _ h => a σ H _ fun vs H1 k1 r1 => ⟨Nat.le_trans (by rw [r1.length]; exact hl) (by decide), fun p np => h _ _ (k1.trans (KT.new _ np)) (.made np r1)⟩
theorem mk_lst {ta : TA} {ds : List PyData} (a : MkA K ta ds) (hl : ds.length ≤ 1000) {σ : L2.St} {H : Hp} {Q : VK} (h : ∀ l vs H', KT [] H H' → H' l = some (.lst vs) → RpA K H' vs ds → Q (.ref l) H') : tLst ta σ H Q :=
  a σ H _ fun vs H1 k1 r1 => ⟨Nat.le_trans (by rw [r1.length]; exact hl) (by decide), fun p np => h p vs _ (k1.trans (KT.new _ np)) upd_same (r1.keep (KT.new [] np))⟩

end My

set_option Elab.async false
set_option linter.all false
set_option maxRecDepth 100000
namespace My
open PySem PySem.Spec PyProof.Rows L2
theorem KT.ofSame {L : List Addr} {H H' : Hp} (k : ∀ (b : Addr) (o : HO), H b = some o → H' b = some o) : KT L H H' :=
  ⟨fun b o _ e => k b o e, fun b o e => k b _ e, fun b o u e => k b _ e, fun b o e => ⟨o, k b o e⟩, fun b c t e => ⟨t, k _ _ e⟩⟩
def kvC (cs : List Ct) : List (Int × Int) := cs.map fun c => ((c.1 : Int), b2 c.2)
def dkC (cs : List Ct) : List (L2.Key × V) := (kvC cs).map fun p => (Sum.inl p.1, V.int p.2)
theorem dkC_snoc (cs : List Ct) (c : Ct) : dkC (cs ++ [c]) = dkC cs ++ [(Sum.inl (c.1 : Int), V.int (b2 c.2))] := by
  unfold dkC kvC
  rw [List.map_append, List.map_append]
  rfl
theorem dkC_none {cs : List Ct} {n : Nat} (h : n ∉ cs.map (·.1)) : valV (dkC cs) (Sum.inl (n : Int)) = none := by
  unfold valV dkC kvC
  rw [List.map_map]
  have : (cs.map ((fun p : Int × Int => ((Sum.inl p.1 : L2.Key), V.int p.2)) ∘ fun c : Ct => ((c.1 : Int), b2 c.2))).find? (fun kv => decide (kv.1 = Sum.inl (n : Int))) = none := by
    rw [List.find?_eq_none]
    intro x hx
    obtain ⟨c, hc, rfl⟩ := List.mem_map.mp hx
    intro z
    have z : (Sum.inl (c.1 : Int) : L2.Key) = Sum.inl (n : Int) := of_decide_eq_true z
    have z : (c.1 : Int) = n := Sum.inl.inj z
    exact h (List.mem_map.mpr ⟨c, hc, by omega⟩)
  rw [this]
  rfl
theorem dkC_put {cs : List Ct} {c : Ct} (h : c.1 ∉ cs.map (·.1)) : putK (dkC cs) (Sum.inl (c.1 : Int)) (V.int (b2 c.2)) = dkC (cs ++ [c]) := by
  unfold putK
  rw [dkC_snoc]
  refine if_neg ?_
  intro z
  obtain ⟨x, hx, e⟩ := List.any_eq_true.mp z
  obtain ⟨p, hp, rfl⟩ := List.mem_map.mp hx
  obtain ⟨d, hd, rfl⟩ := List.mem_map.mp hp
  have e : (Sum.inl (d.1 : Int) : L2.Key) = Sum.inl (c.1 : Int) := of_decide_eq_true e
  have e : (d.1 : Int) = c.1 := Sum.inl.inj e
  exact h (List.mem_map.mpr ⟨d, hd, by omega⟩)
theorem paired_prv {H : Hp} : ∀ {as : List Addr} {cs : List Ct}, Paired (fun t (q : Int × Int) => H t = some (.tup [.int q.1, .int q.2])) as (kvC cs) → P2 (PrV H) (as.map V.ref) cs
  | [], [], _ => .nil
  | [], _ :: _, h => by cases h
  | _ :: _, [], h => by cases h
  | a :: as, c :: cs, .cons h g => .cons ⟨a, rfl, h⟩ (paired_prv g)
theorem pair_kOf {H : Hp} {as : List Addr} {cs : List Ct} (h : P2 (PrV H) (as.map V.ref) cs) (nd : as.Nodup) {b : Addr} (hb : b ∈ as) : pairOf as (kvC cs) (.ref b) = kOf H (.ref b) := by
  obtain ⟨j, hj, e⟩ := List.mem_iff_getElem.mp hb
  have e0 : as[j]? = some b := by rw [List.getElem?_eq_getElem hj, e]
  obtain ⟨c, h1, h2⟩ := h.get (i := j) (v := .ref b) (by rw [List.getElem?_map, e0]; rfl)
  rw [kOf_prv h2]
  exact pairOf_at nd e0 (by unfold kvC; rw [List.getElem?_map, h1]; rfl)
def kvI (l : List (Int × Int)) : List (Key × V) := l.map fun p => (Sum.inl p.1, V.int p.2)
theorem getI_V (o : Option Int) : (o.map V.int).getD (.int 0) = .int (o.getD 0) := by cases o <;> rfl
def QrV (H : Hp) (v : V) (q : Int × Int) : Prop := ∃ t, v = .ref t ∧ H t = some (.tup [.int q.1, .int q.2])

/-! ### controls as a dict -/
def getC (cs : List Ct) (n : Nat) : Option Bool := (cs.find? fun c => decide (c.1 = n)).map (·.2)
theorem getC_cons (c : Ct) (r : List Ct) (n : Nat) : getC (c :: r) n = if c.1 = n then some c.2 else getC r n := by
  unfold getC
  rw [List.find?_cons]
  by_cases e : c.1 = n <;> simp [e]
theorem getC_none {cs : List Ct} {n : Nat} : getC cs n = none ↔ n ∉ cs.map (·.1) := by
  induction cs with
  | nil => simp [getC]
  | cons c r ih =>
    rw [getC_cons]
    by_cases e : c.1 = n
    · simp [e]
    · rw [if_neg e, ih]
      simp [Ne.symm e]
theorem getC_mem {cs : List Ct} (nd : (cs.map (·.1)).Nodup) {n : Nat} {b : Bool} : getC cs n = some b ↔ (n, b) ∈ cs := by
  induction cs with
  | nil => simp [getC]
  | cons c r ih =>
    rw [List.map_cons, List.nodup_cons] at nd
    rw [getC_cons]
    by_cases e : c.1 = n
    · rw [if_pos e]
      constructor
      · intro h
        have h : c.2 = b := Option.some.inj h
        exact List.mem_cons.mpr (.inl (by rw [← e, ← h]))
      · intro h
        rcases List.mem_cons.mp h with h | h
        · rw [← h]
        · exact absurd (List.mem_map.mpr ⟨_, h, e.symm⟩) nd.1
    · rw [if_neg e, ih nd.2]
      constructor
      · exact List.mem_cons_of_mem _
      · intro h
        rcases List.mem_cons.mp h with h | h
        · exact absurd (by rw [← h]) e
        · exact h
theorem dkC_cons (c : Ct) (r : List Ct) : dkC (c :: r) = (Sum.inl (c.1 : Int), V.int (b2 c.2)) :: dkC r := rfl
theorem dkC_get (n : Nat) : ∀ cs : List Ct, valV (dkC cs) (Sum.inl (n : Int)) = (getC cs n).map fun b => V.int (b2 b)
  | [] => rfl
  | c :: r => by
    rw [dkC_cons, getC_cons]
    by_cases e : c.1 = n
    · rw [valV_pos (p := ((Sum.inl (c.1 : Int) : L2.Key), V.int (b2 c.2))) (by rw [e]), if_pos e]
      rfl
    · rw [valV_neg (p := ((Sum.inl (c.1 : Int) : L2.Key), V.int (b2 c.2))) (fun z => e (by have := Sum.inl.inj z; omega)), if_neg e]
      exact dkC_get n r
theorem dget_c {H : Hp} {a : Addr} {cs : List Ct} {n : Nat} (e : H a = some (.dK (dkC cs))) : DGet H a (.int (n : Int)) ((getC cs n).map fun b => V.int (b2 b)) := by
  have := DGet.k (k := Sum.inl (n : Int)) e
  rw [dkC_get] at this
  exact this
theorem getC_isSome (cs : List Ct) (n : Nat) : (((getC cs n).map fun b => V.int (b2 b)).isSome) = decide (n ∈ cs.map (·.1)) := by
  cases e : getC cs n with
  | none => rw [decide_eq_false (getC_none.mp e)]; rfl
  | some b =>
    have : ¬ (n ∉ cs.map (·.1)) := fun z => by rw [getC_none.mpr z] at e; cases e
    rw [decide_eq_true (Classical.not_not.mp this)]
    rfl
theorem ctl_paired {K : PySem.W.Frag} {H : Hp} : ∀ {vs : List V} {cs : List Ct}, P2 (PrV H) vs cs → ∃ ps : List Addr, vs = ps.map V.ref ∧ Paired (fun p (kv : L2.Key × V) => SqT K H p [kV kv.1, kv.2]) ps (dkC cs)
  | _, _, .nil => ⟨[], rfl, .nil⟩
  | _, _, .cons ⟨t, e, h⟩ g => by
    obtain ⟨ps, e2, pa⟩ := ctl_paired (K := K) g
    subst e e2
    exact ⟨t :: ps, rfl, .cons (SqT.of h) pa⟩
theorem mergeK_app : ∀ (ds cs : List Ct), ((cs ++ ds).map (·.1)).Nodup → mergeK (dkC cs) (dkC ds) = dkC (cs ++ ds)
  | [], cs, _ => by rw [List.append_nil]; rfl
  | d :: r, cs, nd => by
    have n1 : d.1 ∉ cs.map (·.1) := fun z => by
      rw [List.map_append, List.map_cons, List.nodup_append] at nd
      exact nd.2.2 _ z _ (List.mem_cons_self ..) rfl
    have := mergeK_app r (cs ++ [d]) (by rw [List.append_assoc]; exact nd)
    rw [List.append_assoc] at this
    show mergeK (putK (dkC cs) (Sum.inl (d.1 : Int)) (V.int (b2 d.2))) (dkC r) = _
    rw [dkC_put n1]
    exact this
theorem mergeK_dkC {cs : List Ct} (nd : (cs.map (·.1)).Nodup) : mergeK [] (dkC cs) = dkC cs := mergeK_app cs [] nd
theorem asc_nodup {cs : List Ct} (h : (cs.map (·.1)).Pairwise (· < ·)) : (cs.map (·.1)).Nodup := h.imp fun h => Nat.ne_of_lt h
theorem dk_len (cs : List Ct) : (dkC cs).length = cs.length := by
  unfold dkC kvC
  rw [List.length_map, List.length_map]
theorem opp_get {cs ds : List Ct} (nd : (ds.map (·.1)).Nodup) : (cs.any fun c => (getC ds c.1).getD c.2 != c.2) = opp cs ds := by
  unfold opp
  congr 1
  funext c
  cases e : getC ds c.1 with
  | none =>
    have n := getC_none.mp e
    have : (ds.any fun d => d.1 == c.1 && d.2 != c.2) = false := by
      rw [List.any_eq_false]
      intro d hd z
      have z := ((Bool.and_eq_true _ _).mp z).1
      exact n (List.mem_map.mpr ⟨d, hd, by simpa using z⟩)
    rw [this]
    simp
  | some b =>
    have m := (getC_mem nd).mp e
    have : (ds.any fun d => d.1 == c.1 && d.2 != c.2) = (b != c.2) := by
      rw [Bool.eq_iff_iff, List.any_eq_true]
      constructor
      · rintro ⟨d, hd, z⟩
        obtain ⟨z1, z2⟩ := (Bool.and_eq_true _ _).mp z
        have z1 : d.1 = c.1 := by simpa using z1
        have : getC ds c.1 = some d.2 := (getC_mem nd).mpr (by rw [← z1]; exact hd)
        rw [e] at this
        rw [Option.some.inj this]
        exact z2
      · intro z
        exact ⟨_, m, by simpa using z⟩
    rw [this]
    rfl
/-! ### gates compared -/
theorem ct_eqv (c d : Ct) : PyData.eqv (ctD c) (ctD d) = decide (c = d) := by
  show (((c.1 : Int) == (d.1 : Int)) && ((b2 c.2 == b2 d.2) && true)) = _
  rw [Bool.and_true, Bool.eq_iff_iff, Bool.and_eq_true, beq_iff_eq, beq_iff_eq, decide_eq_true_iff, b2_inj]
  constructor
  · rintro ⟨a, b⟩
    exact Prod.ext (by omega) b
  · rintro rfl
    exact ⟨rfl, rfl⟩
theorem cts_eqv : ∀ cs ds : List Ct, PyData.eqvAll (cs.map ctD) (ds.map ctD) = decide (cs = ds)
  | [], [] => rfl
  | [], _ :: _ => rfl
  | _ :: _, [] => rfl
  | c :: r, d :: q => by
    show (PyData.eqv (ctD c) (ctD d) && PyData.eqvAll (r.map ctD) (q.map ctD)) = _
    rw [ct_eqv, cts_eqv r q, Bool.eq_iff_iff, Bool.and_eq_true, decide_eq_true_iff, decide_eq_true_iff, decide_eq_true_iff, List.cons.injEq]
theorem gt_eqv (g h : Gt) : PyData.eqv (gtD g) (gtD h) = decide (g = h) := by
  show (((g.1 : Int) == (h.1 : Int)) && (PyData.eqvAll (g.2.map ctD) (h.2.map ctD) && true)) = _
  rw [Bool.and_true, cts_eqv, Bool.eq_iff_iff, Bool.and_eq_true, beq_iff_eq, decide_eq_true_iff, decide_eq_true_iff]
  constructor
  · rintro ⟨a, b⟩
    exact Prod.ext (by omega) b
  · rintro rfl
    exact ⟨rfl, rfl⟩
theorem ct_any (c : Ct) (ds : List Ct) : ((ds.map ctD).any fun e => PyData.eqv e (ctD c)) = decide (c ∈ ds) := by
  rw [List.any_map, Bool.eq_iff_iff, List.any_eq_true, decide_eq_true_iff]
  constructor
  · rintro ⟨d, hd, z⟩
    have z : PyData.eqv (ctD d) (ctD c) = true := z
    rw [ct_eqv, decide_eq_true_iff] at z
    rw [← z]
    exact hd
  · intro h
    exact ⟨c, h, by show PyData.eqv (ctD c) (ctD c) = true; rw [ct_eqv]; exact decide_eq_true rfl⟩
theorem shaped_ct (c : Ct) : SeqAt.shaped (ctD c) = true := rfl
theorem shaped_cts (cs : List Ct) : SeqAt.shaped (.tuple (cs.map ctD)) = true := by
  unfold SeqAt.shaped
  rw [Bool.and_eq_true]
  refine ⟨cts_lay cs, decide_eq_true ?_⟩
  show PyData.depthAll (cs.map ctD) + 1 ≤ 64
  have := cts_deep cs
  omega
theorem shaped_gt (g : Gt) : SeqAt.shaped (gtD g) = true := by
  unfold SeqAt.shaped
  rw [Bool.and_eq_true]
  refine ⟨?_, decide_eq_true ?_⟩
  · show (true && (PyData.canLayAll0 (g.2.map ctD) && true)) = true
    rw [cts_lay]
    rfl
  · show max 0 (max (PyData.depthAll (g.2.map ctD) + 1) 0) + 1 ≤ 64
    have := cts_deep g.2
    omega
/-- two controls' tuples in the heap -/
def CtlV (H : Hp) (u : Addr) (cs : List Ct) : Prop := ∃ vs, FzT H u vs ∧ P2 (PrV H) vs cs
theorem CtlV.keep {S : List Addr} {H H' : Hp} (k : KT S H H') {u : Addr} {cs : List Ct} : CtlV H u cs → CtlV H' u cs := fun ⟨vs, h1, h2⟩ => ⟨vs, k.fzT h1, prs_keep k h2⟩
theorem CtlV.dp {K : PySem.W.Frag} {H : Hp} {u : Addr} {cs : List Ct} (h : CtlV H u cs) : Dp K H (.ref u) (.tuple (cs.map ctD)) := by
  obtain ⟨vs, h1, h2⟩ := h
  exact .tup h1.sq (cts_dp h2)
theorem GtV.ctl {H : Hp} {v : V} {g : Gt} (h : GtV H v g) : ∃ t u, v = .ref t ∧ H t = some (.tup [.int g.1, .ref u]) ∧ CtlV H u g.2 := by
  obtain ⟨t, u, vs, h1, h2, h3, h4⟩ := h
  exact ⟨t, u, h1, h2, vs, h3, h4⟩
/-- dict(controls) -/
theorem CtlV.ps {K : PySem.W.Frag} {H : Hp} {u : Addr} {cs : List Ct} (h : CtlV H u cs) : ∃ ps : List Addr, FzT H u (ps.map V.ref) ∧ Paired (fun p (kv : L2.Key × V) => SqT K H p [kV kv.1, kv.2]) ps (dkC cs) := by
  obtain ⟨vs, h1, h2⟩ := h
  obtain ⟨ps, e, pa⟩ := ctl_paired (K := K) h2
  subst e
  exact ⟨ps, h1, pa⟩
def spOpp : Sp := fun vs H Q _ => ∃ (u v : Addr) (cs ds : List Ct), vs = [.ref u, .ref v] ∧ CtlV H u cs ∧ CtlV H v ds ∧ (ds.map (·.1)).Nodup ∧ cs.length ≤ 1000 ∧ ∀ H', KT [] H H' → Q (.bl (opp cs ds)) H'
/-- a gate with its controls in order, not many -/
def GdN (g : Gt) : Prop := Gd g ∧ g.2.length ≤ 1000
def spFree : Sp := fun vs H Q _ => ∃ (x y : V) (g h : Gt), vs = [x, y] ∧ GtV H x g ∧ GtV H y h ∧ GdN g ∧ GdN h ∧ ∀ H', KT [] H H' → Q (.bl (freeP g h)) H'
/-- a tuple of gates, or None -/
def OpG (H : Hp) (v : V) : Option (List Gt) → Prop
  | none => v = .non
  | some gs => TupG H v gs
def spTwo (f : Gt → Gt → Option (List Gt)) : Sp := fun vs H Q _ => ∃ (x y : V) (g h : Gt), vs = [x, y] ∧ GtV H x g ∧ GtV H y h ∧ GdN g ∧ GdN h ∧ ∀ v H', KT [] H H' → OpG H' v (f g h) → Q v H'
def cancelP (g h : Gt) : Option (List Gt) := if g = h then some [] else none
def exchP (g h : Gt) : Option (List Gt) := if freeP g h = true then some [h, g] else none
section
variable {P : Program} {w : World} {K : PySem.W.Frag} {mg : Str → Option Value} {base : Heap}
theorem ok_opposed (T : Txt K mg) : FnOk P w K mg base CX0 1 T.f_are_opposed T.d_are_opposed ["controls", "others"] spOpp := by
  refine T.F_are_opposed.ok sc_are_opposed (fun vs H Q E h => ?_) (fun cdv A outer s H vs Q E hr h => ?_)
  · obtain ⟨u, v, cs, ds, rfl, _⟩ := h
    rfl
  · obtain ⟨u, v, cs, ds, rfl, hu, hv, nd, hl, q⟩ := h
    refine ⟨_, (pss_cons (ps_set (i := 2) sc_are_opposed.nd rfl (Or.inr rfl) (pe_callTy (call_dictF rfl) (by rfl) T.m_dict (by decide +kernel) (pa_cons (pv 1) pa_nil)))
      (pss_one (ps_ret (pe_callB (cr_any rfl) (by rfl) T.m_any (by decide +kernel) (pa_cons (pe_lc (own := [("wire", 3), ("value", 4)]) (g := gTup K 2 (gCons (gName 3) (gCons (gName 4) gNil))) (by rfl) sc_are_opposed.nd (pi_tup (pv 0)) (blkOk_by (own := [("wire", 3), ("value", 4)]) (N := N_are_opposed) (sc := defScope s_are_opposed) (by decide +kernel)) (fun _ _ _ _ _ => (pg_tup (by rfl) (pgs_cons (pg_name (i := 3) sc_are_opposed.nd rfl (Or.inl rfl)) (pgs_cons (pg_name (i := 4) sc_are_opposed.nd rfl (Or.inl rfl)) pgs_nil)))) (fun _ _ _ _ _ => pts_nil) (fun _ _ _ _ _ => (pe_cmpR op_ne (pe_dget2 (hu_of hr) (pv 2) (pv 3) (pv 4) (M2.mk rfl rfl rfl rfl)) (pv 4) (nomark _)))) pa_nil))))), ?_⟩
    obtain ⟨ps, f1, f2⟩ := hv.ps (K := K)
    refine ⟨_, rfl, v, ps, dkC ds, rfl, f1, f2, fun D nD => ?_⟩
    rw [mergeK_dkC nd]
    have kD := KT.new [] nD (o := .dK (dkC ds))
    obtain ⟨us, h1, h2⟩ := hu
    refine ⟨_, rfl, u, rfl, ⟨_, (kD.fzT h1).sq⟩, fun M nM => ?_⟩
    refine lc_it (walk_tup (K := K) (a := u) (xs := us)) (fun i H1 => KT [] (upd H D (.dK (dkC ds))) H1 ∧ H1 M = some (.lst (((cs.take i).map fun c => (getC ds c.1).getD c.2 != c.2).map V.bl))) ?_ ?_ ?_ ?_
    · exact ⟨KT.new _ nM, upd_same⟩
    · rintro i H1 _ ⟨k, _⟩
      exact (k.fzT (kD.fzT h1)).sq
    · rintro i x H1 H2 hi ⟨k, hM⟩ ⟨rfl, hx⟩
      obtain ⟨c, hc1, t, rfl, ht⟩ := h2.get hx
      have hD := k.same _ _ (upd_same : (upd H D (.dK (dkC ds))) D = _)
      refine ⟨t, _, rfl, SqT.of (k.tp _ _ (kD.tp _ _ ht)), rfl, _, _, rfl, _, _, rfl, rfl, by rfl, ?_⟩
      refine ⟨_, rfl, D, rfl, .inl ⟨_, .inl hD⟩, _, rfl, _, rfl, _, dget_c hD, _, rfl, ?_⟩
      have e : ((getC ds c.1).map fun b => V.int (b2 b)).getD (V.int (b2 c.2)) = V.int (b2 ((getC ds c.1).getD c.2)) := by cases getC ds c.1 <;> rfl
      rw [e]
      refine ⟨rfl, _, hM, ?_, k.late nM, ?_⟩
      · rw [List.length_map, List.length_map, List.length_take]
        exact small_int (by omega)
      · have e2 : (!decide (V.int (b2 ((getC ds c.1).getD c.2)) = V.int (b2 c.2))) = ((getC ds c.1).getD c.2 != c.2) := by
          cases (getC ds c.1).getD c.2 <;> cases c.2 <;> rfl
        rw [upd_same, List.take_succ, hc1, List.map_append, List.map_append, e2]
        rfl
    · rintro H1 ⟨k, hM⟩
      rw [h2.len, List.take_length] at hM
      refine ⟨_, _, rfl, SqL.of hM, ?_⟩
      have e : (cs.map fun c => (getC ds c.1).getD c.2 != c.2).any _root_.id = opp cs ds := by
        rw [List.any_map, ← opp_get nd]
        rfl
      rw [e]
      exact q _ (kD.trans k)
theorem ok_can_exchange (T : Txt K mg) : FnOk P w K mg base CX0 2 T.f_can_exchange T.d_can_exchange ["first", "second"] spFree := by
  have G_are_opposed := ok_opposed (P := P) (w := w) (base := base) T
  refine T.F_can_exchange.ok sc_can_exchange (fun vs H Q E h => ?_) (fun cdv A outer s H vs Q E hr h => ?_)
  · obtain ⟨x, y, g, h, rfl, _⟩ := h
    rfl
  · obtain ⟨x, y, g, h, rfl, hx, hy, ⟨gg, gl⟩, ⟨gh, hl⟩, q⟩ := h
    obtain ⟨t, u, rfl, ht, hu⟩ := hx.ctl
    obtain ⟨t2, u2, rfl, ht2, hu2⟩ := hy.ctl
    refine ⟨_, (pss_cons (ps_asg (pv 0) (pg_tup (by rfl) (pgs_cons (pg_name (i := 2) sc_can_exchange.nd rfl (Or.inl rfl)) (pgs_cons (pg_name (i := 3) sc_can_exchange.nd rfl (Or.inl rfl)) pgs_nil))))
      (pss_cons (ps_asg (pv 1) (pg_tup (by rfl) (pgs_cons (pg_name (i := 4) sc_can_exchange.nd rfl (Or.inl rfl)) (pgs_cons (pg_name (i := 5) sc_can_exchange.nd rfl (Or.inl rfl)) pgs_nil))))
      (pss_cons (ps_if (PW.pt (pw_and (pt_cmp (pc_dnotin (hu_of hr) (pv 2) (pe_callTy (call_dictF rfl) (by rfl) T.m_dict (by decide +kernel) (pa_cons (pv 5) pa_nil)))) (pw_and1 (pt_cmp (pc_dnotin (hu_of hr) (pv 4) (pe_callTy (call_dictF rfl) (by rfl) T.m_dict (by decide +kernel) (pa_cons (pv 3) pa_nil)))))))
        (pss_one (ps_ret pe_bl))
        pss_nil)
      (pss_one (ps_ret (pe_call G_are_opposed (hr.mono (by omega)) (by rfl) T.g_are_opposed T.F_are_opposed.kp T.b_are_opposed .nil pass0 (pa_cons (pv 3) (pa_cons (pv 5) pa_nil)))))))), ?_⟩
    refine ⟨_, rfl, t, _, rfl, SqT.of ht, rfl, _, _, rfl, _, _, rfl, rfl, ?_⟩
    refine ⟨_, rfl, t2, _, rfl, SqT.of ht2, rfl, _, _, rfl, _, _, rfl, rfl, ?_⟩
    obtain ⟨ps, f1, f2⟩ := hu2.ps (K := K)
    refine ⟨_, rfl, _, rfl, u2, ps, dkC h.2, rfl, f1, f2, fun D nD => ?_⟩
    rw [mergeK_dkC (asc_nodup gh.1)]
    have kD := KT.new [] nD (o := .dK (dkC h.2))
    refine ⟨D, _, rfl, dget_c upd_same, _, rfl, ?_⟩
    rw [getC_isSome]
    have rest : ∀ H1, KT [] H H1 → freeP g h = opp g.2 h.2 → ∃ (u' v' : Addr) (cs ds : List Ct), [V.ref u, V.ref u2] = [.ref u', .ref v'] ∧ CtlV H1 u' cs ∧ CtlV H1 v' ds ∧ (ds.map (·.1)).Nodup ∧ cs.length ≤ 1000 ∧ ∀ H', KT [] H1 H' → Q (.bl (opp cs ds)) H' := fun H1 k e =>
      ⟨u, u2, g.2, h.2, rfl, hu.keep k, hu2.keep k, asc_nodup gh.1, gl, fun H' k' => by rw [← e]; exact q _ (k.trans k')⟩
    by_cases e1 : g.1 ∈ h.2.map (·.1)
    · refine ite_f (by rw [decide_eq_true e1]; decide) (ite_f (by decide) ⟨_, rfl, _, rfl, rest _ kD ?_⟩)
      unfold freeP
      rw [decide_eq_false (fun z => z e1)]
      rfl
    · obtain ⟨ps', f3, f4⟩ := (hu.keep kD).ps (K := K)
      refine ite_t (by rw [decide_eq_false e1]; rfl) ⟨_, rfl, _, rfl, u, ps', dkC g.2, rfl, f3, f4, fun F nF => ?_⟩
      rw [mergeK_dkC (asc_nodup gg.1)]
      have kF := KT.new [] nF (o := .dK (dkC g.2))
      refine ⟨F, _, rfl, dget_c upd_same, _, rfl, ?_⟩
      rw [getC_isSome]
      by_cases e2 : h.1 ∈ g.2.map (·.1)
      · refine ite_f (by rw [decide_eq_true e2]; decide) ⟨_, rfl, _, rfl, rest _ (kD.trans kF) ?_⟩
        unfold freeP
        rw [decide_eq_true e1, decide_eq_false (p := h.1 ∉ g.2.map (·.1)) (fun z => z e2)]
        rfl
      · refine ite_t (by rw [decide_eq_false e2]; rfl) ?_
        have q := q _ (kD.trans kF)
        unfold freeP at q
        rw [decide_eq_true e1, decide_eq_true e2] at q
        exact q
theorem ok_cancelled (T : Txt K mg) : FnOk P w K mg base CX0 1 T.f_cancelled T.d_cancelled ["first", "second"] (spTwo cancelP) := by
  refine T.F_cancelled.ok sc_cancelled (fun vs H Q E h => ?_) (fun cdv A outer s H vs Q E hr h => ?_)
  · obtain ⟨x, y, g, h, rfl, _⟩ := h
    rfl
  · obtain ⟨x, y, g, h, rfl, hx, hy, gg, gh, q⟩ := h
    refine ⟨_, (pss_one (ps_ret (pe_ifExp (pt_cmpR (op_eqD hr.units) (pv 0) (pv 1) (nomark _)) (pe_tup pa_nil) pe_non))), ?_⟩
    refine ⟨_, rfl, _, rfl, gtD g, gtD h, gt_dp hx, gt_dp hy, shaped_gt g, shaped_gt h, _, rfl, ?_⟩
    rw [gt_eqv]
    by_cases e : g = h
    · refine ite_t (decide_eq_true e) ⟨Nat.zero_le _, fun p np => ?_⟩
      refine q _ _ (KT.new [] np) ?_
      unfold cancelP
      rw [if_pos e]
      exact ⟨p, [], rfl, upd_same, .nil⟩
    · refine ite_f (by rw [decide_eq_false e]; decide) ?_
      refine q _ _ (.refl _ _) ?_
      unfold cancelP
      rw [if_neg e]
      rfl
theorem ok_exchanged (T : Txt K mg) : FnOk P w K mg base CX0 3 T.f_exchanged T.d_exchanged ["first", "second"] (spTwo exchP) := by
  have G_can_exchange := ok_can_exchange (P := P) (w := w) (base := base) T
  refine T.F_exchanged.ok sc_exchanged (fun vs H Q E h => ?_) (fun cdv A outer s H vs Q E hr h => ?_)
  · obtain ⟨x, y, g, h, rfl, _⟩ := h
    rfl
  · obtain ⟨x, y, g, h, rfl, hx, hy, gg, gh, q⟩ := h
    refine ⟨_, (pss_one (ps_ret (pe_ifExp (pt_val (pe_call G_can_exchange (hr.mono (by omega)) (by rfl) T.g_can_exchange T.F_can_exchange.kp T.b_can_exchange .nil pass0 (pa_cons (pv 0) (pa_cons (pv 1) pa_nil)))) (pe_tup (pa_cons (pv 1) (pa_cons (pv 0) pa_nil))) pe_non))), ?_⟩
    refine ⟨_, rfl, _, rfl, x, y, g, h, rfl, hx, hy, gg, gh, fun H1 k1 => ⟨_, rfl, ?_⟩⟩
    by_cases e : freeP g h = true
    · refine ite_t e ⟨_, rfl, _, rfl, sz2, fun p np => ?_⟩
      have k2 := k1.trans (KT.new [] np (o := .tup [y, x]))
      refine q _ _ k2 ?_
      unfold exchP
      rw [if_pos e]
      exact ⟨p, _, rfl, upd_same, .cons (hy.keep k2) (.cons (hx.keep k2) .nil)⟩
    · refine ite_f e ?_
      refine q _ _ k1 ?_
      unfold exchP
      rw [if_neg e]
      rfl
end

end My

set_option Elab.async false
set_option linter.all false
set_option maxRecDepth 100000
namespace My
open PySem PySem.Spec PyProof.Rows L2
def spOth : Sp := fun vs H Q _ => ∃ (x : V) (c : Ct), vs = [x] ∧ PrV H x c ∧ ∀ v H', KT [] H H' → PrV H' v (c.1, !c.2) → Q v H'
def OpG1 (H : Hp) (v : V) : Option Gt → Prop
  | none => v = .non
  | some g => GtV H v g
def spMg : Sp := fun vs H Q _ => ∃ (x y : V) (g h : Gt), vs = [x, y] ∧ GtV H x g ∧ GtV H y h ∧ GdN g ∧ GdN h ∧ ∀ v H', KT [] H H' → OpG1 H' v (mergeP g h) → Q v H'
def mergedP (g h : Gt) : Option (List Gt) := (mergeP g h).map fun k => [k]
theorem prv_dp {K : PySem.W.Frag} {H : Hp} {v : V} {c : Ct} (h : PrV H v c) : Dp K H v (ctD c) := ct_dp h
/-- what merge does by the numbers of what is left and right -/
theorem merge_no {g h : Gt} (e : g.1 = h.1) (h1 : ¬ ((leftP g.2 h.2).length = 1 ∧ (leftP h.2 g.2).length = 1 ∧ ((leftP g.2 h.2).map (·.1)) = (leftP h.2 g.2).map (·.1))) (h2 : (leftP g.2 h.2).length + (leftP h.2 g.2).length ≠ 1) : mergeP g h = none := by
  unfold mergeP
  rw [if_neg (by simpa using e)]
  match a : leftP g.2 h.2, b : leftP h.2 g.2 with
  | [], [] => rfl
  | [c], [d] =>
    rw [a, b] at h1
    show (if c.1 = d.1 then _ else none) = none
    refine if_neg fun z => h1 ⟨rfl, rfl, ?_⟩
    show [c.1] = [d.1]
    rw [z]
  | [c], [] => rw [a, b] at h2; exact absurd rfl h2
  | [], [d] => rw [a, b] at h2; exact absurd rfl h2
  | _ :: _ :: _, [] => rfl
  | _ :: _ :: _, _ :: _ => rfl
  | [], _ :: _ :: _ => rfl
  | [_], _ :: _ :: _ => rfl
section
variable {P : Program} {w : World} {K : PySem.W.Frag} {mg : Str → Option Value} {base : Heap}
theorem ok_other (T : Txt K mg) : FnOk P w K mg base CX0 1 T.f_other_value T.d_other_value ["control"] spOth := by
  refine T.F_other_value.ok sc_other_value (fun vs H Q E h => ?_) (fun cdv A outer s H vs Q E hr h => ?_)
  · obtain ⟨x, c, rfl, _⟩ := h
    rfl
  · obtain ⟨x, c, rfl, ⟨t, rfl, ht⟩, q⟩ := h
    refine ⟨_, (pss_one (ps_ret (pe_tup (pa_cons (pe_ix ix_tup (pv 0) pe_int (fun _ _ => rfl)) (pa_cons (pe_op op_sub pe_int (pe_ix ix_tup (pv 0) pe_int (fun _ _ => rfl))) pa_nil))))), ?_⟩
    refine ⟨_, rfl, t, _, _, _, rfl, rfl, SqT.of ht, rfl, _, rfl, t, _, _, _, rfl, rfl, SqT.of ht, rfl, _, _, rfl, rfl, sz2, fun p np => ?_⟩
    refine q _ _ (KT.new [] np) ⟨p, rfl, ?_⟩
    rw [upd_same]
    show some (HO.tup [V.int (c.1 : Int), V.int (1 - b2 c.2)]) = _
    rw [b2_not]
theorem len1 {us : List V} {l : List Ct} {R : V → Ct → Prop} (h : P2 R us l) : (decide (V.int (us.length : Int) = V.int 1)) = decide (l.length = 1) := by
  rw [h.len]
  by_cases e : l.length = 1
  · rw [e]; rfl
  · rw [decide_eq_false e, decide_eq_false]
    intro z
    have := V.int.inj z
    omega
set_option maxHeartbeats 4000000 in
theorem ok_merged_gate (T : Txt K mg) : FnOk P w K mg base CX0 2 T.f_merged_gate T.d_merged_gate ["first", "second"] spMg := by
  have G_other_value := ok_other (P := P) (w := w) (base := base) T
  refine T.F_merged_gate.ok sc_merged_gate (fun vs H Q E h => ?_) (fun cdv A outer s H vs Q E hr h => ?_)
  · obtain ⟨x, y, g, h, rfl, _⟩ := h
    rfl
  · obtain ⟨x, y, g, h, rfl, hx, hy, ⟨gg, gl⟩, ⟨gh, hl⟩, q⟩ := h
    obtain ⟨t, u, rfl, ht, hu⟩ := hx.ctl
    obtain ⟨t2, u2, rfl, ht2, hu2⟩ := hy.ctl
    refine ⟨_, (pss_cons (ps_if (pt_cmpR op_ne (pe_ix ix_tup (pv 0) pe_int (fun _ _ => rfl)) (pe_ix ix_tup (pv 1) pe_int (fun _ _ => rfl)) (nomark _))
        (pss_one (ps_ret pe_non))
        pss_nil)
      (pss_cons (ps_asg (pv 0) (pg_tup (by rfl) (pgs_cons (pg_name (i := 2) sc_merged_gate.nd rfl (Or.inl rfl)) (pgs_cons (pg_name (i := 3) sc_merged_gate.nd rfl (Or.inr rfl)) pgs_nil))))
      (pss_cons (ps_set (i := 4) sc_merged_gate.nd rfl (Or.inr rfl) (pe_ix ix_tup (pv 1) pe_int (fun _ _ => rfl)))
      (pss_cons (ps_setLc (i := 5) (own := [("control", 9)]) (g := gName 9) rfl sc_merged_gate.nd rfl rfl (sw_true rfl rfl rfl (by decide +kernel)) (pi_tup (pv 3)) (blkOk_by (own := [("control", 9)]) (N := N_merged_gate) (sc := defScope s_merged_gate) (by decide +kernel)) (fun _ _ _ _ _ => (pg_name (i := 9) sc_merged_gate.nd rfl (Or.inl rfl))) (fun _ _ _ _ _ => (pts_one (pt_cmpR (notInDK (K := K) rfl (u70 hr)) (pv 9) (pv 4) (by rfl)))) (fun _ _ _ _ _ => (pv 9)))
      (pss_cons (ps_setLc (i := 6) (own := [("control", 9)]) (g := gName 9) rfl sc_merged_gate.nd rfl rfl (sw_true rfl rfl rfl (by decide +kernel)) (pi_tup (pv 4)) (blkOk_by (own := [("control", 9)]) (N := N_merged_gate) (sc := defScope s_merged_gate) (by decide +kernel)) (fun _ _ _ _ _ => (pg_name (i := 9) sc_merged_gate.nd rfl (Or.inl rfl))) (fun _ _ _ _ _ => (pts_one (pt_cmpR (notInDK (K := K) rfl (u70 hr)) (pv 9) (pv 3) (by rfl)))) (fun _ _ _ _ _ => (pv 9)))
      (pss_cons (ps_if (pt_cut (PW.pt (pw_and (pt_cmpR op_eq (pe_callB call_len_seq (by rfl) T.m_len (by decide +kernel) (pa_cons (pv 5) pa_nil)) pe_int (nomark _)) (pw_and (pt_cmpR op_eq (pe_callB call_len_seq (by rfl) T.m_len (by decide +kernel) (pa_cons (pv 6) pa_nil)) pe_int (nomark _)) (pw_and1 (pt_cmpR op_eq (pe_ix ix_tup (pe_ix ix_list (pv 5) pe_int (fun _ _ => rfl)) pe_int (fun _ _ => rfl)) (pe_ix ix_tup (pe_ix ix_list (pv 6) pe_int (fun _ _ => rfl)) pe_int (fun _ _ => rfl)) (nomark _)))))))
        (pss_one (ps_ret (pe_tup (pa_cons (pv 2) (pa_cons (pe_callTy call_tupleF (by rfl) T.m_tuple (by decide +kernel) (pa_cons (pe_lc (own := [("control", 9)]) (g := gName 9) (by rfl) sc_merged_gate.nd (pi_tup (pv 3)) (blkOk_by (own := [("control", 9)]) (N := N_merged_gate) (sc := defScope s_merged_gate) (by decide +kernel)) (fun _ _ _ _ _ => (pg_name (i := 9) sc_merged_gate.nd rfl (Or.inl rfl))) (fun _ _ _ _ _ => (pts_one (pt_cmpR (inDK (K := K) rfl (u70 hr)) (pv 9) (pv 4) (by rfl)))) (fun _ _ _ _ _ => (pv 9))) pa_nil)) pa_nil)))))
        pss_nil)
      (pss_cons (ps_if (pt_cmpR op_ne (pe_op op_add (pe_callB call_len_seq (by rfl) T.m_len (by decide +kernel) (pa_cons (pv 5) pa_nil)) (pe_callB call_len_seq (by rfl) T.m_len (by decide +kernel) (pa_cons (pv 6) pa_nil))) pe_int (nomark _))
        (pss_one (ps_ret pe_non))
        pss_nil)
      (pss_cons (ps_set (i := 7) sc_merged_gate.nd rfl (Or.inr rfl) (pe_ix ix_list (pe_op op_cat (pv 5) (pv 6)) pe_int (fun _ _ => rfl)))
      (pss_cons (ps_set (i := 8) sc_merged_gate.nd rfl (Or.inl rfl) (pe_cut (pe_ifExp (pt_truthK (K := K) rfl 5) (pv 3) (pv 4))))
      (pss_one (ps_ret (pe_tup (pa_cons (pv 2) (pa_cons (pe_callTy call_tupleF (by rfl) T.m_tuple (by decide +kernel) (pa_cons (pe_lc (own := [("control", 9)]) (g := gName 9) (by rfl) sc_merged_gate.nd (pi_tup (pv 8)) (blkOk_by (own := [("control", 9)]) (N := N_merged_gate) (sc := defScope s_merged_gate) (by decide +kernel)) (fun _ _ _ _ _ => (pg_name (i := 9) sc_merged_gate.nd rfl (Or.inl rfl))) (fun _ _ _ _ _ => pts_nil) (fun _ _ _ _ _ => (pe_ifExp (pt_cmpR (opED (K := K) rfl hr.units) (pv 9) (pv 7) (nomark _)) (pe_call G_other_value (hr.mono (by omega)) (by rfl) T.g_other_value T.F_other_value.kp T.b_other_value .nil pass0 (pa_cons (pv 9) pa_nil)) (pv 9)))) pa_nil)) pa_nil)))))))))))))), ?_⟩
    refine ⟨_, rfl, t, _, _, _, rfl, rfl, SqT.of ht, rfl, _, rfl, t2, _, _, _, rfl, rfl, SqT.of ht2, rfl, rfl, _, rfl, ?_⟩
    by_cases e : g.1 = h.1
    case neg =>
      refine ite_t ?_ (q _ _ (.refl _ _) ?_)
      · show (!decide (V.int (g.1 : Int) = V.int (h.1 : Int))) = true
        rw [eqN, decide_eq_false e]
        rfl
      · unfold mergeP
        rw [if_pos e]
        rfl
    refine ite_f ?_ ?_
    · show ¬ (!decide (V.int (g.1 : Int) = V.int (h.1 : Int))) = true
      rw [eqN, decide_eq_true e]
      decide
    refine ⟨_, rfl, t, _, rfl, SqT.of ht, rfl, _, _, rfl, _, _, rfl, rfl, ?_⟩
    refine ⟨_, rfl, t2, _, _, _, rfl, rfl, SqT.of ht2, rfl, ?_⟩
    obtain ⟨us, f1, p1⟩ := id hu
    obtain ⟨ws, f2, p2⟩ := id hu2
    have lp1 := p1.len
    have lp2 := p2.len
    -- left
    refine ⟨_, rfl, u, rfl, ⟨_, f1.sq⟩, fun Lf nLf => ?_⟩
    refine lc_it (walk_tup (K := K) (a := u) (xs := us)) (fun i H1 => ∃ ls, KT [] H H1 ∧ H1 Lf = some (.lst ls) ∧ P2 (PrV H1) ls (leftP (g.2.take i) h.2) ∧ ls.length ≤ i) ?_ ?_ ?_ ?_
    · exact ⟨[], KT.new _ nLf, upd_same, .nil, Nat.le_refl _⟩
    · rintro i H1 _ ⟨ls, k, _⟩
      exact (k.fzT f1).sq
    · rintro i x H1 H2 hi ⟨ls, k, hL, hls, hll⟩ ⟨rfl, hx⟩
      obtain ⟨c, hc1, hc2⟩ := p1.get hx
      have hc3 := hc2.keep k
      refine ⟨rfl, _, rfl, _, rfl, ctD c, h.2.map ctD, ct_dp hc3, (hu2.keep k).dp, shaped_ct c, shaped_cts _, _, rfl, ?_⟩
      rw [ct_any]
      have et : leftP (g.2.take (i + 1)) h.2 = leftP (g.2.take i) h.2 ++ leftP [c] h.2 := by
        rw [List.take_succ, hc1]
        exact List.filter_append ..
      by_cases m : c ∈ h.2
      · refine ite_f (by rw [decide_eq_true m]; decide) ⟨ls, k, hL, ?_, by omega⟩
        rw [et, show leftP [c] h.2 = [] from List.filter_cons_of_neg (by simpa using m), List.append_nil]
        exact hls
      · refine ite_t (by rw [decide_eq_false m]; rfl) ⟨_, rfl, ls, hL, small_int (by omega), ls ++ [x], k.late nLf, upd_same, ?_, by rw [List.length_append, List.length_singleton]; omega⟩
        rw [et, show leftP [c] h.2 = [c] from List.filter_cons_of_pos (by simpa using m)]
        exact (hls.snoc hc3).mono fun _ _ => .put hL
    rintro H1 ⟨ls, k1, hL1, hls, _⟩
    rw [p1.len, List.take_length] at hls
    -- right
    refine ⟨_, rfl, u2, rfl, ⟨_, (k1.fzT f2).sq⟩, fun Rt nRt => ?_⟩
    refine lc_it (walk_tup (K := K) (a := u2) (xs := ws)) (fun i H2 => ∃ rs, KT [] H1 H2 ∧ H2 Rt = some (.lst rs) ∧ P2 (PrV H2) rs (leftP (h.2.take i) g.2) ∧ rs.length ≤ i) ?_ ?_ ?_ ?_
    · exact ⟨[], KT.new _ nRt, upd_same, .nil, Nat.le_refl _⟩
    · rintro i H2 _ ⟨rs, k, _⟩
      exact (k.fzT (k1.fzT f2)).sq
    · rintro i x H2 H3 hi ⟨rs, k, hR, hrs, hrl⟩ ⟨rfl, hx⟩
      obtain ⟨c, hc1, hc2⟩ := p2.get hx
      have hc3 := (hc2.keep k1).keep k
      refine ⟨rfl, _, rfl, _, rfl, ctD c, g.2.map ctD, ct_dp hc3, ((hu.keep k1).keep k).dp, shaped_ct c, shaped_cts _, _, rfl, ?_⟩
      rw [ct_any]
      have et : leftP (h.2.take (i + 1)) g.2 = leftP (h.2.take i) g.2 ++ leftP [c] g.2 := by
        rw [List.take_succ, hc1]
        exact List.filter_append ..
      by_cases m : c ∈ g.2
      · refine ite_f (by rw [decide_eq_true m]; decide) ⟨rs, k, hR, ?_, by omega⟩
        rw [et, show leftP [c] g.2 = [] from List.filter_cons_of_neg (by simpa using m), List.append_nil]
        exact hrs
      · refine ite_t (by rw [decide_eq_false m]; rfl) ⟨_, rfl, rs, hR, small_int (by omega), rs ++ [x], k.late nRt, upd_same, ?_, by rw [List.length_append, List.length_singleton]; omega⟩
        rw [et, show leftP [c] g.2 = [c] from List.filter_cons_of_pos (by simpa using m)]
        exact (hrs.snoc hc3).mono fun _ _ => .put hR
    rintro H2 ⟨rs, k2, hR2, hrs, _⟩
    rw [p2.len, List.take_length] at hrs
    have k12 := k1.trans k2
    have hL2 := k2.same _ _ hL1
    have hls2 : P2 (PrV H2) ls (leftP g.2 h.2) := hls.mono fun _ _ => .keep k2
    clear hls hL1
    obtain ⟨l, el⟩ : ∃ l, leftP g.2 h.2 = l := ⟨_, rfl⟩
    obtain ⟨r, er⟩ : ∃ r, leftP h.2 g.2 = r := ⟨_, rfl⟩
    rw [el] at hls2
    rw [er] at hrs
    have bl : l.length ≤ g.2.length := by rw [← el]; exact List.length_filter_le _ _
    have br : r.length ≤ h.2.length := by rw [← er]; exact List.length_filter_le _ _
    -- one and one on the same wire
    refine ⟨fun b H' => b = decide (l.length = 1 ∧ r.length = 1 ∧ l.map (·.1) = r.map (·.1)) ∧ H' = H2, ?_, ?_⟩
    · refine ⟨_, rfl, _, _, rfl, .inl (SqL.of hL2), rfl, _, rfl, ?_⟩
      rw [len1 hls2]
      by_cases e1 : l.length = 1
      case neg => exact ite_f (by rw [decide_eq_false e1]; decide) ⟨(decide_eq_false fun z => e1 z.1).symm, rfl⟩
      refine ite_t (decide_eq_true e1) ⟨_, rfl, _, _, rfl, .inl (SqL.of hR2), rfl, _, rfl, ?_⟩
      rw [len1 hrs]
      by_cases e2 : r.length = 1
      case neg => exact ite_f (by rw [decide_eq_false e2]; decide) ⟨(decide_eq_false fun z => e2 z.2.1).symm, rfl⟩
      obtain ⟨c, rfl⟩ : ∃ c, l = [c] := List.length_eq_one_iff.mp e1
      obtain ⟨d, rfl⟩ : ∃ d, r = [d] := List.length_eq_one_iff.mp e2
      obtain ⟨v1, h1, hc⟩ : ∃ v1, ls = [v1] ∧ PrV H2 v1 c := by
        cases hls2 with
        | cons a b => cases b; exact ⟨_, rfl, a⟩
      obtain ⟨v2, h2, hd⟩ : ∃ v2, rs = [v2] ∧ PrV H2 v2 d := by
        cases hrs with
        | cons a b => cases b; exact ⟨_, rfl, a⟩
      subst h1 h2
      obtain ⟨a1, rfl, ha1⟩ := hc
      obtain ⟨a2, rfl, ha2⟩ := hd
      refine ite_t (decide_eq_true e2) ⟨_, rfl, Lf, _, _, _, rfl, rfl, SqL.of hL2, rfl, a1, _, _, _, rfl, rfl, SqT.of ha1, rfl, _, rfl, Rt, _, _, _, rfl, rfl, SqL.of hR2, rfl, a2, _, _, _, rfl, rfl, SqT.of ha2, rfl, rfl, _, rfl, ?_, rfl⟩
      show decide (V.int (c.1 : Int) = V.int (d.1 : Int)) = _
      rw [eqN]
      by_cases z : c.1 = d.1
      · rw [decide_eq_true z, decide_eq_true]
        exact ⟨rfl, rfl, by show [c.1] = [d.1]; rw [z]⟩
      · rw [decide_eq_false z, decide_eq_false]
        intro y
        exact z (List.cons.inj y.2.2).1
    rintro _ H2' ⟨rfl, eH⟩
    have eH := eH.symm
    subst eH
    by_cases ca : l.length = 1 ∧ r.length = 1 ∧ l.map (·.1) = r.map (·.1)
    case pos =>
      refine ite_t (decide_eq_true ca) ?_
      obtain ⟨ca1, ca2, ca3⟩ := ca
      obtain ⟨c, rfl⟩ : ∃ c, l = [c] := List.length_eq_one_iff.mp ca1
      obtain ⟨d, rfl⟩ : ∃ d, r = [d] := List.length_eq_one_iff.mp ca2
      have em : mergeP g h = some (g.1, g.2.filter fun c => decide (c ∈ h.2)) := by
        unfold mergeP
        rw [if_neg (by simpa using e), el, er]
        show (if c.1 = d.1 then _ else none) = _
        rw [if_pos (List.cons.inj ca3).1]
      refine ⟨_, rfl, _, rfl, u, rfl, ⟨_, (k12.fzT f1).sq⟩, fun M nM => ?_⟩
      refine lc_it (walk_tup (K := K) (a := u) (xs := us)) (fun i H3 => ∃ ms, KT [] H2 H3 ∧ H3 M = some (.lst ms) ∧ P2 (PrV H3) ms ((g.2.take i).filter fun c => decide (c ∈ h.2)) ∧ ms.length ≤ i) ?_ ?_ ?_ ?_
      · exact ⟨[], KT.new _ nM, upd_same, .nil, Nat.le_refl _⟩
      · rintro i H3 _ ⟨ms, k, _⟩
        exact (k.fzT (k12.fzT f1)).sq
      · rintro i x H3 H4 hi ⟨ms, k, hM, hms, hml⟩ ⟨rfl, hx⟩
        obtain ⟨c, hc1, hc2⟩ := p1.get hx
        have hc3 := (hc2.keep k12).keep k
        refine ⟨rfl, _, rfl, _, rfl, ctD c, h.2.map ctD, ct_dp hc3, ((hu2.keep k12).keep k).dp, shaped_ct c, shaped_cts _, _, rfl, ?_⟩
        rw [ct_any]
        have et : ((g.2.take (i + 1)).filter fun c => decide (c ∈ h.2)) = ((g.2.take i).filter fun c => decide (c ∈ h.2)) ++ [c].filter fun c => decide (c ∈ h.2) := by
          rw [List.take_succ, hc1]
          exact List.filter_append ..
        by_cases m : c ∈ h.2
        · refine ite_t (by rw [decide_eq_true m]; rfl) ⟨_, rfl, ms, hM, small_int (by omega), ms ++ [x], k.late nM, upd_same, ?_, by rw [List.length_append, List.length_singleton]; omega⟩
          rw [et, List.filter_cons_of_pos (by simpa using m)]
          exact (hms.snoc hc3).mono fun _ _ => .put hM
        · refine ite_f (by rw [decide_eq_false m]; decide) ⟨ms, k, hM, ?_, by omega⟩
          rw [et, List.filter_cons_of_neg (by simpa using m), List.filter_nil, List.append_nil]
          exact hms
      rintro H3 ⟨ms, k, hM, hms, _⟩
      rw [p1.len, List.take_length] at hms
      refine ⟨M, ms, rfl, SqL.of hM, fun w1 ob nw hob => ⟨sz2, fun p np => ?_⟩⟩
      have kk := (KT.new [] nw (o := .frz ob (.tup ms))).trans (KT.new [] np (o := .tup [.int g.1, .ref w1]))
      refine q _ _ ((k12.trans k).trans kk) ?_
      rw [em]
      exact ⟨p, w1, ms, rfl, upd_same, (KT.new [] np).fzT (.new hob), prs_keep kk hms⟩
    refine ite_f (by rw [decide_eq_false ca]; decide) ?_
    -- one in all
    refine ⟨_, rfl, _, _, rfl, .inl (SqL.of hL2), _, rfl, _, _, rfl, .inl (SqL.of hR2), _, _, rfl, rfl, rfl, _, rfl, ?_⟩
    have es : (!decide (V.int ((ls.length : Int) + (rs.length : Int)) = V.int 1)) = decide (l.length + r.length ≠ 1) := by
      rw [hls2.len, hrs.len]
      by_cases z : l.length + r.length = 1
      · rw [decide_eq_false (p := l.length + r.length ≠ 1) (fun y => y z), decide_eq_true]
        · rfl
        · rw [show ((l.length : Int) + (r.length : Int)) = 1 by omega]
      · rw [decide_eq_true (p := l.length + r.length ≠ 1) z, decide_eq_false]
        · rfl
        · intro y
          have := V.int.inj y
          omega
    by_cases cb : l.length + r.length = 1
    case neg =>
      refine ite_t (es.trans (decide_eq_true cb)) (q _ _ k12 ?_)
      rw [merge_no e (by rw [el, er]; exact ca) (by rw [el, er]; exact cb)]
      rfl
    refine ite_f (not_bl (es.trans (decide_eq_false fun y => y cb))) ?_
    -- the one more
    obtain ⟨x, lr, cs', uw, ex, em, hx', hcu⟩ : ∃ (x : Ct) (lr : l ++ r = [x]) (cs' : List Ct) (uw : Addr), (if (!ls.isEmpty) = true then u else u2) = uw ∧ mergeP g h = some (g.1, flipP x cs') ∧ cs'.length ≤ 1000 ∧ CtlV H2 uw cs' := by
      unfold mergeP
      rw [el, er]
      cases l with
      | nil =>
        obtain ⟨d, rfl⟩ : ∃ d, r = [d] := List.length_eq_one_iff.mp (by simpa using cb)
        cases hls2
        exact ⟨d, rfl, h.2, u2, rfl, if_neg (by simpa using e), hl, hu2.keep k12⟩
      | cons c l' =>
        have : l' = [] ∧ r = [] := by
          rw [List.length_cons] at cb
          exact ⟨List.eq_nil_of_length_eq_zero (by omega), List.eq_nil_of_length_eq_zero (by omega)⟩
        obtain ⟨rfl, rfl⟩ := this
        cases hls2 with
        | cons a b => exact ⟨c, rfl, g.2, u, rfl, if_neg (by simpa using e), gl, hu.keep k12⟩
    have pc := hls2.app hrs
    rw [lr] at pc
    obtain ⟨v1, hv1, hvx⟩ : ∃ v1, ls ++ rs = [v1] ∧ PrV H2 v1 x := by
      cases h0 : ls ++ rs with
      | nil => rw [h0] at pc; cases pc
      | cons a b =>
        rw [h0] at pc
        cases pc with
        | cons a1 b1 => cases b1; exact ⟨a, rfl, a1⟩
    refine ⟨_, rfl, _, rfl, Lf, Rt, ls, rs, rfl, rfl, hL2, hR2, ?_, fun p np => ?_⟩
    · rw [← List.length_append, hv1]
      exact Nat.le_of_ble_eq_true rfl
    have kp := KT.new [] np (o := .lst (ls ++ rs))
    refine ⟨p, _, 0, v1, rfl, rfl, SqL.of upd_same, by rw [hv1]; rfl, ?_⟩
    have k3 := k12.trans kp
    obtain ⟨H3, e3⟩ : ∃ H3, upd H2 p (.lst (ls ++ rs)) = H3 := ⟨_, rfl⟩
    rw [e3] at kp k3 ⊢
    have hL3 := kp.same _ _ hL2
    refine ⟨fun v H' => v = .ref uw ∧ H' = H3, ⟨_, rfl, _, .inl ⟨ls, SqL.of hL3, rfl⟩, ?_⟩, ?_⟩
    · by_cases z : (!ls.isEmpty) = true
      · rw [if_pos z] at ex
        exact ite_t z ⟨_, rfl, by rw [ex], rfl⟩
      · rw [if_neg z] at ex
        exact ite_f z ⟨_, rfl, by rw [ex], rfl⟩
    rintro _ H3' ⟨rfl, eH⟩
    have eH := eH.symm
    subst eH
    obtain ⟨cvs, f3, p3⟩ := hcu.keep kp
    have hvx3 := hvx.keep kp
    have lcv := p3.len
    refine ⟨_, rfl, _, rfl, uw, rfl, ⟨_, f3.sq⟩, fun M nM => ?_⟩
    refine lc_it (walk_tup (K := K) (a := uw) (xs := cvs)) (fun i H4 => ∃ ms, KT [] H3 H4 ∧ H4 M = some (.lst ms) ∧ P2 (PrV H4) ms (flipP x (cs'.take i)) ∧ ms.length ≤ i) ?_ ?_ ?_ ?_
    · exact ⟨[], KT.new _ nM, upd_same, .nil, Nat.le_refl _⟩
    · rintro i H4 _ ⟨ms, k, _⟩
      exact (k.fzT f3).sq
    · rintro i y H4 H5 hi ⟨ms, k, hM, hms, hml⟩ ⟨rfl, hy⟩
      obtain ⟨c, hc1, hc2⟩ := p3.get hy
      have hc3 := hc2.keep k
      have et : flipP x (cs'.take (i + 1)) = flipP x (cs'.take i) ++ [if c = x then (c.1, !c.2) else c] := by
        unfold flipP
        rw [List.take_succ, hc1, List.map_append]
        rfl
      refine ⟨rfl, _, rfl, _, rfl, ctD c, ctD x, ct_dp hc3, ct_dp (hvx3.keep k), shaped_ct c, shaped_ct x, _, rfl, ?_⟩
      rw [ct_eqv]
      by_cases z : c = x
      · refine ite_t (decide_eq_true z) ⟨_, rfl, y, c, rfl, hc3, fun v H6 k6 hv => ?_⟩
        have hM6 := k6.same _ _ hM
        refine ⟨ms, hM6, small_int (by omega), ms ++ [v], (k.trans k6).late nM, upd_same, ?_, by rw [List.length_append, List.length_singleton]; omega⟩
        rw [et, if_pos z]
        exact ((prs_keep k6 hms).snoc hv).mono fun _ _ => .put hM6
      · refine ite_f (by rw [decide_eq_false z]; decide) ⟨_, rfl, ms, hM, small_int (by omega), ms ++ [y], k.late nM, upd_same, ?_, by rw [List.length_append, List.length_singleton]; omega⟩
        rw [et, if_neg z]
        exact (hms.snoc hc3).mono fun _ _ => .put hM
    rintro H4 ⟨ms, k, hM, hms, _⟩
    rw [lcv, List.take_length] at hms
    refine ⟨M, ms, rfl, SqL.of hM, fun w1 ob nw hob => ⟨sz2, fun p' np' => ?_⟩⟩
    have kk := (KT.new [] nw (o := .frz ob (.tup ms))).trans (KT.new [] np' (o := .tup [.int g.1, .ref w1]))
    refine q _ _ ((k3.trans k).trans kk) ?_
    rw [em]
    exact ⟨p', w1, ms, rfl, upd_same, (KT.new [] np').fzT (.new hob), prs_keep kk hms⟩
theorem ok_merged (T : Txt K mg) : FnOk P w K mg base CX0 3 T.f_merged T.d_merged ["first", "second"] (spTwo mergedP) := by
  have G_merged_gate := ok_merged_gate (P := P) (w := w) (base := base) T
  refine T.F_merged.ok sc_merged (fun vs H Q E h => ?_) (fun cdv A outer s H vs Q E hr h => ?_)
  · obtain ⟨x, y, g, h, rfl, _⟩ := h
    rfl
  · obtain ⟨x, y, g, h, rfl, hx, hy, gg, gh, q⟩ := h
    refine ⟨_, (pss_cons (ps_set (i := 2) sc_merged.nd rfl (Or.inl rfl) (pe_call G_merged_gate (hr.mono (by omega)) (by rfl) T.g_merged_gate T.F_merged_gate.kp T.b_merged_gate .nil pass0 (pa_cons (pv 0) (pa_cons (pv 1) pa_nil))))
      (pss_one (ps_ret (pe_ifExp (pt_cmpR op_isN (pv 2) pe_non (nomark _)) pe_non (pe_tup (pa_cons (pv 2) pa_nil)))))), ?_⟩
    refine ⟨_, rfl, _, rfl, x, y, g, h, rfl, hx, hy, gg, gh, fun v H1 k1 hv => ?_⟩
    cases e : mergeP g h with
    | none =>
      rw [e] at hv
      cases (show v = .non from hv)
      refine ⟨_, rfl, rfl, _, rfl, ite_t rfl (q _ _ k1 ?_)⟩
      unfold mergedP
      rw [e]
      rfl
    | some k =>
      rw [e] at hv
      obtain ⟨t, u, us, rfl, ht, hu, hP⟩ := (show GtV H1 v k from hv)
      refine ⟨_, rfl, rfl, _, rfl, ite_f (by simp) ⟨_, rfl, sz1, fun p np => ?_⟩⟩
      have kp := KT.new [] np (o := .tup [.ref t])
      refine q _ _ (k1.trans kp) ?_
      unfold mergedP
      rw [e]
      exact ⟨p, _, rfl, upd_same, .cons ⟨t, u, us, rfl, kp.tp _ _ ht, kp.fzT hu, prs_keep kp hP⟩ .nil⟩
end

end My

set_option Elab.async false
set_option linter.all false
set_option maxRecDepth 100000
namespace My
open PySem PySem.Spec PyProof.Rows L2
/-! ### dicts of controls, changed -/
def putC (cs : List Ct) (n : Nat) (b : Bool) : List Ct := if n ∈ cs.map (·.1) then cs.map (fun c => if c.1 = n then (c.1, b) else c) else cs ++ [(n, b)]
theorem dkC_putC (cs : List Ct) (n : Nat) (b : Bool) : putK (dkC cs) (Sum.inl (n : Int)) (V.int (b2 b)) = dkC (putC cs n b) := by
  unfold putC
  by_cases h : n ∈ cs.map (·.1)
  · rw [if_pos h]
    unfold putK
    rw [if_pos]
    · unfold dkC kvC
      rw [List.map_map, List.map_map, List.map_map, List.map_map]
      refine List.map_congr_left fun c _ => ?_
      simp only [Function.comp]
      by_cases e : c.1 = n
      · rw [if_pos (by rw [e]), if_pos e]
      · rw [if_neg (fun z => e (by have := Sum.inl.inj z; omega)), if_neg e]
    · obtain ⟨c, hc, e⟩ := List.mem_map.mp h
      refine List.any_eq_true.mpr ⟨(Sum.inl (c.1 : Int), V.int (b2 c.2)), ?_, decide_eq_true (by rw [e])⟩
      unfold dkC kvC
      rw [List.map_map]
      exact List.mem_map.mpr ⟨c, hc, rfl⟩
  · rw [if_neg h]
    exact dkC_put (c := (n, b)) h
theorem mem_putC {cs : List Ct} {n : Nat} {b : Bool} {c : Ct} : c ∈ putC cs n b ↔ c = (n, b) ∨ (c ∈ cs ∧ c.1 ≠ n) := by
  unfold putC
  by_cases h : n ∈ cs.map (·.1)
  · rw [if_pos h, List.mem_map]
    constructor
    · rintro ⟨d, hd, rfl⟩
      by_cases e : d.1 = n
      · rw [if_pos e]; exact .inl (by rw [e])
      · rw [if_neg e]; exact .inr ⟨hd, e⟩
    · rintro (rfl | ⟨h1, h2⟩)
      · obtain ⟨d, hd, e⟩ := List.mem_map.mp h
        exact ⟨d, hd, by rw [if_pos e, e]⟩
      · exact ⟨c, h1, by rw [if_neg h2]⟩
  · rw [if_neg h, List.mem_append, List.mem_singleton]
    constructor
    · rintro (h1 | h1)
      · exact .inr ⟨h1, fun z => h (List.mem_map.mpr ⟨c, h1, z⟩)⟩
      · exact .inl h1
    · rintro (h1 | h1)
      · exact .inr h1
      · exact .inl h1.1
theorem nodup_putC {cs : List Ct} (nd : (cs.map (·.1)).Nodup) (n : Nat) (b : Bool) : ((putC cs n b).map (·.1)).Nodup := by
  unfold putC
  by_cases h : n ∈ cs.map (·.1)
  · rw [if_pos h, List.map_map]
    have : (cs.map ((·.1) ∘ fun c : Ct => if c.1 = n then (c.1, b) else c)) = cs.map (·.1) := List.map_congr_left fun c _ => by
      simp only [Function.comp]
      split <;> rfl
    rw [this]
    exact nd
  · rw [if_neg h, List.map_append]
    refine List.nodup_append.mpr ⟨nd, List.nodup_cons.mpr ⟨by simp, .nil⟩, fun a ha x hx z => ?_⟩
    rw [List.mem_singleton.mp hx] at z
    have z : a = n := z
    exact h (by rw [← z]; exact ha)
def mergeC (cs ds : List Ct) : List Ct := ds.foldl (fun acc c => putC acc c.1 c.2) cs
theorem dkC_mergeC : ∀ (ds cs : List Ct), mergeK (dkC cs) (dkC ds) = dkC (mergeC cs ds)
  | [], _ => rfl
  | d :: r, cs => by
    show mergeK (putK (dkC cs) (Sum.inl (d.1 : Int)) (V.int (b2 d.2))) (dkC r) = _
    rw [dkC_putC]
    exact dkC_mergeC r _
theorem mem_mergeC : ∀ {ds cs : List Ct}, (ds.map (·.1)).Nodup → ∀ {c : Ct}, c ∈ mergeC cs ds ↔ c ∈ ds ∨ (c ∈ cs ∧ c.1 ∉ ds.map (·.1))
  | [], cs, _, c => by simp [mergeC]
  | d :: r, cs, nd, c => by
    rw [List.map_cons, List.nodup_cons] at nd
    show c ∈ mergeC (putC cs d.1 d.2) r ↔ _
    rw [mem_mergeC nd.2, mem_putC, List.mem_cons, List.map_cons, List.mem_cons]
    constructor
    · rintro (h | ⟨h | ⟨h1, h2⟩, h3⟩)
      · exact .inl (.inr h)
      · exact .inl (.inl h)
      · exact .inr ⟨h1, fun z => z.elim h2 h3⟩
    · rintro ((h | h) | ⟨h1, h2⟩)
      · exact .inr ⟨.inl h, by rw [h]; exact nd.1⟩
      · exact .inl h
      · exact .inr ⟨.inr ⟨h1, fun z => h2 (.inl z)⟩, fun z => h2 (.inr z)⟩
theorem nodup_mergeC : ∀ (ds : List Ct) {cs : List Ct}, (cs.map (·.1)).Nodup → ((mergeC cs ds).map (·.1)).Nodup
  | [], _, h => h
  | d :: r, _, h => nodup_mergeC r (nodup_putC h d.1 d.2)
theorem len_putC (cs : List Ct) (n : Nat) (b : Bool) : (putC cs n b).length ≤ cs.length + 1 := by
  unfold putC
  split <;> simp
theorem len_mergeC : ∀ (ds cs : List Ct), (mergeC cs ds).length ≤ cs.length + ds.length
  | [], _ => Nat.le_refl _
  | d :: r, cs => by
    have h1 := len_mergeC r (putC cs d.1 d.2)
    have h2 := len_putC cs d.1 d.2
    rw [List.length_cons]
    show (mergeC (putC cs d.1 d.2) r).length ≤ _
    omega
theorem dkC_drop (n : Nat) : ∀ cs : List Ct, dropK (dkC cs) (Sum.inl (n : Int)) = dkC (cs.filter fun c => decide (c.1 ≠ n))
  | [] => rfl
  | c :: r => by
    unfold dropK
    rw [dkC_cons, List.filter_cons, List.filter_cons]
    have ih := dkC_drop n r
    unfold dropK at ih
    by_cases e : c.1 = n
    · rw [if_neg (by rw [e]; simp), if_neg (by simpa using e)]
      exact ih
    · rw [if_pos (by simpa using fun z => e (by omega)), if_pos (by simpa using e), ih]
      rfl
/-! ### controls in order -/
def srtC (cs : List Ct) : List Ct := cs.mergeSort fun a b => decide (a.1 ≤ b.1)
theorem srtC_perm (cs : List Ct) : (srtC cs).Perm cs := List.mergeSort_perm cs _
theorem srtC_asc {cs : List Ct} (nd : (cs.map (·.1)).Nodup) : ((srtC cs).map (·.1)).Pairwise (· < ·) := by
  have s : (srtC cs).Pairwise fun a b => decide (a.1 ≤ b.1) = true := List.pairwise_mergeSort (le := fun a b : Ct => decide (a.1 ≤ b.1)) (fun a b c h1 h2 => decide_eq_true (Nat.le_trans (of_decide_eq_true h1) (of_decide_eq_true h2))) (fun a b => by
    show (decide (a.1 ≤ b.1) || decide (b.1 ≤ a.1)) = true
    rcases Nat.le_total a.1 b.1 with h | h
    · rw [decide_eq_true h]; rfl
    · rw [decide_eq_true h]; simp) cs
  have u : ((srtC cs).map (·.1)).Pairwise (· ≤ ·) := List.pairwise_map.mpr (s.imp fun h => of_decide_eq_true h)
  exact pw_lt u ((((srtC_perm cs).map (·.1)).nodup_iff).mpr nd)
theorem srtC_eq {cs ds : List Ct} (nd : (cs.map (·.1)).Nodup) (h : (ds.map (·.1)).Pairwise (· < ·)) (m : ∀ c, c ∈ ds ↔ c ∈ cs) : ds = srtC cs := asc_eq h (srtC_asc nd) fun c => (m c).trans (srtC_perm cs).mem_iff.symm
def passC (g h : Gt) : List Ct := srtC (g.2 ++ h.2.filter fun c => decide (c.1 ≠ g.1 ∧ c.1 ∉ g.2.map (·.1)))
theorem passC_nd {g h : Gt} (gg : Gd g) (gh : Gd h) : ((g.2 ++ h.2.filter fun c => decide (c.1 ≠ g.1 ∧ c.1 ∉ g.2.map (·.1))).map (·.1)).Nodup := by
  rw [List.map_append, List.nodup_append]
  refine ⟨asc_nodup gg.1, ((asc_nodup gh.1).sublist (List.filter_sublist.map _)), fun a ha b hb z => ?_⟩
  obtain ⟨c, hc, rfl⟩ := List.mem_map.mp hb
  have := of_decide_eq_true (List.mem_filter.mp hc).2
  exact this.2 (by rw [← z]; exact ha)
theorem passC_mem {g h : Gt} (gg : Gd g) (gh : Gd h) (no : opp g.2 h.2 = false) (c : Ct) : c ∈ passC g h ↔ c ∈ g.2 ∨ (c ∈ h.2 ∧ c.1 ≠ g.1) := by
  unfold passC
  rw [(srtC_perm _).mem_iff, List.mem_append, List.mem_filter, decide_eq_true_iff]
  constructor
  · rintro (h1 | ⟨h1, h2, _⟩)
    · exact .inl h1
    · exact .inr ⟨h1, h2⟩
  · rintro (h1 | ⟨h1, h2⟩)
    · exact .inl h1
    · by_cases z : c.1 ∈ g.2.map (·.1)
      · obtain ⟨d, hd, e⟩ := List.mem_map.mp z
        have : d.2 = c.2 := Classical.byContradiction fun y => by
          have : opp g.2 h.2 = true := opp_iff.mpr ⟨d, hd, c, h1, e.symm, fun w => y w.symm⟩
          rw [no] at this
          cases this
        exact .inl (by rw [show c = d from Prod.ext e.symm this.symm]; exact hd)
      · exact .inr ⟨h1, h2, z⟩
def passP (g h : Gt) : Option (List Gt) := if passOk g h = true then some [h, g, (h.1, passC g h)] else none
theorem is_gd {g : Gt} (h : Gd g) : isGtD (gtD g) = true := by
  show (true && (true && (true && ((g.2.map ctD).all isCtD && (ascI (namesD (gtD g)) && !decide ((g.1 : Int) ∈ namesD (gtD g))))))) = true
  have e1 : (g.2.map ctD).all isCtD = true := by
    rw [List.all_map, List.all_eq_true]
    rintro ⟨x, b⟩ _
    cases b <;> rfl
  have e2 : ascI (namesD (gtD g)) = true := by
    rw [names_gt, show (g.2.map fun c => (c.1 : Int)) = (g.2.map (·.1)).map (fun (n : Nat) => (n : Int)) by rw [List.map_map]; rfl]
    exact asc_of h.1
  have e3 : decide ((g.1 : Int) ∈ namesD (gtD g)) = false := by
    rw [names_gt]
    refine decide_eq_false fun z => ?_
    obtain ⟨c, hc, e⟩ := List.mem_map.mp z
    exact h.2 c hc (by omega)
  rw [e1, e2, e3]
  rfl
theorem sm_gd {g : Gt} (h : GdN g) : SmD (gtD g) := by
  show (g.2.map ctD).length ≤ 1000
  rw [List.length_map]
  exact h.2
def spTwice (K : PySem.W.Frag) : Sp := fun vs H Q _ => ∃ (n : Int) (v : V) (d : PyData), vs = [.int n, v] ∧ Rp K H v d ∧ SmD d ∧ ∀ v' H', KT [] H H' → (if gfD n d = none then ∃ a, v' = .ref a ∧ H' a = some (.tup [v, v]) else v' = .non) → Q v' H'
def splitP (n : Nat) (g : Gt) (d : PyData) : Option (List Gt) := if isIr 0 ((n : Int) - 1) d = true ∧ (asI d).toNat ∉ wiresN g then some [(g.1, srtC (g.2 ++ [((asI d).toNat, false)])), (g.1, srtC (g.2 ++ [((asI d).toNat, true)]))] else none
def spSplit (K : PySem.W.Frag) : Sp := fun vs H Q _ => ∃ (n : Nat) (x v : V) (g : Gt) (d : PyData), vs = [.int n, x, v] ∧ GtV H x g ∧ GdN g ∧ g.2.length ≤ 900 ∧ Rp K H v d ∧ ∀ v' H', KT [] H H' → OpG H' v' (splitP n g d) → Q v' H'
section
variable {P : Program} {w : World} {K : PySem.W.Frag} {mg : Str → Option Value} {base : Heap}
set_option maxHeartbeats 1000000 in
theorem ok_passed (T : Txt K mg) : FnOk P w K mg base CX0 2 T.f_passed T.d_passed ["first", "second"] (spTwo passP) := by
  have G_wires_of := ok_wiresD (P := P) (w := w) (base := base) T
  have G_are_opposed := ok_opposed (P := P) (w := w) (base := base) T
  refine T.F_passed.ok sc_passed (fun vs H Q E h => ?_) (fun cdv A outer s H vs Q E hr h => ?_)
  · obtain ⟨x, y, g, h, rfl, _⟩ := h
    rfl
  · obtain ⟨x, y, g, h, rfl, hx, hy, gN, hN, q⟩ := h
    obtain ⟨gg, gl⟩ := id gN
    obtain ⟨gh, hl⟩ := id hN
    obtain ⟨t, u, rfl, ht, hu⟩ := hx.ctl
    obtain ⟨t2, u2, rfl, ht2, hu2⟩ := hy.ctl
    refine ⟨_, (pss_cons (ps_asg (pv 0) (pg_tup (by rfl) (pgs_cons (pg_name (i := 2) sc_passed.nd rfl (Or.inl rfl)) (pgs_cons (pg_name (i := 3) sc_passed.nd rfl (Or.inl rfl)) pgs_nil))))
      (pss_cons (ps_asg (pv 1) (pg_tup (by rfl) (pgs_cons (pg_name (i := 4) sc_passed.nd rfl (Or.inl rfl)) (pgs_cons (pg_name (i := 5) sc_passed.nd rfl (Or.inl rfl)) pgs_nil))))
      (pss_cons (ps_if (pt_cut (PW.pt (pw_or (pt_cmpR op_in_seq (pv 4) (pe_call G_wires_of (hr.mono (by omega)) (by rfl) T.g_wires_of T.F_wires_of.kp T.b_wires_of .nil pass0 (pa_cons (pv 0) pa_nil)) (by rfl)) (pw_or (pt_cmp (pc_dnotin (hu_of hr) (pv 2) (pe_callTy (call_dictF rfl) (by rfl) T.m_dict (by decide +kernel) (pa_cons (pv 5) pa_nil)))) (pw_or1 (pt_val (pe_call G_are_opposed (hr.mono (by omega)) (by rfl) T.g_are_opposed T.F_are_opposed.kp T.b_are_opposed .nil pass0 (pa_cons (pv 3) (pa_cons (pv 5) pa_nil)))))))))
        (pss_one (ps_ret pe_non))
        pss_nil)
      (pss_cons (ps_set (i := 6) sc_passed.nd rfl (Or.inl rfl) (pe_mrg (pe_callTy (call_dictF rfl) (by rfl) T.m_dict (by decide +kernel) (pa_cons (pv 3) pa_nil)) (pe_callTy (call_dictF rfl) (by rfl) T.m_dict (by decide +kernel) (pa_cons (pv 5) pa_nil))))
      (pss_cons (ps_ddel (pv 6) (pv 2))
      (pss_one (ps_ret (pe_tup (pa_cons (pv 1) (pa_cons (pv 0) (pa_cons (pe_tup (pa_cons (pv 4) (pa_cons (pe_callTy call_tupleF (by rfl) T.m_tuple (by decide +kernel) (pa_cons (pe_sortItems rfl (pv 6) (by rfl) T.m_sorted (by decide +kernel)) pa_nil)) pa_nil))) pa_nil))))))))))), ?_⟩
    refine ⟨_, rfl, t, _, rfl, SqT.of ht, rfl, _, _, rfl, _, _, rfl, rfl, ?_⟩
    refine ⟨_, rfl, t2, _, rfl, SqT.of ht2, rfl, _, _, rfl, _, _, rfl, rfl, ?_⟩
    refine ⟨fun b H' => b = !passOk g h ∧ KT [] H H', ?_, ?_⟩
    · refine ⟨_, rfl, _, rfl, .ref t, gtD g, rfl, gt_rp hx, sm_gd gN, is_gd gg, fun l H1 k1 hl1 => ?_⟩
      rw [wires_gt] at hl1
      refine ⟨l, ivs (wiresN g), rfl, .inl (SqL.of hl1), rfl, ivs_flat _, ?_⟩
      have ei : (if false = true then !inV (V.int (h.1 : Int)) (ivs (wiresN g)) else inV (V.int (h.1 : Int)) (ivs (wiresN g))) = decide (h.1 ∈ wiresN g) := by
        rw [if_neg (by decide), inV_ivs]
      rw [ei]
      refine ⟨_, rfl, ?_⟩
      by_cases e1 : h.1 ∈ wiresN g
      · refine ite_t (decide_eq_true e1) ⟨?_, k1⟩
        have : passOk g h = false := by
          unfold passOk
          rcases List.mem_cons.mp e1 with z | z
          · rw [decide_eq_false (fun y => apt_not gh.2 (by rw [z]; exact y))]
            rfl
          · rw [decide_eq_false (p := h.1 ∉ g.2.map (·.1)) (fun y => y z)]
            simp
        rw [this]
        rfl
      have e1' : h.1 ∉ g.2.map (·.1) := fun z => e1 (List.mem_cons_of_mem _ z)
      obtain ⟨ps, f1, f2⟩ := (hu2.keep k1).ps (K := K)
      refine ite_f (by rw [decide_eq_false e1]; decide) ⟨_, rfl, _, rfl, u2, ps, dkC h.2, rfl, f1, f2, fun D nD => ?_⟩
      rw [mergeK_dkC (asc_nodup gh.1)]
      refine ⟨D, _, rfl, dget_c upd_same, _, rfl, ?_⟩
      rw [getC_isSome]
      have k2 := k1.trans (KT.new [] nD (o := .dK (dkC h.2)))
      by_cases e2 : g.1 ∈ h.2.map (·.1)
      case neg =>
        refine ite_t (by rw [decide_eq_false e2]; rfl) ⟨?_, k2⟩
        have : passOk g h = false := by unfold passOk; rw [decide_eq_false e2]; rfl
        rw [this]
        rfl
      refine ite_f (by rw [decide_eq_true e2]; decide) ⟨_, rfl, _, rfl, u, u2, g.2, h.2, rfl, hu.keep k2, hu2.keep k2, asc_nodup gh.1, gl, fun H3 k3 => ⟨_, rfl, ?_, k2.trans k3⟩⟩
      unfold passOk
      rw [decide_eq_true e2, decide_eq_true e1']
      simp
    rintro _ H1 ⟨rfl, k1⟩
    by_cases ok : passOk g h = true
    case neg =>
      have okf : passOk g h = false := by simpa using ok
      refine ite_t (by rw [okf]; rfl) (q _ _ k1 ?_)
      unfold passP
      rw [if_neg ok]
      rfl
    refine ite_f (by rw [ok]; decide) ?_
    have no : opp g.2 h.2 = false := by
      unfold passOk at ok
      simp only [Bool.and_eq_true, Bool.not_eq_true'] at ok
      exact ok.2.2
    have tin : g.1 ∈ h.2.map (·.1) := of_decide_eq_true ((Bool.and_eq_true _ _).mp ok).1
    -- both
    intro B nB
    have kB := k1.trans (KT.new [] nB (o := .dK []))
    obtain ⟨ps, f1, f2⟩ := (hu.keep kB).ps (K := K)
    refine ⟨_, rfl, u, ps, dkC g.2, rfl, f1, f2, fun D nD => ?_⟩
    rw [mergeK_dkC (asc_nodup gg.1)]
    have kD := KT.new [] nD (o := .dK (dkC g.2))
    have hB1 := kD.same _ _ (upd_same : (upd H1 B (.dK [])) B = some (.dK []))
    have nDB : D ≠ B := fun z => by rw [z, upd_same] at nD; cases nD
    have nBH : H B = none := k1.free nB
    have k2 := kB.trans kD
    have ldg := dk_len g.2
    have ldh := dk_len h.2
    refine ⟨D, dkC g.2, rfl, nDB, upd_same, hB1, Nat.le_trans (by omega : _ ≤ 1000) (by decide), ?_⟩
    rw [mergeK_dkC (asc_nodup gg.1)]
    have k3 : KT [] H (upd (upd (upd H1 B (.dK [])) D (.dK (dkC g.2))) B (.dK (dkC g.2))) := k2.late nBH
    obtain ⟨H2, e2⟩ : ∃ H2, upd (upd (upd H1 B (.dK [])) D (.dK (dkC g.2))) B (.dK (dkC g.2)) = H2 := ⟨_, rfl⟩
    have hB2 : H2 B = some (.dK (dkC g.2)) := by rw [← e2]; exact upd_same
    rw [e2] at k3 ⊢
    obtain ⟨ps', f3, f4⟩ := (hu2.keep k3).ps (K := K)
    refine ⟨_, rfl, u2, ps', dkC h.2, rfl, f3, f4, fun F nF => ?_⟩
    rw [mergeK_dkC (asc_nodup gh.1)]
    have kF := KT.new [] nF (o := .dK (dkC h.2))
    have hB3 := kF.same _ _ hB2
    have nFB : F ≠ B := fun z => by rw [z, hB2] at nF; cases nF
    refine ⟨F, dkC h.2, rfl, nFB, upd_same, hB3, Nat.le_trans (by omega : _ ≤ 2000) (by decide), ?_⟩
    rw [dkC_mergeC]
    have k4 : KT [] H (upd (upd H2 F (.dK (dkC h.2))) B (.dK (dkC (mergeC g.2 h.2)))) := (k3.trans kF).late nBH
    -- del both[target]
    refine ⟨_, rfl, _, rfl, B, _, Sum.inl (g.1 : Int), rfl, upd_same, rfl, ?_, ?_⟩
    · rw [dkC_get, getC_isSome]
      refine decide_eq_true ?_
      obtain ⟨c, hc, e⟩ := List.mem_map.mp tin
      exact List.mem_map.mpr ⟨c, (mem_mergeC (asc_nodup gh.1)).mpr (.inl hc), e⟩
    rw [dkC_drop]
    obtain ⟨es, ees⟩ : ∃ es, (mergeC g.2 h.2).filter (fun c => decide (c.1 ≠ g.1)) = es := ⟨_, rfl⟩
    rw [ees]
    have nde : (es.map (·.1)).Nodup := by
      rw [← ees]
      exact (nodup_mergeC h.2 (asc_nodup gg.1)).sublist (List.filter_sublist.map _)
    have me : ∀ c, c ∈ es ↔ c ∈ g.2 ∨ (c ∈ h.2 ∧ c.1 ≠ g.1) := fun c => by
      rw [← ees, List.mem_filter, mem_mergeC (asc_nodup gh.1), decide_eq_true_iff]
      constructor
      · rintro ⟨h1 | ⟨h1, _⟩, h2⟩
        · exact .inr ⟨h1, h2⟩
        · exact .inl h1
      · rintro (h1 | ⟨h1, h2⟩)
        · refine ⟨?_, gg.2 c h1⟩
          by_cases z : c.1 ∈ h.2.map (·.1)
          · obtain ⟨d, hd, e⟩ := List.mem_map.mp z
            have : d.2 = c.2 := Classical.byContradiction fun y => by
              have : opp g.2 h.2 = true := opp_iff.mpr ⟨c, h1, d, hd, e, y⟩
              rw [no] at this
              cases this
            exact .inl (by rw [show c = d from Prod.ext e.symm this.symm]; exact hd)
          · exact .inr ⟨h1, z⟩
        · exact ⟨.inl h1, h2⟩
    have k5 : KT [] H (upd (upd (upd H2 F (.dK (dkC h.2))) B (.dK (dkC (mergeC g.2 h.2)))) B (.dK (dkC es))) := k4.late nBH
    obtain ⟨H5, e5⟩ : ∃ H5, upd (upd (upd H2 F (.dK (dkC h.2))) B (.dK (dkC (mergeC g.2 h.2)))) B (.dK (dkC es)) = H5 := ⟨_, rfl⟩
    have hB5 : H5 B = some (.dK (dkC es)) := by rw [← e5]; exact upd_same
    rw [e5] at k5 ⊢
    refine ⟨_, rfl, _, rfl, _, rfl, _, rfl, B, kvC es, rfl, hB5, fun H6 p as bs k6 np nas hp hpr nda pm srt => ?_⟩
    have K6 : KT [] H5 H6 := KT.ofSame k6
    refine ⟨p, _, rfl, SqL.of hp, fun u3 ob nu hob => ⟨sz2, fun t3 nt3 => ⟨Nat.le_of_ble_eq_true rfl, fun r nr => ?_⟩⟩⟩
    have h1 := paired_prv hpr
    obtain ⟨ds, h2, h3⟩ := h1.perm (pm.symm.map V.ref)
    have asc : (ds.map (·.1)).Pairwise (· < ·) := by
      refine pw_lt (srt_pw h2 ?_) ((h3.map _).nodup_iff.mp nde)
      refine List.pairwise_map.mpr (srt.imp_of_mem fun {a b} ha hb z => ?_)
      rw [pair_kOf h1 nda (pm.mem_iff.mp ha), pair_kOf h1 nda (pm.mem_iff.mp hb)] at z
      exact z
    have ed : ds = passC g h := asc_eq asc (srtC_asc (passC_nd gg gh)) fun c => by
      rw [passC_mem gg gh no, ← me c]
      exact h3.symm.mem_iff
    have k7 := (KT.new [] nu (o := .frz ob (.tup (bs.map V.ref)))).trans ((KT.new [] nt3 (o := .tup [.int h.1, .ref u3])).trans (KT.new [] nr (o := .tup [.ref t2, .ref t, .ref t3])))
    have kk := (k5.trans K6).trans k7
    refine q _ _ kk ?_
    unfold passP
    rw [if_pos ok, ← ed]
    refine ⟨r, _, rfl, upd_same, .cons (hy.keep kk) (.cons (hx.keep kk) (.cons ⟨t3, u3, bs.map V.ref, rfl, ?_, ?_, prs_keep k7 h2⟩ .nil))⟩
    · exact (KT.new [] nr).tp _ _ upd_same
    · exact ((KT.new [] nt3).trans (KT.new [] nr)).fzT (.new hob)
end

end My

set_option Elab.async false
set_option linter.all false
set_option maxRecDepth 100000
namespace My
open PySem PySem.Spec PyProof.Rows L2
/-- what stands for a word -/
def begD : PyData → Bool
  | .tuple (.str _ :: _) => true
  | _ => false
def spBeg (K : PySem.W.Frag) : Sp := fun vs H Q _ => ∃ (v : V) (d : PyData), vs = [v] ∧ Rp K H v d ∧ Q (.bl (begD d)) H
theorem isi_str {K : PySem.W.Frag} {H : Hp} {v : V} {d : PyData} (h : Rp K H v d) : ∃ t, TyX K H v t ∧ PySem.W.kitOne K t (.type "str") = some (match d with | .str _ => true | _ => false) := by
  cases d with
  | none => cases h; exact ⟨_, .base .non, kit_ty (r := false) (by decide +kernel)⟩
  | bool b => cases h; exact ⟨_, .base (.bl b), kit_ty (r := false) (by decide +kernel)⟩
  | int b => cases h; exact ⟨_, .base (.int b), kit_ty (r := false) (by decide +kernel)⟩
  | str b => cases h; exact ⟨_, .base (.str b), kit_ty (r := true) (by decide +kernel)⟩
  | list ds => cases h
  | dict ds => cases h
  | tuple ds =>
    obtain ⟨a, xs, rfl, hs, _⟩ := h.inv
    exact ⟨_, tyx_tup hs, kit_ty (r := false) (by decide +kernel)⟩
section
variable {P : Program} {w : World} {K : PySem.W.Frag} {mg : Str → Option Value} {base : Heap}
theorem ok_begins (T : Txt K mg) : FnOk P w K mg base CX0 1 T.f_begins_with_word T.d_begins_with_word ["value"] (spBeg K) := by
  refine T.F_begins_with_word.ok sc_begins_with_word (fun vs H Q E h => ?_) (fun cdv A outer s H vs Q E hr h => ?_)
  · obtain ⟨v, d, rfl, _⟩ := h
    rfl
  · obtain ⟨v, d, rfl, hv, q⟩ := h
    refine ⟨_, (pss_one (ps_ret (pe_and (pe_callB call_isi (by rfl) T.m_isinstance (by decide +kernel) (pa_cons (pv 0) (pa_cons (pe_bltn (v := .ty "tuple") (by rfl) T.m_tuple (by decide +kernel) rfl) pa_nil))) (pe_and (pe_cmpR op_gt (pe_callB call_len_seq (by rfl) T.m_len (by decide +kernel) (pa_cons (pv 0) pa_nil)) pe_int (nomark _)) (pe_one (pe_callB call_isi (by rfl) T.m_isinstance (by decide +kernel) (pa_cons (pe_ix ix_tup (pv 0) pe_int (fun _ _ => rfl)) (pa_cons (pe_bltn (v := .ty "str") (by rfl) T.m_str (by decide +kernel) rfl) pa_nil)))))))), ?_⟩
    obtain ⟨t1, y1, k1⟩ := isi_tup hv
    refine ⟨_, rfl, _, _, _, _, _, rfl, .ty "tuple", y1, k1, _, rfl, ?_⟩
    cases d with
    | none => exact ite_f (fun z => by cases z) q
    | str b => exact ite_f (fun z => by cases z) q
    | list ds => cases hv
    | dict ds => cases hv
    | bool b => exact ite_f (fun z => by cases z) q
    | int b => exact ite_f (fun z => by cases z) q
    | tuple ds =>
      obtain ⟨a, xs, rfl, hs, hr2⟩ := hv.inv
      refine ite_t rfl ⟨_, rfl, _, _, rfl, .inr hs, _, _, rfl, rfl, _, rfl, ?_⟩
      cases ds with
      | nil =>
        have := hr2.inv0
        subst this
        exact ite_f (by decide) q
      | cons d0 r =>
        obtain ⟨x, xr, rfl, hx, _⟩ := hr2.inv
        have e : decide ((0 : Int) < ((x :: xr).length : Int)) = true := decide_eq_true (by rw [List.length_cons]; omega)
        refine ite_t e ?_
        obtain ⟨t2, y2, k2⟩ := isi_str hx
        refine ⟨_, rfl, _, _, _, _, rfl, rfl, hs, (show atI (x :: xr) ((0 : Nat) : Int) = some x from atI_nat rfl), _, _, _, _, _, rfl, .ty "str", y2, k2, ?_⟩
        cases d0 <;> exact q
theorem ok_twice (T : Txt K mg) : FnOk P w K mg base CX0 6 T.f_twice T.d_twice ["wires", "gate"] (spTwice K) := by
  have G_gate_fault := ok_gfD (P := P) (w := w) (base := base) T
  refine T.F_twice.ok sc_twice (fun vs H Q E h => ?_) (fun cdv A outer s H vs Q E hr h => ?_)
  · obtain ⟨n, v, d, rfl, _⟩ := h
    rfl
  · obtain ⟨n, v, d, rfl, hv, sm, q⟩ := h
    refine ⟨_, (pss_one (ps_ret (pe_ifExp (pt_cmpR op_isN (pe_call G_gate_fault (hr.mono (by omega)) (by rfl) T.g_gate_fault T.F_gate_fault.kp T.b_gate_fault .nil pass0 (pa_cons (pv 0) (pa_cons (pv 1) pa_nil))) pe_non (nomark _)) (pe_tup (pa_cons (pv 1) (pa_cons (pv 1) pa_nil))) pe_non))), ?_⟩
    refine ⟨_, rfl, _, rfl, n, v, d, rfl, hv, sm, fun H1 k1 => ?_⟩
    cases e : gfD n d with
    | none =>
      refine ⟨rfl, _, rfl, ite_t rfl ⟨_, rfl, _, rfl, sz2, fun p np => ?_⟩⟩
      refine q _ _ (k1.trans (KT.new [] np)) ?_
      rw [if_pos e]
      exact ⟨p, rfl, upd_same⟩
    | some c =>
      refine ⟨rfl, _, rfl, ite_f (by simp [optS]) ?_⟩
      refine q _ _ k1 ?_
      rw [if_neg (by rw [e]; simp)]
theorem ok_split (T : Txt K mg) : FnOk P w K mg base CX0 3 T.f_split_gate T.d_split_gate ["wires", "gate", "wire"] (spSplit K) := by
  have G_is_integer := ok_is_integer (P := P) (w := w) (base := base) T
  have G_wires_of := ok_wiresD (P := P) (w := w) (base := base) T
  refine T.F_split_gate.ok sc_split_gate (fun vs H Q E h => ?_) (fun cdv A outer s H vs Q E hr h => ?_)
  · obtain ⟨n, x, v, g, d, rfl, _⟩ := h
    rfl
  · obtain ⟨n, x, v, g, d, rfl, hx, gN, gl, hv, q⟩ := h
    obtain ⟨gg, _⟩ := id gN
    obtain ⟨t, u, rfl, ht, hu⟩ := hx.ctl
    refine ⟨_, (pss_cons (ps_if (PW.pt (pw_or (pt_not (pt_val (pe_call G_is_integer (hr.mono (by omega)) (by rfl) T.g_is_integer T.F_is_integer.kp T.b_is_integer .nil pass0 (pa_cons (pv 2) (pa_cons pe_int (pa_cons (pe_op op_sub (pv 0) pe_int) pa_nil)))))) (pw_or1 (pt_cmpR op_in_seq (pv 2) (pe_call G_wires_of (hr.mono (by omega)) (by rfl) T.g_wires_of T.F_wires_of.kp T.b_wires_of .nil pass0 (pa_cons (pv 1) pa_nil)) (by rfl)))))
        (pss_one (ps_ret pe_non))
        pss_nil)
      (pss_cons (ps_asg (pv 1) (pg_tup (by rfl) (pgs_cons (pg_name (i := 3) sc_split_gate.nd rfl (Or.inr rfl)) (pgs_cons (pg_name (i := 4) sc_split_gate.nd rfl (Or.inr rfl)) pgs_nil))))
      (pss_one (ps_ret (pe_callTy call_tuple_of (by rfl) T.m_tuple (by decide +kernel) (pa_cons (pe_lc (own := [("value", 5)]) (g := gName 5) (by rfl) sc_split_gate.nd (pi_tup (pe_tup (pa_cons pe_int (pa_cons pe_int pa_nil)))) (blkOk_by (own := [("value", 5)]) (N := N_split_gate) (sc := defScope s_split_gate) (by decide +kernel)) (fun _ _ _ _ _ => (pg_name (i := 5) sc_split_gate.nd rfl (Or.inl rfl))) (fun _ _ _ _ _ => pts_nil) (fun _ _ _ _ _ => (pe_tup (pa_cons (pv 3) (pa_cons (pe_callTy (tpF (K := K) rfl) (by rfl) T.m_tuple (by decide +kernel) (pa_cons (pe_callB (stPTK (K := K) rfl) (by rfl) T.m_sorted (by decide +kernel) (pa_cons (pe_cut (pe_op (catT (K := K) rfl) (pv 4) (pe_tup (pa_cons (pe_tup (pa_cons (pv 2) (pa_cons (pv 5) pa_nil))) pa_nil)))) pa_nil)) pa_nil)) pa_nil))))) pa_nil)))))), ?_⟩
    refine ⟨_, rfl, _, rfl, _, _, rfl, rfl, v, 0, (n : Int) - 1, d, rfl, hv, _, rfl, ?_⟩
    cases e : isIr 0 ((n : Int) - 1) d with
    | false =>
      refine ite_t rfl (q _ _ (.refl _ _) ?_)
      unfold splitP
      rw [if_neg (fun z => by rw [e] at z; cases z.1)]
      rfl
    | true =>
    obtain ⟨i, rfl⟩ : ∃ i, d = .int i := by
      cases d <;> first | exact ⟨_, rfl⟩ | cases e
    obtain rfl := hv.iInv
    obtain ⟨e1, e2⟩ := (Bool.and_eq_true _ _).mp e
    obtain ⟨m, rfl⟩ := int_nat (of_decide_eq_true e1)
    refine ite_f (by decide) ⟨_, rfl, _, rfl, .ref t, gtD g, rfl, gt_rp hx, sm_gd gN, is_gd gg, fun l H1 k1 hl => ?_⟩
    rw [wires_gt] at hl
    refine ⟨l, ivs (wiresN g), rfl, .inl (SqL.of hl), rfl, ivs_flat _, ?_⟩
    have ei : (if false = true then !inV (V.int (m : Int)) (ivs (wiresN g)) else inV (V.int (m : Int)) (ivs (wiresN g))) = decide (m ∈ wiresN g) := by
      rw [if_neg (by decide), inV_ivs]
    rw [ei]
    refine ⟨_, rfl, ?_⟩
    have em : (asI (.int (m : Int))).toNat = m := Int.toNat_natCast m
    by_cases z : m ∈ wiresN g
    · refine ite_t (decide_eq_true z) (q _ _ k1 ?_)
      unfold splitP
      rw [em, if_neg (fun y => y.2 z)]
      rfl
    refine ite_f (by rw [decide_eq_false z]; decide) ?_
    have n1 : m ∉ g.2.map (·.1) := fun y => z (List.mem_cons_of_mem _ y)
    refine ⟨_, rfl, t, _, rfl, SqT.of (k1.tp _ _ ht), rfl, _, _, rfl, _, _, rfl, rfl, ?_⟩
    refine ⟨sz2, fun O nO => ?_⟩
    have kO := k1.trans (KT.new [] nO (o := .tup [.int 0, .int 1]))
    have hO : (upd H1 O (.tup [.int 0, .int 1])) O = some (.tup [.int 0, .int 1]) := upd_same
    obtain ⟨H2, e2⟩ : ∃ H2, upd H1 O (.tup [.int 0, .int 1]) = H2 := ⟨_, rfl⟩
    rw [e2] at kO hO ⊢
    refine ⟨O, rfl, ⟨_, SqT.of hO⟩, fun M nM => ?_⟩
    have bits : ∀ (i : Nat) (x : V), [V.int 0, V.int 1][i]? = some x → x = .int (b2 (decide (i = 1))) := fun i x e => by
      match i, e with
      | 0, e => cases e; rfl
      | 1, e => cases e; rfl
    refine lc_it (walk_tup (K := K) (a := O) (xs := [.int 0, .int 1])) (fun i H3 => ∃ ms, KT [] H2 H3 ∧ H3 M = some (.lst ms) ∧ ms.length = i ∧ P2 (GtV H3) ms ((List.range i).map fun j => (g.1, srtC (g.2 ++ [(m, decide (j = 1))])))) ?_ ?_ ?_ ?_
    · exact ⟨[], KT.new _ nM, upd_same, rfl, .nil⟩
    · rintro i H3 _ ⟨ms, k, _⟩
      exact SqT.of (k.tp _ _ hO)
    · rintro i x H3 H4 hi ⟨ms, k, hM, hml, hms⟩ ⟨rfl, hx1⟩
      obtain rfl := bits i x hx1
      have hi2 : i < 2 := hi
      obtain ⟨b, eb⟩ : ∃ b, decide (i = 1) = b := ⟨_, rfl⟩
      rw [eb]
      obtain ⟨us, f1, p1⟩ := (hu.keep kO).keep k
      have nde : ((g.2 ++ [(m, b)]).map (·.1)).Nodup := by
        rw [List.map_append]
        refine List.nodup_append.mpr ⟨asc_nodup gg.1, by simp, fun a ha y hy w => n1 (by
          have hy : y = m := List.mem_singleton.mp hy
          rw [← hy, ← w]
          exact ha)⟩
      refine ⟨rfl, _, rfl, fun v' H' => ∃ a vs', v' = .ref a ∧ SqT K H' a vs' ∧ P2 (PrV H') vs' (g.2 ++ [(m, b)]) ∧ KT [] H4 H', ?_, ?_⟩
      · refine ⟨_, rfl, _, rfl, _, rfl, sz2, fun p np => ⟨sz1, fun r nr => ?_⟩⟩
        have kp := (KT.new [] np (o := .tup [.int m, .int (b2 b)])).trans (KT.new [] nr (o := .tup [.ref p]))
        have hc : PrV (upd (upd H4 p (.tup [.int m, .int (b2 b)])) r (.tup [.ref p])) (.ref p) (m, b) := ⟨p, rfl, (KT.new [] nr).tp _ _ upd_same⟩
        have f3 := kp.fzT f1
        have p3 := prs_keep kp p1
        refine ⟨u, r, us, [.ref p], rfl, rfl, f3.sq, SqT.of upd_same, ?_, fun e0 => ?_, fun _ e0 => (by cases e0), fun _ _ w nw => ?_⟩
        · rw [p1.len]
          exact Nat.le_trans (by rw [List.length_singleton]; omega : _ ≤ 1000) (by decide)
        · subst e0
          have : g.2 = [] := by
            have := p1.len
            exact List.eq_nil_of_length_eq_zero this.symm
          rw [this]
          exact ⟨r, _, rfl, SqT.of upd_same, .cons hc .nil, kp⟩
        · have kw := KT.new [] nw (o := .tup (us ++ [.ref p]))
          exact ⟨w, _, rfl, SqT.of upd_same, prs_keep kw (p3.snoc hc), kp.trans kw⟩
      · rintro _ H5 ⟨a, vs', rfl, hs, hP, k5⟩
        refine ⟨a, vs', kOf H5, rfl, hs, fun x hx => ?_, fun ys p sr sb np => ⟨p, ys, rfl, SqL.of upd_same, fun w1 ob nw hob => ⟨sz2, fun tt nt => ?_⟩⟩⟩
        · obtain ⟨c, _, h⟩ := hP.mem hx
          rw [kOf_prv h]
          exact h
        obtain ⟨ds, h1, h2⟩ := hP.perm sb.perm.symm
        have k6 := ((KT.new [] np (o := .lst ys)).trans (KT.new [] nw (o := .frz ob (.tup ys)))).trans (KT.new [] nt (o := .tup [.int g.1, .ref w1]))
        have kk := k5.trans k6
        have hM6 := kk.same _ _ hM
        have ed : ds = srtC (g.2 ++ [(m, b)]) := srtC_eq nde (pw_lt (srt_pw h1 sr) ((h2.map _).nodup_iff.mp nde)) fun c => h2.symm.mem_iff
        refine ⟨ms, hM6, small_int (by rw [hml]; omega), ms ++ [.ref tt], (k.trans kk).late nM, upd_same, by rw [List.length_append, List.length_singleton, hml], ?_⟩
        rw [List.range_succ, List.map_append]
        refine ((gts_keep kk hms).snoc (d := (g.1, srtC (g.2 ++ [(m, decide (i = 1))]))) ?_).mono fun _ _ => .put hM6
        rw [eb, ← ed]
        exact ⟨tt, w1, ys, rfl, upd_same, (KT.new [] nt).fzT (.new hob), prs_keep k6 h1⟩
    rintro H3 ⟨ms, k, hM, hml, hms⟩
    refine ⟨M, ms, rfl, .inl ⟨SqL.of hM, fun p np => ?_⟩⟩
    have kp := KT.new [] np (o := .tup ms)
    refine q _ _ ((kO.trans k).trans kp) ?_
    unfold splitP
    rw [em, if_pos ⟨e, z⟩]
    exact ⟨p, ms, rfl, upd_same, gts_keep kp hms⟩
end

end My

set_option Elab.async false
set_option linter.all false
set_option maxRecDepth 100000
namespace My
open PySem PySem.Spec PyProof.Rows L2
structure TxA (K : PySem.W.Frag) (mg : Str → Option Value) (w : World) (T : Txt K mg) where
  a_OF_TWO : Addr
  m_OF_TWO : mg "OF_TWO" = some (.ref a_OF_TWO)
  k_cancel : KDct K w a_OF_TWO "cancel" (.ref T.f_cancelled)
  k_exchange : KDct K w a_OF_TWO "exchange" (.ref T.f_exchanged)
  k_merge : KDct K w a_OF_TWO "merge" (.ref T.f_merged)
  k_pass : KDct K w a_OF_TWO "pass" (.ref T.f_passed)
  i_cancel : KDin K w a_OF_TWO "cancel" true
  i_exchange : KDin K w a_OF_TWO "exchange" true
  i_merge : KDin K w a_OF_TWO "merge" true
  i_pass : KDin K w a_OF_TWO "pass" true
  n_pair : KDin K w a_OF_TWO "pair" false
  n_split : KDin K w a_OF_TWO "split" false
  n_turn : KDin K w a_OF_TWO "turn" false
def four : List Str := ["cancel", "exchange", "merge", "pass"]
def twoP (w : Str) (g h : Gt) : Option (List Gt) := if w = "cancel" then cancelP g h else if w = "exchange" then exchP g h else if w = "merge" then mergedP g h else passP g h
def twoL (w : Str) : List Gt → Option (List Gt)
  | [g, h] => twoP w g h
  | _ => none
theorem sl_x {K : PySem.W.Frag} {H : Hp} {x : V} {gs ks : List Gt} {lo hi : Option Int} {J : V → Hp → Prop} (ha : TupG H x gs) (e : ks = (gs.drop (HT.sIx gs.length 0 lo)).take (HT.sIx gs.length gs.length hi - HT.sIx gs.length 0 lo)) (hJ : ∀ v H', KT [] H H' → TupG H' v ks → J v H') : rSlA K x lo hi H J := by
  obtain ⟨a, xs, rfl, h1, p1⟩ := id ha
  have l := p1.len
  refine ⟨a, xs, rfl, SqT.of h1, fun z => hJ _ _ (.refl _ _) ?_, fun _ p np => hJ _ _ (.new _ np) ⟨p, _, rfl, upd_same, ?_⟩⟩
  · rw [e, ← l, z.1, z.2, List.drop_zero, Nat.sub_zero, l, List.take_length]
    exact ha
  · rw [e, ← l]
    exact gts_keep (KT.new [] np) ((p1.drop _).take _)
theorem sl_to {gs : List Gt} (i : Nat) : gs.take i = (gs.drop (HT.sIx gs.length 0 none)).take (HT.sIx gs.length gs.length (some (i : Int)) - HT.sIx gs.length 0 none) := by
  rw [HT.sIx_none, HT.sIx_nat, List.drop_zero, Nat.sub_zero]
  rcases Nat.le_total i gs.length with h | h
  · rw [Nat.min_eq_left h]
  · rw [Nat.min_eq_right h, List.take_of_length_le h, List.take_length]
theorem sl_from {gs : List Gt} (i : Nat) : gs.drop i = (gs.drop (HT.sIx gs.length 0 (some (i : Int)))).take (HT.sIx gs.length gs.length none - HT.sIx gs.length 0 (some (i : Int))) := by
  rw [HT.sIx_none, HT.sIx_nat]
  rcases Nat.le_total i gs.length with h | h
  · rw [Nat.min_eq_left h, List.take_of_length_le (by rw [List.length_drop]; exact Nat.le_refl _)]
  · rw [Nat.min_eq_right h, List.drop_eq_nil_of_le h, List.drop_eq_nil_of_le (Nat.le_refl _), List.take_nil]
theorem sl_mid {gs : List Gt} (i c : Nat) : (gs.drop i).take c = (gs.drop (HT.sIx gs.length 0 (some (i : Int)))).take (HT.sIx gs.length gs.length (some ((i + c : Nat) : Int)) - HT.sIx gs.length 0 (some (i : Int))) := by
  rw [HT.sIx_nat, HT.sIx_nat]
  rcases Nat.le_total i gs.length with h | h
  · rw [Nat.min_eq_left h]
    rcases Nat.le_total (i + c) gs.length with h2 | h2
    · rw [Nat.min_eq_left h2, Nat.add_sub_cancel_left]
    · rw [Nat.min_eq_right h2, List.take_of_length_le (by rw [List.length_drop]; omega), List.take_of_length_le (by rw [List.length_drop]; exact Nat.le_refl _)]
  · rw [Nat.min_eq_right h, List.drop_eq_nil_of_le h, List.drop_eq_nil_of_le (Nat.le_refl _), List.take_nil, List.take_nil]
theorem cat_x {K : PySem.W.Frag} {H : Hp} {x y : V} {gs hs : List Gt} {J : V → Hp → Prop} (ha : TupG H x gs) (hb : TupG H y hs) (hl : gs.length + hs.length ≤ 1000) (hJ : ∀ v H', KT [] H H' → TupG H' v (gs ++ hs) → J v H') : rCatA K x y H J := by
  obtain ⟨a, xs, rfl, h1, p1⟩ := id ha
  obtain ⟨b, ys, rfl, h2, p2⟩ := id hb
  have l1 := p1.len
  have l2 := p2.len
  refine ⟨a, b, xs, ys, rfl, rfl, SqT.of h1, SqT.of h2, Nat.le_trans (by omega : _ ≤ 1000) (by decide), fun e => ?_, fun e1 e => ?_, fun e1 e2 p np => ?_⟩
  · refine hJ _ _ (.refl _ _) ?_
    have : gs = [] := List.eq_nil_of_length_eq_zero (by rw [← l1, e]; rfl)
    rw [this]
    exact hb
  · refine hJ _ _ (.refl _ _) ?_
    have : hs = [] := List.eq_nil_of_length_eq_zero (by rw [← l2, e]; rfl)
    rw [this, List.append_nil]
    exact ha
  · exact hJ _ _ (.new _ np) ⟨p, _, rfl, upd_same, gts_keep (KT.new [] np) (p1.app p2)⟩
def spTwoI : Sp := fun vs H Q _ => ∃ (wd : Str) (v : V) (gs : List Gt), vs = [.str wd, v] ∧ wd ∈ four ∧ TupG H v gs ∧ gs.length ≤ 2 ∧ (∀ g ∈ gs, GdN g) ∧ ∀ v' H', KT [] H H' → OpG H' v' (twoL wd gs) → Q v' H'
def badD (n : Nat) : List PyData := [.tuple [.int n, .tuple []], .tuple [.int 0, .tuple [.tuple [.int 0, .int 1]]], .none, .tuple [.int 0], .tuple [.bool true, .tuple []], .tuple [.int 0, .tuple [.tuple [.int 1, .int 2]]]]
theorem sm_bad {n : Nat} {d : PyData} (h : d ∈ badD n) : SmD d := by
  unfold badD at h
  rcases List.mem_cons.mp h with rfl | h
  · exact Nat.le_of_ble_eq_true rfl
  rcases List.mem_cons.mp h with rfl | h
  · exact Nat.le_of_ble_eq_true rfl
  rcases List.mem_cons.mp h with rfl | h
  · exact Nat.le_of_ble_eq_true rfl
  rcases List.mem_cons.mp h with rfl | h
  · exact Nat.le_of_ble_eq_true rfl
  rcases List.mem_cons.mp h with rfl | h
  · exact Nat.le_of_ble_eq_true rfl
  obtain rfl := List.mem_singleton.mp h
  exact Nat.le_of_ble_eq_true rfl
theorem gf_bad {n : Nat} {d : PyData} (h : d ∈ badD n) : gfD n d ≠ none := by
  unfold badD at h
  rcases List.mem_cons.mp h with rfl | h
  · have e : gfD n (.tuple [.int n, .tuple []]) = if ((decide ((0 : Int) ≤ n) && decide ((n : Int) < n)) && true) = true then (none : Option Str) else some "wire" := rfl
    rw [e, decide_eq_false (by omega : ¬ (n : Int) < n)]
    simp
  rcases List.mem_cons.mp h with rfl | h
  · exact fun z => by cases z
  rcases List.mem_cons.mp h with rfl | h
  · exact fun z => by cases z
  rcases List.mem_cons.mp h with rfl | h
  · exact fun z => by cases z
  rcases List.mem_cons.mp h with rfl | h
  · exact fun z => by cases z
  obtain rfl := List.mem_singleton.mp h
  exact fun z => by cases z
/-- a step of the right beginning: its word, its place, what stands behind, and what it makes of the gates -/
inductive StepR (K : PySem.W.Frag) (H : Hp) (n : Nat) (gs : List Gt) : Str → Nat → List V → Option (List Gt) → Prop
  | two {wd : Str} {i : Nat} : wd ∈ four → StepR K H n gs wd i [] ((twoL wd ((gs.drop i).take 2)).map fun x => gs.take i ++ x ++ gs.drop (i + 2))
  | pairG {i : Nat} {x : V} {g : Gt} : GtV H x g → GW n g → StepR K H n gs "pair" i [x] (if i ≤ gs.length then some (gs.take i ++ [g, g] ++ gs.drop (i + 0)) else none)
  | pairB {i : Nat} {x : V} {d : PyData} : Rp K H x d → d ∈ badD n → StepR K H n gs "pair" i [x] none
  | split {i : Nat} {x : V} {d : PyData} : Rp K H x d → StepR K H n gs "split" i [x] (match gs[i]? with | none => none | some g => (splitP n g d).map fun y => gs.take i ++ y ++ gs.drop (i + 1))
  | long {wd : Str} {i : Nat} : wd ∈ four → StepR K H n gs wd i [.int 0] none
  | turn {i : Nat} : StepR K H n gs "turn" i [] none
/-- a step in the heap -/
inductive StepV (K : PySem.W.Frag) (H : Hp) (n : Nat) (gs : List Gt) : V → Option (List Gt) → Prop
  | full {a : Addr} {wd : Str} {i : Nat} {rest : List V} {r : Option (List Gt)} : SqT K H a (.str wd :: .int i :: rest) → StepR K H n gs wd i rest r → StepV K H n gs (.ref a) r
  | none_ : StepV K H n gs .non none
  | word {a : Addr} {wd : Str} : SqT K H a [.str wd] → StepV K H n gs (.ref a) none
  | below {a : Addr} {wd : Str} : wd ∈ four → SqT K H a [.str wd, .int (-1)] → StepV K H n gs (.ref a) none
  | true_ {a : Addr} {wd : Str} : wd ∈ four → SqT K H a [.str wd, .bl true] → StepV K H n gs (.ref a) none
theorem StepR.keep {K : PySem.W.Frag} {S : List Addr} {H H' : Hp} (k : KT S H H') {n i : Nat} {gs : List Gt} {wd : Str} {rest : List V} {r : Option (List Gt)} (h : StepR K H n gs wd i rest r) : StepR K H' n gs wd i rest r := by
  cases h with
  | two a => exact .two a
  | pairG b c => exact .pairG (b.keep k) c
  | pairB b c => exact .pairB (b.keep k) c
  | split b => exact .split (b.keep k)
  | long a => exact .long a
  | turn => exact .turn
theorem StepV.keep {K : PySem.W.Frag} {S : List Addr} {H H' : Hp} (k : KT S H H') {n : Nat} {gs : List Gt} {v : V} {r : Option (List Gt)} (h : StepV K H n gs v r) : StepV K H' n gs v r := by
  cases h with
  | full a b => exact .full (k.sqT a) (b.keep k)
  | none_ => exact .none_
  | word a => exact .word (k.sqT a)
  | below hw a => exact .below hw (k.sqT a)
  | true_ hw a => exact .true_ hw (k.sqT a)
theorem StepR.data {K : PySem.W.Frag} {H : Hp} {n i : Nat} {gs : List Gt} {wd : Str} {rest : List V} {r : Option (List Gt)} (h : StepR K H n gs wd i rest r) : ∃ ds, RpA K H rest ds := by
  cases h with
  | two a => exact ⟨[], .nil⟩
  | pairG b c => exact ⟨_, .cons (gt_rp b) .nil⟩
  | pairB b c => exact ⟨_, .cons b .nil⟩
  | split b => exact ⟨_, .cons b .nil⟩
  | long a => exact ⟨_, .cons (.int 0) .nil⟩
  | turn => exact ⟨[], .nil⟩
def OpC (H : Hp) (v : V) (n : Nat) : Option (List Gt) → Prop
  | none => v = .non
  | some gs => ∃ t, v = .ref t ∧ CircAt H t n gs
def spStep (K : PySem.W.Frag) : Sp := fun vs H Q _ => ∃ (t : Addr) (v : V) (n : Nat) (gs : List Gt) (r : Option (List Gt)), vs = [.ref t, v] ∧ CircAt H t n gs ∧ (∀ g ∈ gs, GW n g) ∧ n ≤ 10 ∧ gs.length ≤ 100 ∧ StepV K H n gs v r ∧ ∀ v' H', KT [] H H' → OpC H' v' n r → Q v' H'
theorem GW.gd {n : Nat} {g : Gt} (h : GW n g) (hn : n ≤ 1000) : GdN g := ⟨⟨h.2.2.1, h.apt⟩, Nat.le_trans h.2.2.2 hn⟩
section
variable {P : Program} {w : World} {K : PySem.W.Frag} {mg : Str → Option Value} {base : Heap}
theorem act_of (T : Txt K mg) (TA : TxA K mg w T) {wd : Str} (h : wd ∈ four) : ∃ f, KDct K w TA.a_OF_TWO wd (.ref f) ∧ Held P w K mg base 3 f (spTwo (twoP wd)) := by
  have e1 : twoP "cancel" = cancelP := by funext g h; unfold twoP; rw [if_pos rfl]
  have n1 : ¬ (("exchange" : Str) = "cancel") := by decide +kernel
  have n2 : ¬ (("merge" : Str) = "cancel") := by decide +kernel
  have n3 : ¬ (("merge" : Str) = "exchange") := by decide +kernel
  have n4 : ¬ (("pass" : Str) = "cancel") := by decide +kernel
  have n5 : ¬ (("pass" : Str) = "exchange") := by decide +kernel
  have n6 : ¬ (("pass" : Str) = "merge") := by decide +kernel
  have e2 : twoP "exchange" = exchP := by funext g h; unfold twoP; rw [if_neg n1, if_pos rfl]
  have e3 : twoP "merge" = mergedP := by funext g h; unfold twoP; rw [if_neg n2, if_neg n3, if_pos rfl]
  have e4 : twoP "pass" = passP := by funext g h; unfold twoP; rw [if_neg n4, if_neg n5, if_neg n6]
  unfold four at h
  rcases List.mem_cons.mp h with rfl | h
  · rw [e1]
    exact ⟨_, TA.k_cancel, Held.of (ok_cancelled (P := P) (w := w) (base := base) T) T.F_cancelled.kp T.b_cancelled (by decide)⟩
  rcases List.mem_cons.mp h with rfl | h
  · rw [e2]
    exact ⟨_, TA.k_exchange, Held.of (ok_exchanged (P := P) (w := w) (base := base) T) T.F_exchanged.kp T.b_exchanged (by decide)⟩
  rcases List.mem_cons.mp h with rfl | h
  · rw [e3]
    exact ⟨_, TA.k_merge, Held.of (ok_merged (P := P) (w := w) (base := base) T) T.F_merged.kp T.b_merged (by decide)⟩
  obtain rfl := List.mem_singleton.mp h
  rw [e4]
  exact ⟨_, TA.k_pass, Held.of (ok_passed (P := P) (w := w) (base := base) T) T.F_passed.kp T.b_passed (by decide)⟩
theorem ok_two_instead (T : Txt K mg) (TA : TxA K mg w T) : FnOk P w K mg base CX0 4 T.f_two_instead T.d_two_instead ["word", "gates"] spTwoI := by
  refine T.F_two_instead.ok sc_two_instead (fun vs H Q E h => ?_) (fun cdv A outer s H vs Q E hr h => ?_)
  · obtain ⟨wd, v, gs, rfl, _⟩ := h
    rfl
  · obtain ⟨wd, v, gs, rfl, hw, hv, hl, hg, q⟩ := h
    obtain ⟨a, vs, rfl, ha, hp⟩ := id hv
    have lp := hp.len
    by_cases e : gs.length = 2
    case neg =>
      have e2 : twoL wd gs = none := by
        match gs, e with
        | [], _ => rfl
        | [_], _ => rfl
        | _ :: _ :: _ :: _, _ => rfl
        | [_, _], e => exact absurd rfl e
      refine ⟨_, (pss_cons (ps_if (pt_cmpR op_lt (pe_callB call_len_seq (by rfl) T.m_len (by decide +kernel) (pa_cons (pv 1) pa_nil)) pe_int (nomark _))
        (pss_one (ps_ret pe_non))
        pss_nil)
      (pss_cons (ps_set (i := 2) sc_two_instead.nd rfl (Or.inl rfl) (pe_ix ix_kdict (pe_glob (v := .ref TA.a_OF_TWO) (by rfl) TA.m_OF_TWO rfl) (pv 0) (fun _ _ => rfl)))
      (pss_one (ps_ret (pe_callH (k := 3) (i := 2) (hr.mono (by omega)) rfl (Or.inl rfl) (pa_cons (pe_ix ix_tup (pv 1) pe_int (fun _ _ => rfl)) (pa_cons (pe_ix ix_tup (pv 1) pe_int (fun _ _ => rfl)) pa_nil))))))), ?_⟩
      refine ⟨_, rfl, _, _, rfl, .inr (SqT.of ha), _, _, rfl, rfl, _, rfl, ?_⟩
      refine ite_t (decide_eq_true (by omega)) (q _ _ (.refl _ _) ?_)
      rw [e2]
      rfl
    obtain ⟨x, y, g, h, rfl, rfl, h1, h2⟩ : ∃ x y g h, gs = [g, h] ∧ vs = [x, y] ∧ GtV H x g ∧ GtV H y h := by
      match gs, e with
      | [g, h], _ =>
        cases hp with
        | cons h1 hp2 => cases hp2 with
          | cons h2 hp3 => cases hp3; exact ⟨_, _, _, _, rfl, rfl, h1, h2⟩
    obtain ⟨f, kd, held⟩ := act_of (P := P) (base := base) T TA hw
    refine ⟨_, (pss_cons (ps_if (pt_cmpR op_lt (pe_callB call_len_seq (by rfl) T.m_len (by decide +kernel) (pa_cons (pv 1) pa_nil)) pe_int (nomark _))
        (pss_one (ps_ret pe_non))
        pss_nil)
      (pss_cons (ps_set (i := 2) sc_two_instead.nd rfl (Or.inl rfl) (pe_ix ix_kdict (pe_glob (v := .ref TA.a_OF_TWO) (by rfl) TA.m_OF_TWO rfl) (pv 0) (fun _ _ => rfl)))
      (pss_one (ps_ret (pe_callH (k := 3) (i := 2) (hr.mono (by omega)) rfl (Or.inl rfl) (pa_cons (pe_ix ix_tup (pv 1) pe_int (fun _ _ => rfl)) (pa_cons (pe_ix ix_tup (pv 1) pe_int (fun _ _ => rfl)) pa_nil))))))), ?_⟩
    refine ⟨_, rfl, _, _, rfl, .inr (SqT.of ha), _, _, rfl, rfl, _, rfl, ?_⟩
    refine ite_f (not_bl (decide_eq_false (by rw [List.length_cons, List.length_cons, List.length_nil]; omega))) ?_
    refine ⟨_, rfl, TA.a_OF_TWO, wd, .ref f, rfl, rfl, kd, ?_⟩
    refine ⟨f, _, rfl, held, _, rfl, a, _, _, _, rfl, rfl, SqT.of ha, rfl, _, rfl, a, _, _, _, rfl, rfl, SqT.of ha, rfl, ?_⟩
    exact ⟨x, y, g, h, rfl, h1, h2, hg g (by simp), hg h (by simp), fun v' H' k hv' => q v' H' k hv'⟩
end

end My

set_option Elab.async false
set_option linter.all false
set_option maxRecDepth 100000
namespace My
open PySem PySem.Spec PyProof.Rows L2
theorem four_in (K : PySem.W.Frag) (mg : Str → Option Value) (w : World) (T : Txt K mg) (TA : TxA K mg w T) {wd : Str} (h : wd ∈ four) : KDin K w TA.a_OF_TWO wd true ∧ wd ≠ "pair" ∧ wd ≠ "split" := by
  unfold four at h
  rcases List.mem_cons.mp h with rfl | h
  · exact ⟨TA.i_cancel, by decide +kernel, by decide +kernel⟩
  rcases List.mem_cons.mp h with rfl | h
  · exact ⟨TA.i_exchange, by decide +kernel, by decide +kernel⟩
  rcases List.mem_cons.mp h with rfl | h
  · exact ⟨TA.i_merge, by decide +kernel, by decide +kernel⟩
  obtain rfl := List.mem_singleton.mp h
  exact ⟨TA.i_pass, by decide +kernel, by decide +kernel⟩
theorem len_v (xs : List V) (k n : Nat) (h : xs.length = k) : decide (V.int (xs.length : Int) = V.int (n : Int)) = decide (k = n) := by
  rw [h]
  exact eqN
theorem twoL_len {wd : Str} {gs xs : List Gt} (h : twoL wd gs = some xs) : xs.length ≤ 10 := by
  have key : ∀ g h xs, twoP wd g h = some xs → xs.length ≤ 3 := fun g h xs e => by
    unfold twoP at e
    split at e
    · unfold cancelP at e
      split at e <;> cases e <;> exact Nat.le_of_ble_eq_true rfl
    · split at e
      · unfold exchP at e
        split at e <;> cases e <;> exact Nat.le_of_ble_eq_true rfl
      · split at e
        · unfold mergedP at e
          cases m : mergeP g h with
          | none => rw [m] at e; cases e
          | some k => rw [m] at e; cases e; exact Nat.le_of_ble_eq_true rfl
        · unfold passP at e
          split at e <;> cases e <;> exact Nat.le_of_ble_eq_true rfl
  match gs, h with
  | [g, h], e => exact Nat.le_trans (key g h xs e) (by decide)
section
variable {P : Program} {w : World} {K : PySem.W.Frag} {mg : Str → Option Value} {base : Heap}
set_option maxHeartbeats 4000000 in
theorem ok_apply_step (T : Txt K mg) (TA : TxA K mg w T) : FnOk P w K mg base CX0 7 T.f_apply_step T.d_apply_step ["circuit", "step"] (spStep K) := by
  have G_begins_with_word := ok_begins (P := P) (w := w) (base := base) T
  have G_is_count := ok_isCntD (P := P) (w := w) (base := base) T
  have G_two_instead := ok_two_instead (P := P) (base := base) T TA
  have G_twice := ok_twice (P := P) (w := w) (base := base) T
  have G_split_gate := ok_split (P := P) (w := w) (base := base) T
  refine T.F_apply_step.ok sc_apply_step (fun vs H Q E h => ?_) (fun cdv A outer s H vs Q E hr h => ?_)
  · obtain ⟨t, v, n, gs, r, rfl, _⟩ := h
    rfl
  · obtain ⟨t, v, n, gs, r, rfl, hC, hgw, hn, hgl, hst, q⟩ := h
    obtain ⟨gu, gvs, ht, hgu, hP⟩ := id hC
    have lg := hP.len
    have hT : TupG H (.ref gu) gs := ⟨gu, gvs, rfl, hgu, hP⟩
    refine ⟨_, (pss_cons (ps_if (PW.pt (pw_or (pt_not (pt_val (pe_call G_begins_with_word (hr.mono (by omega)) (by rfl) T.g_begins_with_word T.F_begins_with_word.kp T.b_begins_with_word .nil pass0 (pa_cons (pv 1) pa_nil)))) (pw_or (pt_cmpR op_lt (pe_callB call_len_seq (by rfl) T.m_len (by decide +kernel) (pa_cons (pv 1) pa_nil)) pe_int (nomark _)) (pw_or1 (pt_not (pt_val (pe_call G_is_count (hr.mono (by omega)) (by rfl) T.g_is_count T.F_is_count.kp T.b_is_count .nil pass0 (pa_cons (pe_ix ix_tup (pv 1) pe_int (fun _ _ => rfl)) pa_nil))))))))
        (pss_one (ps_ret pe_non))
        pss_nil)
      (pss_cons (ps_asg (pv 0) (pg_tup (by rfl) (pgs_cons (pg_name (i := 2) sc_apply_step.nd rfl (Or.inl rfl)) (pgs_cons (pg_name (i := 3) sc_apply_step.nd rfl (Or.inl rfl)) pgs_nil))))
      (pss_cons (ps_par (i := 4) (j := 5) (by rfl) sc_apply_step.nd rfl rfl (by decide) rfl rfl (pa_cons (pe_ix ix_tup (pv 1) pe_int (fun _ _ => rfl)) (pa_cons (pe_ix ix_tup (pv 1) pe_int (fun _ _ => rfl)) pa_nil)) (by rfl))
      (pss_cons (ps_cut (ps_if (PW.pt (pw_and (pt_cmpR op_inKD (pv 4) (pe_glob (v := .ref TA.a_OF_TWO) (by rfl) TA.m_OF_TWO rfl) (by rfl)) (pw_and1 (pt_cmpR op_eq (pe_callB call_len_seq (by rfl) T.m_len (by decide +kernel) (pa_cons (pv 1) pa_nil)) pe_int (nomark _)))))
        (pss_cons (ps_set (i := 6) sc_apply_step.nd rfl (Or.inl rfl) pe_int)
        (pss_one (ps_set (i := 7) sc_apply_step.nd rfl (Or.inl rfl) (pe_call G_two_instead (hr.mono (by omega)) (by rfl) T.g_two_instead T.F_two_instead.kp T.b_two_instead .nil pass0 (pa_cons (pv 4) (pa_cons (pe_slice sl_tupA (pv 3) (po_some (pv 5)) (po_some (pe_op op_add (pv 5) pe_int))) pa_nil))))))
        (pss_one (ps_if (PW.pt (pw_and (pt_cmpR op_eq (pv 4) pe_str (nomark _)) (pw_and1 (pt_cmpR op_eq (pe_callB call_len_seq (by rfl) T.m_len (by decide +kernel) (pa_cons (pv 1) pa_nil)) pe_int (nomark _)))))
          (pss_cons (ps_set (i := 6) sc_apply_step.nd rfl (Or.inl rfl) pe_int)
          (pss_one (ps_set (i := 7) sc_apply_step.nd rfl (Or.inl rfl) (pe_ifExp (pt_cmpR op_le (pv 5) (pe_callB call_len_seq (by rfl) T.m_len (by decide +kernel) (pa_cons (pv 3) pa_nil)) (nomark _)) (pe_call G_twice (hr.mono (by omega)) (by rfl) T.g_twice T.F_twice.kp T.b_twice .nil pass0 (pa_cons (pv 2) (pa_cons (pe_ix ix_tup (pv 1) pe_int (fun _ _ => rfl)) pa_nil))) pe_non))))
          (pss_one (ps_if (PW.pt (pw_and (pt_cmpR op_eq (pv 4) pe_str (nomark _)) (pw_and1 (pt_cmpR op_eq (pe_callB call_len_seq (by rfl) T.m_len (by decide +kernel) (pa_cons (pv 1) pa_nil)) pe_int (nomark _)))))
            (pss_cons (ps_set (i := 6) sc_apply_step.nd rfl (Or.inl rfl) pe_int)
            (pss_one (ps_set (i := 7) sc_apply_step.nd rfl (Or.inl rfl) (pe_ifExp (pt_cmpR op_lt (pv 5) (pe_callB call_len_seq (by rfl) T.m_len (by decide +kernel) (pa_cons (pv 3) pa_nil)) (nomark _)) (pe_call G_split_gate (hr.mono (by omega)) (by rfl) T.g_split_gate T.F_split_gate.kp T.b_split_gate .nil pass0 (pa_cons (pv 2) (pa_cons (pe_ix ix_tup (pv 3) (pv 5) (fun _ _ => rfl)) (pa_cons (pe_ix ix_tup (pv 1) pe_int (fun _ _ => rfl)) pa_nil)))) pe_non))))
            (pss_one (ps_ret pe_non))))))))
      (pss_cons (ps_if (pt_cmpR op_isN (pv 7) pe_non (nomark _))
        (pss_one (ps_ret pe_non))
        pss_nil)
      (pss_one (ps_ret (pe_tup (pa_cons (pv 2) (pa_cons (pe_cut (pe_op op_catA (pe_cut (pe_op op_catA (pe_slice sl_tupA (pv 3) po_none (po_some (pv 5))) (pv 7))) (pe_slice sl_tupA (pv 3) (po_some (pe_op op_add (pv 5) (pv 6))) po_none))) pa_nil)))))))))), ?_⟩
    cases hst with
    | none_ =>
      refine ⟨_, rfl, .non, .none, rfl, .non, _, rfl, ite_t rfl ?_⟩
      exact q _ _ (.refl _ _) rfl
    | @word a wd hs =>
      refine ⟨_, rfl, .ref a, .tuple [.str wd], rfl, .tup hs (.cons (.str _) .nil), _, rfl, ite_f (not_bl rfl) ?_⟩
      refine ⟨_, rfl, _, _, rfl, .inr hs, _, _, rfl, rfl, _, rfl, ite_t rfl ?_⟩
      exact q _ _ (.refl _ _) rfl
    | @below a wd hw hs =>
      refine ⟨_, rfl, .ref a, .tuple [.str wd, .int (-1)], rfl, .tup hs (.cons (.str _) (.cons (.int _) .nil)), _, rfl, ite_f (not_bl rfl) ?_⟩
      refine ⟨_, rfl, _, _, rfl, .inr hs, _, _, rfl, rfl, _, rfl, ite_f (not_bl rfl) ?_⟩
      refine ⟨_, rfl, a, _, _, _, rfl, rfl, hs, rfl, _, .int (-1), rfl, .int _, _, rfl, ite_t rfl ?_⟩
      exact q _ _ (.refl _ _) rfl
    | @true_ a wd hw hs =>
      refine ⟨_, rfl, .ref a, .tuple [.str wd, .bool true], rfl, .tup hs (.cons (.str _) (.cons (.bl _) .nil)), _, rfl, ite_f (not_bl rfl) ?_⟩
      refine ⟨_, rfl, _, _, rfl, .inr hs, _, _, rfl, rfl, _, rfl, ite_f (not_bl rfl) ?_⟩
      refine ⟨_, rfl, a, _, _, _, rfl, rfl, hs, rfl, _, .bool true, rfl, .bl _, _, rfl, ite_t rfl ?_⟩
      exact q _ _ (.refl _ _) rfl
    | @full a wd i rest _ hs hR =>
      obtain ⟨ds, hds⟩ := hR.data
      have at0 : atI (V.str wd :: V.int (i : Int) :: rest) ((0 : Nat) : Int) = some (.str wd) := atI_nat rfl
      have at1 : atI (V.str wd :: V.int (i : Int) :: rest) ((1 : Nat) : Int) = some (.int (i : Int)) := atI_nat rfl
      refine ⟨_, rfl, .ref a, .tuple (.str wd :: .int i :: ds), rfl, .tup hs (.cons (.str _) (.cons (.int _) hds)), _, rfl, ite_f (not_bl rfl) ?_⟩
      refine ⟨_, rfl, _, _, rfl, .inr hs, _, _, rfl, rfl, _, rfl, ite_f (not_bl (decide_eq_false (by rw [List.length_cons, List.length_cons]; omega))) ?_⟩
      have cnt : (!isCntD (.int (i : Int))) = false := by
        show (!(true && decide ((0 : Int) ≤ (i : Int)))) = false
        rw [decide_eq_true (by omega)]
        rfl
      refine ⟨_, rfl, a, _, _, _, rfl, rfl, hs, at1, _, .int (i : Int), rfl, .int _, _, rfl, ite_f (not_bl cnt) ?_⟩
      refine ⟨_, rfl, t, _, rfl, SqT.of ht, rfl, _, _, rfl, _, _, rfl, rfl, ?_⟩
      refine ⟨_, rfl, a, _, _, _, rfl, rfl, hs, at0, _, rfl, a, _, _, _, rfl, rfl, hs, at1, _, _, rfl, ?_⟩
      refine ⟨fun σ H' => ∃ (c : Nat) (iv : V) (ro : Option (List Gt)), σ = [some (.ref t), some (.ref a), some (.int n), some (.ref gu), some (.str wd), some (.int (i : Nat)), some (.int (c : Nat)), some iv] ∧ KT [] H H' ∧ OpG H' iv ro ∧ (∀ xs, ro = some xs → xs.length ≤ 10) ∧ r = ro.map fun x => gs.take i ++ x ++ gs.drop (i + c), ?_, ?_⟩
      rotate_left
      · rintro σ H1 ⟨c, iv, ro, rfl, k1, hiv, hlen, er⟩
        cases ro with
        | none =>
          cases (show iv = .non from hiv)
          refine ⟨_, rfl, rfl, _, rfl, ite_t rfl (q _ _ k1 ?_)⟩
          rw [er]
          rfl
        | some xs =>
          have hX : TupG H1 iv xs := hiv
          obtain ⟨xa, xvs, rfl, _⟩ := id hX
          have lx := hlen xs rfl
          have hT1 := hT.keep k1
          refine ⟨_, rfl, rfl, _, rfl, ite_f (by simp) ?_⟩
          refine ⟨_, rfl, fun v' H' => KT [] H1 H' ∧ TupG H' v' (gs.take i ++ xs ++ gs.drop (i + c)), ?_, ?_⟩
          · refine ⟨fun v' H' => KT [] H1 H' ∧ TupG H' v' (gs.take i ++ xs), ?_, ?_⟩
            · refine ⟨_, rfl, _, rfl, (i : Int), rfl, ?_⟩
              refine sl_x hT1 (sl_to i) fun v' H' k' h' => ⟨_, rfl, ?_⟩
              refine cat_x h' (hX.keep k') ?_ fun v2 H2 k2 h2 => ⟨k'.trans k2, h2⟩
              rw [List.length_take]
              omega
            · rintro v' H2 ⟨k2, h2⟩
              refine ⟨_, rfl, _, rfl, _, rfl, _, _, rfl, rfl, ((i + c : Nat) : Int), rfl, ?_⟩
              dsimp only [tNoPart]
              refine sl_x (hT1.keep k2) (sl_from (i + c)) fun v3 H3 k3 h3 => ?_
              refine cat_x (h2.keep k3) h3 ?_ fun v4 H4 k4 h4 => ⟨(k2.trans k3).trans k4, h4⟩
              rw [List.length_append, List.length_take, List.length_drop]
              omega
          · rintro v' H2 ⟨k2, ga, gvs', rfl, h2, p2⟩
            refine ⟨sz2, fun p np => ?_⟩
            have kp := KT.new [] np (o := .tup [.int n, .ref ga])
            refine q _ _ ((k1.trans k2).trans kp) ?_
            rw [er]
            exact ⟨p, rfl, ga, gvs', upd_same, kp.tp _ _ h2, gts_keep kp p2⟩
      have gs_gd : ∀ g ∈ gs, GdN g := fun g hg => (hgw g hg).gd (by omega)
      have lens : (V.str wd :: V.int (i : Int) :: rest).length = rest.length + 2 := by rw [List.length_cons, List.length_cons]
      have stop : ∀ {b : Bool}, b = false → ¬ b = true := fun e => not_bl e
      cases hR with
      | two hw =>
        obtain ⟨kin, _, _⟩ := four_in K mg w T TA hw
        refine ⟨_, rfl, TA.a_OF_TWO, wd, true, rfl, rfl, kin, _, rfl, ite_t rfl ⟨_, rfl, _, _, rfl, .inr hs, rfl, _, rfl, ite_t (by rfl) ?_⟩⟩
        refine ⟨_, rfl, _, rfl, _, rfl, (i : Int), rfl, _, rfl, _, _, rfl, rfl, ((i + 2 : Nat) : Int), rfl, ?_⟩
        refine sl_x hT (sl_mid i 2) fun v' H1 k1 h1 => ?_
        refine ⟨wd, v', _, rfl, hw, h1, by rw [List.length_take]; omega, fun g hg => gs_gd g (List.mem_of_mem_drop (List.mem_of_mem_take hg)), fun v2 H2 k2 h2 => ?_⟩
        refine ⟨2, v2, _, rfl, k1.trans k2, h2, fun xs ex => twoL_len ex, rfl⟩
      | turn =>
        refine ⟨_, rfl, TA.a_OF_TWO, _, false, rfl, rfl, TA.n_turn, _, rfl, ite_f (by decide) (ite_f (by decide) ?_)⟩
        refine ⟨_, rfl, rfl, _, rfl, ite_f (dstr_ne (by decide +kernel)) (ite_f (by decide) ?_)⟩
        refine ⟨_, rfl, rfl, _, rfl, ite_f (dstr_ne (by decide +kernel)) (ite_f (by decide) ?_)⟩
        exact q _ _ (.refl _ _) rfl
      | long hw =>
        obtain ⟨kin, n1, n2⟩ := four_in K mg w T TA hw
        refine ⟨_, rfl, TA.a_OF_TWO, wd, true, rfl, rfl, kin, _, rfl, ite_t rfl ⟨_, rfl, _, _, rfl, .inr hs, rfl, _, rfl, ite_f (not_bl rfl) ?_⟩⟩
        refine ⟨_, rfl, rfl, _, rfl, ite_f (dstr_ne n1) (ite_f (by decide) ?_)⟩
        refine ⟨_, rfl, rfl, _, rfl, ite_f (dstr_ne n2) (ite_f (by decide) ?_)⟩
        exact q _ _ (.refl _ _) rfl
      | @pairB _ x d hx hb =>
        have sm := sm_bad hb
        have hf := gf_bad hb
        refine ⟨_, rfl, TA.a_OF_TWO, _, false, rfl, rfl, TA.n_pair, _, rfl, ite_f (by decide) (ite_f (by decide) ?_)⟩
        refine ⟨_, rfl, rfl, _, rfl, ite_t (dstr_eq rfl) ⟨_, rfl, _, _, rfl, .inr hs, rfl, _, rfl, ite_t rfl ?_⟩⟩
        refine ⟨_, rfl, _, rfl, _, _, rfl, .inr (SqT.of hgu), _, _, rfl, rfl, _, rfl, ?_⟩
        have at2 : atI (V.str "pair" :: V.int (i : Int) :: [x]) ((2 : Nat) : Int) = some x := atI_nat rfl
        by_cases le : i ≤ gs.length
        · refine ite_t (decide_eq_true (by omega)) ?_
          refine ⟨_, rfl, _, rfl, a, _, _, _, rfl, rfl, hs, at2, ?_⟩
          refine ⟨(n : Int), x, d, rfl, hx, sm, fun v' H1 k1 h1 => ?_⟩
          rw [if_neg hf] at h1
          subst h1
          exact ⟨0, .non, none, rfl, k1, rfl, fun xs ex => (by cases ex), rfl⟩
        · refine ite_f (not_bl (decide_eq_false (by omega))) ?_
          exact ⟨0, .non, none, rfl, .refl _ _, rfl, fun xs ex => (by cases ex), rfl⟩
      | @pairG _ x g hx hg =>
        refine ⟨_, rfl, TA.a_OF_TWO, _, false, rfl, rfl, TA.n_pair, _, rfl, ite_f (by decide) (ite_f (by decide) ?_)⟩
        refine ⟨_, rfl, rfl, _, rfl, ite_t (dstr_eq rfl) ⟨_, rfl, _, _, rfl, .inr hs, rfl, _, rfl, ite_t rfl ?_⟩⟩
        refine ⟨_, rfl, _, rfl, _, _, rfl, .inr (SqT.of hgu), _, _, rfl, rfl, _, rfl, ?_⟩
        have at2 : atI (V.str "pair" :: V.int (i : Int) :: [x]) ((2 : Nat) : Int) = some x := atI_nat rfl
        by_cases le : i ≤ gs.length
        · refine ite_t (decide_eq_true (by omega)) ?_
          refine ⟨_, rfl, _, rfl, a, _, _, _, rfl, rfl, hs, at2, ?_⟩
          refine ⟨(n : Int), x, _, rfl, gt_rp hx, sm_gt hg (by omega), fun v' H1 k1 h1 => ?_⟩
          rw [if_pos (gf_good hg)] at h1
          obtain ⟨p, rfl, hp⟩ := h1
          refine ⟨0, .ref p, some [g, g], rfl, k1, ⟨p, _, rfl, hp, .cons (hx.keep k1) (.cons (hx.keep k1) .nil)⟩, fun xs ex => (by cases ex; exact Nat.le_of_ble_eq_true rfl), ?_⟩
          rw [if_pos le]
          rfl
        · refine ite_f (not_bl (decide_eq_false (by omega))) ?_
          refine ⟨0, .non, none, rfl, .refl _ _, rfl, fun xs ex => (by cases ex), ?_⟩
          rw [if_neg le]
          rfl
      | @split _ x d hx =>
        refine ⟨_, rfl, TA.a_OF_TWO, _, false, rfl, rfl, TA.n_split, _, rfl, ite_f (by decide) (ite_f (by decide) ?_)⟩
        refine ⟨_, rfl, rfl, _, rfl, ite_f (dstr_ne (by decide +kernel)) (ite_f (by decide) ?_)⟩
        refine ⟨_, rfl, rfl, _, rfl, ite_t (dstr_eq rfl) ⟨_, rfl, _, _, rfl, .inr hs, rfl, _, rfl, ite_t rfl ?_⟩⟩
        refine ⟨_, rfl, _, rfl, _, _, rfl, .inr (SqT.of hgu), _, _, rfl, rfl, _, rfl, ?_⟩
        have at2 : atI (V.str "split" :: V.int (i : Int) :: [x]) ((2 : Nat) : Int) = some x := atI_nat rfl
        by_cases le : i < gs.length
        · refine ite_t (decide_eq_true (by omega)) ?_
          obtain ⟨y, hy⟩ : ∃ y, gvs[i]? = some y := ⟨gvs[i]'(by omega), List.getElem?_eq_getElem _⟩
          have hg : gs[i]? = some gs[i] := List.getElem?_eq_getElem _
          obtain ⟨g', hg', hz'⟩ := hP.get hy
          have hz : GtV H y gs[i] := by
            rw [hg] at hg'
            cases hg'
            exact hz'
          have gw := hgw gs[i] (List.getElem_mem le)
          refine ⟨_, rfl, _, rfl, _, rfl, gu, _, _, _, rfl, rfl, SqT.of hgu, atI_nat hy, _, rfl, a, _, _, _, rfl, rfl, hs, at2, ?_⟩
          refine ⟨n, y, x, gs[i], d, rfl, hz, GW.gd gw (by omega), Nat.le_trans gw.2.2.2 (by omega), hx, fun v' H1 k1 h1 => ?_⟩
          refine ⟨1, v', splitP n gs[i] d, rfl, k1, h1, fun xs ex => ?_, ?_⟩
          · unfold splitP at ex
            split at ex <;> cases ex
            exact Nat.le_of_ble_eq_true rfl
          · rw [hg]
        · refine ite_f (not_bl (decide_eq_false (by omega))) ?_
          refine ⟨1, .non, none, rfl, .refl _ _, rfl, fun xs ex => (by cases ex), ?_⟩
          rw [List.getElem?_eq_none (by omega)]
          rfl
end

end My

set_option Elab.async false
set_option linter.all false
set_option maxRecDepth 100000
namespace My
open PySem PySem.Spec PyProof.Rows L2
/-! ### merge, as the law says it -/
def differC (L S : List Ct) : List Nat := (S.map (·.1)).filter fun w => getC S w != getC L w
def moreC (L S : List Ct) : List Nat := (L.map (·.1)).filter fun w => decide (w ∉ S.map (·.1))
def oneL (t : Nat) (L S : List Ct) : Option Gt :=
  if moreC S L ≠ [] then none else
  match differC L S, moreC L S with
  | [a], [] => some (t, srtC (L.filter fun c => decide (c.1 ≠ a)))
  | [], [m] => some (t, srtC (putC L m (!(getC L m).getD false)))
  | _, _ => none
theorem differ_left {L S : List Ct} (hL : (L.map (·.1)).Nodup) (hS : (S.map (·.1)).Nodup) : differC L S = (leftP S L).map (·.1) := by
  unfold differC leftP
  rw [List.filter_map]
  congr 1
  refine List.filter_congr fun c hc => ?_
  have h1 : getC S c.1 = some c.2 := (getC_mem hS).mpr hc
  show (getC S c.1 != getC L c.1) = decide (c ∉ L)
  rw [h1, Bool.eq_iff_iff, bne_iff_ne, decide_eq_true_iff]
  constructor
  · intro z hl
    exact z ((getC_mem hL).mpr hl).symm
  · intro z e
    exact z ((getC_mem hL).mp e.symm)
theorem mem_more {L S : List Ct} {w : Nat} : w ∈ moreC L S ↔ (∃ c ∈ L, c.1 = w) ∧ w ∉ S.map (·.1) := by
  unfold moreC
  rw [List.mem_filter, decide_eq_true_iff, List.mem_map]
theorem one_merge {t : Nat} {L S : List Ct} (hL : (L.map (·.1)).Pairwise (· < ·)) (hS : (S.map (·.1)).Pairwise (· < ·)) (le : S.length ≤ L.length) : oneL t L S = mergeP (t, L) (t, S) := by
  have nL := asc_nodup hL
  have nS := asc_nodup hS
  unfold oneL
  rw [differ_left nL nS]
  by_cases sub : moreC S L = []
  case neg =>
    rw [if_pos sub]
    obtain ⟨w, hw⟩ := List.exists_mem_of_ne_nil _ sub
    obtain ⟨⟨d, hd, rfl⟩, hn⟩ := mem_more.mp hw
    have dB : d ∈ leftP S L := mem_left.mpr ⟨hd, fun z => hn (List.mem_map.mpr ⟨d, z, rfl⟩)⟩
    refine (merge_no (g := (t, L)) (h := (t, S)) rfl ?_ ?_).symm
    · rintro ⟨a1, b1, e⟩
      have a1 : (leftP L S).length = 1 := a1
      have b1 : (leftP S L).length = 1 := b1
      have e : (leftP L S).map (·.1) = (leftP S L).map (·.1) := e
      obtain ⟨c, hc⟩ := List.length_eq_one_iff.mp a1
      obtain ⟨d', hd'⟩ := List.length_eq_one_iff.mp b1
      have hcL := (mem_left.mp (show c ∈ leftP L S by rw [hc]; exact List.mem_cons_self ..)).1
      rw [hd'] at dB
      obtain rfl := List.mem_singleton.mp dB
      rw [hc, hd'] at e
      have e : c.1 = d.1 := (List.cons.inj e).1
      exact hn (List.mem_map.mpr ⟨c, hcL, e⟩)
    · intro z
      have z : (leftP L S).length + (leftP S L).length = 1 := z
      have := List.length_pos_of_mem dB
      have a0 : leftP L S = [] := List.eq_nil_of_length_eq_zero (by omega)
      have inS : ∀ c ∈ L, c ∈ S := fun c hc => Classical.byContradiction fun y => by
        have : c ∈ leftP L S := mem_left.mpr ⟨hc, y⟩
        rw [a0] at this
        exact nomatch this
      have e : L = S.filter fun c => decide (c ∈ L) := by
        refine asc_eq hL (hS.sublist (List.filter_sublist.map _)) fun c => ?_
        rw [List.mem_filter, decide_eq_true_iff]
        exact ⟨fun h => ⟨inS c h, h⟩, fun h => h.2⟩
      have lt : (S.filter fun c => decide (c ∈ L)).length < S.length := List.length_filter_lt_length_iff_exists.mpr ⟨d, hd, by
        rw [decide_eq_true_iff]
        exact fun z => hn (List.mem_map.mpr ⟨d, z, rfl⟩)⟩
      rw [← e] at lt
      omega
  rw [if_neg (by simpa using sub)]
  have sub : ∀ d ∈ S, ∃ c ∈ L, c.1 = d.1 := fun d hd => Classical.byContradiction fun y => by
    have : d.1 ∈ moreC S L := mem_more.mpr ⟨⟨d, hd, rfl⟩, fun z => by
      obtain ⟨c, hc, e⟩ := List.mem_map.mp z
      exact y ⟨c, hc, e⟩⟩
    rw [sub] at this
    exact nomatch this
  -- a control of L that is not in S: its wire is more, or differs
  have split : ∀ c ∈ leftP L S, c.1 ∈ moreC L S ∨ ∃ d ∈ leftP S L, d.1 = c.1 := fun c hc => by
    obtain ⟨h1, h2⟩ := mem_left.mp hc
    by_cases z : c.1 ∈ S.map (·.1)
    · obtain ⟨d, hd, e⟩ := List.mem_map.mp z
      refine .inr ⟨d, mem_left.mpr ⟨hd, fun y => ?_⟩, e⟩
      have : d = c := asc_fn hL y h1 e
      exact h2 (this ▸ hd)
    · exact .inl (mem_more.mpr ⟨⟨c, h1, rfl⟩, z⟩)
  have back : ∀ d ∈ leftP S L, ∃ c ∈ leftP L S, c.1 = d.1 := fun d hd => by
    obtain ⟨h1, h2⟩ := mem_left.mp hd
    obtain ⟨c, hc, e⟩ := sub d h1
    refine ⟨c, mem_left.mpr ⟨hc, fun y => ?_⟩, e⟩
    have : c = d := asc_fn hS y h1 e
    exact h2 (this ▸ hc)
  have moreA : ∀ m ∈ moreC L S, ∃ c ∈ leftP L S, c.1 = m := fun m hm => by
    obtain ⟨⟨c, hc, rfl⟩, hn⟩ := mem_more.mp hm
    exact ⟨c, mem_left.mpr ⟨hc, fun y => hn (List.mem_map.mpr ⟨c, y, rfl⟩)⟩, rfl⟩
  have ndA : ((leftP L S).map (·.1)).Nodup := nL.sublist (List.filter_sublist.map _)
  have ndM : (moreC L S).Nodup := nL.sublist List.filter_sublist
  have ndB : ((leftP S L).map (·.1)).Nodup := nS.sublist (List.filter_sublist.map _)
  -- when A has but one wire, it is one control
  have oneA : ∀ w, (∀ c ∈ leftP L S, c.1 = w) → (∃ c ∈ leftP L S, c.1 = w) → ∃ c, leftP L S = [c] ∧ c.1 = w := fun w hall ⟨c, hc, e⟩ => by
    match hA : leftP L S with
    | [] => rw [hA] at hc; exact nomatch hc
    | [x] => exact ⟨x, rfl, hall x (by rw [hA]; exact List.mem_cons_self ..)⟩
    | x :: y :: r =>
      rw [hA] at ndA
      have e1 := hall x (by rw [hA]; simp)
      have e2 := hall y (by rw [hA]; simp)
      rw [List.map_cons, List.nodup_cons, List.map_cons, List.mem_cons] at ndA
      exact absurd (.inl (by rw [e1, e2])) ndA.1
  have mg : mergeP (t, L) (t, S) = (match leftP L S, leftP S L with
      | [c], [d] => if c.1 = d.1 then some (t, L.filter fun c => decide (c ∈ S)) else none
      | [c], [] => some (t, flipP c L)
      | [], [d] => some (t, flipP d S)
      | _, _ => none) := by
    unfold mergeP
    rw [if_neg (by simp)]
    all_goals rfl
  match hB : leftP S L, hM : moreC L S with
  | [d], [] =>
    show some (t, srtC (L.filter fun c => decide (c.1 ≠ d.1))) = _
    have all : ∀ c ∈ leftP L S, c.1 = d.1 := fun c hc => by
      rcases split c hc with z | ⟨d', hd', e⟩
      · rw [hM] at z; exact nomatch z
      · rw [hB] at hd'
        rw [← e, List.mem_singleton.mp hd']
    obtain ⟨c, hA, ec⟩ := oneA d.1 all (back d (by rw [hB]; exact List.mem_cons_self ..))
    have cA := mem_left.mp (show c ∈ leftP L S by rw [hA]; exact List.mem_cons_self ..)
    rw [mg, hA, hB]
    show _ = if c.1 = d.1 then some (t, L.filter fun c => decide (c ∈ S)) else none
    rw [if_pos ec]
    congr 2
    refine (srtC_eq (nL.sublist (List.filter_sublist.map _)) (hL.sublist (List.filter_sublist.map _)) fun x => ?_).symm
    rw [List.mem_filter, List.mem_filter, decide_eq_true_iff, decide_eq_true_iff]
    constructor
    · rintro ⟨h1, h2⟩
      refine ⟨h1, fun z => ?_⟩
      have : x = c := asc_fn hL h1 cA.1 (z.trans ec.symm)
      exact cA.2 (this ▸ h2)
    · rintro ⟨h1, h2⟩
      refine ⟨h1, Classical.byContradiction fun z => ?_⟩
      have := all x (mem_left.mpr ⟨h1, z⟩)
      exact h2 this
  | [], [m] =>
    show some (t, srtC (putC L m (!(getC L m).getD false))) = _
    have all : ∀ c ∈ leftP L S, c.1 = m := fun c hc => by
      rcases split c hc with z | ⟨d', hd', e⟩
      · rw [hM] at z; exact List.mem_singleton.mp z
      · rw [hB] at hd'; exact nomatch hd'
    obtain ⟨c, hA, ec⟩ := oneA m all (moreA m (by rw [hM]; exact List.mem_cons_self ..))
    have cA := mem_left.mp (show c ∈ leftP L S by rw [hA]; exact List.mem_cons_self ..)
    rw [mg, hA, hB]
    show _ = some (t, flipP c L)
    congr 2
    have eg : getC L m = some c.2 := by rw [← ec]; exact (getC_mem nL).mpr cA.1
    rw [eg]
    have fm : (flipP c L).map (·.1) = L.map (·.1) := by
      unfold flipP
      rw [List.map_map]
      refine List.map_congr_left fun x _ => ?_
      simp only [Function.comp]
      split <;> rfl
    refine (srtC_eq (nodup_putC nL m _) (by rw [fm]; exact hL) fun x => ?_).symm
    rw [mem_putC]
    unfold flipP
    rw [List.mem_map]
    constructor
    · rintro ⟨y, hy, rfl⟩
      by_cases e : y = c
      · rw [if_pos e]
        exact .inl (by rw [e, ec]; rfl)
      · rw [if_neg e]
        exact .inr ⟨hy, fun z => e (asc_fn hL hy cA.1 (z.trans ec.symm))⟩
    · rintro (rfl | ⟨h1, h2⟩)
      · exact ⟨c, cA.1, by rw [if_pos rfl, ec]; rfl⟩
      · exact ⟨x, h1, if_neg fun z => h2 (by rw [z, ec])⟩
  | [], [] =>
    have a0 : leftP L S = [] := List.eq_nil_iff_forall_not_mem.mpr fun c hc => by
      rcases split c hc with z | ⟨d', hd', e⟩
      · rw [hM] at z; exact nomatch z
      · rw [hB] at hd'; exact nomatch hd'
    rw [mg, a0, hB]
    rfl
  | [], m :: m2 :: r =>
    rw [mg, hB]
    match hA : leftP L S with
    | [] => rfl
    | [c] =>
      obtain ⟨x, hx, e1⟩ := moreA m (by rw [hM]; simp)
      obtain ⟨y, hy, e2⟩ := moreA m2 (by rw [hM]; simp)
      rw [hA] at hx hy
      rw [hM, List.nodup_cons] at ndM
      rw [List.mem_singleton.mp hx] at e1
      rw [List.mem_singleton.mp hy] at e2
      exact absurd (by rw [← e1, e2]; exact List.mem_cons_self ..) ndM.1
    | _ :: _ :: _ => rfl
  | [d], m :: r =>
    rw [mg, hB]
    match hA : leftP L S with
    | [] => rw [hA] at back; obtain ⟨x, hx, _⟩ := back d (by rw [hB]; simp); exact nomatch hx
    | [c] =>
      obtain ⟨x, hx, e1⟩ := back d (by rw [hB]; simp)
      obtain ⟨y, hy, e2⟩ := moreA m (by rw [hM]; simp)
      rw [hA] at hx hy
      rw [List.mem_singleton.mp hx] at e1
      rw [List.mem_singleton.mp hy] at e2
      have hm := (mem_more.mp (show m ∈ moreC L S by rw [hM]; simp)).2
      have hd := (mem_left.mp (show d ∈ leftP S L by rw [hB]; simp)).1
      exact absurd (List.mem_map.mpr ⟨d, hd, by rw [← e1, e2]⟩) hm
    | _ :: _ :: _ => rfl
  | d :: d2 :: r, M =>
    rw [mg, hB]
    match leftP L S with
    | [] => rfl
    | [c] => rfl
    | _ :: _ :: _ => rfl

theorem dkC_at {cs : List Ct} {i : Nat} {k : L2.Key} {v : V} (h : (dkC cs)[i]? = some (k, v)) : ∃ c, cs[i]? = some c ∧ k = Sum.inl (c.1 : Int) ∧ v = V.int (b2 c.2) := by
  unfold dkC kvC at h
  rw [List.getElem?_map, List.getElem?_map] at h
  cases e : cs[i]? with
  | none => rw [e] at h; cases h
  | some c =>
    rw [e] at h
    have h := Option.some.inj h
    exact ⟨c, rfl, (Prod.mk.inj h).1.symm, (Prod.mk.inj h).2.symm⟩
theorem dget_fz {H : Hp} {a : Addr} {od : Obj} {cs : List Ct} {n : Nat} (e : H a = some (.frz od (.dK (dkC cs)))) : DGet H a (.int (n : Int)) ((getC cs n).map fun b => V.int (b2 b)) :=
  .inl ⟨dkC cs, Sum.inl (n : Int), .inr ⟨_, e⟩, rfl, (dkC_get n cs).symm⟩
theorem getC_at {cs : List Ct} (nd : (cs.map (·.1)).Nodup) {c : Ct} (h : c ∈ cs) : (getC cs c.1).map (fun b => V.int (b2 b)) = some (V.int (b2 c.2)) := by
  rw [(getC_mem nd).mpr (show (c.1, c.2) ∈ cs from h)]
  rfl
/-- a list of wires, picked from a dict's keys -/
theorem keys_it {σ : L2.St} {H : Hp} {D l : Addr} {od : Obj} {cs : List Ct} {own : Nat} {tt : TT} {Qd : Hp → Prop} (pz : Nat → Bool) (hn : H D = some (.dK (dkC cs))) (hz : cs.length ≤ 1000) (hl : upd H D (.frz od (.dK (dkC cs))) l = none) (ho : decide (own < σ.length) = true)
    (ht : ∀ H1 c, c ∈ cs → H1 D = some (.frz od (.dK (dkC cs))) → (∀ b o, b ≠ D → H b = some o → H1 b = some o) → ∀ Q : Bool → Hp → Prop, Q (pz c.1) H1 → tt ((wipe σ [own]).set own (some (.int (c.1 : Nat)))) H1 Q)
    (hd : ∀ H', H' D = some (.frz od (.dK (dkC cs))) → upd H' D (.dK (dkC cs)) = upd H l (.lst (ivs ((cs.map (·.1)).filter pz))) → H l = none → Qd H') :
    ∃ W : Nat → Nat → Hp → Prop, (∃ m, W 0 m (upd (upd H D (.frz od (.dK (dkC cs)))) l (.lst []))) ∧ ∀ i m H, W i m H →
      ((Itk D od (dkC cs)).stop i H ∧ Qd H) ∨ ((Itk D od (dkC cs)).go i H ∧ ∃ Nx : Hp → Prop, (∀ H', Nx H' → ∃ m', m' < m ∧ W (i + 1) m' H') ∧ ∀ x H', (Itk D od (dkC cs)).yld i H x H' → gName own x (wipe σ [own]) H' fun σ2 H2 => wipe σ2 [own] = wipe σ [own] ∧ tt σ2 H2 fun b H3 =>
        if b = true then tVar own σ2 H3 fun y H4 => ∃ acc, H4 l = some (.lst acc) ∧ acc.length < sizeLine ∧ Nx (upd H4 l (.lst (acc ++ [y]))) else Nx H3) := by
  have nl : l ≠ D := fun z => by rw [z, upd_same] at hl; cases hl
  have hl2 : H l = none := by rw [upd_ne nl] at hl; exact hl
  have wt : ∀ {i : Nat} {c : Ct}, cs[i]? = some c → ((cs.take (i + 1)).map (·.1)).filter pz = ((cs.take i).map (·.1)).filter pz ++ if pz c.1 = true then [c.1] else [] := fun {i c} h => by
    rw [List.take_succ, h]
    show (List.map _ (cs.take i ++ [c])).filter pz = _
    rw [List.map_append, List.filter_append]
    by_cases e : pz c.1 = true
    · rw [if_pos e, List.map_cons, List.map_nil, List.filter_cons_of_pos e]; rfl
    · rw [if_neg e, List.map_cons, List.map_nil, List.filter_cons_of_neg e]; rfl
  refine lc_it (walk_keys (o := od) (kvs := dkC cs)) (fun i H1 => H1 = upd (upd H D (.frz od (.dK (dkC cs)))) l (.lst (ivs (((cs.take i).map (·.1)).filter pz)))) rfl (fun i H1 _ e => ?_) (fun i x H1 H2 hi e y => ?_) (fun H1 e => ?_)
  · rw [e, upd_ne (fun z => nl z.symm), upd_same]
  · obtain ⟨e2, k, v, hk, rfl⟩ := y
    obtain ⟨c, hx, rfl, rfl⟩ := dkC_at hk
    subst e2
    subst e
    have hwl : own < (wipe σ [own]).length := by rw [wipe_length]; exact of_decide_eq_true ho
    refine ⟨by simp [wipe, List.set_set], ?_⟩
    refine ht _ c (List.mem_of_getElem? hx) (by rw [upd_ne (fun z => nl z.symm), upd_same]) (fun b o nb e => ?_) _ ?_
    · rw [upd_ne (fun z => by rw [z, hl2] at e; cases e), upd_ne nb]
      exact e
    have w := wt hx
    refine ite2 (fun hp => ?_) (fun hp => ?_)
    · refine ⟨_, List.getElem?_set_self hwl, _, upd_same, ?_, ?_⟩
      · rw [ivs_len]
        have h1 := List.length_filter_le pz ((cs.take i).map (·.1))
        rw [List.length_map, List.length_take] at h1
        exact small1000 (by omega)
      · show upd _ l _ = _
        rw [upd_upd, w, if_pos hp, ivs_snoc]
        rfl
    · show _ = upd (upd H D (.frz od (.dK (dkC cs)))) l (.lst (ivs (((cs.take (i + 1)).map (·.1)).filter pz)))
      rw [w, if_neg hp, List.append_nil]
  · subst e
    refine hd _ (by rw [upd_ne (fun z => nl z.symm), upd_same]) ?_ hl2
    rw [dk_len, List.take_length]
    funext b
    by_cases h1 : b = D
    · rw [h1, upd_same, upd_ne (fun z => nl z.symm), hn]
    · rw [upd_ne h1]
      by_cases h2 : b = l
      · rw [h2, upd_same, upd_same]
      · rw [upd_ne h2, upd_ne h1, upd_ne h2]
theorem nil_eqv {K : PySem.W.Frag} {H : Hp} {L l : Addr} {ns : List Nat} (h1 : H L = some (.lst (ivs ns))) (h2 : H l = some (.lst [])) : ∃ d e, Dp K H (.ref L) d ∧ Dp K H (.ref l) e ∧ SeqAt.shaped d = true ∧ SeqAt.shaped e = true ∧ PyData.eqv d e = ns.isEmpty := by
  refine ⟨.list ((ns.map fun (n : Nat) => (n : Int)).map PyData.int), .list [], .lst (SqL.of h1) ?_, .lst (SqL.of h2) .nil, shaped_ints _, shaped_nil, ?_⟩
  · rw [ivs_int]
    exact dp_ints _
  · rw [eqv_nil]
    cases ns <;> rfl
def spOrd (K : PySem.W.Frag) : Sp := fun vs H Q _ => ∃ (D : Addr) (cs : List Ct), vs = [.ref D] ∧ H D = some (.dK (dkC cs)) ∧ (cs.map (·.1)).Nodup ∧ cs.length ≤ 1000 ∧ ∀ u H', KT [] H H' → CtlV H' u (srtC cs) → Q (.ref u) H'
section
variable {P : Program} {w : World} {K : PySem.W.Frag} {mg : Str → Option Value} {base : Heap}
theorem ok_z_free (T : Txt K mg) : FnOk P w K mg base CX0 1 T.f_z_free T.d_z_free ["one", "two"] spFree := by
  refine T.F_z_free.ok sc_z_free (fun vs H Q E h => ?_) (fun cdv A outer s H vs Q E hr h => ?_)
  · obtain ⟨x, y, g, h, rfl, _⟩ := h
    rfl
  · obtain ⟨x, y, g, h, rfl, hx, hy, ⟨gg, gl⟩, ⟨gh, hl⟩, q⟩ := h
    obtain ⟨t, u, rfl, ht, hu⟩ := hx.ctl
    obtain ⟨t2, u2, rfl, ht2, hu2⟩ := hy.ctl
    have ng := asc_nodup gg.1
    have nh := asc_nodup gh.1
    refine ⟨_, (pss_cons (ps_set (i := 2) sc_z_free.nd rfl (Or.inl rfl) (pe_callTy (call_dictF rfl) (by rfl) T.m_dict (by decide +kernel) (pa_cons (pe_ix ix_tup (pv 0) pe_int (fun _ _ => rfl)) pa_nil)))
      (pss_cons (ps_set (i := 3) sc_z_free.nd rfl (Or.inl rfl) (pe_callTy (call_dictF rfl) (by rfl) T.m_dict (by decide +kernel) (pa_cons (pe_ix ix_tup (pv 1) pe_int (fun _ _ => rfl)) pa_nil)))
      (pss_cons (ps_if (PW.pt (pw_and (pt_cmp (pc_dnotin (hu_of hr) (pe_ix ix_tup (pv 0) pe_int (fun _ _ => rfl)) (pv 3))) (pw_and1 (pt_cmp (pc_dnotin (hu_of hr) (pe_ix ix_tup (pv 1) pe_int (fun _ _ => rfl)) (pv 2))))))
        (pss_one (ps_ret pe_bl))
        pss_nil)
      (pss_cons (ps_lock (ps_for PassesOwn.never rfl (pi_keys (pv 2)) (pg_name (i := 4) sc_z_free.nd rfl (Or.inl rfl))
        (pss_one (ps_if (PW.pt (pw_and (pt_cmpR op_notIn_seq (pv 4) (pe_tup (pa_cons (pe_ix ix_tup (pv 0) pe_int (fun _ _ => rfl)) (pa_cons (pe_ix ix_tup (pv 1) pe_int (fun _ _ => rfl)) pa_nil))) (by rfl)) (pw_and (pt_cmp (pc_din (hu_of hr) (pv 4) (pv 3))) (pw_and1 (pt_cmpR op_ne (pe_dget (hu_of hr) (pv 2) (pv 4) (fun _ _ => rfl)) (pe_dget (hu_of hr) (pv 3) (pv 4) (fun _ _ => rfl)) (nomark _))))))
          (pss_one (ps_ret pe_bl))
          pss_nil))))
      (pss_one (ps_ret pe_bl)))))), ?_⟩
    obtain ⟨ps, f1, f2⟩ := hu.ps (K := K)
    refine ⟨_, rfl, t, _, _, _, rfl, rfl, SqT.of ht, rfl, u, ps, dkC g.2, rfl, f1, f2, fun D1 nD1 => ?_⟩
    rw [mergeK_dkC ng]
    have k1 := KT.new [] nD1 (o := .dK (dkC g.2))
    obtain ⟨ps', f3, f4⟩ := (hu2.keep k1).ps (K := K)
    refine ⟨_, rfl, t2, _, _, _, rfl, rfl, SqT.of (k1.tp _ _ ht2), rfl, u2, ps', dkC h.2, rfl, f3, f4, fun D2 nD2 => ?_⟩
    rw [mergeK_dkC nh]
    have k2' := KT.new [] nD2 (o := .dK (dkC h.2))
    have k2 := k1.trans k2'
    have n12 : D1 ≠ D2 := fun z => by rw [← z, upd_same] at nD2; cases nD2
    have e1 : (upd (upd H D1 (.dK (dkC g.2))) D2 (.dK (dkC h.2))) D1 = some (.dK (dkC g.2)) := by rw [upd_ne n12, upd_same]
    have e2 : (upd (upd H D1 (.dK (dkC g.2))) D2 (.dK (dkC h.2))) D2 = some (.dK (dkC h.2)) := upd_same
    have ht := k2.tp _ _ ht
    have ht2 := k2.tp _ _ ht2
    generalize upd (upd H D1 (.dK (dkC g.2))) D2 (.dK (dkC h.2)) = H2 at k2 e1 e2 ht ht2 ⊢
    refine ⟨_, rfl, t, _, _, _, rfl, rfl, SqT.of ht, rfl, _, rfl, D2, _, rfl, dget_c e2, _, rfl, ?_⟩
    rw [getC_isSome]
    have fin : ∀ H', KT [] H2 H' → Q (.bl (freeP g h)) H' := fun H' k => q _ (k2.trans k)
    by_cases c1 : g.1 ∉ h.2.map (·.1) ∧ h.1 ∉ g.2.map (·.1)
    · refine ite_t (by rw [decide_eq_false c1.1]; rfl) ⟨_, rfl, t2, _, _, _, rfl, rfl, SqT.of ht2, rfl, _, rfl, D1, _, rfl, dget_c e1, _, rfl, ?_⟩
      rw [getC_isSome]
      refine ite_t (by rw [decide_eq_false c1.2]; rfl) ?_
      have : freeP g h = true := by
        unfold freeP
        rw [decide_eq_true c1.1, decide_eq_true c1.2]
        rfl
      rw [← this]
      exact fin _ (.refl _ _)
    have eo : freeP g h = opp g.2 h.2 := by
      unfold freeP
      have : (decide (g.1 ∉ h.2.map (·.1)) && decide (h.1 ∉ g.2.map (·.1))) = false := by
        rw [Bool.and_eq_false_iff, decide_eq_false_iff_not, decide_eq_false_iff_not]
        by_cases z : g.1 ∉ h.2.map (·.1)
        · exact .inr fun y => c1 ⟨z, y⟩
        · exact .inl z
      rw [this]
      rfl
    have hDN : H D1 = none := nD1
    have ot := fun (cs : List Ct) => opp_get (cs := cs) nh
    have n1t : t ≠ D1 := fun z => by rw [z, e1] at ht; cases ht
    have n1t2 : t2 ≠ D1 := fun z => by rw [z, e1] at ht2; cases ht2
    refine ite2 (fun z => ⟨_, rfl, t2, _, _, _, rfl, rfl, SqT.of ht2, rfl, _, rfl, D1, _, rfl, dget_c e1, _, rfl, ?_⟩) (fun z => ite_f (by decide) ?_)
    · rw [getC_isSome]
      have z1 : g.1 ∉ h.2.map (·.1) := by simpa using z
      refine ite_f (by rw [decide_eq_true (Classical.not_not.mp fun y => c1 ⟨z1, y⟩)]; decide) ?_
      exact (by
        refine ⟨D1, .dK (dkC g.2), e1, trivial, fun od => ⟨_, rfl, D1, od, rfl, .inl ⟨dkC g.2, upd_same, ?_⟩⟩⟩
        refine for_it (walk_keys (o := od) (kvs := dkC g.2)) (fun i σ H1 => (∃ x4, σ = [some (.ref t), some (.ref t2), some (.ref D1), some (.ref D2), x4]) ∧ KT [] H H1 ∧ H1 D1 = some (.frz od (.dK (dkC g.2))) ∧ H1 D2 = some (.dK (dkC h.2)) ∧ H1 t = some (.tup [.int g.1, .ref u]) ∧ H1 t2 = some (.tup [.int h.1, .ref u2]) ∧ opp (g.2.take i) h.2 = false) ⟨⟨_, rfl⟩, k2.late nD1, upd_same, by rw [upd_ne n12.symm]; exact e2, by rw [upd_ne n1t]; exact ht, by rw [upd_ne n1t2]; exact ht2, rfl⟩ ?_ ?_ ?_
        · rintro i σ H1 _ ⟨_, _, h1, _⟩
          exact h1
        · rintro i x σ H1 H3 hi ⟨⟨x4, rfl⟩, k, f1, f2, f3, f4, no⟩ ⟨rfl, kk, v, hk, rfl⟩
          obtain ⟨c, hc, rfl, rfl⟩ := dkC_at hk
          have cm := List.mem_of_getElem? hc
          have eN : opp (g.2.take (i + 1)) h.2 = ((getC h.2 c.1).getD c.2 != c.2) := by
            rw [← ot, List.take_succ, hc, List.any_append, ot, no]
            show (false || (_ || false)) = _
            rw [Bool.false_or, Bool.or_false]
          refine ⟨_, rfl, _, rfl, t, _, _, _, rfl, rfl, SqT.of f3, rfl, _, rfl, t2, _, _, _, rfl, rfl, SqT.of f4, rfl, sz2, fun p np => ?_⟩
          have kp := KT.new [] np (o := .tup [.int g.1, .int h.1])
          have kk := k.trans kp
          have f1 := kp.kp _ _ (by simp) f1
          have f2 := kp.kp _ _ (by simp) f2
          have f3 := kp.kp _ _ (by simp) f3
          have f4 := kp.kp _ _ (by simp) f4
          refine ⟨p, _, rfl, .inr (SqT.of upd_same), rfl, rfl, _, rfl, ?_⟩
          generalize upd H3 p (.tup [.int g.1, .int h.1]) = H4 at kk f1 f2 f3 f4 ⊢
          have inv : (if true = true then !inV (kV (Sum.inl (c.1 : Int))) [V.int (g.1 : Nat), V.int (h.1 : Nat)] else inV (kV (Sum.inl (c.1 : Int))) [V.int (g.1 : Nat), V.int (h.1 : Nat)]) = !decide (c.1 = h.1) := by
            rw [if_pos rfl, show [V.int (g.1 : Nat), V.int (h.1 : Nat)] = ivs [g.1, h.1] from rfl, show kV (Sum.inl (c.1 : Int)) = V.int (c.1 : Int) from rfl, inV_ivs]
            congr 1
            rw [Bool.eq_iff_iff, decide_eq_true_iff, decide_eq_true_iff, List.mem_cons, List.mem_singleton]
            exact ⟨fun y => y.resolve_left (gg.2 c cm), .inr⟩
          by_cases e : c.1 = h.1
          · refine ite_f (by rw [inv, decide_eq_true e]; decide) (ite_f (by decide) ⟨⟨_, rfl⟩, kk, f1, f2, f3, f4, ?_⟩)
            rw [eN, getC_none.mpr (by rw [e]; exact apt_not gh.2)]
            simp
          · refine ite_t (by rw [inv, decide_eq_false e]; rfl) ⟨_, rfl, _, rfl, D2, _, rfl, dget_c f2, _, rfl, ?_⟩
            cases eg : getC h.2 c.1 with
            | none =>
              refine ite_f (by decide) (ite_f (by decide) ⟨⟨_, rfl⟩, kk, f1, f2, f3, f4, ?_⟩)
              rw [eN, eg]
              simp
            | some b =>
              have eg1 : getC g.2 c.1 = some c.2 := (getC_mem ng).mpr cm
              refine ite_t rfl ⟨_, rfl, _, rfl, D1, _, rfl, (by have := dget_fz (n := c.1) f1; rw [eg1] at this; exact this), _, rfl, _, rfl, D2, _, rfl, (by have := dget_c (n := c.1) f2; rw [eg] at this; exact this), rfl, _, rfl, ?_⟩
              by_cases e3 : c.2 = b
              · refine ite_f (not_bl ?_) ⟨⟨_, rfl⟩, kk, f1, f2, f3, f4, ?_⟩
                · show (!decide (V.int (b2 c.2) = V.int (b2 b))) = false
                  rw [e3]
                  simp
                · rw [eN, eg, e3]
                  simp
              · refine ite_t ?_ ⟨f1, ?_⟩
                · show (!decide (V.int (b2 c.2) = V.int (b2 b))) = true
                  rw [decide_eq_false (fun z => e3 (b2_inj.mp (V.int.inj z)))]
                  rfl
                · have : freeP g h = true := by
                    rw [eo, ← ot, List.any_eq_true]
                    refine ⟨c, cm, ?_⟩
                    rw [eg]
                    show (b != c.2) = true
                    rw [bne_iff_ne]
                    exact fun z => e3 z.symm
                  rw [← this]
                  exact q _ (kk.late nD1)
        · rintro σ H1 ⟨⟨x4, rfl⟩, k, f1, f2, f3, f4, no⟩
          rw [dk_len, List.take_length] at no
          refine ⟨f1, ?_⟩
          rw [← no, ← eo]
          exact q _ (k.late nD1))
    · exact (by
        refine ⟨D1, .dK (dkC g.2), e1, trivial, fun od => ⟨_, rfl, D1, od, rfl, .inl ⟨dkC g.2, upd_same, ?_⟩⟩⟩
        refine for_it (walk_keys (o := od) (kvs := dkC g.2)) (fun i σ H1 => (∃ x4, σ = [some (.ref t), some (.ref t2), some (.ref D1), some (.ref D2), x4]) ∧ KT [] H H1 ∧ H1 D1 = some (.frz od (.dK (dkC g.2))) ∧ H1 D2 = some (.dK (dkC h.2)) ∧ H1 t = some (.tup [.int g.1, .ref u]) ∧ H1 t2 = some (.tup [.int h.1, .ref u2]) ∧ opp (g.2.take i) h.2 = false) ⟨⟨_, rfl⟩, k2.late nD1, upd_same, by rw [upd_ne n12.symm]; exact e2, by rw [upd_ne n1t]; exact ht, by rw [upd_ne n1t2]; exact ht2, rfl⟩ ?_ ?_ ?_
        · rintro i σ H1 _ ⟨_, _, h1, _⟩
          exact h1
        · rintro i x σ H1 H3 hi ⟨⟨x4, rfl⟩, k, f1, f2, f3, f4, no⟩ ⟨rfl, kk, v, hk, rfl⟩
          obtain ⟨c, hc, rfl, rfl⟩ := dkC_at hk
          have cm := List.mem_of_getElem? hc
          have eN : opp (g.2.take (i + 1)) h.2 = ((getC h.2 c.1).getD c.2 != c.2) := by
            rw [← ot, List.take_succ, hc, List.any_append, ot, no]
            show (false || (_ || false)) = _
            rw [Bool.false_or, Bool.or_false]
          refine ⟨_, rfl, _, rfl, t, _, _, _, rfl, rfl, SqT.of f3, rfl, _, rfl, t2, _, _, _, rfl, rfl, SqT.of f4, rfl, sz2, fun p np => ?_⟩
          have kp := KT.new [] np (o := .tup [.int g.1, .int h.1])
          have kk := k.trans kp
          have f1 := kp.kp _ _ (by simp) f1
          have f2 := kp.kp _ _ (by simp) f2
          have f3 := kp.kp _ _ (by simp) f3
          have f4 := kp.kp _ _ (by simp) f4
          refine ⟨p, _, rfl, .inr (SqT.of upd_same), rfl, rfl, _, rfl, ?_⟩
          generalize upd H3 p (.tup [.int g.1, .int h.1]) = H4 at kk f1 f2 f3 f4 ⊢
          have inv : (if true = true then !inV (kV (Sum.inl (c.1 : Int))) [V.int (g.1 : Nat), V.int (h.1 : Nat)] else inV (kV (Sum.inl (c.1 : Int))) [V.int (g.1 : Nat), V.int (h.1 : Nat)]) = !decide (c.1 = h.1) := by
            rw [if_pos rfl, show [V.int (g.1 : Nat), V.int (h.1 : Nat)] = ivs [g.1, h.1] from rfl, show kV (Sum.inl (c.1 : Int)) = V.int (c.1 : Int) from rfl, inV_ivs]
            congr 1
            rw [Bool.eq_iff_iff, decide_eq_true_iff, decide_eq_true_iff, List.mem_cons, List.mem_singleton]
            exact ⟨fun y => y.resolve_left (gg.2 c cm), .inr⟩
          by_cases e : c.1 = h.1
          · refine ite_f (by rw [inv, decide_eq_true e]; decide) (ite_f (by decide) ⟨⟨_, rfl⟩, kk, f1, f2, f3, f4, ?_⟩)
            rw [eN, getC_none.mpr (by rw [e]; exact apt_not gh.2)]
            simp
          · refine ite_t (by rw [inv, decide_eq_false e]; rfl) ⟨_, rfl, _, rfl, D2, _, rfl, dget_c f2, _, rfl, ?_⟩
            cases eg : getC h.2 c.1 with
            | none =>
              refine ite_f (by decide) (ite_f (by decide) ⟨⟨_, rfl⟩, kk, f1, f2, f3, f4, ?_⟩)
              rw [eN, eg]
              simp
            | some b =>
              have eg1 : getC g.2 c.1 = some c.2 := (getC_mem ng).mpr cm
              refine ite_t rfl ⟨_, rfl, _, rfl, D1, _, rfl, (by have := dget_fz (n := c.1) f1; rw [eg1] at this; exact this), _, rfl, _, rfl, D2, _, rfl, (by have := dget_c (n := c.1) f2; rw [eg] at this; exact this), rfl, _, rfl, ?_⟩
              by_cases e3 : c.2 = b
              · refine ite_f (not_bl ?_) ⟨⟨_, rfl⟩, kk, f1, f2, f3, f4, ?_⟩
                · show (!decide (V.int (b2 c.2) = V.int (b2 b))) = false
                  rw [e3]
                  simp
                · rw [eN, eg, e3]
                  simp
              · refine ite_t ?_ ⟨f1, ?_⟩
                · show (!decide (V.int (b2 c.2) = V.int (b2 b))) = true
                  rw [decide_eq_false (fun z => e3 (b2_inj.mp (V.int.inj z)))]
                  rfl
                · have : freeP g h = true := by
                    rw [eo, ← ot, List.any_eq_true]
                    refine ⟨c, cm, ?_⟩
                    rw [eg]
                    show (b != c.2) = true
                    rw [bne_iff_ne]
                    exact fun z => e3 z.symm
                  rw [← this]
                  exact q _ (kk.late nD1)
        · rintro σ H1 ⟨⟨x4, rfl⟩, k, f1, f2, f3, f4, no⟩
          rw [dk_len, List.take_length] at no
          refine ⟨f1, ?_⟩
          rw [← no, ← eo]
          exact q _ (k.late nD1))
end

end My

set_option Elab.async false
set_option linter.all false
set_option maxRecDepth 100000
namespace My
open PySem PySem.Spec PyProof.Rows L2
section
variable {P : Program} {w : World} {K : PySem.W.Frag} {mg : Str → Option Value} {base : Heap}
theorem ok_z_ordered (T : Txt K mg) : FnOk P w K mg base CX0 1 T.f_z_ordered T.d_z_ordered ["controls"] (spOrd K) := by
  refine T.F_z_ordered.ok sc_z_ordered (fun vs H Q E h => ?_) (fun cdv A outer s H vs Q E hr h => ?_)
  · obtain ⟨D, cs, rfl, _⟩ := h
    rfl
  · obtain ⟨D, cs, rfl, hD, nd, hl, q⟩ := h
    refine ⟨_, (pss_one (ps_ret (pe_callTy call_tupleF (by rfl) T.m_tuple (by decide +kernel) (pa_cons (pe_lc (own := [("wire", 1)]) (g := gName 1) (by rfl) sc_z_ordered.nd (pi_list (pe_callB cr_sortedI (by rfl) T.m_sorted (by decide +kernel) (pa_cons (pe_callTy (call_list_dK rfl) (by rfl) T.m_list (by decide +kernel) (pa_cons (pv 0) pa_nil)) pa_nil))) (blkOk_by (own := [("wire", 1)]) (N := N_z_ordered) (sc := defScope s_z_ordered) (by decide +kernel)) (fun _ _ _ _ _ => (pg_name (i := 1) sc_z_ordered.nd rfl (Or.inl rfl))) (fun _ _ _ _ _ => pts_nil) (fun _ _ _ _ _ => (pe_tup (pa_cons (pv 1) (pa_cons (pe_dget (hu_of hr) (pv 0) (pv 1) (fun _ _ => rfl)) pa_nil))))) pa_nil)))), ?_⟩
    refine ⟨_, rfl, D, dkC cs, rfl, hD, fun p np => ?_⟩
    have k1 := KT.new [] np (o := .lst ((dkC cs).map fun kv => kV kv.1))
    have ek : ((dkC cs).map fun kv => kV kv.1) = (cs.map fun c => (c.1 : Int)).map V.int := by
      unfold dkC kvC
      rw [List.map_map, List.map_map, List.map_map]
      rfl
    refine ⟨p, cs.map fun c => (c.1 : Int), rfl, SqL.of (by rw [upd_same, ek]), fun ns p2 hp hs np2 => ?_⟩
    have es : ns = (srtC cs).map fun c => (c.1 : Int) := by
      have nd1 : (cs.map fun c => (c.1 : Int)).Nodup := by
        rw [show (cs.map fun c => (c.1 : Int)) = (cs.map (·.1)).map (fun (n : Nat) => (n : Int)) by rw [List.map_map]; rfl]
        exact List.pairwise_map.mpr (nd.imp fun hab e => hab (by omega))
      have up : ((srtC cs).map fun c => (c.1 : Int)).Pairwise (· < ·) := by
        rw [show ((srtC cs).map fun c => (c.1 : Int)) = ((srtC cs).map (·.1)).map (fun (n : Nat) => (n : Int)) by rw [List.map_map]; rfl]
        exact List.pairwise_map.mpr ((srtC_asc nd).imp fun h => by omega)
      refine asc_ext ((hs.and (hp.nodup_iff.mpr nd1)).imp fun ⟨a, b⟩ => by omega) up fun x => ?_
      rw [hp.mem_iff, ((srtC_perm cs).map fun c => (c.1 : Int)).mem_iff]
    subst es
    have k2 := k1.trans (KT.new [] np2 (o := .lst (((srtC cs).map fun c => (c.1 : Int)).map V.int)))
    have hU : (upd (upd H p (.lst ((dkC cs).map fun kv => kV kv.1))) p2 (.lst (((srtC cs).map fun c => (c.1 : Int)).map V.int))) p2 = some (.lst (((srtC cs).map fun c => (c.1 : Int)).map V.int)) := upd_same
    have hD2 := k2.kp _ _ (by simp) hD
    generalize upd (upd H p (.lst ((dkC cs).map fun kv => kV kv.1))) p2 (.lst (((srtC cs).map fun c => (c.1 : Int)).map V.int)) = H2 at k2 hU hD2 ⊢
    refine ⟨p2, rfl, ⟨_, SqL.of hU⟩, fun M nM => ?_⟩
    have nM' : p2 ≠ M := ne_of_none hU nM
    refine lc_it (walk_list (K := K) (a := p2) (xs := ((srtC cs).map fun c => (c.1 : Int)).map V.int)) (fun i H1 => ∃ vs, KT [] H2 H1 ∧ H1 M = some (.lst vs) ∧ P2 (PrV H1) vs ((srtC cs).take i)) ?_ ?_ ?_ ?_
    · exact ⟨[], KT.new _ nM, upd_same, .nil⟩
    · rintro i H1 _ ⟨vs, k, _⟩
      exact SqL.of (k.kp _ _ (by simp) hU)
    · rintro i x H1 H3 hi ⟨vs, k, hM, hP⟩ ⟨rfl, hx⟩
      rw [List.getElem?_map, List.getElem?_map] at hx
      cases hc : (srtC cs)[i]? with
      | none => rw [hc] at hx; cases hx
      | some c =>
        rw [hc] at hx
        cases hx
        have cm : c ∈ cs := (srtC_perm cs).mem_iff.mp (List.mem_of_getElem? hc)
        have hD3 := k.kp _ _ (by simp) hD2
        refine ⟨by rfl, ?_⟩
        refine ⟨_, rfl, _, rfl, _, rfl, D, _, rfl, (by have := dget_c (n := c.1) hD3; rw [getC_at nd cm] at this; exact this), sz2, fun t nt => ?_⟩
        have kt := KT.new [] nt (o := .tup [.int c.1, .int (b2 c.2)])
        have hM2 := kt.kp _ _ (by simp) hM
        refine ⟨_, hM2, ?_, vs ++ [.ref t], (k.trans kt).late nM, upd_same, ?_⟩
        · have := hP.len
          rw [this, List.length_take]
          have := (srtC_perm cs).length_eq
          exact Nat.lt_of_le_of_lt (by omega : _ ≤ 1000) (by decide)
        · rw [List.take_succ, hc]
          exact ((prs_keep kt hP).snoc ⟨t, rfl, upd_same⟩).mono fun _ _ => PrV.put hM2
    · rintro H1 ⟨vs, k, hM, hP⟩
      rw [List.length_map, List.length_map, List.take_length] at hP
      refine ⟨_, _, rfl, SqL.of hM, fun u ob nu hob => ?_⟩
      have ku := KT.new [] nu (o := .frz ob (.tup vs))
      exact q _ _ ((k2.trans k).trans ku) ⟨vs, .new hob, prs_keep ku hP⟩
end

end My

set_option Elab.async false
set_option linter.all false
set_option maxRecDepth 100000
namespace My
open PySem PySem.Spec PyProof.Rows L2
theorem lock_asg {te : TE} {j : Nat} {D : Ends} {σ : L2.St} {H : Hp} (h : tLockE te σ H fun v H' => D.nx (σ.set j (some v)) H') : tLock (tAsg te (gName j)) D σ H := h
theorem oneL_none {t : Nat} {L S : List Ct} (h1 : ¬ ((differC L S).length = 1 ∧ moreC L S = [])) (h2 : ¬ (differC L S = [] ∧ (moreC L S).length = 1)) : oneL t L S = none := by
  unfold oneL
  by_cases s : moreC S L ≠ []
  · rw [if_pos s]
  · rw [if_neg s]
    match hB : differC L S, hM : moreC L S with
    | [d], [] => exact absurd ⟨by rw [hB]; rfl, hM⟩ h1
    | [], [m] => exact absurd ⟨hB, by rw [hM]; rfl⟩ h2
    | [], [] => rfl
    | [], _ :: _ :: _ => rfl
    | [d], _ :: _ => rfl
    | _ :: _ :: _, _ => rfl
theorem merge_comm {t : Nat} {L S : List Ct} (hL : (L.map (·.1)).Pairwise (· < ·)) (hS : (S.map (·.1)).Pairwise (· < ·)) : mergeP (t, L) (t, S) = mergeP (t, S) (t, L) := by
  unfold mergeP
  rw [if_neg (by simp), if_neg (by simp)]
  show (match leftP L S, leftP S L with
      | [c], [d] => if c.1 = d.1 then some (t, L.filter fun c => decide (c ∈ S)) else none
      | [c], [] => some (t, flipP c L)
      | [], [d] => some (t, flipP d S)
      | _, _ => none) = (match leftP S L, leftP L S with
      | [c], [d] => if c.1 = d.1 then some (t, S.filter fun c => decide (c ∈ L)) else none
      | [c], [] => some (t, flipP c S)
      | [], [d] => some (t, flipP d L)
      | _, _ => none)
  have e : (L.filter fun c => decide (c ∈ S)) = S.filter fun c => decide (c ∈ L) := by
    refine asc_eq (hL.sublist (List.filter_sublist.map _)) (hS.sublist (List.filter_sublist.map _)) fun c => ?_
    rw [List.mem_filter, List.mem_filter, decide_eq_true_iff, decide_eq_true_iff]
    exact ⟨fun ⟨a, b⟩ => ⟨b, a⟩, fun ⟨a, b⟩ => ⟨b, a⟩⟩
  match leftP L S, leftP S L with
  | [], [] => rfl
  | [], [_] => rfl
  | [], _ :: _ :: _ => rfl
  | [c], [] => rfl
  | [c], [d] =>
    show (if c.1 = d.1 then some (t, L.filter fun c => decide (c ∈ S)) else none) = if d.1 = c.1 then some (t, S.filter fun c => decide (c ∈ L)) else none
    rw [e]
    by_cases z : c.1 = d.1
    · rw [if_pos z, if_pos z.symm]
    · rw [if_neg z, if_neg fun y => z y.symm]
  | [_], _ :: _ :: _ => rfl
  | _ :: _ :: _, [] => rfl
  | _ :: _ :: _, [_] => rfl
  | _ :: _ :: _, _ :: _ :: _ => rfl
/-- a list of gates -/
def ListG (H : Hp) (v : V) (gs : List Gt) : Prop := ∃ L vs, v = .ref L ∧ H L = some (.lst vs) ∧ P2 (GtV H) vs gs
def spLTwo (f : Gt → Gt → Option (List Gt)) : Sp := fun vs H Q _ => ∃ (x y : V) (g h : Gt), vs = [x, y] ∧ GtV H x g ∧ GtV H y h ∧ GdN g ∧ GdN h ∧ g.2.length ≤ 400 ∧ h.2.length ≤ 400 ∧ ∀ v H', KT [] H H' → ListG H' v ((f g h).getD []) → Q v H'
section
variable {P : Program} {w : World} {K : PySem.W.Frag} {mg : Str → Option Value} {base : Heap}
set_option maxHeartbeats 4000000 in
theorem ok_z_one (T : Txt K mg) : FnOk P w K mg base CX0 2 T.f_z_one T.d_z_one ["one", "two"] (spLTwo mergedP) := by
  have G_z_ordered := ok_z_ordered (P := P) (w := w) (base := base) T
  refine T.F_z_one.ok sc_z_one (fun vs H Q E h => ?_) (fun cdv A outer s H vs Q E hr h => ?_)
  · obtain ⟨x, y, g, h, rfl, _⟩ := h
    rfl
  · obtain ⟨x, y, g, h, rfl, hx, hy, ⟨gg, gl⟩, ⟨gh, hl⟩, gs, hs, q⟩ := h
    obtain ⟨t, u, rfl, ht, hu⟩ := hx.ctl
    obtain ⟨t2, u2, rfl, ht2, hu2⟩ := hy.ctl
    have ng := asc_nodup gg.1
    have nh := asc_nodup gh.1
    have none_ : ∀ H1 p, KT [] H H1 → H1 p = none → mergeP g h = none → Q (.ref p) (upd H1 p (.lst [])) := fun H1 p k np e => by
      refine q _ _ (k.trans (KT.new [] np)) ⟨p, [], rfl, upd_same, ?_⟩
      unfold mergedP
      rw [e]
      exact .nil
    refine ⟨_, (pss_cons (ps_if (pt_cmpR op_ne (pe_ix ix_tup (pv 0) pe_int (fun _ _ => rfl)) (pe_ix ix_tup (pv 1) pe_int (fun _ _ => rfl)) (nomark _))
        (pss_one (ps_ret (pe_lst pa_nil)))
        pss_nil)
      (pss_cons (ps_set (i := 2) sc_z_one.nd rfl (Or.inr rfl) (pe_callTy (call_dictF rfl) (by rfl) T.m_dict (by decide +kernel) (pa_cons (pe_ix ix_tup (pv 0) pe_int (fun _ _ => rfl)) pa_nil)))
      (pss_cons (ps_set (i := 3) sc_z_one.nd rfl (Or.inr rfl) (pe_callTy (call_dictF rfl) (by rfl) T.m_dict (by decide +kernel) (pa_cons (pe_ix ix_tup (pv 1) pe_int (fun _ _ => rfl)) pa_nil)))
      (pss_cons (ps_cut (ps_if (pt_cmpR op_lt (pe_callB call_lenD (by rfl) T.m_len (by decide +kernel) (pa_cons (pv 2) pa_nil)) (pe_callB call_lenD (by rfl) T.m_len (by decide +kernel) (pa_cons (pv 3) pa_nil)) (nomark _))
        (pss_one (ps_asg (pe_tup (pa_cons (pv 3) (pa_cons (pv 2) pa_nil))) (pg_tup (by rfl) (pgs_cons (pg_name (i := 2) sc_z_one.nd rfl (Or.inr rfl)) (pgs_cons (pg_name (i := 3) sc_z_one.nd rfl (Or.inr rfl)) pgs_nil)))))
        pss_nil))
      (pss_cons (ps_if (pt_cmpR (op_neD hr.units) (pe_lock (pe_lc (own := [("wire", 6)]) (g := gName 6) (by rfl) sc_z_one.nd (pi_keys (pv 3)) (blkOk_by (own := [("wire", 6)]) (N := N_z_one) (sc := defScope s_z_one) (by decide +kernel)) (fun _ _ _ _ _ => (pg_name (i := 6) sc_z_one.nd rfl (Or.inl rfl))) (fun _ _ _ _ _ => (pts_one (pt_cmp (pc_dnotin (hu_of hr) (pv 6) (pv 2))))) (fun _ _ _ _ _ => (pv 6)))) (pe_lst pa_nil) (nomark _))
        (pss_one (ps_ret (pe_lst pa_nil)))
        pss_nil)
      (pss_cons (ps_lock (ps_setLc (i := 4) (own := [("wire", 6)]) (g := gName 6) rfl sc_z_one.nd rfl rfl (sw_true rfl rfl rfl (by decide +kernel)) (pi_keys (pv 3)) (blkOk_by (own := [("wire", 6)]) (N := N_z_one) (sc := defScope s_z_one) (by decide +kernel)) (fun _ _ _ _ _ => (pg_name (i := 6) sc_z_one.nd rfl (Or.inl rfl))) (fun _ _ _ _ _ => (pts_one (pt_cmpR op_ne (pe_dget (hu_of hr) (pv 3) (pv 6) (fun _ _ => rfl)) (pe_dget (hu_of hr) (pv 2) (pv 6) (fun _ _ => rfl)) (nomark _)))) (fun _ _ _ _ _ => (pv 6))))
      (pss_cons (ps_lock (ps_setLc (i := 5) (own := [("wire", 6)]) (g := gName 6) rfl sc_z_one.nd rfl rfl (sw_true rfl rfl rfl (by decide +kernel)) (pi_keys (pv 2)) (blkOk_by (own := [("wire", 6)]) (N := N_z_one) (sc := defScope s_z_one) (by decide +kernel)) (fun _ _ _ _ _ => (pg_name (i := 6) sc_z_one.nd rfl (Or.inl rfl))) (fun _ _ _ _ _ => (pts_one (pt_cmp (pc_dnotin (hu_of hr) (pv 6) (pv 3))))) (fun _ _ _ _ _ => (pv 6))))
      (pss_cons (ps_if (PW.pt (pw_and (pt_cmpR op_eq (pe_callB call_len_seq (by rfl) T.m_len (by decide +kernel) (pa_cons (pv 4) pa_nil)) pe_int (nomark _)) (pw_and1 (pt_cmpR (op_eqD hr.units) (pv 5) (pe_lst pa_nil) (nomark _)))))
        (pss_cons (ps_expr (pe_dpop1 (pv 2) (pe_ix ix_list (pv 4) pe_int (fun _ _ => rfl)) (M1.mk rfl rfl rfl rfl)))
        (pss_one (ps_ret (pe_lst (pa_cons (pe_tup (pa_cons (pe_ix ix_tup (pv 0) pe_int (fun _ _ => rfl)) (pa_cons (pe_call G_z_ordered (hr.mono (by omega)) (by rfl) T.g_z_ordered T.F_z_ordered.kp T.b_z_ordered .nil pass0 (pa_cons (pv 2) pa_nil)) pa_nil))) pa_nil)))))
        pss_nil)
      (pss_cons (ps_if (PW.pt (pw_and (pt_cmpR (op_eqD hr.units) (pv 4) (pe_lst pa_nil) (nomark _)) (pw_and1 (pt_cmpR op_eq (pe_callB call_len_seq (by rfl) T.m_len (by decide +kernel) (pa_cons (pv 5) pa_nil)) pe_int (nomark _)))))
        (pss_cons (ps_dput (hu_of hr) (pv 2) (pe_ix ix_list (pv 5) pe_int (fun _ _ => rfl)) (pe_op op_sub pe_int (pe_dget (hu_of hr) (pv 2) (pe_ix ix_list (pv 5) pe_int (fun _ _ => rfl)) (fun _ _ => rfl))) rfl)
        (pss_one (ps_ret (pe_lst (pa_cons (pe_tup (pa_cons (pe_ix ix_tup (pv 0) pe_int (fun _ _ => rfl)) (pa_cons (pe_call G_z_ordered (hr.mono (by omega)) (by rfl) T.g_z_ordered T.F_z_ordered.kp T.b_z_ordered .nil pass0 (pa_cons (pv 2) pa_nil)) pa_nil))) pa_nil)))))
        pss_nil)
      (pss_one (ps_ret (pe_lst pa_nil)))))))))))), ?_⟩
    refine ⟨_, rfl, t, _, _, _, rfl, rfl, SqT.of ht, rfl, _, rfl, t2, _, _, _, rfl, rfl, SqT.of ht2, rfl, rfl, _, rfl, ?_⟩
    by_cases e : g.1 = h.1
    case neg =>
      refine ite_t ?_ ⟨Nat.zero_le _, fun p np => none_ _ p (.refl _ _) np ?_⟩
      · show (!decide (V.int (g.1 : Nat) = V.int (h.1 : Nat))) = true
        rw [decide_eq_false (fun z => e (by have := V.int.inj z; omega))]
        rfl
      · unfold mergeP
        rw [if_pos e]
    refine ite_f (not_bl ?_) ?_
    · show (!decide (V.int (g.1 : Nat) = V.int (h.1 : Nat))) = false
      rw [e]
      simp
    obtain ⟨ps, f1, f2⟩ := hu.ps (K := K)
    refine ⟨_, rfl, t, _, _, _, rfl, rfl, SqT.of ht, rfl, u, ps, dkC g.2, rfl, f1, f2, fun D1 nD1 => ?_⟩
    rw [mergeK_dkC ng]
    have k1 := KT.new [] nD1 (o := .dK (dkC g.2))
    obtain ⟨ps', f3, f4⟩ := (hu2.keep k1).ps (K := K)
    refine ⟨_, rfl, t2, _, _, _, rfl, rfl, SqT.of (k1.tp _ _ ht2), rfl, u2, ps', dkC h.2, rfl, f3, f4, fun D2 nD2 => ?_⟩
    rw [mergeK_dkC nh]
    have k2' := KT.new [] nD2 (o := .dK (dkC h.2))
    have k2 := k1.trans k2'
    have n12 : D1 ≠ D2 := fun z => by rw [← z, upd_same] at nD2; cases nD2
    have e1 : (upd (upd H D1 (.dK (dkC g.2))) D2 (.dK (dkC h.2))) D1 = some (.dK (dkC g.2)) := by rw [upd_ne n12, upd_same]
    have e2 : (upd (upd H D1 (.dK (dkC g.2))) D2 (.dK (dkC h.2))) D2 = some (.dK (dkC h.2)) := upd_same
    have hD2 : H D2 = none := by rw [upd_ne n12.symm] at nD2; exact nD2
    generalize upd (upd H D1 (.dK (dkC g.2))) D2 (.dK (dkC h.2)) = H2 at k2 e1 e2 ⊢
    refine ⟨fun σ H' => ∃ (DL DS : Addr) (L S : List Ct), σ = [some (.ref t), some (.ref t2), some (.ref DL), some (.ref DS), none, none, none] ∧ KT [] H H' ∧ H' DL = some (.dK (dkC L)) ∧ H' DS = some (.dK (dkC S)) ∧ DL ≠ DS ∧ H DL = none ∧ (L.map (·.1)).Pairwise (· < ·) ∧ (S.map (·.1)).Pairwise (· < ·) ∧ L.length ≤ 1000 ∧ S.length ≤ L.length ∧ mergeP g h = mergeP (g.1, L) (g.1, S), ?_, ?_⟩
    · refine ⟨_, rfl, D1, _, rfl, e1, _, rfl, D2, _, rfl, e2, _, _, rfl, rfl, _, rfl, ?_⟩
      rw [dk_len, dk_len]
      by_cases lt : g.2.length < h.2.length
      · refine ite_t (decide_eq_true (by omega)) ⟨_, rfl, _, rfl, sz2, fun p np => ?_⟩
        have kp := KT.new [] np (o := .tup [.ref D2, .ref D1])
        refine ⟨p, _, rfl, SqT.of upd_same, rfl, _, _, rfl, _, _, rfl, rfl, D2, D1, h.2, g.2, rfl, k2.trans kp, kp.kp _ _ (by simp) e2, kp.kp _ _ (by simp) e1, n12.symm, hD2, gh.1, gg.1, hl, Nat.le_of_lt lt, ?_⟩
        rw [← merge_comm gg.1 gh.1, show ((g.1, h.2) : Gt) = h by rw [e]]
      · refine ite_f (not_bl (decide_eq_false (by omega))) ⟨D1, D2, g.2, h.2, rfl, k2, e1, e2, n12, nD1, gg.1, gh.1, gl, by omega, ?_⟩
        rw [show ((g.1, h.2) : Gt) = h by rw [e]]
    rintro σ H3 ⟨DL, DS, L, S, rfl, k3, hL, hS, nLS, hDL, aL, aS, lL, lS, em⟩
    rw [← one_merge aL aS lS] at em
    have nL := asc_nodup aL
    have nS := asc_nodup aS
    refine ⟨DS, _, hS, trivial, fun od => ⟨_, rfl, DS, od, rfl, .inl ⟨dkC S, upd_same, fun l nl => ?_⟩⟩⟩
    refine keys_it (fun w => decide (w ∉ L.map (·.1))) hS (by omega) nl (by rfl) (fun H1 c hc f1 keep Q q => ?_) fun H' e1 e2 nl => ⟨e1, ?_⟩
    · refine ⟨_, rfl, _, rfl, DL, _, rfl, dget_c (keep DL _ nLS hL), ?_⟩
      rw [getC_isSome]
      refine ⟨_, rfl, ?_⟩
      simpa using q
    rw [e2]
    clear e1 e2 H'
    have kl := k3.trans (KT.new [] nl (o := .lst (ivs ((S.map (·.1)).filter fun w => decide (w ∉ L.map (·.1))))))
    have hl1 : (upd H3 l (.lst (ivs ((S.map (·.1)).filter fun w => decide (w ∉ L.map (·.1)))))) l = some (.lst (ivs (moreC S L))) := upd_same
    have hL4 := (KT.new [] nl (o := .lst (ivs ((S.map (·.1)).filter fun w => decide (w ∉ L.map (·.1)))))).kp _ _ (by simp) hL
    have hS4 := (KT.new [] nl (o := .lst (ivs ((S.map (·.1)).filter fun w => decide (w ∉ L.map (·.1)))))).kp _ _ (by simp) hS
    generalize upd H3 l (.lst (ivs ((S.map (·.1)).filter fun w => decide (w ∉ L.map (·.1))))) = H4 at kl hl1 hL4 hS4 ⊢
    refine ⟨Nat.zero_le _, fun l2 nl2 => ?_⟩
    have kl2 := KT.new [] nl2 (o := .lst [])
    obtain ⟨d1, d2, q1, q2, q3, q4, q5⟩ := nil_eqv (K := K) (kl2.kp _ _ (by simp) hl1) upd_same
    refine ⟨d1, d2, q1, q2, q3, q4, _, rfl, ?_⟩
    rw [q5]
    have k5 := kl.trans kl2
    have hL5 := kl2.kp _ _ (by simp) hL4
    have hS5 := kl2.kp _ _ (by simp) hS4
    generalize upd H4 l2 (.lst []) = H5 at k5 hL5 hS5 ⊢
    by_cases sub : moreC S L = []
    case neg =>
      refine ite_t ?_ ⟨Nat.zero_le _, fun p np => none_ _ p k5 np ?_⟩
      · cases z : moreC S L with
        | nil => exact absurd z sub
        | cons a r => rfl
      · rw [em]
        unfold oneL
        rw [if_pos sub]
    refine ite_f (by rw [sub]; decide) ?_
    have inL : ∀ c ∈ S, ∃ b, getC L c.1 = some b := fun c hc => by
      cases z : getC L c.1 with
      | some b => exact ⟨b, rfl⟩
      | none =>
        have : c.1 ∈ moreC S L := mem_more.mpr ⟨⟨c, hc, rfl⟩, getC_none.mp z⟩
        rw [sub] at this
        exact nomatch this
    refine ⟨DS, _, hS5, trivial, fun od => ⟨_, rfl, DS, od, rfl, .inl ⟨dkC S, upd_same, fun la nla => ?_⟩⟩⟩
    refine keys_it (fun w => getC S w != getC L w) hS5 (by omega) nla (by rfl) (fun H1 c hc f1 keep Q q => ?_) fun H' e1 e2 nla => ⟨e1, ?_⟩
    · obtain ⟨b, eb⟩ := inL c hc
      have es : getC S c.1 = some c.2 := (getC_mem nS).mpr hc
      refine ⟨_, rfl, _, rfl, DS, _, rfl, (by have := dget_fz (n := c.1) f1; rw [es] at this; exact this), _, rfl, _, rfl, DL, _, rfl, (by have := dget_c (n := c.1) (keep DL _ nLS hL5); rw [eb] at this; exact this), rfl, _, rfl, ?_⟩
      rw [es, eb] at q
      have : (!decide (V.int (b2 c.2) = V.int (b2 b))) = (some c.2 != some b) := by
        cases c.2 <;> cases b <;> rfl
      rw [this]
      exact q
    rw [e2]
    clear e1 e2 H'
    have k6' := KT.new [] nla (o := .lst (ivs ((S.map (·.1)).filter fun w => getC S w != getC L w)))
    have hA6 : (upd H5 la (.lst (ivs ((S.map (·.1)).filter fun w => getC S w != getC L w)))) la = some (.lst (ivs (differC L S))) := upd_same
    have k6 := k5.trans k6'
    have hL6 := k6'.kp _ _ (by simp) hL5
    have hS6 := k6'.kp _ _ (by simp) hS5
    generalize upd H5 la (.lst (ivs ((S.map (·.1)).filter fun w => getC S w != getC L w))) = H6 at k6 hA6 hL6 hS6 ⊢
    refine ⟨DL, _, hL6, trivial, fun od => ⟨_, rfl, DL, od, rfl, .inl ⟨dkC L, upd_same, fun lm nlm => ?_⟩⟩⟩
    refine keys_it (fun w => decide (w ∉ S.map (·.1))) hL6 (by omega) nlm (by rfl) (fun H1 c hc f1 keep Q q => ?_) fun H' e1 e2 nlm => ⟨e1, ?_⟩
    · refine ⟨_, rfl, _, rfl, DS, _, rfl, dget_c (keep DS _ nLS.symm hS6), ?_⟩
      rw [getC_isSome]
      refine ⟨_, rfl, ?_⟩
      simpa using q
    rw [e2]
    clear e1 e2 H'
    have k7' := KT.new [] nlm (o := .lst (ivs ((L.map (·.1)).filter fun w => decide (w ∉ S.map (·.1)))))
    have hM7 : (upd H6 lm (.lst (ivs ((L.map (·.1)).filter fun w => decide (w ∉ S.map (·.1)))))) lm = some (.lst (ivs (moreC L S))) := upd_same
    have k7 := k6.trans k7'
    have hL7 := k7'.kp _ _ (by simp) hL6
    have hA7 := k7'.kp _ _ (by simp) hA6
    have nLA : DL ≠ la := fun z => by rw [z, hA6] at hL6; cases hL6
    have nLM : DL ≠ lm := fun z => by rw [← z, hL6] at nlm; cases nlm
    generalize upd H6 lm (.lst (ivs ((L.map (·.1)).filter fun w => decide (w ∉ S.map (·.1))))) = H7 at k7 hM7 hL7 hA7 ⊢
    have ht7 := k7.tp _ _ ht
    -- the gate at the end
    have fin : ∀ (cs : List Ct) (u : Addr) (H8 : Hp) (p p2 : Addr), KT [] H H8 → CtlV H8 u (srtC cs) → mergeP g h = some (g.1, srtC cs) → H8 p = none → (upd H8 p (.tup [.int g.1, .ref u])) p2 = none → Q (.ref p2) (upd (upd H8 p (.tup [.int g.1, .ref u])) p2 (.lst [.ref p])) := fun cs u H8 p p2 k8 hu em np np2 => by
      have k9 := KT.new [] np (o := .tup [.int g.1, .ref u])
      have k10 := KT.new [] np2 (o := .lst [.ref p])
      refine q _ _ ((k8.trans k9).trans k10) ⟨p2, _, rfl, upd_same, ?_⟩
      unfold mergedP
      rw [em]
      obtain ⟨vs, h1, h2⟩ := (hu.keep k9).keep k10
      exact .cons ⟨p, u, vs, rfl, k10.tp _ _ upd_same, h1, h2⟩ .nil
    have sz1 : ([V.non] : List V).length ≤ sizeLine := by decide
    have ht7' : H7 t = some (.tup [.int g.1, .ref u]) := ht7
    have lenB : ∀ (ns : List Nat), decide (V.int (((ivs ns).length : Nat) : Int) = V.int 1) = decide (ns.length = 1) := fun ns => by
      rw [ivs_len, Bool.eq_iff_iff, decide_eq_true_iff, decide_eq_true_iff]
      exact ⟨fun z => by have := V.int.inj z; omega, fun z => by rw [z]; rfl⟩
    have emp : ∀ (ns : List Nat), (ns.isEmpty = true) ↔ ns = [] := fun ns => by cases ns <;> simp
    refine ⟨_, rfl, _, _, rfl, .inl (SqL.of hA7), rfl, _, rfl, ?_⟩
    dsimp only
    rw [lenB]
    by_cases c1 : (differC L S).length = 1
    · refine ite_t (decide_eq_true c1) ⟨_, rfl, Nat.zero_le _, fun l2 nl2 => ?_⟩
      have kl2 := KT.new [] nl2 (o := .lst [])
      obtain ⟨d1, d2, q1, q2, q3, q4, q5⟩ := nil_eqv (K := K) (kl2.kp _ _ (by simp) hM7) upd_same
      refine ⟨d1, d2, q1, q2, q3, q4, _, rfl, ?_⟩
      rw [q5]
      have k8 := k7.trans kl2
      have hL8 := kl2.kp _ _ (by simp) hL7
      have hA8 := kl2.kp _ _ (by simp) hA7
      generalize upd H7 l2 (.lst []) = H8 at k8 hL8 hA8 ⊢
      by_cases c2 : moreC L S = []
      · obtain ⟨a, hB⟩ := List.length_eq_one_iff.mp c1
        rw [hB] at hA8
        refine ite_t ((emp _).mpr c2) ?_
        obtain ⟨b, eb⟩ : ∃ b, getC L a = some b := by
          have ha : a ∈ differC L S := by rw [hB]; exact List.mem_cons_self ..
          rw [differ_left nL nS] at ha
          obtain ⟨d, hd, rfl⟩ := List.mem_map.mp ha
          exact inL d (mem_left.mp hd).1
        refine ⟨_, rfl, DL, rfl, .inl ⟨_, .inl hL8⟩, _, rfl, la, _, _, _, rfl, rfl, SqL.of hA8, rfl, dkC L, Sum.inl (a : Int), V.int (b2 b), hL8, rfl, (by rw [dkC_get, eb]; rfl), ?_⟩
        rw [dkC_drop]
        have k9 := k8.late hDL (o := .dK (dkC (L.filter fun c => decide (c.1 ≠ a))))
        refine ⟨_, rfl, t, _, _, _, rfl, rfl, SqT.of (k9.tp _ _ ht), rfl, _, rfl, DL, L.filter fun c => decide (c.1 ≠ a), rfl, upd_same, nL.sublist (List.filter_sublist.map _), Nat.le_trans (List.length_filter_le _ _) lL, fun u' H' k' hu' => ⟨sz2, fun p np => ⟨sz1, fun p2 np2 => ?_⟩⟩⟩
        refine fin (L.filter fun c => decide (c.1 ≠ a)) _ _ _ _ (k9.trans k') hu' ?_ np np2
        rw [em]
        unfold oneL
        rw [if_neg (by simpa using sub), hB, c2]
      · refine ite_f (fun z => c2 ((emp _).mp z)) ?_
        refine ⟨_, rfl, Nat.zero_le _, fun l3 nl3 => ?_⟩
        have kl3 := KT.new [] nl3 (o := .lst [])
        obtain ⟨d1, d2, q1, q2, q3, q4, q5⟩ := nil_eqv (K := K) (kl3.kp _ _ (by simp) hA8) upd_same
        refine ⟨d1, d2, q1, q2, q3, q4, _, rfl, ?_⟩
        rw [q5]
        refine ite_f (fun z => by rw [(emp _).mp z] at c1; cases c1) (ite_f (by decide) ⟨Nat.zero_le _, fun p np => none_ _ p (k8.trans kl3) np ?_⟩)
        rw [em]
        exact oneL_none (fun z => c2 z.2) (fun z => by rw [z.1] at c1; cases c1)
    · refine ite_f (not_bl (decide_eq_false c1)) (ite_f (by decide) ?_)
      refine ⟨_, rfl, Nat.zero_le _, fun l2 nl2 => ?_⟩
      have kl2 := KT.new [] nl2 (o := .lst [])
      obtain ⟨d1, d2, q1, q2, q3, q4, q5⟩ := nil_eqv (K := K) (kl2.kp _ _ (by simp) hA7) upd_same
      refine ⟨d1, d2, q1, q2, q3, q4, _, rfl, ?_⟩
      rw [q5]
      have k8 := k7.trans kl2
      have hL8 := kl2.kp _ _ (by simp) hL7
      have hM8 := kl2.kp _ _ (by simp) hM7
      generalize upd H7 l2 (.lst []) = H8 at k8 hL8 hM8 ⊢
      by_cases c2 : differC L S = []
      case neg =>
        refine ite_f (fun z => c2 ((emp _).mp z)) (ite_f (by decide) ⟨Nat.zero_le _, fun p np => none_ _ p k8 np ?_⟩)
        rw [em]
        exact oneL_none (fun z => c1 z.1) (fun z => c2 z.1)
      refine ite_t ((emp _).mpr c2) ?_
      refine ⟨_, rfl, _, _, rfl, .inl (SqL.of hM8), rfl, _, rfl, ?_⟩
      dsimp only
      rw [lenB]
      by_cases c3 : (moreC L S).length = 1
      case neg =>
        refine ite_f (not_bl (decide_eq_false c3)) ⟨Nat.zero_le _, fun p np => none_ _ p k8 np ?_⟩
        rw [em]
        exact oneL_none (fun z => c1 z.1) (fun z => c3 z.2)
      refine ite_t (decide_eq_true c3) ?_
      obtain ⟨m, hM⟩ := List.length_eq_one_iff.mp c3
      rw [hM] at hM8
      obtain ⟨⟨d, hd, rfl⟩, _⟩ := mem_more.mp (show m ∈ moreC L S by rw [hM]; exact List.mem_cons_self ..)
      have ed : getC L d.1 = some d.2 := (getC_mem nL).mpr hd
      refine ⟨_, rfl, _, rfl, lm, _, _, _, rfl, rfl, SqL.of hM8, rfl, DL, _, rfl, (by have := dget_c (n := d.1) hL8; rw [ed] at this; exact this), _, _, rfl, rfl, _, rfl, _, rfl, lm, _, _, _, rfl, rfl, SqL.of hM8, rfl, DL, _, rfl, DPut.k (k := Sum.inl (d.1 : Int)) hL8 ?_, ?_⟩
      · rw [dk_len]
        exact Nat.lt_of_le_of_lt lL (by decide)
      have e1 : putK (dkC L) (Sum.inl (d.1 : Int)) ((fun i j => V.int (i - j)) 1 (b2 d.2)) = dkC (putC L d.1 (!d.2)) := by
        show putK _ _ (V.int (1 - b2 d.2)) = _
        rw [b2_not, dkC_putC]
      rw [e1]
      have k9 := k8.late hDL (o := .dK (dkC (putC L d.1 (!d.2))))
      refine ⟨_, rfl, t, _, _, _, rfl, rfl, SqT.of (k9.tp _ _ ht), rfl, _, rfl, DL, putC L d.1 (!d.2), rfl, upd_same, nodup_putC nL _ _, ?_, fun u' H' k' hu' => ⟨sz2, fun p np => ⟨sz1, fun p2 np2 => ?_⟩⟩⟩
      · unfold putC
        rw [if_pos (List.mem_map.mpr ⟨d, hd, rfl⟩), List.length_map]
        exact lL
      refine fin (putC L d.1 (!d.2)) _ _ _ _ (k9.trans k') hu' ?_ np np2
      rw [em]
      unfold oneL
      rw [if_neg (by simpa using sub), c2, hM]
      show some (g.1, srtC (putC L d.1 (!(getC L d.1).getD false))) = _
      rw [ed]
      rfl
end

end My

set_option Elab.async false
set_option linter.all false
set_option maxRecDepth 100000
namespace My
open PySem PySem.Spec PyProof.Rows L2
/-! ### the search: an object of class Search -/
structure TxC (K : PySem.W.Frag) (C : Addr) : Prop where
  cl : Cls K C
  nW : NoAttr K C "wires"
  nO : NoAttr K C "word"
  nG : NoAttr K C "gates"
  nF : NoAttr K C "floors"
  nP : NoAttr K C "partners"
  nS : NoAttr K C "steps"
def hide (S : List Addr) (H : Hp) : Hp := fun b => if b ∈ S then none else H b
theorem hide_in {S : List Addr} {H : Hp} {b : Addr} (h : b ∈ S) : hide S H b = none := if_pos h
theorem hide_out {S : List Addr} {H : Hp} {b : Addr} (h : b ∉ S) : hide S H b = H b := if_neg h
theorem hide_ext (S : List Addr) (H : Hp) : KT [] (hide S H) H := KT.ofSame fun b o e => by
  unfold hide at e
  split at e
  · cases e
  · exact e
theorem hide_of {S : List Addr} {H0 H : Hp} (k : KT [] H0 H) (f : ∀ x ∈ S, H0 x = none) : KT [] H0 (hide S H) := KT.ofSame fun b o e => by
  by_cases z : b ∈ S
  · rw [f b z] at e; cases e
  · rw [hide_out z]; exact k.same b o e
def flds (n : Nat) (wd : Str) (ga fa qa sa : Addr) : List (Str × V) := [("wires", .int n), ("word", .str wd), ("gates", .ref ga), ("floors", .ref fa), ("partners", .ref qa), ("steps", .ref sa)]
section
variable (n : Nat) (wd : Str) (ga fa qa sa x : Addr)
theorem fl_w : (flds n wd ga fa qa sa).lookup ("wires" : Str) = some (.int n) := by kernel_rfl
theorem fl_o : (flds n wd ga fa qa sa).lookup ("word" : Str) = some (.str wd) := by kernel_rfl
theorem fl_g : (flds n wd ga fa qa sa).lookup ("gates" : Str) = some (.ref ga) := by kernel_rfl
theorem fl_f : (flds n wd ga fa qa sa).lookup ("floors" : Str) = some (.ref fa) := by kernel_rfl
theorem fl_p : (flds n wd ga fa qa sa).lookup ("partners" : Str) = some (.ref qa) := by kernel_rfl
theorem fl_s : (flds n wd ga fa qa sa).lookup ("steps" : Str) = some (.ref sa) := by kernel_rfl
theorem fm_fits : (flds n wd ga fa qa sa).lookup ("fits" : Str) = none := by kernel_rfl
theorem fm_look_from : (flds n wd ga fa qa sa).lookup ("look_from" : Str) = none := by kernel_rfl
theorem fm_first_pair : (flds n wd ga fa qa sa).lookup ("first_pair" : Str) = none := by kernel_rfl
theorem fm_unite : (flds n wd ga fa qa sa).lookup ("unite" : Str) = none := by kernel_rfl
theorem fm_take_out : (flds n wd ga fa qa sa).lookup ("take_out" : Str) = none := by kernel_rfl
theorem fm_is_stale : (flds n wd ga fa qa sa).lookup ("is_stale" : Str) = none := by kernel_rfl
theorem fm_outcome : (flds n wd ga fa qa sa).lookup ("outcome" : Str) = none := by kernel_rfl
theorem fl_put_f : putF "floors" (.ref x) (flds n wd ga fa qa sa) = flds n wd ga x qa sa := by kernel_rfl
theorem fl_put_p : putF "partners" (.ref x) (flds n wd ga fa qa sa) = flds n wd ga fa x sa := by kernel_rfl
end
def wdOf (t : Nat) : Str := if t = 0 then "exchange" else if t = 1 then "cancel" else "merge"
def StV (H : Hp) (v : V) (s : Nat × Nat) : Prop := ∃ t, v = .ref t ∧ H t = some (.tup [.str (wdOf s.1), .int s.2])
theorem StV.keep {S : List Addr} {H H' : Hp} (k : KT S H H') {v : V} {s : Nat × Nat} (h : StV H v s) : StV H' v s := let ⟨t, e, h⟩ := h; ⟨t, e, k.tp _ _ h⟩
/-- the object in the heap, all of it younger than H0 -/
structure SeV (C : Addr) (H0 H : Hp) (p ga fa qa sa : Addr) (n : Nat) (wd : Str) (gs : List Gt) (fl pa : List Int) (st : List (Nat × Nat)) : Prop where
  k : KT [] H0 H
  fr : ∀ x ∈ [p, ga, fa, qa, sa], H0 x = none
  ho : ∃ dx, H p = some (.ins C dx (flds n wd ga fa qa sa))
  hg : ∃ gvs, H ga = some (.lst gvs) ∧ P2 (GtV H) gvs gs
  hf : H fa = some (.lst (fl.map V.int))
  hp : H qa = some (.lst (pa.map V.int))
  hs : ∃ svs, H sa = some (.lst svs) ∧ P2 (StV H) svs st
  nd : [ga, fa, qa, sa].Nodup
def SeE (C : Addr) (H0 H : Hp) (p : Addr) (n : Nat) (wd : Str) (gs : List Gt) (fl pa : List Int) (st : List (Nat × Nat)) : Prop := ∃ ga fa qa sa, SeV C H0 H p ga fa qa sa n wd gs fl pa st
section
variable {C : Addr} {H0 H H' : Hp} {p ga fa qa sa : Addr} {n : Nat} {wd : Str} {gs : List Gt} {fl pa : List Int} {st : List (Nat × Nat)}
theorem SeV.keep (h : SeV C H0 H p ga fa qa sa n wd gs fl pa st) (k : KT [] H H') : SeV C H0 H' p ga fa qa sa n wd gs fl pa st :=
  ⟨h.k.trans k, h.fr, let ⟨dx, e⟩ := h.ho; ⟨dx, k.same _ _ e⟩, let ⟨gvs, e, g⟩ := h.hg; ⟨gvs, k.same _ _ e, gts_keep k g⟩, k.same _ _ h.hf, k.same _ _ h.hp, let ⟨svs, e, g⟩ := h.hs; ⟨svs, k.same _ _ e, g.mono fun _ _ => .keep k⟩, h.nd⟩
theorem SeE.keep (h : SeE C H0 H p n wd gs fl pa st) (k : KT [] H H') : SeE C H0 H' p n wd gs fl pa st := let ⟨ga, fa, qa, sa, h⟩ := h; ⟨ga, fa, qa, sa, h.keep k⟩
/-- the same object seen from all that is not its own -/
theorem SeV.hide (h : SeV C H0 H p ga fa qa sa n wd gs fl pa st) : SeV C (hide [p, ga, fa, qa, sa] H) H p ga fa qa sa n wd gs fl pa st :=
  ⟨hide_ext _ _, fun x hx => hide_in hx, h.ho, h.hg, h.hf, h.hp, h.hs, h.nd⟩
theorem SeV.pne (h : SeV C H0 H p ga fa qa sa n wd gs fl pa st) : p ≠ ga ∧ p ≠ fa ∧ p ≠ qa ∧ p ≠ sa := by
  obtain ⟨dx, e⟩ := h.ho
  obtain ⟨gvs, e1, _⟩ := h.hg
  obtain ⟨svs, e2, _⟩ := h.hs
  exact ⟨(fun z => by rw [z, e1] at e; cases e), (fun z => by rw [z, h.hf] at e; cases e), (fun z => by rw [z, h.hp] at e; cases e), (fun z => by rw [z, e2] at e; cases e)⟩
theorem SeV.ne (h : SeV C H0 H p ga fa qa sa n wd gs fl pa st) : ga ≠ fa ∧ ga ≠ qa ∧ ga ≠ sa ∧ fa ≠ qa ∧ fa ≠ sa ∧ qa ≠ sa := by
  have := h.nd
  simp only [List.nodup_cons, List.mem_cons, List.not_mem_nil, or_false, not_or] at this
  exact ⟨this.1.1, this.1.2.1, this.1.2.2, this.2.1.1, this.2.1.2, this.2.2.1⟩
theorem StV.put {D : Addr} {xs ys : List V} (hD : H D = some (.lst xs)) {v : V} {s : Nat × Nat} (h : StV H v s) : StV (upd H D (.lst ys)) v s := by
  obtain ⟨t, e, h⟩ := h
  refine ⟨t, e, ?_⟩
  rw [upd_ne (fun z => by rw [z, hD] at h; cases h)]
  exact h
theorem SeV.setF (h : SeV C H0 H p ga fa qa sa n wd gs fl pa st) (fl' : List Int) : SeV C H0 (upd H fa (.lst (fl'.map V.int))) p ga fa qa sa n wd gs fl' pa st := by
  obtain ⟨n1, n2, n3, n4⟩ := h.pne
  obtain ⟨m1, m2, m3, m4, m5, m6⟩ := h.ne
  obtain ⟨gvs, e1, g1⟩ := h.hg
  obtain ⟨svs, e2, g2⟩ := h.hs
  exact ⟨h.k.late (h.fr fa (by simp)), h.fr, let ⟨dx, e⟩ := h.ho; ⟨dx, by rw [upd_ne n2]; exact e⟩, ⟨gvs, by rw [upd_ne m1]; exact e1, g1.mono fun _ _ => GtV.put h.hf⟩, upd_same, by rw [upd_ne (Ne.symm m4)]; exact h.hp, ⟨svs, by rw [upd_ne (Ne.symm m5)]; exact e2, g2.mono fun _ _ => StV.put h.hf⟩, h.nd⟩
theorem SeV.setP (h : SeV C H0 H p ga fa qa sa n wd gs fl pa st) (pa' : List Int) : SeV C H0 (upd H qa (.lst (pa'.map V.int))) p ga fa qa sa n wd gs fl pa' st := by
  obtain ⟨n1, n2, n3, n4⟩ := h.pne
  obtain ⟨m1, m2, m3, m4, m5, m6⟩ := h.ne
  obtain ⟨gvs, e1, g1⟩ := h.hg
  obtain ⟨svs, e2, g2⟩ := h.hs
  exact ⟨h.k.late (h.fr qa (by simp)), h.fr, let ⟨dx, e⟩ := h.ho; ⟨dx, by rw [upd_ne n3]; exact e⟩, ⟨gvs, by rw [upd_ne m2]; exact e1, g1.mono fun _ _ => GtV.put h.hp⟩, by rw [upd_ne m4]; exact h.hf, upd_same, ⟨svs, by rw [upd_ne (Ne.symm m6)]; exact e2, g2.mono fun _ _ => StV.put h.hp⟩, h.nd⟩
theorem SeV.setG (h : SeV C H0 H p ga fa qa sa n wd gs fl pa st) {gvs' : List V} {gs' : List Gt} (g' : P2 (GtV H) gvs' gs') : SeV C H0 (upd H ga (.lst gvs')) p ga fa qa sa n wd gs' fl pa st := by
  obtain ⟨n1, n2, n3, n4⟩ := h.pne
  obtain ⟨m1, m2, m3, m4, m5, m6⟩ := h.ne
  obtain ⟨gvs, e1, g1⟩ := h.hg
  obtain ⟨svs, e2, g2⟩ := h.hs
  exact ⟨h.k.late (h.fr ga (by simp)), h.fr, let ⟨dx, e⟩ := h.ho; ⟨dx, by rw [upd_ne n1]; exact e⟩, ⟨gvs', upd_same, g'.mono fun _ _ => GtV.put e1⟩, by rw [upd_ne (Ne.symm m1)]; exact h.hf, by rw [upd_ne (Ne.symm m2)]; exact h.hp, ⟨svs, by rw [upd_ne (Ne.symm m3)]; exact e2, g2.mono fun _ _ => StV.put e1⟩, h.nd⟩
theorem SeV.setS (h : SeV C H0 H p ga fa qa sa n wd gs fl pa st) {svs' : List V} {st' : List (Nat × Nat)} (g' : P2 (StV H) svs' st') : SeV C H0 (upd H sa (.lst svs')) p ga fa qa sa n wd gs fl pa st' := by
  obtain ⟨n1, n2, n3, n4⟩ := h.pne
  obtain ⟨m1, m2, m3, m4, m5, m6⟩ := h.ne
  obtain ⟨gvs, e1, g1⟩ := h.hg
  obtain ⟨svs, e2, g2⟩ := h.hs
  exact ⟨h.k.late (h.fr sa (by simp)), h.fr, let ⟨dx, e⟩ := h.ho; ⟨dx, by rw [upd_ne n4]; exact e⟩, ⟨gvs, by rw [upd_ne m3]; exact e1, g1.mono fun _ _ => GtV.put e2⟩, by rw [upd_ne m5]; exact h.hf, by rw [upd_ne m6]; exact h.hp, ⟨svs', upd_same, g'.mono fun _ _ => StV.put e2⟩, h.nd⟩
end
def spMoved : Sp := fun vs H Q _ => ∃ (a : Addr) (xs : List Int) (d : Nat), vs = [.ref a, .int d] ∧ H a = some (.lst (xs.map V.int)) ∧ xs.length ≤ 1000 ∧ ∀ (l : Addr) (H' : Hp), H l = none → KT [] H H' → H' l = some (.lst ((xs.map (mu d)).map V.int)) → Q (.ref l) H'
def spFits (C : Addr) : Sp := fun vs H Q _ => ∃ (H0 : Hp) (p : Addr) (n : Nat) (b : Bool) (gs : List Gt) (fl pa : List Int) (st : List (Nat × Nat)) (x y : V) (g h : Gt), vs = [.ref p, x, y] ∧ SeE C H0 H p n (wdOf (tagG b)) gs fl pa st ∧ GtV H x g ∧ GtV H y h ∧ GdN g ∧ GdN h ∧ ∀ H', KT [] H H' → Q (.bl (fitW b g h)) H'
section
variable {P : Program} {w : World} {K : PySem.W.Frag} {mg : Str → Option Value} {base : Heap} {C : Addr}
theorem ok_moved (T : Txt K mg) : FnOk P w K mg base CX0 1 T.f_moved_up T.d_moved_up ["numbers", "gone"] spMoved := by
  refine T.F_moved_up.ok sc_moved_up (fun vs H Q E h => ?_) (fun cdv A outer s H vs Q E hr h => ?_)
  · obtain ⟨a, xs, d, rfl, _⟩ := h
    rfl
  · obtain ⟨a, xs, d, rfl, ha, hl, q⟩ := h
    refine ⟨_, (pss_one (ps_ret (pe_lc (own := [("at", 2)]) (g := gName 2) (by rfl) sc_moved_up.nd (pi_list (pv 0)) (blkOk_by (own := [("at", 2)]) (N := N_moved_up) (sc := defScope s_moved_up) (by decide +kernel)) (fun _ _ _ _ _ => (pg_name (i := 2) sc_moved_up.nd rfl (Or.inl rfl))) (fun _ _ _ _ _ => pts_nil) (fun _ _ _ _ _ => (pe_ifExp (pt_cmpR op_gt (pv 2) (pv 1) (nomark _)) (pe_op op_sub (pv 2) pe_int) (pv 2)))))), ?_⟩
    refine ⟨_, rfl, a, rfl, ⟨_, SqL.of ha⟩, fun M nM => ?_⟩
    refine lc_it (walk_list (K := K) (a := a) (xs := xs.map V.int)) (fun i H1 => KT [] H H1 ∧ H1 M = some (.lst (((xs.take i).map (mu d)).map V.int))) ?_ ?_ ?_ ?_
    · exact ⟨KT.new _ nM, upd_same⟩
    · rintro i H1 _ ⟨k, _⟩
      exact SqL.of (k.same _ _ ha)
    · rintro i x H1 H2 hi ⟨k, hM⟩ ⟨rfl, hx⟩
      rw [List.getElem?_map] at hx
      cases e : xs[i]? with
      | none => rw [e] at hx; cases hx
      | some v =>
        rw [e] at hx
        cases hx
        have et : ((xs.take (i + 1)).map (mu d)).map V.int = ((xs.take i).map (mu d)).map V.int ++ [V.int (mu d v)] := by
          rw [List.take_succ, e, List.map_append, List.map_append]
          rfl
        have lt : (((xs.take i).map (mu d)).map V.int).length < sizeLine := by
          rw [List.length_map, List.length_map, List.length_take]
          exact small_int (by omega)
        refine ⟨by rfl, _, rfl, _, rfl, _, _, rfl, rfl, _, rfl, ?_⟩
        by_cases c : v > d
        · refine ite_t (decide_eq_true c) ⟨_, rfl, _, _, rfl, rfl, _, hM, lt, k.late nM, ?_⟩
          rw [upd_same, et]
          unfold mu
          rw [if_pos c]
        · refine ite_f (not_bl (decide_eq_false c)) ⟨_, rfl, _, hM, lt, k.late nM, ?_⟩
          rw [upd_same, et]
          unfold mu
          rw [if_neg c]
    · rintro H1 ⟨k, hM⟩
      rw [List.length_map, List.take_length] at hM
      exact q M H1 nM k hM
theorem ok_fits (T : Txt K mg) (TC : TxC K C) (TM : TxM K mg C) : FnOk P w K mg base CX0 3 TM.f_Search_fits TM.d_Search_fits ["self", "first", "second"] (spFits C) := by
  have G_merged_gate := ok_merged_gate (P := P) (w := w) (base := base) T
  refine TM.F_Search_fits.ok sc_Search_fits (fun vs H Q E h => ?_) (fun cdv A outer s H vs Q E hr h => ?_)
  · obtain ⟨H0, p, n, b, gs, fl, pa, st, x, y, g, h, rfl, _⟩ := h
    rfl
  · obtain ⟨H0, p, n, b, gs, fl, pa, st, x, y, g, h, rfl, ⟨ga, fa, qa, sa, hS⟩, hx, hy, gg, gh, q⟩ := h
    obtain ⟨dx, hp⟩ := hS.ho
    refine ⟨_, (pss_cons (ps_if (pt_cmpR op_eq (pe_fld (pv 0) rfl) pe_str (nomark _))
        (pss_one (ps_ret (pe_cmpR (op_eqD hr.units) (pv 1) (pv 2) (nomark _))))
        pss_nil)
      (pss_one (ps_ret (pe_cmpR op_notN (pe_call G_merged_gate (hr.mono (by omega)) (by rfl) T.g_merged_gate T.F_merged_gate.kp T.b_merged_gate .nil pass0 (pa_cons (pv 1) (pa_cons (pv 2) pa_nil))) pe_non (nomark _))))), ?_⟩
    refine ⟨_, rfl, p, C, dx, _, _, rfl, hp, TC.cl, TC.nO, fl_o .., rfl, _, rfl, ?_⟩
    cases b with
    | true =>
      refine ite_t (dstr_eq rfl) ⟨_, rfl, _, rfl, gtD g, gtD h, gt_dp hx, gt_dp hy, shaped_gt g, shaped_gt h, ?_⟩
      rw [gt_eqv]
      exact q _ (.refl _ _)
    | false =>
      refine ite_f (dstr_ne (by decide +kernel)) ⟨_, rfl, _, rfl, x, y, g, h, rfl, hx, hy, gg, gh, fun v H1 k1 hv => ?_⟩
      have q := q H1 k1
      unfold fitW at q
      rw [if_neg (by decide)] at q
      cases m : mergeP g h with
      | none =>
        rw [m] at hv q
        cases (show v = .non from hv)
        exact ⟨rfl, q⟩
      | some k =>
        rw [m] at hv q
        obtain ⟨t, u, vs, rfl, _⟩ := hv
        exact ⟨rfl, q⟩
end

end My

set_option Elab.async false
set_option linter.all false
set_option maxRecDepth 100000
namespace My
open PySem PySem.Spec PyProof.Rows L2
def spInit (C : Addr) : Sp := fun vs H Q _ => ∃ (H0 : Hp) (p dx t : Addr) (n : Nat) (gs : List Gt) (wd : Str), vs = [.ref p, .ref t, .str wd] ∧ KT [] H0 H ∧ H0 p = none ∧ H p = some (.ins C dx []) ∧ CircAt H t n gs ∧ gs.length ≤ 900 ∧ ∀ H', SeE C H0 H' p n wd gs (List.replicate gs.length (-1)) (List.replicate gs.length (-1)) [] → Q .non H'
theorem KT.insP {H : Hp} {p C dx : Addr} {fs fs' : List (Str × V)} (h : H p = some (.ins C dx fs)) : KT [p] H (upd H p (.ins C dx fs')) := by
  have ne : ∀ b o, H b = some o → (∀ C dx fs, o ≠ .ins C dx fs) → b ≠ p := fun b o e n z => by rw [z, h] at e; exact n _ _ _ (Option.some.inj e).symm
  refine ⟨fun b o n e => ?_, fun b xs e => ?_, fun b o u e => ?_, fun b o e => ?_, fun b c t e => ⟨t, ?_⟩⟩
  · rw [upd_ne (fun z => n (by rw [z]; simp))]; exact e
  · rw [upd_ne (ne _ _ e fun _ _ _ z => by cases z)]; exact e
  · rw [upd_ne (ne _ _ e fun _ _ _ z => by cases z)]; exact e
  · by_cases z : b = p
    · exact ⟨_, by rw [z]; exact upd_same⟩
    · exact ⟨o, by rw [upd_ne z]; exact e⟩
  · rw [upd_ne (ne _ _ e fun _ _ _ z => by cases z)]; exact e
theorem rep_one (k : Nat) : (List.replicate k [V.int (-1)]).flatten = (List.replicate k (-1)).map V.int := by
  induction k with
  | zero => rfl
  | succ k ih =>
    rw [List.replicate_succ, List.flatten_cons, ih, List.replicate_succ]
    rfl
section
variable {P : Program} {w : World} {K : PySem.W.Frag} {mg : Str → Option Value} {base : Heap} {C : Addr}
set_option maxHeartbeats 1000000 in
theorem ok_init (T : Txt K mg) (TC : TxC K C) (TM : TxM K mg C) : FnOk P w K mg base CX0 1 TM.f_Search___init__ TM.d_Search___init__ ["self", "circuit", "word"] (spInit C) := by
  refine TM.F_Search___init__.ok sc_Search___init__ (fun vs H Q E h => ?_) (fun cdv A outer s H vs Q E hr h => ?_)
  · obtain ⟨H0, p, dx, t, n, gs, wd, rfl, _⟩ := h
    rfl
  · obtain ⟨H0, p, dx, t, n, gs, wd, rfl, k0, hp0, hp, ⟨u, gvs, ht, hu, hP⟩, hl, q⟩ := h
    refine ⟨_, (pss_cons (ps_asg (pv 1) (pg_tup (by rfl) (pgs_cons (pg_fld (pv 0)) (pgs_cons (pg_name (i := 3) sc_Search___init__.nd rfl (Or.inl rfl)) pgs_nil))))
      (pss_cons (ps_fld (pv 0) (pv 2) rfl)
      (pss_cons (ps_fld (pv 0) (pe_callTy call_list_of (by rfl) T.m_list (by decide +kernel) (pa_cons (pv 3) pa_nil)) rfl)
      (pss_cons (ps_fld (pv 0) (pe_op op_rep (pe_lst (pa_cons (pe_un un_neg pe_int) pa_nil)) (pe_callB call_len_seq (by rfl) T.m_len (by decide +kernel) (pa_cons (pv 3) pa_nil))) rfl)
      (pss_cons (ps_fld (pv 0) (pe_op op_rep (pe_lst (pa_cons (pe_un un_neg pe_int) pa_nil)) (pe_callB call_len_seq (by rfl) T.m_len (by decide +kernel) (pa_cons (pv 3) pa_nil))) rfl)
      (pss_one (ps_fld (pv 0) (pe_lst pa_nil) rfl))))))), ?_⟩
    have lg := hP.len
    have put : ∀ {H1 : Hp} {fs fs' : List (Str × V)}, KT [] H0 H1 → KT [p] H H1 → H1 p = some (.ins C dx fs) → KT [] H0 (upd H1 p (.ins C dx fs')) ∧ KT [p] H (upd H1 p (.ins C dx fs')) := fun k j e => ⟨k.late hp0, j.trans (KT.insP e)⟩
    refine ⟨_, rfl, t, _, rfl, SqT.of ht, rfl, _, _, rfl, _, rfl, p, C, dx, _, rfl, hp, TC.cl, TC.nW, (by decide), ?_⟩
    refine ⟨_, _, rfl, rfl, ?_⟩
    -- word
    obtain ⟨k1, j1⟩ := put (fs' := putF "wires" (.int n) []) k0 (.refl _ _) hp
    have e1 : (upd H p (.ins C dx (putF "wires" (.int n) []))) p = some (.ins C dx [("wires", .int n)]) := upd_same
    generalize upd H p (.ins C dx (putF "wires" (.int n) [])) = H1 at k1 j1 e1 ⊢
    refine ⟨_, rfl, _, rfl, p, C, dx, _, rfl, e1, TC.cl, TC.nO, (by show 1 < 1000; decide), ?_⟩
    obtain ⟨k2, j2⟩ := put (fs' := putF "word" (.str wd) [("wires", .int n)]) k1 j1 e1
    have e2 : (upd H1 p (.ins C dx (putF "word" (.str wd) [("wires", .int n)]))) p = some (.ins C dx [("wires", .int n), ("word", .str wd)]) := upd_same
    generalize upd H1 p (.ins C dx (putF "word" (.str wd) [("wires", .int n)])) = H2 at k2 j2 e2 ⊢
    clear k1 j1 e1 H1
    -- gates
    refine ⟨_, rfl, u, gvs, rfl, .inr (SqT.of (j2.tp _ _ hu)), fun ga nga => ?_⟩
    have kg := KT.new [p] nga (o := .lst gvs)
    have ngp : p ≠ ga := fun z => by rw [← z, e2] at nga; cases nga
    have e2' : (upd H2 ga (.lst gvs)) p = some (.ins C dx [("wires", .int n), ("word", .str wd)]) := by rw [upd_ne ngp]; exact e2
    have ga0 : H0 ga = none := k2.free nga
    refine ⟨_, rfl, p, C, dx, _, rfl, e2', TC.cl, TC.nG, (by show 2 < 1000; decide), ?_⟩
    obtain ⟨k3, j3⟩ := put (fs' := putF "gates" (.ref ga) [("wires", .int n), ("word", .str wd)]) (k2.trans (KT.new [] nga (o := .lst gvs))) (j2.trans kg) e2'
    have e3 : (upd (upd H2 ga (.lst gvs)) p (.ins C dx (putF "gates" (.ref ga) [("wires", .int n), ("word", .str wd)]))) p = some (.ins C dx [("wires", .int n), ("word", .str wd), ("gates", .ref ga)]) := upd_same
    have g3 : (upd (upd H2 ga (.lst gvs)) p (.ins C dx (putF "gates" (.ref ga) [("wires", .int n), ("word", .str wd)]))) ga = some (.lst gvs) := by rw [upd_ne (Ne.symm ngp)]; exact upd_same
    generalize upd (upd H2 ga (.lst gvs)) p (.ins C dx (putF "gates" (.ref ga) [("wires", .int n), ("word", .str wd)])) = H3 at k3 j3 e3 g3 ⊢
    clear k2 j2 e2 e2' kg nga H2
    -- floors
    refine ⟨_, rfl, sz1, fun l1 n1 => ?_⟩
    have kl1 := KT.new [] n1 (o := .lst [.int (-1)])
    refine ⟨_, rfl, _, _, rfl, .inr (SqT.of ((j3.trans (KT.new [p] n1 (o := .lst [.int (-1)]))).tp _ _ hu)), l1, _, _, rfl, rfl, upd_same, by omega, by omega, ?_, fun fa nfa => ?_⟩
    · rw [Int.toNat_natCast]
      show 1 * gvs.length ≤ _
      exact Nat.le_trans (by omega : _ ≤ 1000) (by decide)
    rw [Int.toNat_natCast, rep_one, lg]
    have j4a := (j3.trans (KT.new [p] n1 (o := .lst [.int (-1)]))).trans (KT.new [p] nfa (o := .lst ((List.replicate gs.length (-1)).map V.int)))
    have k4a := (k3.trans kl1).trans (KT.new [] nfa (o := .lst ((List.replicate gs.length (-1)).map V.int)))
    have e4a := (KT.new [] nfa (o := .lst ((List.replicate gs.length (-1)).map V.int))).same _ _ (kl1.same _ _ e3)
    have g4a := (KT.new [] nfa (o := .lst ((List.replicate gs.length (-1)).map V.int))).same _ _ (kl1.same _ _ g3)
    have f4a : (upd (upd H3 l1 (.lst [.int (-1)])) fa (.lst ((List.replicate gs.length (-1)).map V.int))) fa = some (.lst ((List.replicate gs.length (-1)).map V.int)) := upd_same
    have fa0 : H0 fa = none := (k3.trans kl1).free nfa
    have gfa : ga ≠ fa := fun z => by rw [← z, kl1.same _ _ g3] at nfa; cases nfa
    have pfa : p ≠ fa := fun z => by rw [← z, kl1.same _ _ e3] at nfa; cases nfa
    generalize upd (upd H3 l1 (.lst [.int (-1)])) fa (.lst ((List.replicate gs.length (-1)).map V.int)) = H3' at j4a k4a e4a g4a f4a ⊢
    refine ⟨_, rfl, p, C, dx, _, rfl, e4a, TC.cl, TC.nF, (by show 3 < 1000; decide), ?_⟩
    obtain ⟨k4, j4⟩ := put (fs' := putF "floors" (.ref fa) [("wires", .int n), ("word", .str wd), ("gates", .ref ga)]) k4a j4a e4a
    have e4 : (upd H3' p (.ins C dx (putF "floors" (.ref fa) [("wires", .int n), ("word", .str wd), ("gates", .ref ga)]))) p = some (.ins C dx [("wires", .int n), ("word", .str wd), ("gates", .ref ga), ("floors", .ref fa)]) := upd_same
    have g4 : (upd H3' p (.ins C dx (putF "floors" (.ref fa) [("wires", .int n), ("word", .str wd), ("gates", .ref ga)]))) ga = some (.lst gvs) := by rw [upd_ne (Ne.symm ngp)]; exact g4a
    have f4 : (upd H3' p (.ins C dx (putF "floors" (.ref fa) [("wires", .int n), ("word", .str wd), ("gates", .ref ga)]))) fa = some (.lst ((List.replicate gs.length (-1)).map V.int)) := by rw [upd_ne (Ne.symm pfa)]; exact f4a
    generalize upd H3' p (.ins C dx (putF "floors" (.ref fa) [("wires", .int n), ("word", .str wd), ("gates", .ref ga)])) = H4 at k4 j4 e4 g4 f4 ⊢
    clear k3 j3 e3 g3 kl1 n1 nfa k4a j4a e4a g4a f4a H3 H3'
    -- partners
    refine ⟨_, rfl, sz1, fun l2 n2 => ?_⟩
    have kl2 := KT.new [] n2 (o := .lst [.int (-1)])
    refine ⟨_, rfl, _, _, rfl, .inr (SqT.of ((j4.trans (KT.new [p] n2 (o := .lst [.int (-1)]))).tp _ _ hu)), l2, _, _, rfl, rfl, upd_same, by omega, by omega, ?_, fun qa nqa => ?_⟩
    · rw [Int.toNat_natCast]
      show 1 * gvs.length ≤ _
      exact Nat.le_trans (by omega : _ ≤ 1000) (by decide)
    rw [Int.toNat_natCast, rep_one, lg]
    have kq := KT.new [] nqa (o := .lst ((List.replicate gs.length (-1)).map V.int))
    have j5a := (j4.trans (KT.new [p] n2 (o := .lst [.int (-1)]))).trans (KT.new [p] nqa (o := .lst ((List.replicate gs.length (-1)).map V.int)))
    have k5a := (k4.trans kl2).trans kq
    have e5a := kq.same _ _ (kl2.same _ _ e4)
    have g5a := kq.same _ _ (kl2.same _ _ g4)
    have f5a := kq.same _ _ (kl2.same _ _ f4)
    have q5a : (upd (upd H4 l2 (.lst [.int (-1)])) qa (.lst ((List.replicate gs.length (-1)).map V.int))) qa = some (.lst ((List.replicate gs.length (-1)).map V.int)) := upd_same
    have qa0 : H0 qa = none := (k4.trans kl2).free nqa
    have gqa : ga ≠ qa := fun z => by rw [← z, kl2.same _ _ g4] at nqa; cases nqa
    have fqa : fa ≠ qa := fun z => by rw [← z, kl2.same _ _ f4] at nqa; cases nqa
    have pqa : p ≠ qa := fun z => by rw [← z, kl2.same _ _ e4] at nqa; cases nqa
    generalize upd (upd H4 l2 (.lst [.int (-1)])) qa (.lst ((List.replicate gs.length (-1)).map V.int)) = H4' at j5a k5a e5a g5a f5a q5a ⊢
    refine ⟨_, rfl, p, C, dx, _, rfl, e5a, TC.cl, TC.nP, (by show 4 < 1000; decide), ?_⟩
    obtain ⟨k5, j5⟩ := put (fs' := putF "partners" (.ref qa) [("wires", .int n), ("word", .str wd), ("gates", .ref ga), ("floors", .ref fa)]) k5a j5a e5a
    have e5 : (upd H4' p (.ins C dx (putF "partners" (.ref qa) [("wires", .int n), ("word", .str wd), ("gates", .ref ga), ("floors", .ref fa)]))) p = some (.ins C dx [("wires", .int n), ("word", .str wd), ("gates", .ref ga), ("floors", .ref fa), ("partners", .ref qa)]) := upd_same
    have g5 : (upd H4' p (.ins C dx (putF "partners" (.ref qa) [("wires", .int n), ("word", .str wd), ("gates", .ref ga), ("floors", .ref fa)]))) ga = some (.lst gvs) := by rw [upd_ne (Ne.symm ngp)]; exact g5a
    have f5 : (upd H4' p (.ins C dx (putF "partners" (.ref qa) [("wires", .int n), ("word", .str wd), ("gates", .ref ga), ("floors", .ref fa)]))) fa = some (.lst ((List.replicate gs.length (-1)).map V.int)) := by rw [upd_ne (Ne.symm pfa)]; exact f5a
    have q5 : (upd H4' p (.ins C dx (putF "partners" (.ref qa) [("wires", .int n), ("word", .str wd), ("gates", .ref ga), ("floors", .ref fa)]))) qa = some (.lst ((List.replicate gs.length (-1)).map V.int)) := by rw [upd_ne (Ne.symm pqa)]; exact q5a
    generalize upd H4' p (.ins C dx (putF "partners" (.ref qa) [("wires", .int n), ("word", .str wd), ("gates", .ref ga), ("floors", .ref fa)])) = H5 at k5 j5 e5 g5 f5 q5 ⊢
    clear k4 j4 e4 g4 f4 kl2 kq n2 nqa k5a j5a e5a g5a f5a q5a H4 H4'
    -- steps
    refine ⟨Nat.zero_le _, fun sa nsa => ?_⟩
    have ks := KT.new [] nsa (o := .lst [])
    have e6 := ks.same _ _ e5
    have psa : p ≠ sa := fun z => by rw [← z, e5] at nsa; cases nsa
    have gsa : ga ≠ sa := fun z => by rw [← z, g5] at nsa; cases nsa
    have fsa : fa ≠ sa := fun z => by rw [← z, f5] at nsa; cases nsa
    have qsa : qa ≠ sa := fun z => by rw [← z, q5] at nsa; cases nsa
    refine ⟨_, rfl, p, C, dx, _, rfl, e6, TC.cl, TC.nS, (by show 5 < 1000; decide), ?_⟩
    obtain ⟨k6, j6⟩ := put (fs' := putF "steps" (.ref sa) [("wires", .int n), ("word", .str wd), ("gates", .ref ga), ("floors", .ref fa), ("partners", .ref qa)]) (k5.trans ks) (j5.trans (KT.new [p] nsa (o := .lst []))) e6
    refine q _ ⟨ga, fa, qa, sa, k6, ?_, ⟨dx, upd_same⟩, ⟨gvs, by rw [upd_ne (Ne.symm ngp)]; exact ks.same _ _ g5, gts_keep j6 hP⟩, by rw [upd_ne (Ne.symm pfa)]; exact ks.same _ _ f5, by rw [upd_ne (Ne.symm pqa)]; exact ks.same _ _ q5, ⟨[], by rw [upd_ne (Ne.symm psa)]; exact upd_same, .nil⟩, ?_⟩
    · intro x hx
      simp only [List.mem_cons, List.not_mem_nil, or_false] at hx
      rcases hx with rfl | rfl | rfl | rfl | rfl
      · exact hp0
      · exact ga0
      · exact fa0
      · exact qa0
      · exact k5.free nsa
    · simp [gfa, gqa, gsa, fqa, fsa, qsa]
end

end My

set_option Elab.async false
set_option linter.all false
set_option maxRecDepth 100000
namespace My
open PySem PySem.Spec PyProof.Rows L2
def spLook (C : Addr) : Sp := fun vs H Q _ => ∃ (H0 : Hp) (p : Addr) (n : Nat) (b : Bool) (gs : List Gt) (fl pa : List Int) (st : List (Nat × Nat)) (a : Nat), vs = [.ref p, .int a] ∧ SeE C H0 H p n (wdOf (tagG b)) gs fl pa st ∧ fl.length = gs.length ∧ pa.length = gs.length ∧ (∀ g ∈ gs, GdN g) ∧ gs.length ≤ 900 ∧ a < gs.length ∧
  ∀ H' f q, SeE C H0 H' p n (wdOf (tagG b)) gs (fl.set a f) (pa.set a q) st → LookG b gs a f q → Q .non H'
theorem gatE {H : Hp} {gvs : List V} {gs : List Gt} (g : P2 (GtV H) gvs gs) {k : Nat} (h : k < gs.length) : ∃ x, gvs[k]? = some x ∧ GtV H x (atG gs k) := by
  have l := g.len
  refine ⟨gvs[k]'(by omega), List.getElem?_eq_getElem _, ?_⟩
  obtain ⟨d, hd, hx⟩ := g.get (List.getElem?_eq_getElem (by omega : k < gvs.length))
  have : atG gs k = d := by
    unfold atG
    rw [List.getD_eq_getElem?_getD, hd]
    rfl
  rw [this]
  exact hx
theorem gdAt {gs : List Gt} (h : ∀ g ∈ gs, GdN g) {k : Nat} (hk : k < gs.length) : GdN (atG gs k) := by
  rw [← getE hk]
  exact h _ (List.getElem_mem hk)
/-- the search from a gate down, under way -/
structure Part (b : Bool) (gs : List Gt) (a : Nat) (f q : Int) : Prop where
  f0 : -1 ≤ f
  f1 : f < a
  up : ∀ k : Nat, f < k → k < a → freeP (atG gs k) (atG gs a) = true
  pn : q = -1 → ∀ k : Nat, f < k → k < a → fitW b (atG gs k) (atG gs a) = false
  pp : q ≠ -1 → f < q ∧ 0 ≤ q ∧ q < a ∧ (∀ k : Nat, q = k → fitW b (atG gs k) (atG gs a) = true) ∧ ∀ k : Nat, f < k → k < q → fitW b (atG gs k) (atG gs a) = false
theorem Part.hit {b : Bool} {gs : List Gt} {a : Nat} {f : Nat} {q : Int} (h : Part b gs a f q) (e : fitW b (atG gs f) (atG gs a) = true) :
    (f : Int) ≠ -1 ∧ ((f : Int) ≤ f ∧ 0 ≤ (f : Int) ∧ (f : Int) < a ∧ (∀ k : Nat, (f : Int) = k → fitW b (atG gs k) (atG gs a) = true) ∧ ∀ k : Nat, (f : Int) ≤ k → k < (f : Int) → fitW b (atG gs k) (atG gs a) = false) := by
  have := h.f1
  refine ⟨by omega, by omega, by omega, by omega, fun k hk => ?_, fun k _ _ => by omega⟩
  have : f = k := by omega
  rw [← this]; exact e
/-- with what stands at the floor taken in -/
structure PartE (b : Bool) (gs : List Gt) (a : Nat) (f q : Int) : Prop where
  pn : q = -1 → ∀ k : Nat, f ≤ k → k < a → fitW b (atG gs k) (atG gs a) = false
  pp : q ≠ -1 → f ≤ q ∧ 0 ≤ q ∧ q < a ∧ (∀ k : Nat, q = k → fitW b (atG gs k) (atG gs a) = true) ∧ ∀ k : Nat, f ≤ k → k < q → fitW b (atG gs k) (atG gs a) = false
theorem Part.here {b : Bool} {gs : List Gt} {a f : Nat} {q : Int} (h : Part b gs a f q) : PartE b gs a f (if fitW b (atG gs f) (atG gs a) = true then (f : Int) else q) := by
  by_cases e : fitW b (atG gs f) (atG gs a) = true
  · rw [if_pos e]
    obtain ⟨h1, h2⟩ := h.hit e
    exact ⟨fun z => absurd z h1, fun _ => h2⟩
  · rw [if_neg e]
    have e : fitW b (atG gs f) (atG gs a) = false := Bool.eq_false_iff.mpr e
    refine ⟨fun z k h1 h2 => ?_, fun z => ?_⟩
    · rcases Nat.lt_or_ge f k with c | c
      · exact h.pn z k (by omega) h2
      · have : k = f := by omega
        rw [this]; exact e
    · obtain ⟨q1, q2, q3, q4, q5⟩ := h.pp z
      refine ⟨by omega, q2, q3, q4, fun k h1 h2 => ?_⟩
      rcases Nat.lt_or_ge f k with c | c
      · exact q5 k (by omega) h2
      · have : k = f := by omega
        rw [this]; exact e
section
variable {P : Program} {w : World} {K : PySem.W.Frag} {mg : Str → Option Value} {base : Heap} {C : Addr}
set_option maxHeartbeats 1000000 in
theorem ok_look (T : Txt K mg) (TC : TxC K C) (TM : TxM K mg C) : FnOk P w K mg base CX0 4 TM.f_Search_look_from TM.d_Search_look_from ["self", "at"] (spLook C) := by
  have G_Search_fits := ok_fits (P := P) (w := w) (base := base) T TC TM
  have G_can_exchange := ok_can_exchange (P := P) (w := w) (base := base) T
  refine TM.F_Search_look_from.ok sc_Search_look_from (fun vs H Q E h => ?_) (fun cdv A outer s H vs Q E hr h => ?_)
  · obtain ⟨H0, p, n, b, gs, fl, pa, st, a, rfl, _⟩ := h
    rfl
  · obtain ⟨H0, p, n, b, gs, fl, pa, st, a, rfl, ⟨ga, fa, qa, sa, hS⟩, lf, lp, hgd, hl, ha, q⟩ := h
    refine ⟨_, (pss_cons (ps_set (i := 2) sc_Search_look_from.nd rfl (Or.inl rfl) (pe_ix ix_list (pe_fld (pv 0) rfl) (pv 1) (fun _ _ => rfl)))
      (pss_cons (ps_asg (pe_un un_neg pe_int) (pg_sub (pe_fld (pv 0) rfl) (pv 1) set_list))
      (pss_cons (ps_set (i := 3) sc_Search_look_from.nd rfl (Or.inl rfl) (pe_op op_sub (pv 1) pe_int))
      (pss_cons (ps_while PassesOwn.never (pt_cmpR op_ge (pv 3) pe_int (nomark _))
        (pss_cons (ps_set (i := 4) sc_Search_look_from.nd rfl (Or.inl rfl) (pe_ix ix_list (pe_fld (pv 0) rfl) (pv 3) (fun _ _ => rfl)))
        (pss_cons (ps_cut (ps_if (pt_truth (pe_meth (pv 0) TC.cl TM.m_Search_fits G_Search_fits (hr.mono (by omega)) TM.b_Search_fits .nil pass0 (pa_cons (pv 4) (pa_cons (pv 2) pa_nil))) (by intro _; rfl))
          (pss_one (ps_asg (pv 3) (pg_sub (pe_fld (pv 0) rfl) (pv 1) set_list)))
          pss_nil))
        (pss_cons (ps_if (pt_not (pt_val (pe_call G_can_exchange (hr.mono (by omega)) (by rfl) T.g_can_exchange T.F_can_exchange.kp T.b_can_exchange .nil pass0 (pa_cons (pv 4) (pa_cons (pv 2) pa_nil)))))
          (pss_one ps_break)
          pss_nil)
        (pss_one (ps_aug (i := 3) sc_Search_look_from.nd rfl (Or.inl rfl) pe_int ip_sub))))))
      (pss_one (ps_asg (pv 3) (pg_sub (pe_fld (pv 0) rfl) (pv 1) set_list))))))), ?_⟩
    obtain ⟨dx, hp⟩ := id hS.ho
    obtain ⟨gvs, hga, hP⟩ := id hS.hg
    obtain ⟨x, hx, hgx⟩ := gatE hP ha
    have lg := hP.len
    refine ⟨_, rfl, p, C, dx, _, _, rfl, hp, TC.cl, TC.nG, fl_g .., _, rfl, ga, _, _, _, rfl, rfl, SqL.of hga, atI_nat hx, ?_⟩
    have hix : ixN (pa.map V.int).length (a : Int) = some a := ixn_nat (by rw [List.length_map]; omega)
    refine ⟨_, rfl, _, rfl, p, C, dx, _, _, rfl, hp, TC.cl, TC.nP, fl_p .., _, rfl, qa, _, _, a, rfl, rfl, hS.hp, hix, ?_⟩
    rw [← List.map_set]
    have hS1 := hS.setP (pa.set a (-1))
    have hgx1 : GtV (upd H qa (.lst ((pa.set a (-1)).map V.int))) x (atG gs a) := hgx.put hS.hp
    generalize upd H qa (.lst ((pa.set a (-1)).map V.int)) = H1 at hS1 hgx1 ⊢
    refine ⟨_, rfl, _, _, rfl, rfl, ?_⟩
    refine ⟨fun m σ H' => ∃ (f q : Int) (x4 : Option V), m = (f + 1).toNat ∧ σ = [some (.ref p), some (.int (a : Nat)), some x, some (.int f), x4] ∧ SeV C H0 H' p ga fa qa sa n (wdOf (tagG b)) gs fl (pa.set a q) st ∧ GtV H' x (atG gs a) ∧ Part b gs a f q, ⟨_, (a : Int) - 1, -1, none, rfl, rfl, hS1, hgx1, ⟨by omega, by omega, fun k _ _ => by omega, fun _ k _ _ => by omega, fun z => absurd rfl z⟩⟩, ?_⟩
    rintro m σ H2 ⟨f, q0, x4, rfl, rfl, hS2, hgx2, hpt⟩
    have last : ∀ {H3 : Hp} {f q0 : Int}, SeV C H0 H3 p ga fa qa sa n (wdOf (tagG b)) gs fl (pa.set a q0) st → LookG b gs a f q0 → Q .non (upd H3 fa (.lst ((fl.set a f).map V.int))) := fun h L => q _ _ _ ⟨ga, fa, qa, sa, h.setF _⟩ L
    refine ⟨_, rfl, _, _, rfl, rfl, _, rfl, ?_⟩
    by_cases c1 : f ≥ 0
    case neg =>
      have f1 : f = -1 := by have := hpt.f0; omega
      obtain ⟨dx2, hp2⟩ := id hS2.ho
      have hif : ixN (fl.map V.int).length (a : Int) = some a := ixn_nat (by rw [List.length_map]; omega)
      refine ite_f (not_bl (decide_eq_false c1)) ⟨_, rfl, _, rfl, p, C, dx2, _, _, rfl, hp2, TC.cl, TC.nF, fl_f .., _, rfl, fa, _, _, a, rfl, rfl, hS2.hf, hif, ?_⟩
      rw [← List.map_set]
      refine last hS2 ⟨hpt.f0, hpt.f1, hpt.up, fun k hk => by omega, fun z k _ h2 => hpt.pn z k (by omega) h2, fun z => ?_⟩
      obtain ⟨q1, q2, q3, q4, q5⟩ := hpt.pp z
      exact ⟨by omega, q2, q3, q4, fun k h1 h2 => q5 k (by omega) h2⟩
    obtain ⟨f, rfl⟩ := int_nat c1
    have fa' : f < a := by have := hpt.f1; omega
    obtain ⟨dx2, hp2⟩ := id hS2.ho
    obtain ⟨gvs2, hga2, hP2⟩ := id hS2.hg
    obtain ⟨y, hy, hgy⟩ := gatE hP2 (by omega : f < gs.length)
    refine ite_t (decide_eq_true c1) ⟨fun σ' H' => ∃ (q : Int) (x4 : Option V), σ' = [some (.ref p), some (.int (a : Nat)), some x, some (.int ((f : Int) - 1)), x4] ∧ SeV C H0 H' p ga fa qa sa n (wdOf (tagG b)) gs fl (pa.set a q) st ∧ GtV H' x (atG gs a) ∧ Part b gs a ((f : Int) - 1) q, fun σ' H' ⟨q, x4, h⟩ => ⟨f, by omega, (f : Int) - 1, q, x4, by omega, h⟩, ?_⟩
    refine ⟨_, rfl, p, C, dx2, _, _, rfl, hp2, TC.cl, TC.nG, fl_g .., _, rfl, ga, _, _, _, rfl, rfl, SqL.of hga2, atI_nat hy, ?_⟩
    have gda := gdAt hgd ha
    have gdf := gdAt hgd (by omega : f < gs.length)
    have he := hpt.here
    obtain ⟨q1, eq1⟩ : ∃ q1, (if fitW b (atG gs f) (atG gs a) = true then (f : Int) else q0) = q1 := ⟨_, rfl⟩
    rw [eq1] at he
    refine ⟨fun σ' H' => σ' = [some (.ref p), some (.int (a : Nat)), some x, some (.int (f : Nat)), some y] ∧ SeV C H0 H' p ga fa qa sa n (wdOf (tagG b)) gs fl (pa.set a q1) st ∧ GtV H' x (atG gs a) ∧ GtV H' y (atG gs f), ?_, ?_⟩
    · refine ⟨_, rfl, p, _, _, rfl, hp2, fm_fits .., _, rfl, _, rfl, H0, p, n, b, gs, fl, pa.set a q0, st, y, x, _, _, rfl, ⟨ga, fa, qa, sa, hS2⟩, hgy, hgx2, gdf, gda, fun H3 k3 => ?_⟩
      have hS3 := hS2.keep k3
      refine ⟨_, rfl, ?_⟩
      by_cases e : fitW b (atG gs f) (atG gs a) = true
      · obtain ⟨dx3, hp3⟩ := id hS3.ho
        have hiq : ixN ((pa.set a q0).map V.int).length (a : Int) = some a := ixn_nat (by rw [List.length_map, List.length_set]; omega)
        rw [if_pos e] at eq1
        subst eq1
        refine ite_t e ⟨_, rfl, _, rfl, p, C, dx3, _, _, rfl, hp3, TC.cl, TC.nP, fl_p .., _, rfl, qa, _, _, a, rfl, rfl, hS3.hp, hiq, ?_⟩
        rw [← List.map_set, List.set_set]
        exact ⟨rfl, hS3.setP _, (hgx2.keep k3).put hS3.hp, (hgy.keep k3).put hS3.hp⟩
      · rw [if_neg e] at eq1
        subst eq1
        exact ite_f e ⟨rfl, hS3, hgx2.keep k3, hgy.keep k3⟩
    rintro σ' H4 ⟨rfl, hS4, hgx4, hgy4⟩
    refine ⟨_, rfl, _, rfl, y, x, _, _, rfl, hgy4, hgx4, gdf, gda, fun H5 k5 => ⟨_, rfl, ?_⟩⟩
    have hS5 := hS4.keep k5
    cases fr : freeP (atG gs f) (atG gs a) with
    | false =>
      obtain ⟨dx5, hp5⟩ := id hS5.ho
      have hif : ixN (fl.map V.int).length (a : Int) = some a := ixn_nat (by rw [List.length_map]; omega)
      refine ite_t rfl ⟨_, rfl, _, rfl, p, C, dx5, _, _, rfl, hp5, TC.cl, TC.nF, fl_f .., _, rfl, fa, _, _, a, rfl, rfl, hS5.hf, hif, ?_⟩
      rw [← List.map_set]
      refine last hS5 ⟨hpt.f0, hpt.f1, hpt.up, fun k hk => ?_, he.pn, he.pp⟩
      have : f = k := by omega
      rw [← this]
      exact fr
    | true =>
      refine ite_f (by decide) ?_
      refine ⟨_, rfl, _, _, rfl, rfl, q1, _, rfl, hS5, hgx4.keep k5, ⟨by omega, by omega, fun k h1 h2 => ?_, fun z k h1 h2 => he.pn z k (by omega) h2, fun z => ?_⟩⟩
      · rcases Nat.lt_or_ge f k with c | c
        · exact hpt.up k (by omega) h2
        · have : k = f := by omega
          rw [this]; exact fr
      · obtain ⟨q1', q2, q3, q4, q5⟩ := he.pp z
        exact ⟨by omega, q2, q3, q4, fun k h1 h2 => q5 k (by omega) h2⟩
end

end My

set_option Elab.async false
set_option linter.all false
set_option maxRecDepth 100000
namespace My
open PySem PySem.Spec PyProof.Rows L2
def PrN (H : Hp) (v : V) (s : Nat × Nat) : Prop := ∃ t, v = .ref t ∧ H t = some (.tup [.int s.1, .int s.2])
theorem PrN.keep {S : List Addr} {H H' : Hp} (k : KT S H H') {v : V} {s : Nat × Nat} (h : PrN H v s) : PrN H' v s := let ⟨t, e, h⟩ := h; ⟨t, e, k.tp _ _ h⟩
theorem PrN.put {H : Hp} {D : Addr} {xs ys : List V} (hD : H D = some (.lst xs)) {v : V} {s : Nat × Nat} (h : PrN H v s) : PrN (upd H D (.lst ys)) v s := by
  obtain ⟨t, e, h⟩ := h
  refine ⟨t, e, ?_⟩
  rw [upd_ne (fun z => by rw [z, hD] at h; cases h)]
  exact h
def cands (pa : List Int) (i : Nat) : List (Nat × Nat) := ((List.range i).filter fun j => decide (0 ≤ pa.getD j 0)).map fun j => ((pa.getD j 0).toNat, j)
theorem cands_succ (pa : List Int) (i : Nat) : cands pa (i + 1) = cands pa i ++ if 0 ≤ pa.getD i 0 then [((pa.getD i 0).toNat, i)] else [] := by
  unfold cands
  rw [List.range_succ, List.filter_append, List.map_append]
  by_cases e : 0 ≤ pa.getD i 0
  · rw [if_pos e]
    congr 1
    rw [List.getD_eq_getElem?_getD] at e
    simp [List.filter_cons, e]
  · rw [if_neg e]
    congr 1
    rw [List.getD_eq_getElem?_getD] at e
    simp [List.filter_cons]
    omega
theorem mem_cands {pa : List Int} {m : Nat} {s : Nat × Nat} : s ∈ cands pa m ↔ s.2 < m ∧ pa.getD s.2 0 = (s.1 : Int) := by
  unfold cands
  rw [List.mem_map]
  constructor
  · rintro ⟨j, hj, rfl⟩
    obtain ⟨h1, h2⟩ := List.mem_filter.mp hj
    have h2 := of_decide_eq_true h2
    exact ⟨List.mem_range.mp h1, by show pa.getD j 0 = ((pa.getD j 0).toNat : Int); omega⟩
  · rintro ⟨h1, h2⟩
    refine ⟨s.2, List.mem_filter.mpr ⟨List.mem_range.mpr h1, decide_eq_true (by omega)⟩, ?_⟩
    exact Prod.ext (by show (pa.getD s.2 0).toNat = s.1; omega) rfl
theorem cands_len (pa : List Int) (m : Nat) : (cands pa m).length ≤ m := by
  unfold cands
  rw [List.length_map]
  exact Nat.le_trans (List.length_filter_le _ _) (by rw [List.length_range]; exact Nat.le_refl _)
def spFirst (C : Addr) : Sp := fun vs H Q _ => ∃ (H0 : Hp) (p : Addr) (n : Nat) (wd : Str) (gs : List Gt) (fl pa : List Int) (st : List (Nat × Nat)), vs = [.ref p] ∧ SeE C H0 H p n wd gs fl pa st ∧ pa.length ≤ 900 ∧ (∀ H', KT [] H H' → (∀ j, j < pa.length → pa.getD j 0 < 0 ∨ False) → Q .non H') ∧
  ∀ t H' (i j : Nat), KT [] H H' → H' t = some (.tup [.int i, .int j]) → j < pa.length → pa.getD j 0 = (i : Int) → (∀ j' i' : Nat, j' < pa.length → pa.getD j' 0 = (i' : Int) → i < i' ∨ (i = i' ∧ j ≤ j')) → Q (.ref t) H'
section
variable {P : Program} {w : World} {K : PySem.W.Frag} {mg : Str → Option Value} {base : Heap} {C : Addr}
set_option maxHeartbeats 1000000 in
theorem ok_first (T : Txt K mg) (TC : TxC K C) (TM : TxM K mg C) : FnOk P w K mg base CX0 1 TM.f_Search_first_pair TM.d_Search_first_pair ["self"] (spFirst C) := by
  refine TM.F_Search_first_pair.ok sc_Search_first_pair (fun vs H Q E h => ?_) (fun cdv A outer s H vs Q E hr h => ?_)
  · obtain ⟨H0, p, n, wd, gs, fl, pa, st, rfl, _⟩ := h
    rfl
  · obtain ⟨H0, p, n, wd, gs, fl, pa, st, rfl, ⟨ga, fa, qa, sa, hS⟩, hl, qn, qt⟩ := h
    refine ⟨_, (pss_cons (ps_setLc (i := 1) (own := [("at", 2), ("partner", 3)]) (g := gTup K 2 (gCons (gName 2) (gCons (gName 3) gNil))) rfl sc_Search_first_pair.nd rfl rfl (sw_true rfl rfl rfl (by decide +kernel)) (pi_enum (by rfl) T.m_enumerate (pa_cons (pe_fld (pv 0) rfl) pa_nil)) (blkOk_by (own := [("at", 2), ("partner", 3)]) (N := N_Search_first_pair) (sc := defScope s_Search_first_pair) (by decide +kernel)) (fun _ _ _ _ _ => (pg_tup (by rfl) (pgs_cons (pg_name (i := 2) sc_Search_first_pair.nd rfl (Or.inl rfl)) (pgs_cons (pg_name (i := 3) sc_Search_first_pair.nd rfl (Or.inl rfl)) pgs_nil)))) (fun _ _ _ _ _ => (pts_one (pt_cmpR op_ge (pv 3) pe_int (nomark _)))) (fun _ _ _ _ _ => (pe_tup (pa_cons (pv 3) (pa_cons (pv 2) pa_nil)))))
      (pss_one (ps_ret (pe_callBK (cr_minPT rfl (hu_of hr)) (by rfl) T.m_min (by decide +kernel) (pa_cons (pv 1) pa_nil) (pk_cons pe_non pk_nil))))), ?_⟩
    obtain ⟨dx, hp⟩ := id hS.ho
    refine ⟨_, rfl, p, C, dx, _, _, rfl, hp, TC.cl, TC.nP, fl_p .., qa, _, rfl, SqL.of hS.hp, fun M nM => ?_⟩
    refine lc_it (walk_enum (K := K) (a := qa) (xs := pa.map V.int)) (fun i H1 => ∃ vs, KT [] H H1 ∧ H1 M = some (.lst vs) ∧ P2 (PrN H1) vs (cands pa i)) ?_ ?_ ?_ ?_
    · exact ⟨[], KT.new _ nM, upd_same, .nil⟩
    · rintro i H1 _ ⟨vs, k, _⟩
      exact SqL.of (k.same _ _ hS.hp)
    · rintro i x H1 H2 hi ⟨vs, k, hM, hP⟩ ⟨T1, x1, y1, rfl, nT, rfl, e1, e2⟩
      cases e1
      rw [List.length_map] at hi
      have e2 : (pa.map V.int)[i]? = some y1 := e2
      rw [List.getElem?_map, List.getElem?_eq_getElem hi] at e2
      have e2 : y1 = V.int (pa.getD i 0) := by
        rw [List.getD_eq_getElem?_getD, List.getElem?_eq_getElem hi]
        exact (Option.some.inj e2).symm
      subst e2
      have kT := KT.new [] nT (o := .tup [.int (i : Nat), .int (pa.getD i 0)])
      have k2 := k.trans kT
      have hM2 := kT.same _ _ hM
      have hP2 := hP.mono fun _ _ => PrN.keep kT
      have hT : (upd H1 T1 (.tup [.int (i : Nat), .int (pa.getD i 0)])) T1 = some (.tup [.int (i : Nat), .int (pa.getD i 0)]) := upd_same
      generalize upd H1 T1 (.tup [.int (i : Nat), .int (pa.getD i 0)]) = H3 at k2 hM2 hP2 hT ⊢
      refine ⟨T1, _, rfl, SqT.of hT, rfl, _, _, rfl, _, _, rfl, rfl, by rfl, ?_⟩
      refine ⟨_, rfl, _, _, rfl, rfl, _, rfl, ?_⟩
      by_cases c : pa.getD i 0 ≥ 0
      · refine ite_t (decide_eq_true c) ⟨_, rfl, _, rfl, sz2, fun t nt => ?_⟩
        have kt := KT.new [] nt (o := .tup [.int (pa.getD i 0), .int (i : Nat)])
        have hM3 := kt.same _ _ hM2
        refine ⟨vs, hM3, ?_, vs ++ [.ref t], (k2.trans kt).late nM, upd_same, ?_⟩
        · rw [hP.len]
          have := cands_len pa i
          exact small_int (by omega)
        · rw [cands_succ, if_pos c]
          refine ((hP2.mono fun _ _ => PrN.keep kt).snoc ⟨t, rfl, ?_⟩).mono fun _ _ => PrN.put hM3
          rw [upd_same]
          show some (HO.tup [V.int (pa.getD i 0), V.int (i : Int)]) = some (HO.tup [V.int ((pa.getD i 0).toNat : Int), V.int (i : Int)])
          rw [show ((pa.getD i 0).toNat : Int) = pa.getD i 0 by omega]
      · refine ite_f (not_bl (decide_eq_false c)) ⟨vs, k2, hM2, ?_⟩
        rw [cands_succ, if_neg c, List.append_nil]
        exact hP2
    · rintro H1 ⟨vs, k, hM, hP⟩
      rw [List.length_map] at hP
      have lv := hP.len
      refine ⟨_, rfl, M, vs, fun i => (((cands pa pa.length).getD i (0, 0)).1, ((cands pa pa.length).getD i (0, 0)).2), rfl, rfl, SqL.of hM, fun i x hx => ?_, fun e => ?_, fun i x hx hmin => ?_⟩
      · obtain ⟨s, hs, t, e, ht⟩ := hP.get hx
        refine ⟨t, e, ?_⟩
        show SqT K H1 t [.int (((cands pa pa.length).getD i (0, 0)).1 : Nat), .int (((cands pa pa.length).getD i (0, 0)).2 : Nat)]
        rw [List.getD_eq_getElem?_getD, hs]
        exact SqT.of ht
      · refine qn _ k fun j hj => ?_
        by_cases z : pa.getD j 0 < 0
        · exact .inl z
        · exfalso
          have : ((pa.getD j 0).toNat, j) ∈ cands pa pa.length := mem_cands.mpr ⟨hj, by show pa.getD j 0 = ((pa.getD j 0).toNat : Int); omega⟩
          have l0 : (cands pa pa.length).length = 0 := by rw [← lv, e]; rfl
          rw [List.eq_nil_of_length_eq_zero l0] at this
          exact nomatch this
      · obtain ⟨s, hs, t, rfl, ht⟩ := hP.get hx
        have ms := mem_cands.mp (List.mem_of_getElem? hs)
        refine qt t _ s.1 s.2 k ht ms.1 ms.2 fun j' i' hj' hi' => ?_
        have mc : (i', j') ∈ cands pa pa.length := mem_cands.mpr ⟨hj', hi'⟩
        obtain ⟨m, hm, em⟩ := List.getElem_of_mem mc
        have : SrtO.lexB ((((cands pa pa.length).getD m (0, 0)).1 : Int), (((cands pa pa.length).getD m (0, 0)).2 : Int)) ((((cands pa pa.length).getD i (0, 0)).1 : Int), (((cands pa pa.length).getD i (0, 0)).2 : Int)) = false := hmin m (by omega)
        rw [List.getD_eq_getElem?_getD, List.getD_eq_getElem?_getD, hs, List.getElem?_eq_getElem hm, em] at this
        have := SrtO.lexB_no.mp this
        have this : ¬ ((i' : Int) < s.1 ∨ ((i' : Int) = s.1 ∧ (j' : Int) < s.2)) := this
        omega
end

end My

set_option Elab.async false
set_option linter.all false
set_option maxRecDepth 100000
namespace My
open PySem PySem.Spec PyProof.Rows L2
theorem P2.erase {α : Type} {R : V → α → Prop} : ∀ {vs : List V} {ds : List α} (d : Nat), P2 R vs ds → P2 R (vs.eraseIdx d) (ds.eraseIdx d)
  | _, _, _, .nil => .nil
  | _, _, 0, .cons _ g => g
  | _, _, d + 1, .cons h g => .cons h (g.erase d)
theorem erase_map (fl : List Int) (d : Nat) : (fl.map V.int).eraseIdx d = (fl.eraseIdx d).map V.int := by
  induction fl generalizing d with
  | nil => rfl
  | cons x r ih => cases d with
    | zero => rfl
    | succ d => show V.int x :: (r.map V.int).eraseIdx d = V.int x :: (r.eraseIdx d).map V.int; rw [ih]
section
variable {C : Addr} {H0 H H' H1 : Hp} {p ga fa qa sa dx l : Addr} {n : Nat} {wd : Str} {gs : List Gt} {fl pa : List Int} {st : List (Nat × Nat)}
theorem SeV.young (h : SeV C H0 H p ga fa qa sa n wd gs fl pa st) (nl : H l = none) : l ≠ p ∧ l ≠ ga ∧ l ≠ fa ∧ l ≠ qa ∧ l ≠ sa := by
  obtain ⟨dx, e⟩ := h.ho
  obtain ⟨gvs, e1, _⟩ := h.hg
  obtain ⟨svs, e2, _⟩ := h.hs
  exact ⟨(fun z => by rw [z, e] at nl; cases nl), (fun z => by rw [z, e1] at nl; cases nl), (fun z => by rw [z, h.hf] at nl; cases nl), (fun z => by rw [z, h.hp] at nl; cases nl), (fun z => by rw [z, e2] at nl; cases nl)⟩
theorem gts_ins {vs : List V} {ds : List Gt} {fs fs' : List (Str × V)} (e : H p = some (.ins C dx fs)) (g : P2 (GtV H) vs ds) : P2 (GtV (upd H p (.ins C dx fs'))) vs ds := gts_keep (KT.insP e) g
theorem sts_ins {vs : List V} {ds : List (Nat × Nat)} {fs fs' : List (Str × V)} (e : H p = some (.ins C dx fs)) (g : P2 (StV H) vs ds) : P2 (StV (upd H p (.ins C dx fs'))) vs ds := g.mono fun _ _ => .keep (KT.insP e)
theorem SeV.newF (h : SeV C H0 H p ga fa qa sa n wd gs fl pa st) {fl' : List Int} (nl : H l = none) (k : KT [] H H1) (hl : H1 l = some (.lst (fl'.map V.int))) (e : H1 p = some (.ins C dx (flds n wd ga fa qa sa))) :
    SeV C H0 (upd H1 p (.ins C dx (flds n wd ga l qa sa))) p ga l qa sa n wd gs fl' pa st := by
  obtain ⟨y1, y2, y3, y4, y5⟩ := h.young nl
  have h1 := h.keep k
  obtain ⟨n1, n2, n3, n4⟩ := h1.pne
  obtain ⟨m1, m2, m3, m4, m5, m6⟩ := h1.ne
  obtain ⟨gvs, e1, g1⟩ := h1.hg
  obtain ⟨svs, e2, g2⟩ := h1.hs
  refine ⟨h1.k.late (h.fr p (by simp)), fun x hx => ?_, ⟨dx, upd_same⟩, ⟨gvs, by rw [upd_ne (Ne.symm n1)]; exact e1, gts_ins e g1⟩, by rw [upd_ne y1]; exact hl, by rw [upd_ne (Ne.symm n3)]; exact h1.hp, ⟨svs, by rw [upd_ne (Ne.symm n4)]; exact e2, sts_ins e g2⟩, by simp [Ne.symm y2, m2, m3, y4, y5, m6]⟩
  simp only [List.mem_cons, List.not_mem_nil, or_false] at hx
  rcases hx with rfl | rfl | rfl | rfl | rfl
  · exact h.fr _ (by simp)
  · exact h.fr _ (by simp)
  · exact h.k.free nl
  · exact h.fr _ (by simp)
  · exact h.fr _ (by simp)
theorem SeV.newP (h : SeV C H0 H p ga fa qa sa n wd gs fl pa st) {pa' : List Int} (nl : H l = none) (k : KT [] H H1) (hl : H1 l = some (.lst (pa'.map V.int))) (e : H1 p = some (.ins C dx (flds n wd ga fa qa sa))) :
    SeV C H0 (upd H1 p (.ins C dx (flds n wd ga fa l sa))) p ga fa l sa n wd gs fl pa' st := by
  obtain ⟨y1, y2, y3, y4, y5⟩ := h.young nl
  have h1 := h.keep k
  obtain ⟨n1, n2, n3, n4⟩ := h1.pne
  obtain ⟨m1, m2, m3, m4, m5, m6⟩ := h1.ne
  obtain ⟨gvs, e1, g1⟩ := h1.hg
  obtain ⟨svs, e2, g2⟩ := h1.hs
  refine ⟨h1.k.late (h.fr p (by simp)), fun x hx => ?_, ⟨dx, upd_same⟩, ⟨gvs, by rw [upd_ne (Ne.symm n1)]; exact e1, gts_ins e g1⟩, by rw [upd_ne (Ne.symm n2)]; exact h1.hf, by rw [upd_ne y1]; exact hl, ⟨svs, by rw [upd_ne (Ne.symm n4)]; exact e2, sts_ins e g2⟩, by simp [Ne.symm y2, m1, m3, Ne.symm y3, y5, m5]⟩
  simp only [List.mem_cons, List.not_mem_nil, or_false] at hx
  rcases hx with rfl | rfl | rfl | rfl | rfl
  · exact h.fr _ (by simp)
  · exact h.fr _ (by simp)
  · exact h.fr _ (by simp)
  · exact h.k.free nl
  · exact h.fr _ (by simp)
end
def spTakeOut (C : Addr) : Sp := fun vs H Q _ => ∃ (H0 : Hp) (p : Addr) (n d : Nat) (wd : Str) (gs : List Gt) (fl pa : List Int) (st : List (Nat × Nat)), vs = [.ref p, .int d] ∧ SeE C H0 H p n wd gs fl pa st ∧ fl.length = gs.length ∧ pa.length = gs.length ∧ d < gs.length ∧ gs.length ≤ 900 ∧
  ∀ H', SeE C H0 H' p n wd (gs.eraseIdx d) ((fl.eraseIdx d).map (mu d)) ((pa.eraseIdx d).map (mu d)) st → Q .non H'
section
variable {P : Program} {w : World} {K : PySem.W.Frag} {mg : Str → Option Value} {base : Heap} {C : Addr}
set_option maxHeartbeats 1000000 in
theorem ok_take_out (T : Txt K mg) (TC : TxC K C) (TM : TxM K mg C) : FnOk P w K mg base CX0 2 TM.f_Search_take_out TM.d_Search_take_out ["self", "gone"] (spTakeOut C) := by
  have G_moved_up := ok_moved (P := P) (w := w) (base := base) T
  refine TM.F_Search_take_out.ok sc_Search_take_out (fun vs H Q E h => ?_) (fun cdv A outer s H vs Q E hr h => ?_)
  · obtain ⟨H0, p, n, d, wd, gs, fl, pa, st, rfl, _⟩ := h
    rfl
  · obtain ⟨H0, p, n, d, wd, gs, fl, pa, st, rfl, ⟨ga, fa, qa, sa, hS⟩, lf, lp, hd, hl, q⟩ := h
    refine ⟨_, (pss_cons (ps_delL (pe_fld (pv 0) rfl) (pv 1))
      (pss_cons (ps_delL (pe_fld (pv 0) rfl) (pv 1))
      (pss_cons (ps_delL (pe_fld (pv 0) rfl) (pv 1))
      (pss_cons (ps_fld (pv 0) (pe_call G_moved_up (hr.mono (by omega)) (by rfl) T.g_moved_up T.F_moved_up.kp T.b_moved_up .nil pass0 (pa_cons (pe_fld (pv 0) rfl) (pa_cons (pv 1) pa_nil))) rfl)
      (pss_one (ps_fld (pv 0) (pe_call G_moved_up (hr.mono (by omega)) (by rfl) T.g_moved_up T.F_moved_up.kp T.b_moved_up .nil pass0 (pa_cons (pe_fld (pv 0) rfl) (pa_cons (pv 1) pa_nil))) rfl)))))), ?_⟩
    obtain ⟨dx, hp⟩ := id hS.ho
    obtain ⟨gvs, hga, hP⟩ := id hS.hg
    have lg := hP.len
    have si : ∀ {m : Nat}, m = gs.length → seqIndex? (d : Int) m = some d := fun h => (ixN_seq (ixn_nat (by omega))).1
    refine ⟨_, rfl, p, C, dx, _, _, rfl, hp, TC.cl, TC.nG, fl_g .., _, rfl, ga, gvs, _, d, rfl, rfl, hga, by omega, by omega, si lg, ?_⟩
    have hS1 := hS.setG (hP.erase d)
    generalize upd H ga (.lst (gvs.eraseIdx d)) = H1 at hS1 ⊢
    obtain ⟨dx1, hp1⟩ := id hS1.ho
    refine ⟨_, rfl, p, C, dx1, _, _, rfl, hp1, TC.cl, TC.nF, fl_f .., _, rfl, fa, _, _, d, rfl, rfl, hS1.hf, by omega, by omega, si (by rw [List.length_map, lf]), ?_⟩
    rw [erase_map]
    have hS2 := hS1.setF (fl.eraseIdx d)
    generalize upd H1 fa (.lst ((fl.eraseIdx d).map V.int)) = H2 at hS2 ⊢
    obtain ⟨dx2, hp2⟩ := id hS2.ho
    refine ⟨_, rfl, p, C, dx2, _, _, rfl, hp2, TC.cl, TC.nP, fl_p .., _, rfl, qa, _, _, d, rfl, rfl, hS2.hp, by omega, by omega, si (by rw [List.length_map, lp]), ?_⟩
    rw [erase_map]
    have hS3 := hS2.setP (pa.eraseIdx d)
    generalize upd H2 qa (.lst ((pa.eraseIdx d).map V.int)) = H3 at hS3 ⊢
    have l1 := len_erase (l := fl) (d := d) (by omega)
    have l2 := len_erase (l := pa) (d := d) (by omega)
    obtain ⟨dx3, hp3⟩ := id hS3.ho
    refine ⟨_, rfl, p, C, dx3, _, _, rfl, hp3, TC.cl, TC.nF, fl_f .., _, rfl, fa, fl.eraseIdx d, d, rfl, hS3.hf, by omega, fun l H4 nl k4 hl4 => ?_⟩
    have hp4 := k4.same _ _ hp3
    refine ⟨_, rfl, p, C, dx3, _, rfl, hp4, TC.cl, TC.nF, (by show 6 < 1000; decide), ?_⟩
    rw [fl_put_f]
    have hS5 := hS3.newF nl k4 hl4 hp4
    generalize upd H4 p (.ins C dx3 (flds n wd ga l qa sa)) = H5 at hS5 ⊢
    obtain ⟨dx5, hp5⟩ := id hS5.ho
    refine ⟨_, rfl, p, C, dx5, _, _, rfl, hp5, TC.cl, TC.nP, fl_p .., _, rfl, qa, pa.eraseIdx d, d, rfl, hS5.hp, by omega, fun l' H6 nl' k6 hl6 => ?_⟩
    have hp6 := k6.same _ _ hp5
    refine ⟨_, rfl, p, C, dx5, _, rfl, hp6, TC.cl, TC.nP, (by show 6 < 1000; decide), ?_⟩
    rw [fl_put_p]
    exact q _ ⟨ga, l, l', sa, hS5.newP nl' k6 hl6 hp6⟩
end

end My

set_option Elab.async false
set_option linter.all false
set_option maxRecDepth 100000
namespace My
open PySem PySem.Spec PyProof.Rows L2
theorem isIr_int {n : Int} {i : Int} : isIr 0 (n - 1) (.int i) = (decide (0 ≤ i) && decide (i < n)) := by
  have : isIr 0 (n - 1) (.int i) = (decide (0 ≤ i) && decide (i ≤ n - 1)) := rfl
  rw [this]
  congr 1
  rw [Bool.eq_iff_iff, decide_eq_true_iff, decide_eq_true_iff]
  omega
theorem shaped_lgts (gs : List Gt) : SeqAt.shaped (.list (gs.map gtD)) = true := shaped_gts gs
theorem eqv_nilG (xs : List PyData) : PyData.eqv (.list xs) (.list []) = xs.isEmpty := by cases xs <;> rfl

theorem asc_len : ∀ {l : List Nat} {b n : Nat}, l.Pairwise (· < ·) → (∀ x ∈ l, b ≤ x ∧ x < n) → l.length ≤ n - b
  | [], _, _, _, _ => Nat.zero_le _
  | x :: r, b, n, h, hx => by
    have h := List.pairwise_cons.mp h
    have ih := asc_len (l := r) (b := x + 1) (n := n) h.2 fun y hy => ⟨h.1 y hy, (hx y (List.mem_cons_of_mem _ hy)).2⟩
    have := hx x (List.mem_cons_self ..)
    rw [List.length_cons]
    omega
theorem GW.of_srt {n t : Nat} {cs : List Ct} (ht : t < n) (nd : (cs.map (·.1)).Nodup) (h : ∀ c ∈ cs, c.1 < n ∧ c.1 ≠ t) : GW n (t, srtC cs) := by
  have m : ∀ c ∈ srtC cs, c.1 < n ∧ c.1 ≠ t := fun c hc => h c ((srtC_perm cs).mem_iff.mp hc)
  refine ⟨ht, m, srtC_asc nd, ?_⟩
  have := asc_len (b := 0) (n := n) (srtC_asc nd) fun x hx => by
    obtain ⟨c, hc, rfl⟩ := List.mem_map.mp hx
    exact ⟨Nat.zero_le _, (m c hc).1⟩
  rw [List.length_map] at this
  exact this
def spRich : Sp := fun vs H Q _ => ∃ (dr : Addr) (n many : Nat), vs = [.ref dr, .int n, .int many] ∧ DrawAt H dr ∧ 1 ≤ n ∧ n ≤ 10 ∧ many ≤ 50 ∧ ∀ (t : Addr) (H' : Hp) (gs : List Gt), GS dr H H' → CircAt H' t n gs → (∀ g ∈ gs, GW n g) → gs.length ≤ many → Q (.ref t) H'
section
variable {P : Program} {w : World} {K : PySem.W.Frag} {mg : Str → Option Value} {base : Heap}
set_option maxHeartbeats 8000000 in
theorem ok_z_rich (T : Txt K mg) : FnOk P w K mg base CX0 3 T.f_z_rich T.d_z_rich ["draw", "wires", "many"] spRich := by
  have G_z_take := okG_z_take (P := P) (w := w) (base := base) T
  have G_z_gate := ok_z_gate (P := P) (w := w) (base := base) T
  have G_z_ordered := ok_z_ordered (P := P) (w := w) (base := base) T
  refine T.F_z_rich.ok sc_z_rich (fun vs H Q E h => ?_) (fun cdv A outer s H vs Q E hr h => ?_)
  · obtain ⟨dr, n, many, rfl, _⟩ := h
    rfl
  · obtain ⟨dr, n, many, rfl, hd, hn1, hn, hm, q⟩ := h
    refine ⟨_, (pss_cons (ps_set (i := 3) sc_z_rich.nd rfl (Or.inl rfl) (pe_lst pa_nil))
      (pss_cons (ps_for PassesOwn.never rfl (pi_range1 (by rfl) T.m_range (pa_cons (pe_call G_z_take (hr.mono (by omega)) (by rfl) T.g_z_take T.F_z_take.kp T.b_z_take .nil pass0 (pa_cons (pv 0) (pa_cons (pe_op op_add (pv 2) pe_int) pa_nil))) pa_nil)) (pg_name (i := 4) sc_z_rich.nd rfl (Or.inl rfl))
        (pss_cons (ps_set (i := 5) sc_z_rich.nd rfl (Or.inl rfl) (pe_call G_z_take (hr.mono (by omega)) (by rfl) T.g_z_take T.F_z_take.kp T.b_z_take .nil pass0 (pa_cons (pv 0) (pa_cons pe_int pa_nil))))
        (pss_cons (ps_set (i := 6) sc_z_rich.nd rfl (Or.inl rfl) (pe_call G_z_gate (hr.mono (by omega)) (by rfl) T.g_z_gate T.F_z_gate.kp T.b_z_gate .nil pass0 (pa_cons (pv 0) (pa_cons (pv 1) (pa_cons pe_int pa_nil)))))
        (pss_cons (ps_cut (ps_if (PW.pt (pw_and (pt_cmpR (op_neD hr.units) (pv 3) (pe_lst pa_nil) (nomark _)) (pw_and1 (pt_cmpR op_lt (pv 5) pe_int (nomark _)))))
          (pss_cons (ps_set (i := 6) sc_z_rich.nd rfl (Or.inl rfl) (pe_ix ix_list (pv 3) (pe_call G_z_take (hr.mono (by omega)) (by rfl) T.g_z_take T.F_z_take.kp T.b_z_take .nil pass0 (pa_cons (pv 0) (pa_cons (pe_callB call_len_seq (by rfl) T.m_len (by decide +kernel) (pa_cons (pv 3) pa_nil)) pa_nil))) (fun _ _ => rfl)))
          (pss_cons (ps_set (i := 7) sc_z_rich.nd rfl (Or.inl rfl) (pe_callTy (call_dictF rfl) (by rfl) T.m_dict (by decide +kernel) (pa_cons (pe_ix ix_tup (pv 6) pe_int (fun _ _ => rfl)) pa_nil)))
          (pss_cons (ps_set (i := 8) sc_z_rich.nd rfl (Or.inl rfl) (pe_call G_z_take (hr.mono (by omega)) (by rfl) T.g_z_take T.F_z_take.kp T.b_z_take .nil pass0 (pa_cons (pv 0) (pa_cons (pv 1) pa_nil))))
          (pss_cons (ps_cut (ps_if (PW.pt (pw_and (pt_cmpR op_gt (pv 5) pe_int (nomark _)) (pw_and (pt_cmpR op_ne (pv 8) (pe_ix ix_tup (pv 6) pe_int (fun _ _ => rfl)) (nomark _)) (pw_and1 (pt_cmp (pc_din (hu_of hr) (pv 8) (pv 7)))))))
            (pss_one (ps_if (pt_cmpR op_eq (pv 5) pe_int (nomark _))
              (pss_one (ps_expr (pe_dpop1 (pv 7) (pv 8) (M1.mk rfl rfl rfl rfl))))
              (pss_one (ps_dput (hu_of hr) (pv 7) (pv 8) (pe_op op_sub pe_int (pe_dget (hu_of hr) (pv 7) (pv 8) (fun _ _ => rfl))) rfl))))
            (pss_one (ps_if (PW.pt (pw_and (pt_cmpR op_gt (pv 5) pe_int (nomark _)) (pw_and1 (pt_cmpR op_ne (pv 8) (pe_ix ix_tup (pv 6) pe_int (fun _ _ => rfl)) (nomark _)))))
              (pss_one (ps_dput (hu_of hr) (pv 7) (pv 8) (pe_call G_z_take (hr.mono (by omega)) (by rfl) T.g_z_take T.F_z_take.kp T.b_z_take .nil pass0 (pa_cons (pv 0) (pa_cons pe_int pa_nil))) rfl))
              pss_nil))))
          (pss_one (ps_set (i := 6) sc_z_rich.nd rfl (Or.inl rfl) (pe_tup (pa_cons (pe_ix ix_tup (pv 6) pe_int (fun _ _ => rfl)) (pa_cons (pe_call G_z_ordered (hr.mono (by omega)) (by rfl) T.g_z_ordered T.F_z_ordered.kp T.b_z_ordered .nil pass0 (pa_cons (pv 7) pa_nil)) pa_nil)))))))))
          pss_nil))
        (pss_one (ps_expr (pe_bm PySem.F.plainAttrs_list PySem.F.slot_list_append PySem.F.type_list_append mt_append (pv 3) (pa_cons (pv 6) pa_nil))))))))
      (pss_one (ps_ret (pe_tup (pa_cons (pv 1) (pa_cons (pe_callTy call_tuple_of (by rfl) T.m_tuple (by decide +kernel) (pa_cons (pv 3) pa_nil)) pa_nil))))))), ?_⟩
    refine ⟨Nat.zero_le _, fun L nL => ?_⟩
    have g0 := GS.new hd nL (o := .lst [])
    have hL0 : (upd H L (.lst [])) L = some (.lst []) := upd_same
    generalize upd H L (.lst []) = H0 at g0 hL0 ⊢
    have nLd := ne_new hd nL
    refine ⟨_, rfl, _, rfl, _, _, rfl, rfl, dr, (many : Int) + 1, rfl, g0.d, by omega, Int.le_trans (by omega : (many : Int) + 1 ≤ 51) (by decide), fun r H1 r0 r1 g1' => ?_⟩
    obtain ⟨cnt, rfl⟩ := int_nat r0
    have g1 := g0.trans g1'
    have hL1 := g1'.k.kp _ _ (by simp [nLd]) hL0
    refine ⟨(cnt : Int), rfl, by omega, by omega, ?_⟩
    rw [Int.toNat_natCast]
    refine for_range (n := cnt) (fun i σ H2 => ∃ (x4 x5 x6 x7 x8 : Option V) (gvs : List V) (gs : List Gt), σ = [some (.ref dr), some (.int (n : Nat)), some (.int (many : Nat)), some (.ref L), x4, x5, x6, x7, x8] ∧ GS dr H H2 ∧ H2 L = some (.lst gvs) ∧ P2 (GtV H2) gvs gs ∧ (∀ g ∈ gs, GW n g) ∧ gs.length = i) ?_ ?_ ?_
    · exact ⟨none, none, none, none, none, [], [], rfl, g1, hL1, .nil, (fun _ h => (nomatch h)), rfl⟩
    · rintro i σ H2 hi ⟨x4, x5, x6, x7, x8, gvs, gs, rfl, g2, hL, hP, hg, hl⟩
      rw [Int.zero_add]
      refine ⟨_, rfl, dr, 6, rfl, g2.d, by decide, by decide, fun wh H3 w0 w1 g3' => ?_⟩
      have g3 := g2.trans g3'
      have hL := g3'.k.kp _ _ (by simp [nLd]) hL
      have hP := gts_keep g3'.k hP
      refine ⟨_, rfl, _, rfl, dr, n, 3, rfl, g3.d, hn1, hn, fun x H4 g g4' hx gw => ?_⟩
      have g4 := g3.trans g4'
      have hL := g4'.k.kp _ _ (by simp [nLd]) hL
      have hP := gts_keep g4'.k hP
      refine ⟨fun σ' H' => ∃ (x : V) (g : Gt) (x7 x8 : Option V), σ' = [some (.ref dr), some (.int (n : Nat)), some (.int (many : Nat)), some (.ref L), some (.int (i : Nat)), some (.int wh), some x, x7, x8] ∧ GS dr H H' ∧ H' L = some (.lst gvs) ∧ P2 (GtV H') gvs gs ∧ GtV H' x g ∧ GW n g, ?_, ?_⟩
      rotate_left
      · rintro σ' H5 ⟨x, g, x7, x8, rfl, g5, hL, hP, hx, gw⟩
        refine ⟨_, rfl, .inl ⟨rfl, _, SqL.of hL⟩, _, rfl, L, _, _, rfl, rfl, hL, ?_, _, _, _, _, _, gvs ++ [x], gs ++ [g], rfl, g5.late hd nL, upd_same, ?_, ?_, ?_⟩
        · rw [hP.len]
          exact Nat.lt_of_le_of_lt (by omega : _ ≤ 1000) (by decide)
        · exact (hP.snoc hx).mono fun _ _ => GtV.put hL
        · intro g' hg'
          rcases List.mem_append.mp hg' with h | h
          · exact hg g' h
          · rw [List.mem_singleton.mp h]; exact gw
        · rw [List.length_append, hl]
          rfl
      refine ⟨_, rfl, Nat.zero_le _, fun l2 nl2 => ?_⟩
      have kl2 := KT.new [] nl2 (o := .lst [])
      have g5 := g4.trans (GS.of g4.d kl2)
      have hL := kl2.kp _ _ (by simp) hL
      have hP := gts_keep kl2 hP
      have hx := hx.keep kl2
      have hl2 : (upd H4 l2 (.lst [])) l2 = some (.lst []) := upd_same
      generalize upd H4 l2 (.lst []) = H5 at g5 hL hP hx hl2 ⊢
      refine ⟨.list (gs.map gtD), .list [], .lst (SqL.of hL) (gts_dp hP), .lst (SqL.of hl2) .nil, shaped_lgts gs, shaped_nil, _, rfl, ?_⟩
      rw [eqv_nilG]
      by_cases e1 : gs = []
      · refine ite_f (by rw [e1]; decide) (ite_f (by decide) ?_)
        exact ⟨x, g, _, _, rfl, g5, hL, hP, hx, gw⟩
      refine ite_t (by cases gs with | nil => exact absurd rfl e1 | cons _ _ => rfl) ⟨_, rfl, _, _, rfl, rfl, _, rfl, ?_⟩
      by_cases e2 : wh < 4
      case neg => exact ite_f (not_bl (decide_eq_false e2)) ⟨x, g, _, _, rfl, g5, hL, hP, hx, gw⟩
      refine ite_t (decide_eq_true e2) ?_
      have hlp : 0 < gs.length := by cases gs with | nil => exact absurd rfl e1 | cons _ _ => exact Nat.succ_pos _
      have hPl := hP.len
      refine ⟨_, rfl, _, rfl, _, rfl, _, _, rfl, .inl (SqL.of hL), dr, _, rfl, g5.d, by omega, Int.le_trans (by omega : _ ≤ (1000 : Int)) (by decide), fun r H6 s0 s1 g6' => ?_⟩
      have g6 := g5.trans g6'
      have hL := g6'.k.kp _ _ (by simp [nLd]) hL
      have hP := gts_keep g6'.k hP
      obtain ⟨j, rfl⟩ := int_nat s0
      obtain ⟨y, hy⟩ : ∃ y, gvs[j]? = some y := ⟨gvs[j]'(by omega), List.getElem?_eq_getElem _⟩
      obtain ⟨go, hgo, hz⟩ := hP.get hy
      have gow := hg go (List.mem_of_getElem? hgo)
      obtain ⟨t, u, rfl, ht, hu⟩ := hz.ctl
      have ngo := asc_nodup gow.2.2.1
      refine ⟨L, _, _, _, rfl, rfl, SqL.of hL, atI_nat hy, ?_⟩
      obtain ⟨ps, f1, f2⟩ := hu.ps (K := K)
      refine ⟨_, rfl, t, _, _, _, rfl, rfl, SqT.of ht, rfl, u, ps, dkC go.2, rfl, f1, f2, fun D nD => ?_⟩
      rw [mergeK_dkC ngo]
      have nDd := ne_new g6.d nD
      have kD := GS.new g6.d nD (o := .dK (dkC go.2))
      have hD : (upd H6 D (.dK (dkC go.2))) D = some (.dK (dkC go.2)) := upd_same
      generalize upd H6 D (.dK (dkC go.2)) = H7 at kD hD ⊢
      refine ⟨_, rfl, _, rfl, dr, _, rfl, kD.d, by omega, Int.le_trans (by omega : (n : Int) ≤ 10) (by decide), fun wr H8 u0 u1 g8' => ?_⟩
      obtain ⟨wr, rfl⟩ := int_nat u0
      have g8 := kD.trans g8'
      have hD8 := g8'.k.kp _ _ (by simp [nDd]) hD
      refine ⟨fun σ' H' => ∃ (cs : List Ct), σ' = [some (.ref dr), some (.int (n : Nat)), some (.int (many : Nat)), some (.ref L), some (.int (i : Nat)), some (.int wh), some (.ref t), some (.ref D), some (.int (wr : Nat))] ∧ GS dr H6 H' ∧ H' D = some (.dK (dkC cs)) ∧ (cs.map (·.1)).Nodup ∧ (∀ c ∈ cs, c.1 < n ∧ c.1 ≠ go.1) ∧ cs.length ≤ 1000, ?_, ?_⟩
      rotate_left
      · rintro σ' H9 ⟨cs, rfl, g9, hD9, nd, hc, lc⟩
        refine ⟨_, rfl, t, _, _, _, rfl, rfl, SqT.of (g9.k.tp _ _ ht), rfl, _, rfl, D, cs, rfl, hD9, nd, lc, fun u' H10 k10 hu' => ⟨sz2, fun p np => ?_⟩⟩
        have kp := KT.new [] np (o := .tup [.int go.1, .ref u'])
        have g10 := g9.trans (GS.of g9.d (k10.trans kp))
        obtain ⟨us, v1, v2⟩ := hu'.keep kp
        exact ⟨.ref p, (go.1, srtC cs), _, _, rfl, g6.trans g10, g10.k.kp _ _ (by simp [nLd]) hL, gts_keep g10.k hP, ⟨p, u', us, rfl, upd_same, v1, v2⟩, GW.of_srt gow.1 nd hc⟩
      have lgo : go.2.length ≤ 10 := Nat.le_trans gow.2.2.2 hn
      have ht8 := g8.k.tp _ _ ht
      have stay : ∃ (cs : List Ct), [some (V.ref dr), some (.int (n : Nat)), some (.int (many : Nat)), some (.ref L), some (.int (i : Nat)), some (.int wh), some (.ref t), some (.ref D), some (.int (wr : Nat))] = [some (V.ref dr), some (.int (n : Nat)), some (.int (many : Nat)), some (.ref L), some (.int (i : Nat)), some (.int wh), some (.ref t), some (.ref D), some (.int (wr : Nat))] ∧ GS dr H6 H8 ∧ H8 D = some (.dK (dkC cs)) ∧ (cs.map (·.1)).Nodup ∧ (∀ c ∈ cs, c.1 < n ∧ c.1 ≠ go.1) ∧ cs.length ≤ 1000 := ⟨go.2, rfl, g8, hD8, ngo, fun c hc => gow.2.1 c hc, by omega⟩
      have eqI : ∀ x y : Nat, decide (V.int (x : Int) = V.int (y : Int)) = decide (x = y) := fun x y => by
        rw [Bool.eq_iff_iff, decide_eq_true_iff, decide_eq_true_iff]
        exact ⟨fun z => by have := V.int.inj z; omega, fun z => by rw [z]⟩
      refine ⟨_, rfl, _, _, rfl, rfl, _, rfl, ?_⟩
      by_cases a1 : wh > 0
      case neg => exact ite_f (not_bl (decide_eq_false a1)) (ite_f (by decide) ⟨_, rfl, _, _, rfl, rfl, _, rfl, ite_f (not_bl (decide_eq_false (by omega))) (ite_f (by decide) stay)⟩)
      refine ite_t (decide_eq_true a1) ⟨_, rfl, _, rfl, t, _, _, _, rfl, rfl, SqT.of ht8, rfl, rfl, _, rfl, ?_⟩
      have e0 : (!decide (V.int (wr : Int) = V.int (go.1 : Int))) = !decide (wr = go.1) := by rw [eqI]
      rw [e0]
      by_cases a2 : wr = go.1
      · refine ite_f (by rw [decide_eq_true a2]; decide) (ite_f (by decide) ?_)
        refine ⟨_, rfl, _, _, rfl, rfl, _, rfl, ite2 (fun _ => ⟨_, rfl, _, rfl, t, _, _, _, rfl, rfl, SqT.of ht8, rfl, rfl, _, rfl, ?_⟩) (fun _ => ite_f (by decide) stay)⟩
        rw [e0]
        exact ite_f (by rw [decide_eq_true a2]; decide) stay
      refine ite_t (by rw [decide_eq_false a2]; rfl) ⟨_, rfl, _, rfl, D, _, rfl, dget_c hD8, _, rfl, ?_⟩
      rw [getC_isSome]
      by_cases a3 : wr ∈ go.2.map (·.1)
      · obtain ⟨b, eb⟩ : ∃ b, getC go.2 wr = some b := by
          cases z : getC go.2 wr with
          | some b => exact ⟨b, rfl⟩
          | none => exact absurd a3 (getC_none.mp z)
        refine ite_t (decide_eq_true a3) ⟨_, rfl, rfl, _, rfl, ?_⟩
        by_cases a4 : wh = 1
        · refine ite_t (by rw [a4]; exact decide_eq_true rfl) ⟨_, rfl, D, rfl, .inl ⟨_, .inl hD8⟩, _, rfl, dkC go.2, Sum.inl (wr : Int), V.int (b2 b), hD8, rfl, (by rw [dkC_get, eb]; rfl), ?_⟩
          rw [dkC_drop]
          refine ⟨go.2.filter fun c => decide (c.1 ≠ wr), rfl, g8.late g6.d nD, upd_same, ngo.sublist (List.filter_sublist.map _), fun c hc => gow.2.1 c (List.mem_filter.mp hc).1, ?_⟩
          have := List.length_filter_le (fun c : Ct => decide (c.1 ≠ wr)) go.2
          omega
        · refine ite_f (not_bl (decide_eq_false (fun z => a4 (V.int.inj z)))) ?_
          refine ⟨_, rfl, _, rfl, D, _, rfl, (by have := dget_c (n := wr) hD8; rw [eb] at this; exact this), _, _, rfl, rfl, _, rfl, _, rfl, D, _, rfl, DPut.k (k := Sum.inl (wr : Int)) hD8 ?_, ?_⟩
          · rw [dk_len]
            exact Nat.lt_of_le_of_lt (by omega : _ ≤ 1000) (by decide)
          have e1 : putK (dkC go.2) (Sum.inl (wr : Int)) ((fun i j => V.int (i - j)) 1 (b2 b)) = dkC (putC go.2 wr (!b)) := by
            show putK _ _ (V.int (1 - b2 b)) = _
            rw [b2_not, dkC_putC]
          rw [e1]
          refine ⟨putC go.2 wr (!b), rfl, g8.late g6.d nD, upd_same, nodup_putC ngo _ _, fun c hc => ?_, ?_⟩
          · rcases mem_putC.mp hc with h | h
            · rw [h]
              exact ⟨by omega, a2⟩
            · exact gow.2.1 c h.1
          · have := len_putC go.2 wr (!b)
            omega
      refine ite_f (not_bl (decide_eq_false a3)) ⟨_, rfl, _, _, rfl, rfl, _, rfl, ?_⟩
      by_cases a5 : wh > 1
      case neg => exact ite_f (not_bl (decide_eq_false a5)) (ite_f (by decide) stay)
      refine ite_t (decide_eq_true a5) ⟨_, rfl, _, rfl, t, _, _, _, rfl, rfl, SqT.of ht8, rfl, rfl, _, rfl, ?_⟩
      rw [e0]
      refine ite_t (by rw [decide_eq_false a2]; rfl) ?_
      refine ⟨_, rfl, dr, 2, rfl, g8.d, by decide, by decide, fun rb H9 v0 v1 g9' => ?_⟩
      obtain ⟨b, rfl⟩ : ∃ b : Bool, rb = b2 b := by
        rcases (by omega : rb = 0 ∨ rb = 1) with h | h
        · exact ⟨false, h⟩
        · exact ⟨true, h⟩
      have hD9 := g9'.k.kp _ _ (by simp [nDd]) hD8
      refine ⟨_, rfl, _, rfl, D, _, rfl, DPut.k (k := Sum.inl (wr : Int)) hD9 ?_, ?_⟩
      · rw [dk_len]
        exact Nat.lt_of_le_of_lt (by omega : _ ≤ 1000) (by decide)
      rw [dkC_putC]
      refine ⟨putC go.2 wr b, rfl, (g8.trans g9').late g6.d nD, upd_same, nodup_putC ngo _ _, fun c hc => ?_, ?_⟩
      · rcases mem_putC.mp hc with h | h
        · rw [h]
          exact ⟨by omega, a2⟩
        · exact gow.2.1 c h.1
      · have := len_putC go.2 wr b
        omega
    · rintro σ H2 ⟨x4, x5, x6, x7, x8, gvs, gs, rfl, g2, hL, hP, hg, hl⟩
      refine ⟨_, rfl, _, rfl, L, gvs, rfl, .inl ⟨SqL.of hL, fun u nu => ⟨sz2, fun t nt => ?_⟩⟩⟩
      have ku := KT.new [] nu (o := .tup gvs)
      have kt := KT.new [] nt (o := .tup [.int n, .ref u])
      exact q _ _ gs (g2.trans (GS.of g2.d (ku.trans kt))) ⟨u, gvs, upd_same, kt.tp _ _ upd_same, gts_keep (ku.trans kt) hP⟩ hg (by omega)
end

/-! ### the map stays -/
theorem GW.gdd {n : Nat} {g : Gt} (h : GW n g) : Gd g := ⟨h.2.2.1, h.apt⟩
theorem GW.filt {n t : Nat} {cs : List Ct} (h : GW n (t, cs)) (p : Ct → Bool) : GW n (t, cs.filter p) :=
  ⟨h.1, fun c hc => h.2.1 c (List.mem_filter.mp hc).1, h.2.2.1.sublist (List.filter_sublist.map _), Nat.le_trans (List.length_filter_le _ _) h.2.2.2⟩
theorem GW.flip {n t : Nat} {cs : List Ct} (h : GW n (t, cs)) (e : Ct) : GW n (t, flipP e cs) := by
  have fm : (flipP e cs).map (·.1) = cs.map (·.1) := by
    unfold flipP
    rw [List.map_map]
    refine List.map_congr_left fun x _ => ?_
    simp only [Function.comp]
    split <;> rfl
  refine ⟨h.1, fun c hc => ?_, ?_, ?_⟩
  · have hc : c ∈ flipP e cs := hc
    unfold flipP at hc
    obtain ⟨d, hd, rfl⟩ := List.mem_map.mp hc
    have := h.2.1 d hd
    by_cases z : d = e
    · rw [if_pos z]; exact this
    · rw [if_neg z]; exact this
  · show ((flipP e cs).map (·.1)).Pairwise (· < ·)
    rw [fm]
    exact h.2.2.1
  · show (flipP e cs).length ≤ n
    unfold flipP
    rw [List.length_map]
    exact h.2.2.2
theorem GW.merge {n : Nat} {g h k : Gt} (hg : GW n g) (hh : GW n h) (m : mergeP g h = some k) : GW n k := by
  unfold mergeP at m
  by_cases e : g.1 = h.1
  · rw [if_neg (by simpa using e)] at m
    split at m
    · split at m
      · cases m; exact GW.filt hg _
      · cases m
    · cases m; exact GW.flip hg _
    · cases m
      rw [e]
      exact GW.flip hh _
    · cases m
  · rw [if_pos (by simpa using e)] at m
    cases m
theorem GW.pass {n : Nat} {g h : Gt} (hg : GW n g) (hh : GW n h) (ok : passOk g h = true) : GW n (h.1, passC g h) := by
  unfold passOk at ok
  obtain ⟨_, ok⟩ := (Bool.and_eq_true _ _).mp ok
  obtain ⟨o2, _⟩ := (Bool.and_eq_true _ _).mp ok
  have o2 := of_decide_eq_true o2
  refine GW.of_srt hh.1 (passC_nd hg.gdd hh.gdd) fun c hc => ?_
  rcases List.mem_append.mp hc with h1 | h1
  · exact ⟨(hg.2.1 c h1).1, fun z => o2 (List.mem_map.mpr ⟨c, h1, z⟩)⟩
  · exact hh.2.1 c (List.mem_filter.mp h1).1
theorem run2 (g h : Gt) (s : Sb) : run [g, h] s = act h (act g s) := rfl
/-- what two neighbours become -/
theorem two_same {n : Nat} {wd : Str} (hw : wd ∈ four) {g h : Gt} (hg : GW n g) (hh : GW n h) {xs : List Gt} (e : twoL wd [g, h] = some xs) : (∀ x ∈ xs, GW n x) ∧ ∀ s, run xs s = run [g, h] s := by
  have e : twoP wd g h = some xs := e
  unfold twoP at e
  by_cases w1 : wd = "cancel"
  · rw [if_pos w1] at e
    unfold cancelP at e
    split at e
    · rename_i z
      cases e
      refine ⟨fun _ h => (nomatch h), fun s => ?_⟩
      rw [run2, ← z, act_twice hg.apt]
      rfl
    · cases e
  rw [if_neg w1] at e
  by_cases w2 : wd = "exchange"
  · rw [if_pos w2] at e
    unfold exchP at e
    split at e
    · rename_i z
      cases e
      refine ⟨fun x hx => ?_, fun s => ?_⟩
      · rcases List.mem_cons.mp hx with rfl | hx
        · exact hh
        · rw [List.mem_singleton.mp hx]; exact hg
      · rw [run2, run2]
        exact (exchange_same hg.apt hh.apt z s).symm
    · cases e
  rw [if_neg w2] at e
  by_cases w3 : wd = "merge"
  · rw [if_pos w3] at e
    unfold mergedP at e
    cases m : mergeP g h with
    | none => rw [m] at e; cases e
    | some k =>
      rw [m] at e
      cases e
      refine ⟨fun x hx => ?_, fun s => ?_⟩
      · rw [List.mem_singleton.mp hx]
        exact hg.merge hh m
      · rw [run2]
        exact (merge_same hg.gdd hh.gdd m s).symm
  rw [if_neg w3] at e
  unfold passP at e
  split at e
  · rename_i z
    cases e
    refine ⟨fun x hx => ?_, fun s => ?_⟩
    · rcases List.mem_cons.mp hx with rfl | hx
      · exact hh
      rcases List.mem_cons.mp hx with rfl | hx
      · exact hg
      · rw [List.mem_singleton.mp hx]; exact hg.pass hh z
    · rw [run2]
      have no : opp g.2 h.2 = false := by
        unfold passOk at z
        have z := ((Bool.and_eq_true _ _).mp z).2
        have z := ((Bool.and_eq_true _ _).mp z).2
        simpa using z
      exact (pass_same hg.gdd hh.gdd z (passC_mem hg.gdd hh.gdd no) s).symm
  · cases e
theorem piece_at {gs xs ys : List Gt} {i c : Nat} (hy : (gs.drop i).take c = ys) (h : ∀ s, run xs s = run ys s) (m : Nat) : runN (gs.take i ++ xs ++ gs.drop (i + c)) m = runN gs m := by
  rw [piece_same h]
  congr 1
  rw [← hy, List.append_assoc, ← List.drop_drop, List.take_append_drop, List.take_append_drop]
/-- a step keeps the map -/
theorem stepR_same {K : PySem.W.Frag} {H : Hp} {n : Nat} {gs gs' : List Gt} (hg : ∀ g ∈ gs, GW n g) {wd : Str} {i : Nat} {rest : List V} (h : StepR K H n gs wd i rest (some gs')) : (∀ g ∈ gs', GW n g) ∧ gs'.length ≤ gs.length + 10 ∧ ∀ m, runN gs' m = runN gs m := by
  have mem : ∀ {xs : List Gt} {c : Nat}, (∀ x ∈ xs, GW n x) → ∀ x ∈ gs.take i ++ xs ++ gs.drop (i + c), GW n x := fun hx x h => by
    rcases List.mem_append.mp h with h | h
    · rcases List.mem_append.mp h with h | h
      · exact hg x (List.mem_of_mem_take h)
      · exact hx x h
    · exact hg x (List.mem_of_mem_drop h)
  have len : ∀ {xs : List Gt} {c : Nat}, xs.length ≤ 10 → (gs.take i ++ xs ++ gs.drop (i + c)).length ≤ gs.length + 10 := fun hx => by
    rw [List.length_append, List.length_append, List.length_take, List.length_drop]
    omega
  generalize e : (some gs' : Option (List Gt)) = r at h
  cases h with
  | two hw =>
    cases t : twoL wd ((gs.drop i).take 2) with
    | none => rw [t] at e; cases e
    | some xs =>
      rw [t] at e
      cases e
      obtain ⟨g, h, eg⟩ : ∃ g h, (gs.drop i).take 2 = [g, h] := by
        match z : (gs.drop i).take 2, t with
        | [g, h], _ => exact ⟨g, h, rfl⟩
      have hgm : ∀ x ∈ [g, h], GW n x := fun x hx => hg x (List.mem_of_mem_drop (List.mem_of_mem_take (by rw [eg]; exact hx)))
      have lx := twoL_len t
      rw [eg] at t
      obtain ⟨s1, s2⟩ := two_same hw (hgm g (by simp)) (hgm h (by simp)) t
      exact ⟨mem s1, len lx, piece_at eg s2⟩
  | @pairG _ _ g hx hgw =>
    split at e
    · cases e
      refine ⟨mem fun x hx => ?_, len (Nat.le_of_ble_eq_true rfl), piece_at (c := 0) (ys := []) (by simp) fun s => ?_⟩
      · rcases List.mem_cons.mp hx with rfl | hx
        · exact hgw
        · rw [List.mem_singleton.mp hx]; exact hgw
      · rw [run2, act_twice hgw.apt]
        rfl
    · cases e
  | pairB _ _ => cases e
  | @split _ _ d hx =>
    split at e
    · cases e
    rename_i g eg0
    have gw := hg g (List.mem_of_getElem? eg0)
    cases t : splitP n g d with
    | none => rw [t] at e; cases e
    | some xs =>
      rw [t] at e
      cases e
      unfold splitP at t
      split at t
      · rename_i z
        cases t
        obtain ⟨z1, z2⟩ := z
        generalize em : (asI d).toNat = m at z2 ⊢
        have hm : m < n := by
          cases d <;> first | cases z1 | skip
          rename_i j
          rw [isIr_int] at z1
          obtain ⟨a, b⟩ := (Bool.and_eq_true _ _).mp z1
          have a := of_decide_eq_true a
          have b := of_decide_eq_true b
          have em : j.toNat = m := em
          omega
        have hm2 : m ≠ g.1 := fun y => z2 (by rw [y]; exact List.mem_cons_self ..)
        have hm3 : m ∉ g.2.map (·.1) := fun y => z2 (List.mem_cons_of_mem _ y)
        have nd : ∀ b : Bool, ((g.2 ++ [(m, b)] : List Ct).map (·.1)).Nodup := fun b => by
          rw [List.map_append]
          refine List.nodup_append.mpr ⟨asc_nodup gw.2.2.1, by simp, fun a ha y hy w => hm3 (by
            have hy : y = m := List.mem_singleton.mp hy
            rw [← hy, ← w]
            exact ha)⟩
        have good : ∀ b : Bool, GW n (g.1, srtC (g.2 ++ [(m, b)])) := fun b => GW.of_srt gw.1 (nd b) fun c hc => by
          rcases List.mem_append.mp hc with h | h
          · exact gw.2.1 c h
          · rw [List.mem_singleton.mp h]
            exact ⟨hm, hm2⟩
        refine ⟨mem fun x hx => ?_, len (Nat.le_of_ble_eq_true rfl), piece_at (c := 1) (ys := [g]) ?_ fun s => ?_⟩
        · rcases List.mem_cons.mp hx with rfl | hx
          · exact good _
          · rw [List.mem_singleton.mp hx]; exact good _
        · obtain ⟨hi, e⟩ := List.getElem?_eq_some_iff.mp eg0
          rw [List.drop_eq_getElem_cons hi, e]
          rfl
        · rw [run2]
          exact split_same (srtC_perm _).symm (srtC_perm _).symm (apt_not gw.apt) hm2 s
      · cases t
  | long _ => cases e
  | turn => cases e
theorem stepV_same {K : PySem.W.Frag} {H : Hp} {n : Nat} {gs gs' : List Gt} (hg : ∀ g ∈ gs, GW n g) {v : V} (h : StepV K H n gs v (some gs')) : (∀ g ∈ gs', GW n g) ∧ gs'.length ≤ gs.length + 10 ∧ ∀ m, runN gs' m = runN gs m := by
  generalize e : (some gs' : Option (List Gt)) = r at h
  cases h with
  | full a hR => subst e; exact stepR_same hg hR
  | none_ => cases e
  | word _ => cases e
  | below _ _ => cases e
  | true_ _ _ => cases e

theorem big_int {n : Nat} (h : n ≤ 1000000) : n < sizeLine := Nat.lt_of_le_of_lt h (by decide)
def staleB (b : Bool) (gs : List Gt) (fl pa : List Int) (i j : Nat) (k : Option Gt) (a : Nat) : Bool :=
  if fl.getD a 0 = i ∨ fl.getD a 0 = j then true else if pa.getD a 0 = i ∨ pa.getD a 0 = j then true else match k with
    | none => false
    | some g => if fl.getD a 0 > i then false else if a = i then true else fitW b g (atG gs a)
theorem inTwo (x i j : Int) : (if false = true then !inV (V.int x) [.int i, .int j] else inV (V.int x) [.int i, .int j]) = decide (x = i ∨ x = j) := by
  rw [if_neg (by decide)]
  have := inV_int x [i, j]
  rw [show [V.int i, V.int j] = [i, j].map V.int from rfl, this]
  simp
def spStale (C : Addr) : Sp := fun vs H Q _ => ∃ (H0 : Hp) (p : Addr) (n : Nat) (b : Bool) (gs : List Gt) (fl pa : List Int) (st : List (Nat × Nat)) (a i j : Nat) (v : V) (k : Option Gt), vs = [.ref p, .int a, .int i, .int j, v] ∧ SeE C H0 H p n (wdOf (tagG b)) gs fl pa st ∧ fl.length = gs.length ∧ pa.length = gs.length ∧ (∀ g ∈ gs, GdN g) ∧ a < gs.length ∧ OpG1 H v k ∧ (∀ g, k = some g → GdN g) ∧
  ∀ H', KT [] H H' → Q (.bl (staleB b gs fl pa i j k a)) H'
theorem atF {fl : List Int} {a : Nat} (h : a < fl.length) : atI (fl.map V.int) (a : Int) = some (.int (fl.getD a 0)) := atI_nat (by
  rw [List.getElem?_map, List.getD_eq_getElem?_getD, List.getElem?_eq_getElem h]
  rfl)
section
variable {P : Program} {w : World} {K : PySem.W.Frag} {mg : Str → Option Value} {base : Heap} {C : Addr}
set_option maxHeartbeats 1000000 in
theorem ok_stale (T : Txt K mg) (TC : TxC K C) (TM : TxM K mg C) : FnOk P w K mg base CX0 4 TM.f_Search_is_stale TM.d_Search_is_stale ["self", "at", "early", "late", "joined"] (spStale C) := by
  have G_Search_fits := ok_fits (P := P) (w := w) (base := base) T TC TM
  refine TM.F_Search_is_stale.ok sc_Search_is_stale (fun vs H Q E h => ?_) (fun cdv A outer s H vs Q E hr h => ?_)
  · obtain ⟨H0, p, n, b, gs, fl, pa, st, a, i, j, v, k, rfl, _⟩ := h
    rfl
  · obtain ⟨H0, p, n, b, gs, fl, pa, st, a, i, j, v, k, rfl, ⟨ga, fa, qa, sa, hS⟩, lf, lp, hgd, ha, hv, hk, q⟩ := h
    refine ⟨_, (pss_cons (ps_if (PW.pt (pw_or (pt_cmpR op_in_seq (pe_ix ix_list (pe_fld (pv 0) rfl) (pv 1) (fun _ _ => rfl)) (pe_tup (pa_cons (pv 2) (pa_cons (pv 3) pa_nil))) (by rfl)) (pw_or1 (pt_cmpR op_in_seq (pe_ix ix_list (pe_fld (pv 0) rfl) (pv 1) (fun _ _ => rfl)) (pe_tup (pa_cons (pv 2) (pa_cons (pv 3) pa_nil))) (by rfl)))))
        (pss_one (ps_ret pe_bl))
        pss_nil)
      (pss_cons (ps_if (PW.pt (pw_or (pt_cmpR op_isN (pv 4) pe_non (nomark _)) (pw_or1 (pt_cmpR op_gt (pe_ix ix_list (pe_fld (pv 0) rfl) (pv 1) (fun _ _ => rfl)) (pv 2) (nomark _)))))
        (pss_one (ps_ret pe_bl))
        pss_nil)
      (pss_one (ps_ret (pe_or (pe_cmpR op_eq (pv 1) (pv 2) (nomark _)) (pe_one (pe_meth (pv 0) TC.cl TM.m_Search_fits G_Search_fits (hr.mono (by omega)) TM.b_Search_fits .nil pass0 (pa_cons (pv 4) (pa_cons (pe_ix ix_list (pe_fld (pv 0) rfl) (pv 1) (fun _ _ => rfl)) pa_nil))))))))), ?_⟩
    have val : ∀ c, staleB b gs fl pa i j k a = c → ∀ H', KT [] H H' → Q (.bl c) H' := by
      rintro _ rfl
      exact q
    unfold staleB at val
    obtain ⟨dx, hp⟩ := id hS.ho
    refine ⟨_, rfl, p, C, dx, _, _, rfl, hp, TC.cl, TC.nF, fl_f .., _, rfl, fa, _, _, _, rfl, rfl, SqL.of hS.hf, atF (by omega), _, rfl, _, rfl, sz2, fun t nt => ?_⟩
    have kt := KT.new [] nt (o := .tup [.int (i : Nat), .int (j : Nat)])
    have ht : (upd H t (.tup [.int (i : Nat), .int (j : Nat)])) t = some (.tup [.int (i : Nat), .int (j : Nat)]) := upd_same
    generalize upd H t (.tup [.int (i : Nat), .int (j : Nat)]) = H1 at kt ht ⊢
    refine ⟨t, _, rfl, .inr (SqT.of ht), rfl, rfl, _, rfl, ?_⟩
    rw [inTwo]
    by_cases c1 : fl.getD a 0 = i ∨ fl.getD a 0 = j
    · exact ite_t (decide_eq_true c1) (ite_t rfl (val _ (by rw [if_pos c1]) _ kt))
    rw [if_neg c1] at val
    refine ite_f (not_bl (decide_eq_false c1)) ?_
    have hS1 := hS.keep kt
    obtain ⟨dx1, hp1⟩ := id hS1.ho
    refine ⟨_, rfl, p, C, dx1, _, _, rfl, hp1, TC.cl, TC.nP, fl_p .., _, rfl, qa, _, _, _, rfl, rfl, SqL.of hS1.hp, atF (by omega), _, rfl, _, rfl, sz2, fun t2 nt2 => ?_⟩
    have kt2 := kt.trans (KT.new [] nt2 (o := .tup [.int (i : Nat), .int (j : Nat)]))
    have ht2 : (upd H1 t2 (.tup [.int (i : Nat), .int (j : Nat)])) t2 = some (.tup [.int (i : Nat), .int (j : Nat)]) := upd_same
    generalize upd H1 t2 (.tup [.int (i : Nat), .int (j : Nat)]) = H2 at kt2 ht2 ⊢
    refine ⟨t2, _, rfl, .inr (SqT.of ht2), rfl, rfl, _, rfl, ?_⟩
    rw [inTwo]
    by_cases c2 : pa.getD a 0 = i ∨ pa.getD a 0 = j
    · exact ite_t (decide_eq_true c2) (val _ (by rw [if_pos c2]) _ kt2)
    rw [if_neg c2] at val
    refine ite_f (not_bl (decide_eq_false c2)) ?_
    have hS2 := hS.keep kt2
    obtain ⟨dx2, hp2⟩ := id hS2.ho
    cases k with
    | none =>
      cases (show v = .non from hv)
      exact ⟨_, rfl, rfl, _, rfl, ite_t rfl (ite_t rfl (val false rfl _ kt2))⟩
    | some g =>
      have hv : GtV H v g := hv
      obtain ⟨tv, _, rfl, _⟩ := hv.ctl
      refine ⟨_, rfl, rfl, _, rfl, ite_f (not_bl (decide_eq_false fun z => nomatch z)) ?_⟩
      refine ⟨_, rfl, p, C, dx2, _, _, rfl, hp2, TC.cl, TC.nF, fl_f .., _, rfl, fa, _, _, _, rfl, rfl, SqL.of hS2.hf, atF (by omega), _, rfl, _, _, rfl, rfl, _, rfl, ?_⟩
      by_cases c3 : fl.getD a 0 > i
      · exact ite_t (decide_eq_true c3) (val _ (if_pos c3) _ kt2)
      have val : ∀ c, (if a = i then true else fitW b g (atG gs a)) = c → ∀ H', KT [] H H' → Q (.bl c) H' := fun c e => val c (by
        show (if fl.getD a 0 > i then false else if a = i then true else fitW b g (atG gs a)) = c
        rw [if_neg c3]
        exact e)
      refine ite_f (not_bl (decide_eq_false c3)) ?_
      refine ⟨_, rfl, _, rfl, rfl, ?_⟩
      by_cases c4 : a = i
      · refine ⟨_, rfl, ite_t ?_ (val _ (if_pos c4) _ kt2)⟩
        exact decide_eq_true (by rw [c4])
      rw [if_neg c4] at val
      refine ⟨_, rfl, ite_f (not_bl (decide_eq_false fun z => c4 (by have := V.int.inj z; omega))) ?_⟩
      obtain ⟨gvs, hga, hP⟩ := id hS2.hg
      obtain ⟨x, hx, hgx⟩ := gatE hP ha
      refine ⟨_, rfl, p, _, _, rfl, hp2, fm_fits .., _, rfl, _, rfl, p, C, dx2, _, _, rfl, hp2, TC.cl, TC.nG, fl_g .., _, rfl, ga, _, _, _, rfl, rfl, SqL.of hga, atI_nat hx, ?_⟩
      exact ⟨H0, p, n, b, gs, fl, pa, st, _, x, g, atG gs a, rfl, ⟨ga, fa, qa, sa, hS2⟩, hv.keep kt2, hgx, hk g rfl, gdAt hgd ha, fun H3 k3 => val _ rfl _ (kt2.trans k3)⟩
end

end My

set_option Elab.async false
set_option linter.all false
set_option maxRecDepth 100000
namespace My
open PySem PySem.Spec PyProof.Rows L2
def nearL (fl : List Int) (i j m : Nat) : List Nat := ((List.range m).map fun r => i + r).filter fun a => decide (fl.getD a 0 ≤ (j : Int)) && decide (a ≠ j)
theorem nearL_succ (fl : List Int) (i j m : Nat) : nearL fl i j (m + 1) = nearL fl i j m ++ if fl.getD (i + m) 0 ≤ (j : Int) ∧ i + m ≠ j then [i + m] else [] := by
  unfold nearL
  rw [List.range_succ, List.map_append, List.filter_append]
  congr 1
  by_cases e : fl.getD (i + m) 0 ≤ (j : Int) ∧ i + m ≠ j
  · rw [if_pos e]
    show List.filter _ [i + m] = _
    rw [List.filter_cons, if_pos (by rw [decide_eq_true e.1, decide_eq_true e.2]; rfl)]
    rfl
  · rw [if_neg e]
    show List.filter _ [i + m] = _
    rw [List.filter_cons, if_neg (fun z => e (by
      obtain ⟨a, b⟩ := (Bool.and_eq_true _ _).mp z
      exact ⟨of_decide_eq_true a, of_decide_eq_true b⟩))]
    rfl
theorem mem_near {fl : List Int} {i j m a : Nat} : a ∈ nearL fl i j m ↔ (i ≤ a ∧ a < i + m) ∧ fl.getD a 0 ≤ (j : Int) ∧ a ≠ j := by
  unfold nearL
  rw [List.mem_filter, Bool.and_eq_true, decide_eq_true_iff, decide_eq_true_iff, List.mem_map]
  constructor
  · rintro ⟨⟨r, hr, rfl⟩, h⟩
    have := List.mem_range.mp hr
    exact ⟨by omega, h⟩
  · rintro ⟨h1, h2⟩
    exact ⟨⟨a - i, List.mem_range.mpr (by omega), by omega⟩, h2⟩
theorem near_len (fl : List Int) (i j m : Nat) : (nearL fl i j m).length ≤ m := by
  unfold nearL
  refine Nat.le_trans (List.length_filter_le _ _) ?_
  rw [List.length_map, List.length_range]
  exact Nat.le_refl _
def muN (d a : Nat) : Nat := if a > d then a - 1 else a
theorem mu_nat (d : Nat) (S : List Nat) : (S.map fun (n : Nat) => (n : Int)).map (mu d) = (S.map (muN d)).map fun (n : Nat) => (n : Int) := by
  rw [List.map_map, List.map_map]
  refine List.map_congr_left fun a _ => ?_
  show mu d (a : Int) = ((muN d a : Nat) : Int)
  unfold mu muN
  by_cases e : a > d
  · rw [if_pos e, if_pos (by omega)]
    omega
  · rw [if_neg e, if_neg (by omega)]
theorem sg_mu {d x : Nat} : muN d (sg d x) = x := by
  unfold muN sg
  split <;> split <;> omega
theorem muN_lt {d a n : Nat} (ha : a < n) (h : a ≠ d) (hd : d < n) : muN d a < n - 1 := by
  unfold muN
  split <;> omega
def exT (j t : Nat) : List (Nat × Nat) := (List.range t).map fun r => (0, j - 1 - r)
theorem exT_succ (j t : Nat) : exT j (t + 1) = exT j t ++ [(0, j - 1 - t)] := by
  unfold exT
  rw [List.range_succ, List.map_append]
  rfl
theorem exs_map (a m : Nat) : exs a m = (List.range m).map fun r => (0, a + m - 1 - r) := by
  induction m with
  | zero => rfl
  | succ m ih =>
    rw [List.range_succ_eq_map, List.map_cons, List.map_map]
    show (0, a + m) :: exs a m = _
    rw [ih]
    refine List.cons_eq_cons.mpr ⟨Prod.ext rfl (by show a + m = a + (m + 1) - 1 - 0; omega), List.map_congr_left fun r _ => Prod.ext rfl ?_⟩
    show a + m - 1 - r = a + (m + 1) - 1 - (r + 1)
    omega
theorem exT_all {i j : Nat} (h : i < j) : exT j (j - (i + 1)) = exs (i + 1) (j - (i + 1)) := by
  rw [exs_map]
  unfold exT
  rw [show i + 1 + (j - (i + 1)) = j by omega]
theorem exT_len (j t : Nat) : (exT j t).length = t := by
  unfold exT
  rw [List.length_map, List.length_range]
section
variable {C : Addr} {H0 H1 H H' : Hp} {p ga fa qa sa : Addr} {n : Nat} {wd : Str} {gs : List Gt} {fl pa : List Int} {st : List (Nat × Nat)}
theorem SeV.addS (h : SeV C H0 H p ga fa qa sa n wd gs fl pa st) {t : Addr} (nt : H t = none) (s : Nat × Nat) : ∃ svs, (upd H t (.tup [.str (wdOf s.1), .int s.2])) sa = some (.lst svs) ∧ svs.length = st.length ∧ SeV C H0 (upd (upd H t (.tup [.str (wdOf s.1), .int s.2])) sa (.lst (svs ++ [.ref t]))) p ga fa qa sa n wd gs fl pa (st ++ [s]) := by
  have h1 := h.keep (KT.new [] nt (o := .tup [.str (wdOf s.1), .int s.2]))
  obtain ⟨svs, e, g⟩ := h1.hs
  exact ⟨svs, e, g.len, h1.setS (g.snoc ⟨t, rfl, upd_same⟩)⟩
theorem SeV.re (k : KT [] H1 H0) (h : SeV C H0 H p ga fa qa sa n wd gs fl pa st) : SeV C H1 H p ga fa qa sa n wd gs fl pa st :=
  ⟨k.trans h.k, fun x hx => k.free (h.fr x hx), h.ho, h.hg, h.hf, h.hp, h.hs, h.nd⟩
theorem SeE.re (k : KT [] H1 H0) (h : SeE C H0 H p n wd gs fl pa st) : SeE C H1 H p n wd gs fl pa st := let ⟨ga, fa, qa, sa, h⟩ := h; ⟨ga, fa, qa, sa, h.re k⟩
theorem SeV.notup (h : SeV C H0 H p ga fa qa sa n wd gs fl pa st) {x : Addr} (hx : x ∈ [p, ga, fa, qa, sa]) : (∀ xs, H x ≠ some (.tup xs)) ∧ ∀ o u, H x ≠ some (.frz o u) := by
  obtain ⟨dx, e⟩ := h.ho
  obtain ⟨gvs, e1, _⟩ := h.hg
  obtain ⟨svs, e2, _⟩ := h.hs
  have e3 := h.hf
  have e4 := h.hp
  simp only [List.mem_cons, List.not_mem_nil, or_false] at hx
  rcases hx with rfl | rfl | rfl | rfl | rfl
  · exact ⟨(fun _ z => by rw [e] at z; cases z), (fun _ _ z => by rw [e] at z; cases z)⟩
  · exact ⟨(fun _ z => by rw [e1] at z; cases z), (fun _ _ z => by rw [e1] at z; cases z)⟩
  · exact ⟨(fun _ z => by rw [e3] at z; cases z), (fun _ _ z => by rw [e3] at z; cases z)⟩
  · exact ⟨(fun _ z => by rw [e4] at z; cases z), (fun _ _ z => by rw [e4] at z; cases z)⟩
  · exact ⟨(fun _ z => by rw [e2] at z; cases z), (fun _ _ z => by rw [e2] at z; cases z)⟩
theorem GtV.hide {S : List Addr} {v : V} {g : Gt} (hS : ∀ x ∈ S, (∀ xs, H x ≠ some (.tup xs)) ∧ ∀ o u, H x ≠ some (.frz o u)) (h : GtV H v g) : GtV (hide S H) v g := by
  obtain ⟨t, u, vs, rfl, h1, ⟨o, ho, h2⟩, h3⟩ := h
  have tp : ∀ {x : Addr} {xs : List V}, H x = some (.tup xs) → My.hide S H x = some (.tup xs) := fun e => by
    rw [hide_out fun z => (hS _ z).1 _ e]
    exact e
  refine ⟨t, u, vs, rfl, tp h1, ⟨o, ho, ?_⟩, h3.mono fun _ _ ⟨t, e, h⟩ => ⟨t, e, tp h⟩⟩
  rw [hide_out fun z => (hS _ z).2 _ _ h2]
  exact h2
end
theorem join_gw {n : Nat} {b : Bool} {gs : List Gt} {i j : Nat} (h : ∀ g ∈ gs, GW n g) (ij : i < j) (hj : j < gs.length) : ∀ g ∈ joinG b gs i j, GW n g := by
  have at_ : ∀ {k : Nat}, k < gs.length → GW n (atG gs k) := fun hk => by
    rw [← getE hk]
    exact h _ (List.getElem_mem hk)
  intro g hg
  unfold joinG at hg
  rcases List.mem_append.mp hg with hg | hg
  · rcases List.mem_append.mp hg with hg | hg
    · exact h _ (List.mem_of_mem_take hg)
    · unfold newG at hg
      split at hg
      · exact nomatch hg
      · cases e : mergeP (atG gs i) (atG gs j) with
        | none => rw [e] at hg; exact nomatch hg
        | some k =>
          rw [e] at hg
          obtain rfl := List.mem_singleton.mp (show g ∈ [k] from hg)
          exact GW.merge (at_ (by omega)) (at_ hj) e
  · rcases List.mem_append.mp hg with hg | hg
    · obtain ⟨k, h1, h2, rfl⟩ := mid_mem ij hj hg
      exact at_ (by omega)
    · exact h _ (List.mem_of_mem_drop hg)
/-- what remains to be looked at -/
theorem stale_mem {b : Bool} {gs : List Gt} {fl pa : List Int} {i j : Nat} {k : Option Gt} {a : Nat} (ha : a < gs.length) (hij : i ≤ gs.length) : Stale b gs fl pa i j k a → a ∈ (nearL fl i j (gs.length - i)).filter (staleB b gs fl pa i j k) := by
  rintro ⟨⟨h1, h2, h3⟩, h4⟩
  refine List.mem_filter.mpr ⟨mem_near.mpr ⟨⟨h1, by omega⟩, h2, h3⟩, ?_⟩
  unfold staleB
  by_cases c1 : fl.getD a 0 = i ∨ fl.getD a 0 = j
  · rw [if_pos c1]
  rw [if_neg c1]
  by_cases c2 : pa.getD a 0 = i ∨ pa.getD a 0 = j
  · rw [if_pos c2]
  rw [if_neg c2]
  rcases h4 with h4 | ⟨g, rfl, h5, h6⟩
  · exfalso
    rcases h4 with h | h | h | h
    · exact c1 (.inl h)
    · exact c1 (.inr h)
    · exact c2 (.inl h)
    · exact c2 (.inr h)
  · show (if fl.getD a 0 > (i : Int) then false else if a = i then true else fitW b g (atG gs a)) = true
    rw [if_neg (by omega)]
    by_cases c3 : a = i
    · rw [if_pos c3]
    · rw [if_neg c3]
      exact h6.resolve_left c3
theorem Tab.settle {b : Bool} {gs : List Gt} {fl pa : List Int} {S S' : Nat → Prop} (T : Tab b gs fl pa S) (h : ∀ a, a < gs.length → S a → S' a) : Tab b gs fl pa S' :=
  ⟨T.lf, T.lp, fun a ha hs => T.lk a ha fun z => hs (h a ha z)⟩
def spUnite (C : Addr) : Sp := fun vs H Q _ => ∃ (H0 : Hp) (p : Addr) (n : Nat) (b : Bool) (gs : List Gt) (fl pa : List Int) (st : List (Nat × Nat)) (i j : Nat), vs = [.ref p, .int i, .int j] ∧ SeE C H0 H p n (wdOf (tagG b)) gs fl pa st ∧ Tab b gs fl pa (fun _ => False) ∧ (∀ g ∈ gs, GW n g) ∧ n ≤ 900 ∧ gs.length ≤ 900 ∧ st.length ≤ 900000 ∧ OkP b gs i j ∧
  ∀ H' fl' pa', SeE C H0 H' p n (wdOf (tagG b)) (joinG b gs i j) fl' pa' (st ++ stepsG b i j) → Tab b (joinG b gs i j) fl' pa' (fun _ => False) → Q .non H'
theorem P2.put {α : Type} {R : V → α → Prop} {v : V} {d : α} (hv : R v d) : ∀ {vs : List V} {ds : List α} (i : Nat), P2 R vs ds → P2 R (vs.set i v) (ds.set i d)
  | _, _, _, .nil => .nil
  | _, _, 0, .cons _ g => .cons hv g
  | _, _, i + 1, .cons h g => .cons h (g.put hv i)
theorem mem_ivs {S : List Nat} {i : Nat} {x : V} (h : (ivs S)[i]? = some x) : ∃ a, a ∈ S ∧ x = .int (a : Int) := by
  obtain ⟨a, h1, h2⟩ := ivs_get h
  exact ⟨a, List.mem_of_getElem? h1, h2⟩
section
variable {P : Program} {w : World} {K : PySem.W.Frag} {mg : Str → Option Value} {base : Heap} {C : Addr}
set_option maxHeartbeats 4000000 in
theorem ok_unite (T : Txt K mg) (TC : TxC K C) (TM : TxM K mg C) : FnOk P w K mg base CX0 5 TM.f_Search_unite TM.d_Search_unite ["self", "early", "late"] (spUnite C) := by
  have G_merged_gate := ok_merged_gate (P := P) (w := w) (base := base) T
  have G_moved_up := ok_moved (P := P) (w := w) (base := base) T
  have G_Search_is_stale := ok_stale (P := P) (w := w) (base := base) T TC TM
  have G_Search_take_out := ok_take_out (P := P) (w := w) (base := base) T TC TM
  have G_Search_look_from := ok_look (P := P) (w := w) (base := base) T TC TM
  refine TM.F_Search_unite.ok sc_Search_unite (fun vs H Q E h => ?_) (fun cdv A outer s H vs Q E hr h => ?_)
  · obtain ⟨H0, p, n, b, gs, fl, pa, st, i, j, rfl, _⟩ := h
    rfl
  · obtain ⟨H0, p, n, b, gs, fl, pa, st, i, j, rfl, ⟨ga, fa, qa, sa, hS⟩, tb, hgw, hn, hl, hst, ok, q⟩ := h
    refine ⟨_, (pss_cons (ps_for PassesOwn.never rfl (pi_range3 (by rfl) T.m_range (pa_cons (pe_op op_sub (pv 2) pe_int) (pa_cons (pv 1) (pa_cons (pe_un un_neg pe_int) pa_nil)))) (pg_name (i := 3) sc_Search_unite.nd rfl (Or.inl rfl))
        (pss_one (ps_expr (pe_bm PySem.F.plainAttrs_list PySem.F.slot_list_append PySem.F.type_list_append mt_append (pe_fld (pv 0) rfl) (pa_cons (pe_tup (pa_cons pe_str (pa_cons (pv 3) pa_nil))) pa_nil)))))
      (pss_cons (ps_expr (pe_bm PySem.F.plainAttrs_list PySem.F.slot_list_append PySem.F.type_list_append mt_append (pe_fld (pv 0) rfl) (pa_cons (pe_tup (pa_cons (pe_fld (pv 0) rfl) (pa_cons (pv 1) pa_nil))) pa_nil)))
      (pss_cons (ps_set (i := 4) sc_Search_unite.nd rfl (Or.inr rfl) (pe_call G_merged_gate (hr.mono (by omega)) (by rfl) T.g_merged_gate T.F_merged_gate.kp T.b_merged_gate .nil pass0 (pa_cons (pe_ix ix_list (pe_fld (pv 0) rfl) (pv 1) (fun _ _ => rfl)) (pa_cons (pe_ix ix_list (pe_fld (pv 0) rfl) (pv 2) (fun _ _ => rfl)) pa_nil))))
      (pss_cons (ps_setLc (i := 5) (own := [("at", 3)]) (g := gName 3) rfl sc_Search_unite.nd rfl rfl (sw_true rfl rfl rfl (by decide +kernel)) (pi_range2 (by rfl) T.m_range (pa_cons (pv 1) (pa_cons (pe_callB call_len_seq (by rfl) T.m_len (by decide +kernel) (pa_cons (pe_fld (pv 0) rfl) pa_nil)) pa_nil))) (blkOk_by (own := [("at", 3)]) (N := N_Search_unite) (sc := defScope s_Search_unite) (by decide +kernel)) (fun _ _ _ _ _ => (pg_name (i := 3) sc_Search_unite.nd rfl (Or.inl rfl))) (fun _ _ _ _ _ => (pts_one (PW.pt (pw_and (pt_cmpR op_le (pe_ix (ixL (K := K) rfl) (pe_fldK (K := K) rfl (pv 0) rfl) (pv 3) (fun _ _ => rfl)) (pv 2) (nomark _)) (pw_and1 (pt_cmpR op_ne (pv 3) (pv 2) (nomark _))))))) (fun _ _ _ _ _ => (pv 3)))
      (pss_cons (ps_setLc (i := 6) (own := [("at", 3)]) (g := gName 3) rfl sc_Search_unite.nd rfl rfl (sw_true rfl rfl rfl (by decide +kernel)) (pi_list (pv 5)) (blkOk_by (own := [("at", 3)]) (N := N_Search_unite) (sc := defScope s_Search_unite) (by decide +kernel)) (fun _ _ _ _ _ => (pg_name (i := 3) sc_Search_unite.nd rfl (Or.inl rfl))) (fun _ _ _ _ _ => (pts_one (pt_truthE (K := K) rfl (pe_meth (pv 0) TC.cl TM.m_Search_is_stale G_Search_is_stale (hr.mono (by omega)) TM.b_Search_is_stale .nil pass0 (pa_cons (pv 3) (pa_cons (pv 1) (pa_cons (pv 2) (pa_cons (pv 4) pa_nil))))) (by intro _; rfl)))) (fun _ _ _ _ _ => (pv 3)))
      (pss_cons (ps_expr (pe_meth (pv 0) TC.cl TM.m_Search_take_out G_Search_take_out (hr.mono (by omega)) TM.b_Search_take_out .nil pass0 (pa_cons (pv 2) pa_nil)))
      (pss_cons (ps_set (i := 6) sc_Search_unite.nd rfl (Or.inl rfl) (pe_call G_moved_up (hr.mono (by omega)) (by rfl) T.g_moved_up T.F_moved_up.kp T.b_moved_up .nil pass0 (pa_cons (pv 6) (pa_cons (pv 2) pa_nil))))
      (pss_cons (ps_cut (ps_if (pt_cmpR op_isN (pv 4) pe_non (nomark _))
        (pss_cons (ps_expr (pe_meth (pv 0) TC.cl TM.m_Search_take_out G_Search_take_out (hr.mono (by omega)) TM.b_Search_take_out .nil pass0 (pa_cons (pv 1) pa_nil)))
        (pss_one (ps_set (i := 6) sc_Search_unite.nd rfl (Or.inl rfl) (pe_call G_moved_up (hr.mono (by omega)) (by rfl) T.g_moved_up T.F_moved_up.kp T.b_moved_up .nil pass0 (pa_cons (pv 6) (pa_cons (pv 1) pa_nil))))))
        (pss_one (ps_asg (pv 4) (pg_sub (pe_fld (pv 0) rfl) (pv 1) set_list)))))
      (pss_one (ps_for PassesOwn.never rfl (pi_list (pv 6)) (pg_name (i := 3) sc_Search_unite.nd rfl (Or.inl rfl))
        (pss_one (ps_expr (pe_meth (pv 0) TC.cl TM.m_Search_look_from G_Search_look_from (hr.mono (by omega)) TM.b_Search_look_from .nil pass0 (pa_cons (pv 3) pa_nil)))))))))))))), ?_⟩
    obtain ⟨ij, hj, hfit, hfree⟩ := id ok
    have lf := tb.lf
    have lp := tb.lp
    have gd : ∀ g ∈ gs, GdN g := fun g hg => (hgw g hg).gd (by omega)
    -- the exchanges
    refine ⟨_, rfl, _, _, rfl, rfl, _, rfl, _, rfl, (j : Int) - 1, i, -1, _, rfl, RgC.neg (by omega) (by omega) (by omega) (by omega), ?_⟩
    rw [show ((j : Int) - 1 - (i : Nat)).toNat = j - (i + 1) by omega]
    refine for_rangeC (fun t σ H' => ∃ x3, σ = [some (.ref p), some (.int (i : Nat)), some (.int (j : Nat)), x3, none, none, none] ∧ SeV C H0 H' p ga fa qa sa n (wdOf (tagG b)) gs fl pa (st ++ exT j t)) ⟨none, rfl, by rw [show exT j 0 = [] from rfl, List.append_nil]; exact hS⟩ ?_ ?_
    · rintro t σ H1 ht ⟨x3, rfl, h1⟩
      rw [show (j : Int) - 1 + (t : Nat) * (-1) = ((j - 1 - t : Nat) : Int) by omega]
      obtain ⟨dx1, hp1⟩ := id h1.ho
      obtain ⟨svs0, hsa0, hPs0⟩ := id h1.hs
      refine ⟨_, rfl, p, C, dx1, _, _, rfl, hp1, TC.cl, TC.nS, fl_s .., .inl ⟨rfl, _, SqL.of hsa0⟩, _, rfl, sz2, fun u nu => ?_⟩
      obtain ⟨svs, hsa, lsv, h2⟩ := h1.addS nu (0, j - 1 - t)
      refine ⟨sa, svs, _, rfl, rfl, hsa, big_int ?_, _, rfl, ?_⟩
      · rw [lsv, List.length_append, exT_len]
        omega
      · rw [exT_succ, ← List.append_assoc]
        exact h2
    rintro σ H1 ⟨x3, rfl, h1⟩
    rw [exT_all ij] at h1
    -- the step with the two
    obtain ⟨dx1, hp1⟩ := id h1.ho
    obtain ⟨svs0, hsa0, hPs0⟩ := id h1.hs
    refine ⟨_, rfl, p, C, dx1, _, _, rfl, hp1, TC.cl, TC.nS, fl_s .., .inl ⟨rfl, _, SqL.of hsa0⟩, _, rfl, p, C, dx1, _, _, rfl, hp1, TC.cl, TC.nO, fl_o .., _, rfl, sz2, fun u nu => ?_⟩
    obtain ⟨svs, hsa, lsv, h2⟩ := h1.addS nu (tagG b, i)
    refine ⟨sa, svs, _, rfl, rfl, hsa, big_int ?_, ?_⟩
    · rw [lsv, List.length_append, ← exT_all ij, exT_len]
      omega
    rw [List.append_assoc] at h2
    have es : exs (i + 1) (j - (i + 1)) ++ [(tagG b, i)] = stepsG b i j := rfl
    rw [es] at h2
    generalize upd (upd H1 u (.tup [.str (wdOf (tagG b, i).1), .int ((tagG b, i).2 : Nat)])) sa (.lst (svs ++ [.ref u])) = H2 at h2 ⊢
    -- joined
    obtain ⟨dx2, hp2⟩ := id h2.ho
    obtain ⟨gvs, hga, hP⟩ := id h2.hg
    obtain ⟨x, hx, hgx⟩ := gatE hP (by omega : i < gs.length)
    obtain ⟨y, hy, hgy⟩ := gatE hP hj
    refine ⟨_, rfl, p, C, dx2, _, _, rfl, hp2, TC.cl, TC.nG, fl_g .., _, rfl, ga, _, _, _, rfl, rfl, SqL.of hga, atI_nat hx, _, rfl, p, C, dx2, _, _, rfl, hp2, TC.cl, TC.nG, fl_g .., _, rfl, ga, _, _, _, rfl, rfl, SqL.of hga, atI_nat hy, x, y, _, _, rfl, hgx, hgy, gdAt gd (by omega), gdAt gd hj, fun v H3 k3 hv => ?_⟩
    have h3 := h2.keep k3
    obtain ⟨k, hk⟩ : ∃ k, mergeP (atG gs i) (atG gs j) = k := ⟨_, rfl⟩
    rw [hk] at hv
    have gk : ∀ g, k = some g → GdN g := fun g e => GW.gd (n := n) (GW.merge (by rw [← getE (by omega : i < gs.length)]; exact hgw _ (List.getElem_mem _)) (by rw [← getE hj]; exact hgw _ (List.getElem_mem _)) (hk.trans e)) (by omega)
    -- near
    obtain ⟨dx3, hp3⟩ := id h3.ho
    obtain ⟨gvs3, hga3, hP3⟩ := id h3.hg
    have lg3 := hP3.len
    refine ⟨_, rfl, _, rfl, p, C, dx3, _, _, rfl, hp3, TC.cl, TC.nG, fl_g .., ga, _, rfl, .inl (SqL.of hga3), _, _, rfl, ⟨by omega, by omega, by omega, by omega⟩, fun D nD => ?_⟩
    rw [show ((gvs3.length : Nat) - (i : Nat) : Int).toNat = gs.length - i by omega]
    refine lc_range (fun m H' => KT [] H3 H' ∧ H' D = some (.lst (ivs (nearL fl i j m)))) ⟨KT.new _ nD, upd_same⟩ ?_ ?_
    · rintro m H' hm ⟨k', hD⟩
      rw [show (i : Int) + (m : Nat) = ((i + m : Nat) : Int) by omega]
      have h' := h3.keep k'
      obtain ⟨dx', hp'⟩ := id h'.ho
      have ln : (ivs (nearL fl i j m)).length < sizeLine := by
        rw [ivs_len]
        have := near_len fl i j m
        exact small_int (by omega)
      refine ⟨by rfl, _, rfl, p, C, dx', _, _, rfl, hp', TC.cl, TC.nF, fl_f .., _, rfl, fa, _, _, _, rfl, rfl, SqL.of h'.hf, atF (by omega), _, rfl, _, _, rfl, rfl, _, rfl, ?_⟩
      by_cases c1 : fl.getD (i + m) 0 ≤ (j : Int)
      · refine ite_t (decide_eq_true c1) ⟨_, rfl, _, rfl, rfl, _, rfl, ?_⟩
        by_cases c2 : i + m = j
        · refine ite_f (not_bl ?_) ⟨k', ?_⟩
          · show (!decide (V.int ((i + m : Nat) : Int) = V.int (j : Int))) = false
            rw [c2]
            simp
          · rw [nearL_succ, if_neg (fun z => z.2 c2), List.append_nil]
            exact hD
        · refine ite_t ?_ ⟨_, rfl, _, hD, ln, k'.late nD, ?_⟩
          · show (!decide (V.int ((i + m : Nat) : Int) = V.int (j : Int))) = true
            rw [decide_eq_false (fun z => c2 (by have := V.int.inj z; omega))]
            rfl
          · rw [nearL_succ, if_pos ⟨c1, c2⟩, ivs_snoc]
            exact upd_same
      · refine ite_f (not_bl (decide_eq_false c1)) (ite_f (by decide) ⟨k', ?_⟩)
        rw [nearL_succ, if_neg (fun z => c1 z.1), List.append_nil]
        exact hD
    rintro H4 ⟨k4, hD4⟩
    have h4 := h3.keep k4
    have hv4 : OpG1 H4 v k := by
      cases k with
      | none => exact hv
      | some g => exact GtV.keep k4 hv
    obtain ⟨N, eN⟩ : ∃ N, nearL fl i j (gs.length - i) = N := ⟨_, rfl⟩
    rw [eN] at hD4
    -- stale
    refine ⟨_, rfl, D, rfl, ⟨_, SqL.of hD4⟩, fun M nM => ?_⟩
    have mN : ∀ {a}, a ∈ N → i ≤ a ∧ a < gs.length ∧ a ≠ j := fun {a} h => by
      rw [← eN] at h
      obtain ⟨⟨h1, h2⟩, _, h3⟩ := mem_near.mp h
      exact ⟨h1, by omega, h3⟩
    have lN : N.length ≤ 900 := by
      have := near_len fl i j (gs.length - i)
      rw [eN] at this
      omega
    refine lc_it (walk_list (K := K) (a := D) (xs := ivs N)) (fun m H' => KT [] H4 H' ∧ H' M = some (.lst (ivs ((N.take m).filter (staleB b gs fl pa i j k))))) ⟨KT.new _ nM, upd_same⟩ ?_ ?_ ?_
    · rintro m H' _ ⟨k', _⟩
      exact SqL.of (k'.same _ _ hD4)
    · rintro m x H' H'' hm ⟨k', hM⟩ ⟨rfl, hx⟩
      obtain ⟨a, ha, rfl⟩ := ivs_get hx
      obtain ⟨ia, al, _⟩ := mN (List.mem_of_getElem? ha)
      have h' := h4.keep k'
      obtain ⟨dx', hp'⟩ := id h'.ho
      have hv' : OpG1 H'' v k := by
        cases k with
        | none => exact hv4
        | some g => exact GtV.keep k' hv4
      have ln : (ivs ((N.take m).filter (staleB b gs fl pa i j k))).length < sizeLine := by
        rw [ivs_len]
        have := List.length_filter_le (staleB b gs fl pa i j k) (N.take m)
        rw [List.length_take] at this
        exact small_int (by omega)
      have ef : (N.take (m + 1)).filter (staleB b gs fl pa i j k) = (N.take m).filter (staleB b gs fl pa i j k) ++ if staleB b gs fl pa i j k a = true then [a] else [] := by
        rw [List.take_succ, ha, List.filter_append]
        congr 1
        show List.filter _ [a] = _
        rw [List.filter_cons]
        rfl
      refine ⟨by rfl, _, rfl, p, _, _, rfl, hp', fm_is_stale .., _, rfl, _, rfl, _, rfl, _, rfl, H0, p, n, b, gs, fl, pa, _, a, i, j, v, k, rfl, ⟨ga, fa, qa, sa, h'⟩, lf, lp, gd, al, hv', gk, fun H6 k6 => ⟨_, rfl, ?_⟩⟩
      by_cases c : staleB b gs fl pa i j k a = true
      · refine ite_t c ⟨_, rfl, _, k6.same _ _ hM, ln, (k'.trans k6).late nM, ?_⟩
        rw [ef, if_pos c, ivs_snoc]
        exact upd_same
      · refine ite_f c ⟨k'.trans k6, ?_⟩
        rw [ef, if_neg c, List.append_nil]
        exact k6.same _ _ hM
    rintro H5 ⟨k5, hM5⟩
    rw [ivs_len, List.take_length] at hM5
    have h5 := h4.keep k5
    have hv5 : OpG1 H5 v k := by
      cases k with
      | none => exact hv4
      | some g => exact GtV.keep k5 hv4
    obtain ⟨S, eS⟩ : ∃ S, N.filter (staleB b gs fl pa i j k) = S := ⟨_, rfl⟩
    rw [eS] at hM5
    have mS : ∀ a, a < gs.length → Stale b gs fl pa i j k a → a ∈ S := fun a ha h => by
      have := stale_mem ha (by omega) h
      rw [eN, eS] at this
      exact this
    have sS : ∀ {a}, a ∈ S → a < gs.length ∧ a ≠ j ∧ staleB b gs fl pa i j k a = true := fun {a} h => by
      rw [← eS] at h
      obtain ⟨h1, h2⟩ := List.mem_filter.mp h
      have := mN h1
      exact ⟨this.2.1, this.2.2, h2⟩
    have lS : S.length ≤ 900 := by
      rw [← eS]
      exact Nat.le_trans (List.length_filter_le _ _) lN
    -- all but the object
    have own : ∀ {X Y : Hp} {ga fa qa sa : Addr} {gs : List Gt} {fl pa : List Int} {st : List (Nat × Nat)} {l : Addr} {ys : List V}, SeV C X Y p ga fa qa sa n (wdOf (tagG b)) gs fl pa st → (l ≠ p ∧ l ≠ ga ∧ l ≠ fa ∧ l ≠ qa ∧ l ≠ sa) → Y l = some (.lst ys) → hide [p, ga, fa, qa, sa] Y l = some (.lst ys) := fun h y e => by
      rw [hide_out (by simp [y.1, y.2.1, y.2.2.1, y.2.2.2.1, y.2.2.2.2])]
      exact e
    have yM := (h4.young nM)
    have kM0 : KT [] H0 (hide [p, ga, fa, qa, sa] H5) := hide_of h5.k h5.fr
    have hM0 := own h5 yM hM5
    have hS0 := h5.hide
    have hv0 : OpG1 (hide [p, ga, fa, qa, sa] H5) v k := by
      cases k with
      | none => exact hv5
      | some g => exact GtV.hide (fun x hx => h5.notup hx) hv5
    generalize hide [p, ga, fa, qa, sa] H5 = HM at kM0 hM0 hS0 hv0
    obtain ⟨dx5, hp5⟩ := id h5.ho
    have le1 := len_erase hj
    refine ⟨_, rfl, p, _, _, rfl, hp5, fm_take_out .., _, rfl, HM, p, n, j, _, gs, fl, pa, _, rfl, ⟨ga, fa, qa, sa, hS0⟩, lf, lp, hj, hl, fun H6 ⟨ga6, fa6, qa6, sa6, h6⟩ => ?_⟩
    have hM6 := h6.k.same _ _ hM0
    rw [ivs_int] at hM6
    refine ⟨_, rfl, _, rfl, M, S.map (fun (n : Nat) => (n : Int)), j, rfl, hM6, by rw [List.length_map]; omega, fun L H7 nL k7 hL7 => ?_⟩
    have h7 := h6.keep k7
    have yL := h6.young nL
    rw [mu_nat, ← ivs_int] at hL7
    have hv7 : OpG1 H7 v k := by
      cases k with
      | none => exact hv0
      | some g => exact GtV.keep (h6.k.trans k7) hv0
    refine ⟨fun σ' H' => ∃ (HM : Hp) (L : Addr) (S2 : List Nat) (fl' pa' : List Int) (x3 x4 x5 : Option V), σ' = [some (.ref p), some (.int (i : Nat)), some (.int (j : Nat)), x3, x4, x5, some (.ref L)] ∧ KT [] H0 HM ∧ HM L = some (.lst (ivs S2)) ∧ SeE C HM H' p n (wdOf (tagG b)) (joinG b gs i j) fl' pa' (st ++ stepsG b i j) ∧ Tab b (joinG b gs i j) fl' pa' (fun a => a ∈ S2) ∧ ∀ a ∈ S2, a < (joinG b gs i j).length, ?_, ?_⟩
    · cases b with
      | true =>
        have eg : atG gs i = atG gs j := by
          unfold fitW at hfit
          rw [if_pos rfl] at hfit
          exact of_decide_eq_true hfit
        have kn : k = none := by rw [← hk, eg, merge_self]
        subst kn
        cases (show v = .non from hv7)
        refine ⟨_, rfl, rfl, _, rfl, ite_t rfl ?_⟩
        have kM1 : KT [] HM (hide [p, ga6, fa6, qa6, sa6] H7) := hide_of h7.k h7.fr
        have hL1 := own h7 yL hL7
        have hS1 := h7.hide
        generalize hide [p, ga6, fa6, qa6, sa6] H7 = HM1 at kM1 hL1 hS1
        obtain ⟨dx7, hp7⟩ := id h7.ho
        have l1 := len_erase (l := fl) (d := j) (by omega)
        have l2 := len_erase (l := pa) (d := j) (by omega)
        refine ⟨_, rfl, p, _, _, rfl, hp7, fm_take_out .., _, rfl, HM1, p, n, i, _, _, _, _, _, rfl, ⟨ga6, fa6, qa6, sa6, hS1⟩, by rw [List.length_map]; omega, by rw [List.length_map]; omega, by omega, by omega, fun H8 ⟨ga8, fa8, qa8, sa8, h8⟩ => ?_⟩
        have hL8 := h8.k.same _ _ hL1
        rw [ivs_int] at hL8
        refine ⟨_, rfl, _, rfl, L, (S.map (muN j)).map (fun (n : Nat) => (n : Int)), i, rfl, hL8, by rw [List.length_map, List.length_map]; omega, fun L2 H9 nL2 k9 hL9 => ?_⟩
        have h9 := h8.keep k9
        have yL2 := h8.young nL2
        rw [mu_nat, ← ivs_int] at hL9
        have kM2 : KT [] HM1 (hide [p, ga8, fa8, qa8, sa8] H9) := hide_of h9.k h9.fr
        have hL2 := own h9 yL2 hL9
        have hS2 := h9.hide
        have ej : (gs.eraseIdx j).eraseIdx i = joinG true gs i j := erase_none ij hj
        have l3 := len_erase (l := gs.eraseIdx j) (d := i) (by omega)
        rw [ej] at hS2 l3
        refine ⟨_, L2, _, _, _, _, _, _, rfl, (kM0.trans kM1).trans kM2, hL2, ⟨ga8, fa8, qa8, sa8, hS2⟩, ?_, ?_⟩
        · have t2 := tb.two ij hj
          rw [ej] at t2
          refine t2.settle fun a ha hs => ?_
          have := mS _ (sg_lt hj (by rw [← le1]; exact sg_lt (by omega) (by omega))) hs
          refine List.mem_map.mpr ⟨_, List.mem_map.mpr ⟨_, this, sg_mu⟩, sg_mu⟩
        · intro a ha
          obtain ⟨a1, h1, rfl⟩ := List.mem_map.mp ha
          obtain ⟨a2, h2, rfl⟩ := List.mem_map.mp h1
          obtain ⟨s1, s2, s3⟩ := sS h2
          have m1 := muN_lt s1 s2 hj
          have n2 : a2 ≠ i := fun z => by
            subst z
            have L := tb.lk a2 s1 id
            have f1 := L.f1
            have p1 : pa.getD a2 0 < a2 := by
              by_cases y : pa.getD a2 0 = -1
              · omega
              · exact (L.pp y).2.2.1
            unfold staleB at s3
            rw [if_neg (by omega), if_neg (by omega)] at s3
            cases s3
          have n3 : muN j a2 ≠ i := fun z => by
            unfold muN at z
            split at z
            · omega
            · exact n2 z
          have := muN_lt (d := i) (n := gs.length - 1) m1 n3 (by omega)
          omega
      | false =>
        unfold fitW at hfit
        rw [if_neg (by decide), hk] at hfit
        cases k with
        | none => cases hfit
        | some g =>
          obtain ⟨tv, _, rfl, _⟩ := GtV.ctl hv7
          refine ⟨_, rfl, rfl, _, rfl, ite_f (not_bl (decide_eq_false fun z => nomatch z)) ?_⟩
          obtain ⟨dx7, hp7⟩ := id h7.ho
          obtain ⟨gvs7, hga7, hP7⟩ := id h7.hg
          have lg7 := hP7.len
          refine ⟨_, rfl, _, rfl, p, C, dx7, _, _, rfl, hp7, TC.cl, TC.nG, fl_g .., _, rfl, ga6, gvs7, _, i, rfl, rfl, hga7, ixn_nat (by omega), ?_⟩
          have h8 := h7.setG (P2.put (R := GtV H7) (show GtV H7 (.ref tv) g from hv7) i hP7)
          have ej : (gs.eraseIdx j).set i g = joinG false gs i j := by
            rw [erase_some ij hj g]
            unfold joinG newG
            rw [if_neg (by decide), hk]
            rfl
          have hL8 : (upd H7 ga6 (.lst (gvs7.set i (.ref tv)))) L = some (.lst (ivs (S.map (muN j)))) := by
            rw [upd_ne yL.2.1]
            exact hL7
          generalize upd H7 ga6 (.lst (gvs7.set i (.ref tv))) = H8 at h8 hL8 ⊢
          have kM2 : KT [] HM (hide [p, ga6, fa6, qa6, sa6] H8) := hide_of h8.k h8.fr
          have hL2 := own h8 yL hL8
          have hS2 := h8.hide
          have l3 : ((gs.eraseIdx j).set i g).length = gs.length - 1 := by rw [List.length_set, le1]
          rw [ej] at hS2 l3
          refine ⟨_, L, _, _, _, _, _, _, rfl, kM0.trans kM2, hL2, ⟨ga6, fa6, qa6, sa6, hS2⟩, ?_, ?_⟩
          · have t2 := tb.joined (fun g hg => (gd g hg).1) ok hk
            rw [ej] at t2
            refine t2.settle fun a ha hs => ?_
            have := mS _ (sg_lt hj (by omega)) hs
            exact List.mem_map.mpr ⟨_, this, sg_mu⟩
          · intro a ha
            obtain ⟨a2, h2, rfl⟩ := List.mem_map.mp ha
            obtain ⟨s1, s2, s3⟩ := sS h2
            have := muN_lt s1 s2 hj
            omega
    rintro σ' H8 ⟨HN, L, S2, fl', pa', x3, x4, x5, rfl, kN, hLN, hS8, tb8, bd8⟩
    have gw' := join_gw (b := b) hgw ij hj
    have jl := join_len (b := b) ij hj
    have hL8 : H8 L = some (.lst (ivs S2)) := by
      obtain ⟨_, _, _, _, h⟩ := hS8
      exact h.k.same _ _ hLN
    refine ⟨_, rfl, L, rfl, ⟨_, SqL.of hL8⟩, ?_⟩
    refine for_list (K := K) (a := L) (xs := ivs S2) (fun m σ' H' => ∃ (fl' pa' : List Int) (x3 x4 x5 : Option V), σ' = [some (.ref p), some (.int (i : Nat)), some (.int (j : Nat)), x3, x4, x5, some (.ref L)] ∧ SeE C HN H' p n (wdOf (tagG b)) (joinG b gs i j) fl' pa' (st ++ stepsG b i j) ∧ Tab b (joinG b gs i j) fl' pa' (fun a => a ∈ S2.drop m)) ⟨fl', pa', x3, x4, x5, rfl, hS8, tb8⟩ ?_ ?_ ?_
    · rintro m σ' H' _ ⟨_, _, _, _, _, _, ⟨_, _, _, _, h⟩, _⟩
      exact SqL.of (h.k.same _ _ hLN)
    · rintro m x σ' H9 hx ⟨fl9, pa9, x3, x4, x5, rfl, ⟨ga9, fa9, qa9, sa9, h9⟩, tb9⟩
      obtain ⟨a, ha, rfl⟩ := ivs_get hx
      have al := bd8 a (List.mem_of_getElem? ha)
      obtain ⟨dx9, hp9⟩ := id h9.ho
      refine ⟨_, rfl, p, _, _, rfl, hp9, fm_look_from .., _, rfl, HN, p, n, b, _, fl9, pa9, _, a, rfl, ⟨ga9, fa9, qa9, sa9, h9⟩, tb9.lf, tb9.lp, fun g hg => (gw' g hg).gd (by omega), by omega, al, fun H10 f r hS10 lk => ⟨_, _, _, _, _, rfl, hS10, ?_⟩⟩
      refine (tb9.look lk).settle fun z hz ⟨h1, h2⟩ => ?_
      have hm : m < S2.length := by
        rcases Nat.lt_or_ge m S2.length with h | h
        · exact h
        · rw [List.getElem?_eq_none h] at ha; cases ha
      rw [List.drop_eq_getElem_cons hm] at h1
      rcases List.mem_cons.mp h1 with h | h
      · rw [List.getElem?_eq_getElem hm] at ha
        exact absurd (h.trans (Option.some.inj ha)) h2
      · exact h
    · rintro σ' H9 ⟨fl9, pa9, x3, x4, x5, rfl, hS9, tb9⟩
      rw [ivs_len, List.drop_length] at tb9
      exact q _ _ _ (hS9.re kN) (tb9.settle fun a _ h => nomatch h)
end

end My

set_option Elab.async false
set_option linter.all false
set_option maxRecDepth 100000
namespace My
open PySem PySem.Spec PyProof.Rows L2
def StsV (H : Hp) (v : V) (st : List (Nat × Nat)) : Prop := ∃ a vs, v = .ref a ∧ H a = some (.tup vs) ∧ P2 (StV H) vs st
theorem StsV.keep {S : List Addr} {H H' : Hp} (k : KT S H H') {v : V} {st : List (Nat × Nat)} : StsV H v st → StsV H' v st := fun ⟨a, vs, h1, h2, h3⟩ => ⟨a, vs, h1, k.tp _ _ h2, h3.mono fun _ _ => .keep k⟩
theorem cat_s {K : PySem.W.Frag} {H : Hp} {x y : V} {gs hs : List (Nat × Nat)} {J : V → Hp → Prop} (ha : StsV H x gs) (hb : StsV H y hs) (hl : gs.length + hs.length ≤ 1000000) (hJ : ∀ v H', KT [] H H' → StsV H' v (gs ++ hs) → J v H') : rCatA K x y H J := by
  obtain ⟨a, xs, rfl, h1, p1⟩ := id ha
  obtain ⟨b, ys, rfl, h2, p2⟩ := id hb
  have l1 := p1.len
  have l2 := p2.len
  refine ⟨a, b, xs, ys, rfl, rfl, SqT.of h1, SqT.of h2, Nat.le_of_lt (big_int (by omega)), fun e => ?_, fun e1 e => ?_, fun e1 e2 p np => ?_⟩
  · refine hJ _ _ (.refl _ _) ?_
    have : gs = [] := List.eq_nil_of_length_eq_zero (by rw [← l1, e]; rfl)
    rw [this]
    exact hb
  · refine hJ _ _ (.refl _ _) ?_
    have : hs = [] := List.eq_nil_of_length_eq_zero (by rw [← l2, e]; rfl)
    rw [this, List.append_nil]
    exact ha
  · exact hJ _ _ (.new _ np) ⟨p, _, rfl, upd_same, (p1.app p2).mono fun _ _ => .keep (KT.new [] np)⟩
def OutV (H : Hp) (n : Nat) (v : V) (st : List (Nat × Nat)) (gs : List Gt) : Prop := ∃ t c s, v = .ref t ∧ H t = some (.tup [.ref c, s]) ∧ CircAt H c n gs ∧ StsV H s st
theorem Gath.gw {b : Bool} {n : Nat} {gs gs' : List Gt} {st : List (Nat × Nat)} (h : Gath b gs st gs') (hg : ∀ g ∈ gs, GW n g) : ∀ g ∈ gs', GW n g := by
  induction h with
  | done _ => exact hg
  | step f _ ih => exact ih (join_gw hg f.ok.1 f.ok.2.1)
theorem Shr.gw {n : Nat} {gs gs' : List Gt} {st : List (Nat × Nat)} (h : Shr gs st gs') (hg : ∀ g ∈ gs, GW n g) : ∀ g ∈ gs', GW n g := by
  induction h with
  | stop _ _ => exact hg
  | turn a b _ _ ih => exact ih (b.gw (a.gw hg))
theorem Gath.stl {b : Bool} {gs gs' : List Gt} {st : List (Nat × Nat)} (h : Gath b gs st gs') : st.length + gs'.length * 900 ≤ gs.length * 900 ∨ 900 < gs.length := by
  induction h with
  | done _ => exact .inl (by show 0 + _ ≤ _; omega)
  | @step gs gs' i j st f _ ih =>
    have l := join_len f.ok.1 f.ok.2.1 (b := b)
    have := f.ok.1
    have := f.ok.2.1
    rcases Nat.lt_or_ge 900 gs.length with c | c
    · exact .inr c
    refine .inl ?_
    have ls : (stepsG b i j).length ≤ gs.length := by
      unfold stepsG
      rw [← exT_all (by omega), List.length_append, exT_len, List.length_singleton]
      omega
    rw [List.length_append]
    rcases ih with ih | ih <;> omega
def spOutcome (C : Addr) : Sp := fun vs H Q _ => ∃ (H0 : Hp) (p : Addr) (n : Nat) (b : Bool) (gs : List Gt), vs = [.ref p] ∧ SeE C H0 H p n (wdOf (tagG b)) gs (List.replicate gs.length (-1)) (List.replicate gs.length (-1)) [] ∧ (∀ g ∈ gs, GW n g) ∧ n ≤ 900 ∧ gs.length ≤ 900 ∧
  ∀ v H' st gs', KT [] H0 H' → OutV H' n v st gs' → Gath b gs st gs' → Q v H'
def PairV (H : Hp) (v : V) (b : Bool) (gs : List Gt) : Prop := (v = .non ∧ ∀ i j, ¬ OkP b gs i j) ∨ ∃ (t : Addr) (i j : Nat), v = .ref t ∧ H t = some (.tup [.int i, .int j]) ∧ Fst b gs i j
section
variable {P : Program} {w : World} {K : PySem.W.Frag} {mg : Str → Option Value} {base : Heap} {C : Addr}
set_option maxHeartbeats 4000000 in
theorem ok_outcome (T : Txt K mg) (TC : TxC K C) (TM : TxM K mg C) : FnOk P w K mg base CX0 6 TM.f_Search_outcome TM.d_Search_outcome ["self"] (spOutcome C) := by
  have G_Search_look_from := ok_look (P := P) (w := w) (base := base) T TC TM
  have G_Search_first_pair := ok_first (P := P) (w := w) (base := base) T TC TM
  have G_Search_unite := ok_unite (P := P) (w := w) (base := base) T TC TM
  refine TM.F_Search_outcome.ok sc_Search_outcome (fun vs H Q E h => ?_) (fun cdv A outer s H vs Q E hr h => ?_)
  · obtain ⟨H0, p, n, b, gs, rfl, _⟩ := h
    rfl
  · obtain ⟨H0, p, n, b, gs, rfl, ⟨ga, fa, qa, sa, hS⟩, hgw, hn, hl, q⟩ := h
    refine ⟨_, (pss_cons (ps_for PassesOwn.never rfl (pi_range1 (by rfl) T.m_range (pa_cons (pe_callB call_len_seq (by rfl) T.m_len (by decide +kernel) (pa_cons (pe_fld (pv 0) rfl) pa_nil)) pa_nil)) (pg_name (i := 1) sc_Search_outcome.nd rfl (Or.inl rfl))
        (pss_one (ps_expr (pe_meth (pv 0) TC.cl TM.m_Search_look_from G_Search_look_from (hr.mono (by omega)) TM.b_Search_look_from .nil pass0 (pa_cons (pv 1) pa_nil)))))
      (pss_cons (ps_set (i := 2) sc_Search_outcome.nd rfl (Or.inl rfl) (pe_meth0 (pv 0) TC.cl TM.m_Search_first_pair G_Search_first_pair (hr.mono (by omega)) TM.b_Search_first_pair .nil pass0))
      (pss_cons (ps_while PassesOwn.never (pt_cmpR op_notN (pv 2) pe_non (nomark _))
        (pss_cons (ps_expr (pe_meth (pv 0) TC.cl TM.m_Search_unite G_Search_unite (hr.mono (by omega)) TM.b_Search_unite .nil pass0 (pa_cons (pe_ix ix_tup (pv 2) pe_int (fun _ _ => rfl)) (pa_cons (pe_ix ix_tup (pv 2) pe_int (fun _ _ => rfl)) pa_nil))))
        (pss_one (ps_set (i := 2) sc_Search_outcome.nd rfl (Or.inl rfl) (pe_meth0 (pv 0) TC.cl TM.m_Search_first_pair G_Search_first_pair (hr.mono (by omega)) TM.b_Search_first_pair .nil pass0)))))
      (pss_one (ps_ret (pe_tup (pa_cons (pe_tup (pa_cons (pe_fld (pv 0) rfl) (pa_cons (pe_callTy call_tuple_of (by rfl) T.m_tuple (by decide +kernel) (pa_cons (pe_fld (pv 0) rfl) pa_nil)) pa_nil))) (pa_cons (pe_callTy call_tuple_of (by rfl) T.m_tuple (by decide +kernel) (pa_cons (pe_fld (pv 0) rfl) pa_nil)) pa_nil)))))))), ?_⟩
    obtain ⟨dx, hp⟩ := id hS.ho
    obtain ⟨gvs, hga, hP⟩ := id hS.hg
    have lg := hP.len
    refine ⟨_, rfl, p, C, dx, _, _, rfl, hp, TC.cl, TC.nG, fl_g .., ga, _, rfl, .inl (SqL.of hga), _, rfl, by omega, by omega, ?_⟩
    rw [Int.toNat_natCast, lg]
    refine for_range (fun t σ H' => ∃ (x1 : Option V) (fl pa : List Int), σ = [some (.ref p), x1, none] ∧ SeE C H0 H' p n (wdOf (tagG b)) gs fl pa [] ∧ Tab b gs fl pa fun a => ¬ a < t) ?_ ?_ ?_
    · exact ⟨none, _, _, rfl, ⟨ga, fa, qa, sa, hS⟩, ⟨List.length_replicate .., List.length_replicate .., fun a _ h => absurd (Nat.not_lt_zero a) h⟩⟩
    · rintro t σ H1 ht ⟨x1, fl, pa, rfl, ⟨ga1, fa1, qa1, sa1, h1⟩, tb⟩
      rw [Int.zero_add]
      obtain ⟨dx1, hp1⟩ := id h1.ho
      refine ⟨_, rfl, p, _, _, rfl, hp1, fm_look_from .., _, rfl, H0, p, n, b, gs, fl, pa, [], t, rfl, ⟨ga1, fa1, qa1, sa1, h1⟩, tb.lf, tb.lp, fun g hg => (hgw g hg).gd (by omega), hl, ht, fun H2 f r h2 lk => ⟨_, _, _, rfl, h2, ?_⟩⟩
      exact (tb.look lk).settle fun a _ ⟨x, y⟩ => by omega
    rintro σ H1 ⟨x1, fl, pa, rfl, hS1, tb⟩
    have tb : Tab b gs fl pa fun _ => False := tb.settle fun a ha h => h ha
    -- a pair is looked for
    have look : ∀ {H1 : Hp} {gs1 : List Gt} {fl pa : List Int} {st1 : List (Nat × Nat)} {Q1 : VK}, SeE C H0 H1 p n (wdOf (tagG b)) gs1 fl pa st1 → Tab b gs1 fl pa (fun _ => False) → gs1.length ≤ 900 → (∀ v H', SeE C H0 H' p n (wdOf (tagG b)) gs1 fl pa st1 → PairV H' v b gs1 → Q1 v H') → spFirst C [.ref p] H1 Q1 E0 := fun {H1 gs1 fl pa st1 Q1} hS1 tb1 l1 q1 => by
      refine ⟨H0, p, n, _, gs1, fl, pa, st1, rfl, hS1, by rw [tb1.lp]; exact l1, fun H' k hno => q1 _ _ (hS1.keep k) (.inl ⟨rfl, tb1.nothing fun j hj => ?_⟩), fun t H' i j k ht hj e least => q1 _ _ (hS1.keep k) (.inr ⟨t, i, j, rfl, ht, tb1.first (by rw [← tb1.lp]; exact hj) e fun j' i' h1 h2 => least j' i' (by rw [tb1.lp]; exact h1) h2⟩)⟩
      rcases hno j (by rw [tb1.lp]; exact hj) with z | z
      · exact z
      · exact z.elim
    obtain ⟨ga1, fa1, qa1, sa1, h1⟩ := id hS1
    obtain ⟨dx1, hp1⟩ := id h1.ho
    refine ⟨_, rfl, p, _, _, rfl, hp1, fm_first_pair .., ?_⟩
    unfold tNil
    refine look hS1 tb hl fun v H2 hS2 hv => ?_
    refine ⟨fun m σ H' => ∃ (x1 : Option V) (v : V) (gs1 : List Gt) (fl pa : List Int) (st1 : List (Nat × Nat)), m = gs1.length ∧ σ = [some (.ref p), x1, some v] ∧ SeE C H0 H' p n (wdOf (tagG b)) gs1 fl pa st1 ∧ Tab b gs1 fl pa (fun _ => False) ∧ (∀ g ∈ gs1, GW n g) ∧ gs1.length ≤ 900 ∧ st1.length + gs1.length * 900 ≤ 810000 ∧ (∀ st2 gs2, Gath b gs1 st2 gs2 → Gath b gs (st1 ++ st2) gs2) ∧ PairV H' v b gs1,
      ⟨_, _, v, gs, fl, pa, [], rfl, rfl, hS2, tb, hgw, hl, by show 0 + _ ≤ _; omega, fun _ _ h => h, hv⟩, ?_⟩
    rintro m σ H3 ⟨x1, v, gs1, fl, pa, st1, rfl, rfl, hS3, tb3, gw3, l3, s3, ga3, hv⟩
    rcases hv with ⟨rfl, hno⟩ | ⟨t, i, j, rfl, ht, hf⟩
    · refine ⟨_, rfl, rfl, _, rfl, ite_f (by decide) ?_⟩
      obtain ⟨g3, f3, q3, a3, h3⟩ := id hS3
      obtain ⟨dx3, hp3⟩ := id h3.ho
      obtain ⟨gvs3, hga3, hP3⟩ := id h3.hg
      refine ⟨_, rfl, p, C, dx3, _, _, rfl, hp3, TC.cl, TC.nW, fl_w .., _, rfl, p, C, dx3, _, _, rfl, hp3, TC.cl, TC.nG, fl_g .., g3, gvs3, rfl, .inl ⟨SqL.of hga3, fun u nu => ⟨sz2, fun c nc => ?_⟩⟩⟩
      have ku := KT.new [] nu (o := .tup gvs3)
      have kc := KT.new [] nc (o := .tup [.int n, .ref u])
      have hu := kc.tp _ _ (upd_same (H := H3) (a := u) (o := .tup gvs3))
      have hc : (upd (upd H3 u (.tup gvs3)) c (.tup [.int n, .ref u])) c = some (.tup [.int n, .ref u]) := upd_same
      have k4 := ku.trans kc
      generalize upd (upd H3 u (.tup gvs3)) c (.tup [.int n, .ref u]) = H4 at hu hc k4 ⊢
      have h4 := h3.keep k4
      obtain ⟨dx4, hp4⟩ := id h4.ho
      obtain ⟨svs, hsa, hPs⟩ := id h4.hs
      refine ⟨_, rfl, p, C, dx4, _, _, rfl, hp4, TC.cl, TC.nS, fl_s .., a3, svs, rfl, .inl ⟨SqL.of hsa, fun u2 nu2 => ⟨sz2, fun r nr => ?_⟩⟩⟩
      have ku2 := KT.new [] nu2 (o := .tup svs)
      have kr := KT.new [] nr (o := .tup [.ref c, .ref u2])
      have k6 := ku2.trans kr
      refine q _ _ st1 gs1 ((h3.k.trans k4).trans k6) ⟨r, c, _, rfl, upd_same, CircAt.keep k6 ⟨u, gvs3, hc, hu, gts_keep k4 hP3⟩, u2, svs, rfl, kr.tp _ _ upd_same, hPs.mono fun _ _ => .keep k6⟩ ?_
      have := ga3 [] gs1 (.done hno)
      rw [List.append_nil] at this
      exact this
    · refine ⟨_, rfl, rfl, _, rfl, ite_t rfl ⟨fun σ' H' => ∃ (x1 : Option V) (v : V) (gs2 : List Gt) (fl pa : List Int) (st1 : List (Nat × Nat)), gs2.length < gs1.length ∧ σ' = [some (.ref p), x1, some v] ∧ SeE C H0 H' p n (wdOf (tagG b)) gs2 fl pa st1 ∧ Tab b gs2 fl pa (fun _ => False) ∧ (∀ g ∈ gs2, GW n g) ∧ gs2.length ≤ 900 ∧ st1.length + gs2.length * 900 ≤ 810000 ∧ (∀ st2 gs3, Gath b gs2 st2 gs3 → Gath b gs (st1 ++ st2) gs3) ∧ PairV H' v b gs2,
        fun σ' H' ⟨x1, v, gs2, fl, pa, st1, lt, e, r⟩ => ⟨gs2.length, lt, x1, v, gs2, fl, pa, st1, rfl, e, r⟩, ?_⟩⟩
      obtain ⟨g3, f3, q3, a3, h3⟩ := id hS3
      obtain ⟨dx3, hp3⟩ := id h3.ho
      have ij := hf.ok.1
      have hj := hf.ok.2.1
      have jl := join_len ij hj (b := b)
      have ls : (stepsG b i j).length ≤ 900 := by
        unfold stepsG
        rw [← exT_all ij, List.length_append, exT_len, List.length_singleton]
        omega
      refine ⟨_, rfl, p, _, _, rfl, hp3, fm_unite .., _, rfl, t, _, _, _, rfl, rfl, SqT.of ht, rfl, _, rfl, t, _, _, _, rfl, rfl, SqT.of ht, rfl, H0, p, n, b, gs1, fl, pa, st1, i, j, rfl, hS3, tb3, gw3, hn, l3, by omega, hf.ok, fun H4 fl4 pa4 hS4 tb4 => ?_⟩
      obtain ⟨g4, f4, q4, a4, h4⟩ := id hS4
      obtain ⟨dx4, hp4⟩ := id h4.ho
      refine ⟨_, rfl, p, _, _, rfl, hp4, fm_first_pair .., ?_⟩
      refine look hS4 tb4 (by omega) fun v H5 hS5 hv5 => ⟨_, v, _, fl4, pa4, _, jl, rfl, hS5, tb4, join_gw gw3 ij hj, by omega, ?_, fun st2 gs2 h => ?_, hv5⟩
      · rw [List.length_append]
        omega
      · rw [List.append_assoc]
        exact ga3 _ _ (.step hf h)
end

end My

set_option Elab.async false
set_option linter.all false
set_option maxRecDepth 100000
namespace My
open PySem PySem.Spec PyProof.Rows L2
def spAll (b : Bool) : Sp := fun vs H Q _ => ∃ (t : Addr) (n : Nat) (gs : List Gt), vs = [.ref t] ∧ CircAt H t n gs ∧ (∀ g ∈ gs, GW n g) ∧ n ≤ 900 ∧ gs.length ≤ 900 ∧ ∀ v H' st gs', KT [] H H' → OutV H' n v st gs' → Gath b gs st gs' → Q v H'
def spPass (b : Bool) : Sp := fun vs H Q _ => ∃ (t : Addr) (n : Nat) (gs : List Gt), vs = [.ref t] ∧ CircAt H t n gs ∧ (∀ g ∈ gs, GW n g) ∧ n ≤ 900 ∧ gs.length ≤ 900 ∧ ∀ v H' st gs', KT [] H H' → StsV H' v st → Gath b gs st gs' → Q v H'
def spShrink : Sp := fun vs H Q _ => ∃ (t : Addr) (n : Nat) (gs : List Gt), vs = [.ref t] ∧ CircAt H t n gs ∧ (∀ g ∈ gs, GW n g) ∧ n ≤ 900 ∧ gs.length ≤ 900 ∧ ∀ v H' st gs', KT [] H H' → OutV H' n v st gs' → Shr gs st gs' → Q v H'
section
variable {P : Program} {w : World} {K : PySem.W.Frag} {mg : Str → Option Value} {base : Heap} {C : Addr}
theorem make_ok {H : Hp} {x dx t : Addr} {n : Nat} {gs : List Gt} {b : Bool} {Q : VK} (hx : H x = none) (hdx : H dx = none) (ne : dx ≠ x) (hc : CircAt H t n gs) (hl : gs.length ≤ 900) (q : ∀ H', SeE C H H' x n (wdOf (tagG b)) gs (List.replicate gs.length (-1)) (List.replicate gs.length (-1)) [] → Q .non H') :
    spInit C [.ref x, .ref t, .str (wdOf (tagG b))] (upd (upd H dx (.own x)) x (.ins C dx [])) Q E0 := by
  have k1 := KT.new [] hdx (o := .own x)
  have hx1 : (upd H dx (.own x)) x = none := by rw [upd_ne (Ne.symm ne)]; exact hx
  have k2 := k1.trans (KT.new [] hx1 (o := .ins C dx []))
  exact ⟨H, x, dx, t, n, gs, _, rfl, k2, hx, upd_same, hc.keep k2, hl, q⟩
theorem ok_call (T : Txt K mg) (TC : TxC K C) (TM : TxM K mg C) : FnOk P w K mg base CX0 7 T.f_cancelled_all T.d_cancelled_all ["circuit"] (spAll true) := by
  have G_Search___init__ := ok_init (P := P) (w := w) (base := base) T TC TM
  have G_Search_outcome := ok_outcome (P := P) (w := w) (base := base) T TC TM
  refine T.F_cancelled_all.ok sc_cancelled_all (fun vs H Q E h => ?_) (fun cdv A outer s H vs Q E hr h => ?_)
  · obtain ⟨t, n, gs, rfl, _⟩ := h
    rfl
  · obtain ⟨t, n, gs, rfl, hc, hg, hn, hl, q⟩ := h
    refine ⟨_, (pss_one (ps_ret (pe_meth0 (pe_make TM.mkc G_Search___init__ (hr.mono (by omega)) (by rfl) TM.gC TM.b_Search___init__ .nil pass0 (pa_cons (pv 0) (pa_cons pe_str pa_nil))) TC.cl TM.m_Search_outcome G_Search_outcome (hr.mono (by omega)) TM.b_Search_outcome .nil pass0))), ?_⟩
    refine ⟨_, rfl, fun x dx hx hdx ne => make_ok (b := true) hx hdx ne hc hl fun H1 hS => ⟨rfl, ?_⟩⟩
    obtain ⟨ga, fa, qa, sa, h1⟩ := id hS
    obtain ⟨dx1, hp⟩ := h1.ho
    exact ⟨x, dx1, _, rfl, hp, fm_outcome .., H, x, n, true, gs, rfl, hS, hg, hn, hl, fun v H' st gs' k o g => q v H' st gs' k o g⟩
theorem ok_mall (T : Txt K mg) (TC : TxC K C) (TM : TxM K mg C) : FnOk P w K mg base CX0 7 T.f_merged_all T.d_merged_all ["circuit"] (spAll false) := by
  have G_Search___init__ := ok_init (P := P) (w := w) (base := base) T TC TM
  have G_Search_outcome := ok_outcome (P := P) (w := w) (base := base) T TC TM
  refine T.F_merged_all.ok sc_merged_all (fun vs H Q E h => ?_) (fun cdv A outer s H vs Q E hr h => ?_)
  · obtain ⟨t, n, gs, rfl, _⟩ := h
    rfl
  · obtain ⟨t, n, gs, rfl, hc, hg, hn, hl, q⟩ := h
    refine ⟨_, (pss_one (ps_ret (pe_meth0 (pe_make TM.mkc G_Search___init__ (hr.mono (by omega)) (by rfl) TM.gC TM.b_Search___init__ .nil pass0 (pa_cons (pv 0) (pa_cons pe_str pa_nil))) TC.cl TM.m_Search_outcome G_Search_outcome (hr.mono (by omega)) TM.b_Search_outcome .nil pass0))), ?_⟩
    refine ⟨_, rfl, fun x dx hx hdx ne => make_ok (b := false) hx hdx ne hc hl fun H1 hS => ⟨rfl, ?_⟩⟩
    obtain ⟨ga, fa, qa, sa, h1⟩ := id hS
    obtain ⟨dx1, hp⟩ := h1.ho
    exact ⟨x, dx1, _, rfl, hp, fm_outcome .., H, x, n, false, gs, rfl, hS, hg, hn, hl, fun v H' st gs' k o g => q v H' st gs' k o g⟩
theorem ok_cancelling (T : Txt K mg) (TC : TxC K C) (TM : TxM K mg C) : FnOk P w K mg base CX0 8 T.f_cancelling T.d_cancelling ["circuit"] (spPass true) := by
  have G_cancelled_all := ok_call (P := P) (w := w) (base := base) T TC TM
  refine T.F_cancelling.ok sc_cancelling (fun vs H Q E h => ?_) (fun cdv A outer s H vs Q E hr h => ?_)
  · obtain ⟨t, n, gs, rfl, _⟩ := h
    rfl
  · obtain ⟨t, n, gs, rfl, hc, hg, hn, hl, q⟩ := h
    refine ⟨_, (pss_cons (ps_asg (pe_call G_cancelled_all (hr.mono (by omega)) (by rfl) T.g_cancelled_all T.F_cancelled_all.kp T.b_cancelled_all .nil pass0 (pa_cons (pv 0) pa_nil)) (pg_tup (by rfl) (pgs_cons (pg_name (i := 1) sc_cancelling.nd rfl (Or.inl rfl)) (pgs_cons (pg_name (i := 2) sc_cancelling.nd rfl (Or.inl rfl)) pgs_nil))))
      (pss_one (ps_ret (pv 2)))), ?_⟩
    refine ⟨_, rfl, t, n, gs, rfl, hc, hg, hn, hl, fun v H' st gs' k ⟨r, c, s, e, hr, hc', hs⟩ g => ?_⟩
    subst e
    exact ⟨r, _, rfl, SqT.of hr, rfl, _, _, rfl, _, _, rfl, rfl, _, rfl, q _ _ _ _ k hs g⟩
theorem ok_merging (T : Txt K mg) (TC : TxC K C) (TM : TxM K mg C) : FnOk P w K mg base CX0 8 T.f_merging T.d_merging ["circuit"] (spPass false) := by
  have G_merged_all := ok_mall (P := P) (w := w) (base := base) T TC TM
  refine T.F_merging.ok sc_merging (fun vs H Q E h => ?_) (fun cdv A outer s H vs Q E hr h => ?_)
  · obtain ⟨t, n, gs, rfl, _⟩ := h
    rfl
  · obtain ⟨t, n, gs, rfl, hc, hg, hn, hl, q⟩ := h
    refine ⟨_, (pss_cons (ps_asg (pe_call G_merged_all (hr.mono (by omega)) (by rfl) T.g_merged_all T.F_merged_all.kp T.b_merged_all .nil pass0 (pa_cons (pv 0) pa_nil)) (pg_tup (by rfl) (pgs_cons (pg_name (i := 1) sc_merging.nd rfl (Or.inl rfl)) (pgs_cons (pg_name (i := 2) sc_merging.nd rfl (Or.inl rfl)) pgs_nil))))
      (pss_one (ps_ret (pv 2)))), ?_⟩
    refine ⟨_, rfl, t, n, gs, rfl, hc, hg, hn, hl, fun v H' st gs' k ⟨r, c, s, e, hr, hc', hs⟩ g => ?_⟩
    subst e
    exact ⟨r, _, rfl, SqT.of hr, rfl, _, _, rfl, _, _, rfl, rfl, _, rfl, q _ _ _ _ k hs g⟩
theorem StsV.tru {H : Hp} {v : V} {st : List (Nat × Nat)} (h : StsV H v st) : TruV K v H (decide (st ≠ [])) := by
  obtain ⟨a, vs, rfl, ha, hP⟩ := h
  refine .inr (.inl ⟨vs, SqT.of ha, ?_⟩)
  cases hP <;> rfl
set_option maxHeartbeats 4000000 in
theorem ok_shrink (T : Txt K mg) (TC : TxC K C) (TM : TxM K mg C) : FnOk P w K mg base CX0 8 T.f_shrink T.d_shrink ["circuit"] spShrink := by
  have G_cancelled_all := ok_call (P := P) (w := w) (base := base) T TC TM
  have G_merged_all := ok_mall (P := P) (w := w) (base := base) T TC TM
  refine T.F_shrink.ok sc_shrink (fun vs H Q E h => ?_) (fun cdv A outer s H vs Q E hr h => ?_)
  · obtain ⟨t, n, gs, rfl, _⟩ := h
    rfl
  · obtain ⟨t, n, gs, rfl, hc, hg, hn, hl, q⟩ := h
    refine ⟨_, (pss_cons (ps_set (i := 1) sc_shrink.nd rfl (Or.inl rfl) (pe_tup pa_nil))
      (pss_one (ps_while PassesOwn.never (pt_val pe_bl)
        (pss_cons (ps_asg (pe_call G_cancelled_all (hr.mono (by omega)) (by rfl) T.g_cancelled_all T.F_cancelled_all.kp T.b_cancelled_all .nil pass0 (pa_cons (pv 0) pa_nil)) (pg_tup (by rfl) (pgs_cons (pg_name (i := 0) sc_shrink.nd rfl (Or.inl rfl)) (pgs_cons (pg_name (i := 2) sc_shrink.nd rfl (Or.inl rfl)) pgs_nil))))
        (pss_cons (ps_asg (pe_call G_merged_all (hr.mono (by omega)) (by rfl) T.g_merged_all T.F_merged_all.kp T.b_merged_all .nil pass0 (pa_cons (pv 0) pa_nil)) (pg_tup (by rfl) (pgs_cons (pg_name (i := 0) sc_shrink.nd rfl (Or.inl rfl)) (pgs_cons (pg_name (i := 3) sc_shrink.nd rfl (Or.inl rfl)) pgs_nil))))
        (pss_cons (ps_aug (i := 1) sc_shrink.nd rfl (Or.inl rfl) (pe_cut (pe_op op_catA (pv 2) (pv 3))) ip_catA)
        (pss_one (ps_if (PW.pt (pw_and (pt_not (pt_truthK (K := K) rfl 2)) (pw_and1 (pt_not (pt_truthK (K := K) rfl 3)))))
          (pss_one (ps_ret (pe_tup (pa_cons (pv 0) (pa_cons (pv 1) pa_nil)))))
          pss_nil)))))))), ?_⟩
    refine ⟨Nat.zero_le _, fun s0 ns => ?_⟩
    have k0 := KT.new [] ns (o := .tup [])
    refine ⟨fun m σ H' => ∃ (t : Addr) (v : V) (x2 x3 : Option V) (gs1 : List Gt) (st1 : List (Nat × Nat)), m = gs1.length ∧ σ = [some (.ref t), some v, x2, x3] ∧ KT [] H H' ∧ CircAt H' t n gs1 ∧ StsV H' v st1 ∧ (∀ g ∈ gs1, GW n g) ∧ gs1.length ≤ 900 ∧ st1.length + gs1.length * 900 ≤ 810000 ∧ ∀ st2 gs2, Shr gs1 st2 gs2 → Shr gs (st1 ++ st2) gs2,
      ⟨_, t, .ref s0, none, none, gs, [], rfl, rfl, k0, hc.keep k0, ⟨s0, [], rfl, upd_same, .nil⟩, hg, hl, by show 0 + _ ≤ _; omega, fun _ _ h => h⟩, ?_⟩
    rintro m σ H1 ⟨t1, v1, x2, x3, gs1, st1, rfl, rfl, k1, hc1, hs1, hg1, hl1, sl1, sh1⟩
    refine ⟨_, rfl, ite_t rfl ⟨fun σ' H' => ∃ (t : Addr) (v : V) (x2 x3 : Option V) (gs2 : List Gt) (st1 : List (Nat × Nat)), gs2.length < gs1.length ∧ σ' = [some (.ref t), some v, x2, x3] ∧ KT [] H H' ∧ CircAt H' t n gs2 ∧ StsV H' v st1 ∧ (∀ g ∈ gs2, GW n g) ∧ gs2.length ≤ 900 ∧ st1.length + gs2.length * 900 ≤ 810000 ∧ ∀ st2 gs3, Shr gs2 st2 gs3 → Shr gs (st1 ++ st2) gs3,
      fun σ' H' ⟨t, v, x2, x3, gs2, st1, lt, e, r⟩ => ⟨gs2.length, lt, t, v, x2, x3, gs2, st1, rfl, e, r⟩, ?_⟩⟩
    refine ⟨_, rfl, t1, n, gs1, rfl, hc1, hg1, hn, hl1, fun v H2 c g2 k2 ⟨r, t2, u2, e, hr, hc2, hu2⟩ ga2 => ?_⟩
    subst e
    refine ⟨r, _, rfl, SqT.of hr, rfl, _, _, rfl, _, _, rfl, rfl, ?_⟩
    have hg2 := ga2.gw hg1
    have hl2 := ga2.len
    refine ⟨_, rfl, t2, n, g2, rfl, hc2, hg2, hn, by omega, fun v H3 m g3 k3 ⟨r3, t3, u3, e, hr3, hc3, hu3⟩ ga3 => ?_⟩
    subst e
    refine ⟨r3, _, rfl, SqT.of hr3, rfl, _, _, rfl, _, _, rfl, rfl, ?_⟩
    have hg3 := ga3.gw hg2
    have hl3 := ga3.len
    have s2 := ga2.stl
    have s3 := ga3.stl
    have hu2 := hu2.keep k3
    have hs3 := (hs1.keep k2).keep k3
    refine ⟨_, rfl, fun v H' => KT [] H3 H' ∧ StsV H' v (c ++ m), ⟨_, rfl, _, rfl, cat_s hu2 hu3 (by omega) fun v H' k h => ⟨k, h⟩⟩, ?_⟩
    rintro v4 H4 ⟨k4, h4⟩
    refine cat_s (hs3.keep k4) h4 (by rw [List.length_append]; omega) fun v5 H5 k5 h5 => ?_
    have k35 := k4.trans k5
    have k15 := (k2.trans k3).trans k35
    have goOn : c ++ m ≠ [] → (fun σ' H' => ∃ (t : Addr) (v : V) (x2 x3 : Option V) (gs2 : List Gt) (st1 : List (Nat × Nat)), gs2.length < gs1.length ∧ σ' = [some (.ref t), some v, x2, x3] ∧ KT [] H H' ∧ CircAt H' t n gs2 ∧ StsV H' v st1 ∧ (∀ g ∈ gs2, GW n g) ∧ gs2.length ≤ 900 ∧ st1.length + gs2.length * 900 ≤ 810000 ∧ ∀ st2 gs3, Shr gs2 st2 gs3 → Shr gs (st1 ++ st2) gs3) [some (.ref t3), some v5, some u2, some u3] H5 := fun ne => by
      refine ⟨t3, v5, _, _, g3, _, ?_, rfl, k1.trans k15, hc3.keep k35, h5, hg3, by omega, by rw [List.length_append, List.length_append]; omega, fun st2 gs3 h => ?_⟩
      · rcases Classical.em (c = []) with z | z
        · have : m ≠ [] := fun y => ne (by rw [z, y]; rfl)
          have := hl3.2 this
          omega
        · have := hl2.2 z
          omega
      · rw [List.append_assoc]
        exact sh1 _ _ (.turn ga2 ga3 ne h)
    refine ⟨_, rfl, _, (hu2.keep k35).tru, ?_⟩
    by_cases c1 : c = []
    case neg =>
      refine ite_f ?_ (ite_f (by decide) (goOn fun z => c1 (List.append_eq_nil_iff.mp z).1))
      rw [decide_eq_true c1]
      decide
    refine ite_t (by rw [c1]; rfl) ⟨_, rfl, _, (hu3.keep k35).tru, ?_⟩
    by_cases c2 : m = []
    case neg =>
      refine ite_f ?_ (goOn fun z => c2 (List.append_eq_nil_iff.mp z).2)
      rw [decide_eq_true c2]
      decide
    subst c1 c2
    refine ite_t rfl ⟨_, rfl, _, rfl, sz2, fun p np => ?_⟩
    have kp := KT.new [] np (o := .tup [.ref t3, v5])
    obtain ⟨e2, no2⟩ := ga2.nil
    obtain ⟨e3, no3⟩ := ga3.nil
    subst e2
    subst e3
    refine q _ _ (st1 ++ []) g3 (k1.trans (k15.trans kp)) ⟨p, t3, v5, rfl, upd_same, hc3.keep (k35.trans kp), h5.keep kp⟩ (sh1 [] _ (.stop no2 no3))
end

end My

set_option Elab.async false
set_option linter.all false
set_option maxRecDepth 100000
namespace My
open PySem PySem.Spec PyProof.Rows L2
/-- the steps one behind the other, to the first one that is refused -/
inductive StepsV (K : PySem.W.Frag) (H : Hp) (n : Nat) : Nat → List Gt → List V → Option (List Gt) → Int → Prop
  | done {i : Nat} {gs : List Gt} : StepsV K H n i gs [] (some gs) (-1)
  | stop {i : Nat} {gs : List Gt} {v : V} {vs : List V} : gs.length ≤ 100 → StepV K H n gs v none → StepsV K H n i gs (v :: vs) none i
  | go {i : Nat} {gs gs1 : List Gt} {v : V} {vs : List V} {r : Option (List Gt)} {k : Int} : gs.length ≤ 100 → StepV K H n gs v (some gs1) → StepsV K H n (i + 1) gs1 vs r k → StepsV K H n i gs (v :: vs) r k
theorem StepsV.keep {K : PySem.W.Frag} {S : List Addr} {H H' : Hp} (k : KT S H H') {n i : Nat} {gs : List Gt} {vs : List V} {r : Option (List Gt)} {j : Int} (h : StepsV K H n i gs vs r j) : StepsV K H' n i gs vs r j := by
  induction h with
  | done => exact .done
  | stop l a => exact .stop l (a.keep k)
  | go l a _ ih => exact .go l (a.keep k) ih
def spSteps (K : PySem.W.Frag) : Sp := fun vs H Q _ => ∃ (t s : Addr) (n : Nat) (gs : List Gt) (svs : List V) (ds : List PyData) (r : Option (List Gt)) (k : Int), vs = [.ref t, .ref s] ∧ CircAt H t n gs ∧ (∀ g ∈ gs, GW n g) ∧ n ≤ 10 ∧ SqT K H s svs ∧ Rp K H (.ref s) (.tuple ds) ∧ StepsV K H n 0 gs svs r k ∧
  ∀ a u H', KT [] H H' → H' a = some (.tup [u, .int k]) → OpC H' u n r → Q (.ref a) H'
theorem tw_two (t : Nat) (g h : Gt) : twoP (wdOf t) g h = tw t g h := by
  have n1 : ¬ (("exchange" : Str) = "cancel") := by decide +kernel
  have n2 : ¬ (("merge" : Str) = "cancel") := by decide +kernel
  have n3 : ¬ (("merge" : Str) = "exchange") := by decide +kernel
  unfold tw wdOf
  by_cases e0 : t = 0
  · subst e0
    rw [if_pos rfl, if_neg (by decide), if_pos rfl]
    unfold twoP
    rw [if_neg n1, if_pos rfl]
    rfl
  rw [if_neg e0]
  by_cases e1 : t = 1
  · rw [if_pos e1, if_pos e1]
    unfold twoP
    rw [if_pos rfl]
    rfl
  · rw [if_neg e1, if_neg e1, if_neg e0]
    unfold twoP
    rw [if_neg n2, if_neg n3, if_pos rfl]
    rfl
theorem wd_four (t : Nat) : wdOf t ∈ four := by
  unfold wdOf four
  split
  · exact List.mem_cons_of_mem _ (List.mem_cons_self ..)
  · split
    · exact List.mem_cons_self ..
    · exact List.mem_cons_of_mem _ (List.mem_cons_of_mem _ (List.mem_cons_self ..))
theorem ap_two (gs : List Gt) (s : Nat × Nat) : (twoL (wdOf s.1) ((gs.drop s.2).take 2)).map (fun x => gs.take s.2 ++ x ++ gs.drop (s.2 + 2)) = ap1 gs s := by
  unfold ap1
  match (gs.drop s.2).take 2 with
  | [] => rfl
  | [_] => rfl
  | [g, h] =>
    show (twoP (wdOf s.1) g h).map _ = (tw s.1 g h).map _
    rw [tw_two]
  | _ :: _ :: _ :: _ => rfl
theorem StV.step {K : PySem.W.Frag} {H : Hp} {n : Nat} {gs : List Gt} {v : V} {s : Nat × Nat} (h : StV H v s) : StepV K H n gs v (ap1 gs s) := by
  obtain ⟨t, rfl, ht⟩ := h
  rw [← ap_two]
  exact .full (SqT.of ht) (.two (wd_four _))
theorem ap1_len {gs g1 : List Gt} {s : Nat × Nat} (h : ap1 gs s = some g1) : g1.length ≤ gs.length := by
  unfold ap1 at h
  match e : (gs.drop s.2).take 2, h with
  | [g, k], h =>
    have l2 : 2 ≤ gs.length - s.2 := by
      have := congrArg List.length e
      rw [List.length_take, List.length_drop] at this
      have : min 2 (gs.length - s.2) = 2 := this
      omega
    have h : (tw s.1 g k).map (fun x => gs.take s.2 ++ x ++ gs.drop (s.2 + 2)) = some g1 := h
    have lt : ∀ x, tw s.1 g k = some x → x.length ≤ 2 := fun x hx => by
      unfold tw at hx
      split at hx
      · split at hx <;> cases hx
        exact Nat.zero_le _
      · split at hx
        · split at hx <;> cases hx
          exact Nat.le_refl _
        · cases m : mergeP g k with
          | none => rw [m] at hx; cases hx
          | some y => rw [m] at hx; cases hx; exact Nat.le_succ _
    cases m : tw s.1 g k with
    | none => rw [m] at h; cases h
    | some x =>
      rw [m] at h
      cases h
      have := lt x m
      rw [List.length_append, List.length_append, List.length_take, List.length_drop]
      omega
theorem StsV.steps {K : PySem.W.Frag} {H : Hp} {n : Nat} : ∀ {vs : List V} {st : List (Nat × Nat)} {i : Nat} {gs gs' : List Gt}, P2 (StV H) vs st → gs.length ≤ 100 → apL st gs = some gs' → StepsV K H n i gs vs (some gs') (-1)
  | _, _, _, _, _, .nil, _, h => by cases h; exact .done
  | _, s :: r, i, gs, gs', .cons hv g, l, h => by
    have h : (ap1 gs s).bind (apL r) = some gs' := h
    cases e : ap1 gs s with
    | none => rw [e] at h; cases h
    | some g1 =>
      rw [e] at h
      have := ap1_len e
      exact .go l (by rw [← e]; exact hv.step) (StsV.steps g (by omega) h)
def stD (s : Nat × Nat) : PyData := .tuple [.str (wdOf s.1), .int s.2]
theorem st_rp {K : PySem.W.Frag} {H : Hp} {v : V} {s : Nat × Nat} (h : StV H v s) : Rp K H v (stD s) := by
  obtain ⟨t, rfl, ht⟩ := h
  exact .tup (SqT.of ht) (.cons (.str _) (.cons (.int _) .nil))
theorem sts_rp {K : PySem.W.Frag} {H : Hp} : ∀ {vs : List V} {st : List (Nat × Nat)}, P2 (StV H) vs st → RpA K H vs (st.map stD)
  | _, _, .nil => .nil
  | _, _, .cons h g => .cons (st_rp h) (sts_rp g)
section
variable {P : Program} {w : World} {K : PySem.W.Frag} {mg : Str → Option Value} {base : Heap}
theorem ok_apply_steps (T : Txt K mg) (TA : TxA K mg w T) : FnOk P w K mg base CX0 8 T.f_apply_steps T.d_apply_steps ["circuit", "steps"] (spSteps K) := by
  have G_apply_step := ok_apply_step (P := P) (w := w) (base := base) T TA
  refine T.F_apply_steps.ok sc_apply_steps (fun vs H Q E h => ?_) (fun cdv A outer s H vs Q E hr h => ?_)
  · obtain ⟨t, s, n, gs, svs, ds, r, k, rfl, _⟩ := h
    rfl
  · obtain ⟨t, s, n, gs, svs, ds, r, k, rfl, hc, hg, hn, hs, hrp, hst, q⟩ := h
    refine ⟨_, (pss_cons (ps_if (pt_not (pt_val (pe_callB call_isi (by rfl) T.m_isinstance (by decide +kernel) (pa_cons (pv 1) (pa_cons (pe_bltn (v := .ty "tuple") (by rfl) T.m_tuple (by decide +kernel) rfl) pa_nil)))))
        (pss_one (ps_ret (pe_tup (pa_cons pe_non (pa_cons pe_int pa_nil)))))
        pss_nil)
      (pss_cons (ps_for PassesOwn.never rfl (pi_enT (by rfl) T.m_enumerate (pa_cons (pv 1) pa_nil)) (pg_tup (by rfl) (pgs_cons (pg_name (i := 2) sc_apply_steps.nd rfl (Or.inl rfl)) (pgs_cons (pg_name (i := 3) sc_apply_steps.nd rfl (Or.inl rfl)) pgs_nil)))
        (pss_cons (ps_set (i := 0) sc_apply_steps.nd rfl (Or.inl rfl) (pe_call G_apply_step (hr.mono (by omega)) (by rfl) T.g_apply_step T.F_apply_step.kp T.b_apply_step .nil pass0 (pa_cons (pv 0) (pa_cons (pv 3) pa_nil))))
        (pss_one (ps_if (pt_cmpR op_isN (pv 0) pe_non (nomark _))
          (pss_one (ps_ret (pe_tup (pa_cons pe_non (pa_cons (pv 2) pa_nil)))))
          pss_nil))))
      (pss_one (ps_ret (pe_tup (pa_cons (pv 0) (pa_cons (pe_un un_neg pe_int) pa_nil))))))), ?_⟩
    obtain ⟨t1, y1, k1⟩ := isi_tup hrp
    refine ⟨_, rfl, _, _, _, _, _, rfl, .ty "tuple", y1, k1, _, rfl, ite_f (fun z => by cases z) ?_⟩
    refine ⟨_, rfl, s, _, rfl, hs, ?_⟩
    refine for_it (walk_enT (K := K) (a := s) (xs := svs)) (fun i σ H' => ∃ (t1 : Addr) (gs1 : List Gt) (x2 x3 : Option V), σ = [some (.ref t1), some (.ref s), x2, x3] ∧ KT [] H H' ∧ CircAt H' t1 n gs1 ∧ (∀ g ∈ gs1, GW n g) ∧ StepsV K H n i gs1 (svs.drop i) r k) ?_ ?_ ?_ ?_
    · exact ⟨t, gs, none, none, rfl, .refl _ _, hc, hg, hst⟩
    · rintro i σ H' _ ⟨_, _, _, _, _, k', _⟩
      exact k'.sqT hs
    · rintro i x σ H1 H2 hi ⟨t1, gs1, x2, x3, rfl, k', hc1, hg1, hst1⟩ ⟨T1, x1, y1, rfl, nT, rfl, e1, e2⟩
      cases e1
      have e2 : svs[i]? = some y1 := e2
      have kT := KT.new [] nT (o := .tup [.int (i : Nat), y1])
      have k2 := k'.trans kT
      have hc2 := hc1.keep kT
      have hT : (upd H1 T1 (.tup [.int (i : Nat), y1])) T1 = some (.tup [.int (i : Nat), y1]) := upd_same
      generalize upd H1 T1 (.tup [.int (i : Nat), y1]) = H3 at k2 hc2 hT ⊢
      refine ⟨T1, _, rfl, SqT.of hT, rfl, _, _, rfl, _, _, rfl, rfl, ?_⟩
      have hi2 : i < svs.length := hi
      have ed : svs.drop i = y1 :: svs.drop (i + 1) := by
        rw [List.drop_eq_getElem_cons hi2]
        rw [List.getElem?_eq_getElem hi2] at e2
        rw [Option.some.inj e2]
      rw [ed] at hst1
      have call : ∀ {r1 : Option (List Gt)}, gs1.length ≤ 100 → StepV K H n gs1 y1 r1 → ∀ {Q1 : VK}, (∀ v H', KT [] H3 H' → OpC H' v n r1 → Q1 v H') → spStep K [.ref t1, y1] H3 Q1 E0 := fun {r1} l sv {Q1} q1 => ⟨t1, y1, n, gs1, _, rfl, hc2, hg1, hn, l, sv.keep k2, q1⟩
      cases hst1 with
      | stop l sv =>
        refine ⟨_, rfl, _, rfl, call l sv fun v H4 k4 h4 => ?_⟩
        cases (show v = .non from h4)
        refine ⟨_, rfl, rfl, _, rfl, ite_t rfl ⟨_, rfl, sz2, fun p np => ?_⟩⟩
        exact q p .non _ ((k2.trans k4).trans (KT.new [] np)) upd_same rfl
      | @go _ _ gs2 _ _ _ _ l sv rest =>
        refine ⟨_, rfl, _, rfl, call l sv fun v H4 k4 h4 => ?_⟩
        obtain ⟨t2, rfl, hc4⟩ := h4
        refine ⟨_, rfl, rfl, _, rfl, ite_f (not_bl (decide_eq_false fun z => nomatch z)) ?_⟩
        exact ⟨t2, gs2, _, _, rfl, k2.trans k4, hc4, (stepV_same hg1 sv).1, rest⟩
    · rintro σ H1 ⟨t1, gs1, x2, x3, rfl, k', hc1, hg1, hst1⟩
      rw [List.drop_length] at hst1
      cases hst1
      refine ⟨_, rfl, _, rfl, sz2, fun p np => ?_⟩
      exact q p _ _ (k'.trans (KT.new [] np)) upd_same ⟨t1, rfl, hc1.keep (KT.new [] np)⟩
end

end My

set_option Elab.async false
set_option linter.all false
set_option maxRecDepth 100000
namespace My
open PySem PySem.Spec PyProof.Rows L2
def badL (gs : List Gt) (i j m : Nat) : List Nat := ((List.range m).map fun r => i + 1 + r).filter fun k => !freeP (atG gs k) (atG gs j)
theorem badL_succ (gs : List Gt) (i j m : Nat) : badL gs i j (m + 1) = badL gs i j m ++ if freeP (atG gs (i + 1 + m)) (atG gs j) = true then [] else [i + 1 + m] := by
  unfold badL
  rw [List.range_succ, List.map_append, List.filter_append]
  congr 1
  show List.filter _ [i + 1 + m] = _
  rw [List.filter_cons]
  cases freeP (atG gs (i + 1 + m)) (atG gs j) <;> rfl
theorem badL_len (gs : List Gt) (i j m : Nat) : (badL gs i j m).length ≤ m := by
  unfold badL
  refine Nat.le_trans (List.length_filter_le _ _) ?_
  rw [List.length_map, List.length_range]
  exact Nat.le_refl _
theorem badL_nil {gs : List Gt} {i j : Nat} : badL gs i j (j - (i + 1)) = [] ↔ ∀ k, i < k → k < j → freeP (atG gs k) (atG gs j) = true := by
  unfold badL
  rw [List.filter_eq_nil_iff]
  constructor
  · intro h k h1 h2
    have := h k (List.mem_map.mpr ⟨k - (i + 1), List.mem_range.mpr (by omega), by omega⟩)
    simpa using this
  · intro h k hk
    obtain ⟨r, hr, rfl⟩ := List.mem_map.mp hk
    have := List.mem_range.mp hr
    rw [h (i + 1 + r) (by omega) (by omega)]
    decide
def spPairL (b : Bool) : Sp := fun vs H Q _ => ∃ (a : Addr) (n : Nat) (gvs : List V) (gs : List Gt), vs = [.ref a, .str (wdOf (tagG b))] ∧ H a = some (.tup gvs) ∧ P2 (GtV H) gvs gs ∧ (∀ g ∈ gs, GW n g) ∧ n ≤ 400 ∧ gs.length ≤ 900 ∧ ∀ v H', KT [] H H' → PairV H' v b gs → Q v H'
section
variable {P : Program} {w : World} {K : PySem.W.Frag} {mg : Str → Option Value} {base : Heap}
set_option maxHeartbeats 4000000 in
theorem ok_z_pair (b : Bool) (T : Txt K mg) : FnOk P w K mg base CX0 3 T.f_z_pair T.d_z_pair ["gates", "word"] (spPairL b) := by
  have G_z_one := ok_z_one (P := P) (w := w) (base := base) T
  have G_z_free := ok_z_free (P := P) (w := w) (base := base) T
  refine T.F_z_pair.ok sc_z_pair (fun vs H Q E h => ?_) (fun cdv A outer s H vs Q E hr h => ?_)
  · obtain ⟨a, n, gvs, gs, rfl, _⟩ := h
    rfl
  · obtain ⟨a, n, gvs, gs, rfl, ha, hP, hg, hn, hl, q⟩ := h
    refine ⟨_, (pss_cons (ps_for PassesOwn.never rfl (pi_range1 (by rfl) T.m_range (pa_cons (pe_callB call_len_seq (by rfl) T.m_len (by decide +kernel) (pa_cons (pv 0) pa_nil)) pa_nil)) (pg_name (i := 2) sc_z_pair.nd rfl (Or.inl rfl))
        (pss_one (ps_for PassesOwn.never rfl (pi_range2 (by rfl) T.m_range (pa_cons (pe_op op_add (pv 2) pe_int) (pa_cons (pe_callB call_len_seq (by rfl) T.m_len (by decide +kernel) (pa_cons (pv 0) pa_nil)) pa_nil))) (pg_name (i := 3) sc_z_pair.nd rfl (Or.inr rfl))
          (pss_cons (ps_set (i := 4) sc_z_pair.nd rfl (Or.inl rfl) (pe_cut (pe_ifExp (pt_cmpR op_eq (pv 1) pe_str (nomark _)) (pe_cmpR (op_eqD hr.units) (pe_ix ix_tup (pv 0) (pv 2) (fun _ _ => rfl)) (pe_ix ix_tup (pv 0) (pv 3) (fun _ _ => rfl)) (nomark _)) (pe_cmpR (op_neD hr.units) (pe_call G_z_one (hr.mono (by omega)) (by rfl) T.g_z_one T.F_z_one.kp T.b_z_one .nil pass0 (pa_cons (pe_ix ix_tup (pv 0) (pv 2) (fun _ _ => rfl)) (pa_cons (pe_ix ix_tup (pv 0) (pv 3) (fun _ _ => rfl)) pa_nil))) (pe_lst pa_nil) (nomark _)))))
          (pss_one (ps_if (PW.pt (pw_and (pt_val (pv 4)) (pw_and1 (pt_cmpR (op_eqD hr.units) (pe_lc (own := [("k", 5)]) (g := gName 5) (by rfl) sc_z_pair.nd (pi_range2 (by rfl) T.m_range (pa_cons (pe_op op_add (pv 2) pe_int) (pa_cons (pv 3) pa_nil))) (blkOk_by (own := [("k", 5)]) (N := N_z_pair) (sc := defScope s_z_pair) (by decide +kernel)) (fun _ _ _ _ _ => (pg_name (i := 5) sc_z_pair.nd rfl (Or.inl rfl))) (fun _ _ _ _ _ => (pts_one (pt_not (pt_val (pe_call G_z_free (hr.mono (by omega)) (by rfl) T.g_z_free T.F_z_free.kp T.b_z_free .nil pass0 (pa_cons (pe_ix (ixT (K := K) rfl) (pv 0) (pv 5) (fun _ _ => rfl)) (pa_cons (pe_ix (ixT (K := K) rfl) (pv 0) (pv 3) (fun _ _ => rfl)) pa_nil))))))) (fun _ _ _ _ _ => (pv 5))) (pe_lst pa_nil) (nomark _)))))
            (pss_one (ps_ret (pe_tup (pa_cons (pv 2) (pa_cons (pv 3) pa_nil)))))
            pss_nil))))))
      (pss_one (ps_ret pe_non))), ?_⟩
    have lg := hP.len
    refine ⟨_, rfl, a, _, rfl, .inr (SqT.of ha), _, rfl, by omega, by omega, ?_⟩
    rw [Int.toNat_natCast, lg]
    refine for_range (fun i σ H' => ∃ (x2 x3 x4 x5 : Option V), σ = [some (.ref a), some (.str (wdOf (tagG b))), x2, x3, x4, x5] ∧ KT [] H H' ∧ ∀ i' j', OkP b gs i' j' → i ≤ i') ?_ ?_ ?_
    · exact ⟨none, none, none, none, rfl, .refl _ _, fun _ _ _ => Nat.zero_le _⟩
    · rintro i σ H1 hi ⟨x2, x3, x4, x5, rfl, k1, least⟩
      rw [Int.zero_add]
      have ha1 := k1.same _ _ ha
      refine ⟨_, rfl, _, _, rfl, rfl, _, rfl, a, _, rfl, .inr (SqT.of ha1), _, _, rfl, ⟨by omega, by omega, by omega, by omega⟩, ?_⟩
      rw [show ((gvs.length : Int) - ((i : Int) + 1)).toNat = gs.length - (i + 1) by omega]
      refine for_range (fun m σ H' => ∃ (x3 x4 x5 : Option V), σ = [some (.ref a), some (.str (wdOf (tagG b))), some (.int (i : Nat)), x3, x4, x5] ∧ KT [] H H' ∧ ∀ j', OkP b gs i j' → i + 1 + m ≤ j') ?_ ?_ ?_
      · exact ⟨_, _, _, rfl, k1, fun j' h => by have := h.1; omega⟩
      · rintro m σ H2 hm ⟨x3, x4, x5, rfl, k2, leastj⟩
        rw [show ((i : Int) + 1 + (m : Nat)) = ((i + 1 + m : Nat) : Int) by omega]
        obtain ⟨j, ej⟩ : ∃ j, i + 1 + m = j := ⟨_, rfl⟩
        rw [ej] at leastj ⊢
        have hj : j < gs.length := by omega
        have ha2 := k2.same _ _ ha
        have hP2 := gts_keep k2 hP
        obtain ⟨x, hx, hgx⟩ := gatE hP2 (by omega : i < gs.length)
        obtain ⟨y, hy, hgy⟩ := gatE hP2 hj
        have at_ : ∀ {k : Nat}, k < gs.length → GW n (atG gs k) := fun hk => by
          rw [← getE hk]
          exact hg _ (List.getElem_mem hk)
        have gi := (at_ (by omega : i < gs.length)).gd (by omega)
        have gj := (at_ hj).gd (by omega)
        refine ⟨fun v H' => v = .bl (fitW b (atG gs i) (atG gs j)) ∧ KT [] H2 H', ?_, ?_⟩
        · cases b with
          | true =>
            refine ⟨_, rfl, rfl, _, rfl, ite_t (dstr_eq rfl) ?_⟩
            refine ⟨_, rfl, _, rfl, a, _, _, _, rfl, rfl, SqT.of ha2, atI_nat hx, _, rfl, _, rfl, a, _, _, _, rfl, rfl, SqT.of ha2, atI_nat hy, gtD (atG gs i), gtD (atG gs j), gt_dp hgx, gt_dp hgy, shaped_gt _, shaped_gt _, ?_⟩
            rw [gt_eqv]
            exact ⟨rfl, .refl _ _⟩
          | false =>
            refine ⟨_, rfl, rfl, _, rfl, ite_f (dstr_ne (by decide +kernel)) ?_⟩
            refine ⟨_, rfl, _, rfl, a, _, _, _, rfl, rfl, SqT.of ha2, atI_nat hx, _, rfl, _, rfl, a, _, _, _, rfl, rfl, SqT.of ha2, atI_nat hy, x, y, _, _, rfl, hgx, hgy, gi, gj, Nat.le_trans (at_ (by omega)).2.2.2 hn, Nat.le_trans (at_ hj).2.2.2 hn, fun v H3 k3 ⟨L, vs, ev, hL, hPL⟩ => ?_⟩
            subst ev
            refine ⟨Nat.zero_le _, fun l nl => ?_⟩
            have kl := KT.new [] nl (o := .lst [])
            refine ⟨.list (((mergedP (atG gs i) (atG gs j)).getD []).map gtD), .list [], .lst (SqL.of (kl.same _ _ hL)) (gts_dp (gts_keep kl hPL)), .lst (SqL.of upd_same) .nil, shaped_lgts _, shaped_nil, ?_⟩
            rw [eqv_nilG]
            refine ⟨?_, k3.trans kl⟩
            unfold fitW mergedP
            rw [if_neg (by decide)]
            cases mergeP (atG gs i) (atG gs j) <;> rfl
        rintro v H3 ⟨rfl, k3⟩
        have k03 := k2.trans k3
        have next : ∀ {x5 : Option V} {H' : Hp}, KT [] H H' → ¬ OkP b gs i j → ∃ (x3 x4 x5' : Option V), [some (V.ref a), some (.str (wdOf (tagG b))), some (.int (i : Nat)), some (.int (j : Nat)), some (.bl (fitW b (atG gs i) (atG gs j))), x5] = [some (.ref a), some (.str (wdOf (tagG b))), some (.int (i : Nat)), x3, x4, x5'] ∧ KT [] H H' ∧ ∀ j', OkP b gs i j' → i + 1 + (m + 1) ≤ j' := fun {x5 H'} k no => by
          refine ⟨_, _, _, rfl, k, fun j' h => ?_⟩
          have := leastj j' h
          have : j' ≠ j := fun z => no (z ▸ h)
          omega
        refine ⟨_, rfl, _, rfl, ?_⟩
        by_cases c1 : fitW b (atG gs i) (atG gs j) = true
        case neg => exact ite_f c1 (ite_f (by decide) (next k03 fun z => c1 z.2.2.1))
        refine ite_t c1 ?_
        refine ⟨_, rfl, _, _, rfl, rfl, _, rfl, _, _, rfl, ⟨by omega, by omega, by omega, by omega⟩, fun D nD => ?_⟩
        rw [show ((j : Int) - ((i : Int) + 1)).toNat = j - (i + 1) by omega]
        refine lc_range (fun t H' => KT [] H3 H' ∧ H' D = some (.lst (ivs (badL gs i j t)))) ⟨KT.new _ nD, upd_same⟩ ?_ ?_
        · rintro t H4 ht ⟨k4, hD⟩
          rw [show ((i : Int) + 1 + (t : Nat)) = ((i + 1 + t : Nat) : Int) by omega]
          have k04 := k03.trans k4
          have ha4 := k04.same _ _ ha
          have hP4 := gts_keep k04 hP
          obtain ⟨z, hz, hgz⟩ := gatE hP4 (by omega : i + 1 + t < gs.length)
          obtain ⟨y4, hy4, hgy4⟩ := gatE hP4 hj
          refine ⟨by rfl, _, rfl, _, rfl, a, _, _, _, rfl, rfl, SqT.of ha4, atI_nat hz, _, rfl, _, rfl, a, _, _, _, rfl, rfl, SqT.of ha4, atI_nat hy4, z, y4, _, _, rfl, hgz, hgy4, (at_ (by omega)).gd (by omega), gj, fun H5 k5 => ⟨_, rfl, ?_⟩⟩
          rw [badL_succ]
          by_cases c : freeP (atG gs (i + 1 + t)) (atG gs j) = true
          · refine ite_f (by rw [c]; decide) ⟨k4.trans k5, ?_⟩
            rw [if_pos c, List.append_nil]
            exact k5.same _ _ hD
          · refine ite_t (by rw [Bool.eq_false_iff.mpr c]; rfl) ⟨_, rfl, _, k5.same _ _ hD, ?_, (k4.trans k5).late nD, ?_⟩
            · rw [ivs_len]
              have := badL_len gs i j t
              exact small_int (by omega)
            · rw [if_neg c, ivs_snoc]
              exact upd_same
        rintro H4 ⟨k4, hD⟩
        refine ⟨Nat.zero_le _, fun l nl => ?_⟩
        have kl := KT.new [] nl (o := .lst [])
        obtain ⟨d1, d2, q1, q2, q3, q4, q5⟩ := nil_eqv (K := K) (kl.same _ _ hD) upd_same
        refine ⟨d1, d2, q1, q2, q3, q4, _, rfl, ?_⟩
        rw [q5]
        have k05 := (k03.trans k4).trans kl
        by_cases c2 : badL gs i j (j - (i + 1)) = []
        case neg =>
          refine ite_f ?_ (next k05 fun z => c2 (badL_nil.mpr z.2.2.2))
          cases e : badL gs i j (j - (i + 1)) with
          | nil => exact absurd e c2
          | cons _ _ => exact Bool.false_ne_true
        have ok : OkP b gs i j := ⟨by omega, hj, c1, badL_nil.mp c2⟩
        refine ite_t (by rw [c2]; rfl) ⟨_, rfl, _, rfl, sz2, fun p np => ?_⟩
        refine q _ _ (k05.trans (KT.new [] np)) (.inr ⟨p, i, j, rfl, upd_same, ok, fun i' j' h => ?_⟩)
        have := least i' j' h
        rcases Nat.lt_or_ge i i' with c | c
        · exact .inl c
        · have e : i = i' := by omega
          subst e
          exact .inr ⟨rfl, leastj j' h⟩
      · rintro σ H2 ⟨x3, x4, x5, rfl, k2, leastj⟩
        refine ⟨_, _, _, _, rfl, k2, fun i' j' h => ?_⟩
        have := least i' j' h
        have : i' ≠ i := fun z => by
          subst z
          have := leastj j' h
          have := h.2.1
          omega
        omega
    · rintro σ H1 ⟨x2, x3, x4, x5, rfl, k1, least⟩
      refine q _ _ k1 (.inl ⟨rfl, fun i j h => ?_⟩)
      have := least i j h
      have := h.1
      have := h.2.1
      omega
end

end My

set_option Elab.async false
set_option linter.all false
set_option maxRecDepth 100000
namespace My
open PySem PySem.Spec PyProof.Rows L2
def spGath (b : Bool) : Sp := fun vs H Q _ => ∃ (t : Addr) (n : Nat) (gs : List Gt), vs = [.ref t, .str (wdOf (tagG b))] ∧ CircAt H t n gs ∧ (∀ g ∈ gs, GW n g) ∧ n ≤ 400 ∧ gs.length ≤ 59 ∧ ∀ r s c H' st gs', KT [] H H' → H' r = some (.tup [s, .ref c]) → StsV H' s st → CircAt H' c n gs' → Gath b gs st gs' → Q (.ref r) H'
section
variable {P : Program} {w : World} {K : PySem.W.Frag} {mg : Str → Option Value} {base : Heap}
set_option maxHeartbeats 4000000 in
theorem ok_z_gathered (b : Bool) (T : Txt K mg) : FnOk P w K mg base CX0 4 T.f_z_gathered T.d_z_gathered ["circuit", "word"] (spGath b) := by
  have G_z_pair := ok_z_pair b (P := P) (w := w) (base := base) T
  have G_z_one := ok_z_one (P := P) (w := w) (base := base) T
  refine T.F_z_gathered.ok sc_z_gathered (fun vs H Q E h => ?_) (fun cdv A outer s H vs Q E hr h => ?_)
  · obtain ⟨t, n, gs, rfl, _⟩ := h
    rfl
  · obtain ⟨t, n, gs, rfl, hc, hg, hn, hl, q⟩ := h
    refine ⟨_, (pss_cons (ps_set (i := 2) sc_z_gathered.nd rfl (Or.inl rfl) (pe_lst pa_nil))
      (pss_cons (ps_for PassesOwn.never rfl (pi_range1 (by rfl) T.m_range (pa_cons pe_int pa_nil)) (pg_name (i := 3) sc_z_gathered.nd rfl (Or.inl rfl))
        (pss_cons (ps_set (i := 4) sc_z_gathered.nd rfl (Or.inl rfl) (pe_call G_z_pair (hr.mono (by omega)) (by rfl) T.g_z_pair T.F_z_pair.kp T.b_z_pair .nil pass0 (pa_cons (pe_ix ix_tup (pv 0) pe_int (fun _ _ => rfl)) (pa_cons (pv 1) pa_nil))))
        (pss_cons (ps_if (pt_cmpR op_isN (pv 4) pe_non (nomark _))
          (pss_one ps_break)
          pss_nil)
        (pss_cons (ps_for PassesOwn.never rfl (pi_revR (by rfl) T.m_reversed (prg_2 (by rfl) T.m_range (pe_op op_add (pe_ix ix_tup (pv 4) pe_int (fun _ _ => rfl)) pe_int) (pe_ix ix_tup (pv 4) pe_int (fun _ _ => rfl)))) (pg_name (i := 5) sc_z_gathered.nd rfl (Or.inl rfl))
          (pss_one (ps_expr (pe_bm PySem.F.plainAttrs_list PySem.F.slot_list_append PySem.F.type_list_append mt_append (pv 2) (pa_cons (pe_tup (pa_cons pe_str (pa_cons (pv 5) pa_nil))) pa_nil)))))
        (pss_cons (ps_expr (pe_bm PySem.F.plainAttrs_list PySem.F.slot_list_append PySem.F.type_list_append mt_append (pv 2) (pa_cons (pe_tup (pa_cons (pv 1) (pa_cons (pe_ix ix_tup (pv 4) pe_int (fun _ _ => rfl)) pa_nil))) pa_nil)))
        (pss_cons (ps_set (i := 6) sc_z_gathered.nd rfl (Or.inl rfl) (pe_ix ix_tup (pv 0) pe_int (fun _ _ => rfl)))
        (pss_cons (ps_set (i := 7) sc_z_gathered.nd rfl (Or.inl rfl) (pe_cut (pe_ifExp (pt_cmpR op_eq (pv 1) pe_str (nomark _)) (pe_tup pa_nil) (pe_callTy call_tuple_of (by rfl) T.m_tuple (by decide +kernel) (pa_cons (pe_call G_z_one (hr.mono (by omega)) (by rfl) T.g_z_one T.F_z_one.kp T.b_z_one .nil pass0 (pa_cons (pe_ix ix_tup (pv 6) (pe_ix ix_tup (pv 4) pe_int (fun _ _ => rfl)) (fun _ _ => rfl)) (pa_cons (pe_ix ix_tup (pv 6) (pe_ix ix_tup (pv 4) pe_int (fun _ _ => rfl)) (fun _ _ => rfl)) pa_nil))) pa_nil)))))
        (pss_one (ps_set (i := 0) sc_z_gathered.nd rfl (Or.inl rfl) (pe_tup (pa_cons (pe_ix ix_tup (pv 0) pe_int (fun _ _ => rfl)) (pa_cons (pe_cut (pe_op op_catA (pe_cut (pe_op op_catA (pe_cut (pe_op op_catA (pe_slice sl_tupA (pv 6) po_none (po_some (pe_ix ix_tup (pv 4) pe_int (fun _ _ => rfl)))) (pv 7))) (pe_slice sl_tupA (pv 6) (po_some (pe_op op_add (pe_ix ix_tup (pv 4) pe_int (fun _ _ => rfl)) pe_int)) (po_some (pe_ix ix_tup (pv 4) pe_int (fun _ _ => rfl)))))) (pe_slice sl_tupA (pv 6) (po_some (pe_op op_add (pe_ix ix_tup (pv 4) pe_int (fun _ _ => rfl)) pe_int)) po_none))) pa_nil))))))))))))
      (pss_one (ps_ret (pe_tup (pa_cons (pe_callTy call_tuple_of (by rfl) T.m_tuple (by decide +kernel) (pa_cons (pv 2) pa_nil)) (pa_cons (pv 0) pa_nil))))))), ?_⟩
    refine ⟨Nat.zero_le _, fun L nL => ?_⟩
    have kL := KT.new [] nL (o := .lst [])
    refine ⟨60, rfl, by decide, by decide, ?_⟩
    refine for_range (n := 60) (fun i σ H' => ∃ (c : Addr) (x3 x4 x5 x6 x7 : Option V) (gs1 : List Gt) (svs : List V) (st1 : List (Nat × Nat)), σ = [some (.ref c), some (.str (wdOf (tagG b))), some (.ref L), x3, x4, x5, x6, x7] ∧ KT [] H H' ∧ CircAt H' c n gs1 ∧ H' L = some (.lst svs) ∧ P2 (StV H') svs st1 ∧ (∀ g ∈ gs1, GW n g) ∧ gs1.length + i ≤ gs.length ∧ st1.length + gs1.length * 900 ≤ 810000 ∧ ∀ st2 gs2, Gath b gs1 st2 gs2 → Gath b gs (st1 ++ st2) gs2) ?_ ?_ ?_
    · exact ⟨t, none, none, none, none, none, gs, [], [], rfl, kL, hc.keep kL, upd_same, .nil, hg, Nat.le_refl _, by show 0 + _ ≤ _; omega, fun _ _ h => h⟩
    · rintro i σ H1 hi ⟨c, x3, x4, x5, x6, x7, gs1, svs, st1, rfl, k1, hc1, hL1, hP1, hg1, hl1, sl1, ga1⟩
      rw [Int.zero_add]
      obtain ⟨u, gvs, hct, hcu, hPg⟩ := id hc1
      refine ⟨_, rfl, c, _, _, _, rfl, rfl, SqT.of hct, rfl, _, rfl, u, n, gvs, gs1, rfl, hcu, hPg, hg1, hn, by omega, fun v H2 k2 hv => ?_⟩
      have hL2 := k2.same _ _ hL1
      have hP2 := hP1.mono fun _ _ => StV.keep k2
      have hc2 := hc1.keep k2
      rcases hv with ⟨rfl, hno⟩ | ⟨t2, i2, j2, rfl, ht2, hf⟩
      · refine ⟨_, rfl, rfl, _, rfl, ite_t rfl ?_⟩
        refine ⟨_, rfl, L, svs, rfl, .inl ⟨SqL.of hL2, fun s ns => ⟨_, rfl, sz2, fun r nr => ?_⟩⟩⟩
        have ks := KT.new [] ns (o := .tup svs)
        have kr := KT.new [] nr (o := .tup [.ref s, .ref c])
        have k3 := ks.trans kr
        refine q r (.ref s) c _ st1 gs1 ((k1.trans k2).trans k3) upd_same ⟨s, svs, rfl, kr.tp _ _ upd_same, hP2.mono fun _ _ => StV.keep k3⟩ (hc2.keep k3) ?_
        have := ga1 [] gs1 (.done hno)
        rw [List.append_nil] at this
        exact this
      refine ⟨_, rfl, rfl, _, rfl, ite_f (not_bl (decide_eq_false fun z => nomatch z)) ?_⟩
      have ij := hf.ok.1
      have hj := hf.ok.2.1
      have jl := join_len ij hj (b := b)
      -- the exchanges
      refine ⟨_, rfl, t2, _, _, _, rfl, rfl, SqT.of ht2, rfl, _, _, rfl, rfl, _, rfl, t2, _, _, _, rfl, rfl, SqT.of ht2, rfl, _, _, rfl, rfl, by omega, by omega, by omega, by omega, ?_⟩
      rw [show ((j2 : Int) - ((i2 : Int) + 1)).toNat = j2 - (i2 + 1) by omega]
      refine for_rangeC (fun m σ H' => ∃ (x5 : Option V) (svs : List V), σ = [some (.ref c), some (.str (wdOf (tagG b))), some (.ref L), some (.int (i : Nat)), some (.ref t2), x5, x6, x7] ∧ KT [] H H' ∧ CircAt H' c n gs1 ∧ H' t2 = some (.tup [.int i2, .int j2]) ∧ H' L = some (.lst svs) ∧ P2 (StV H') svs (st1 ++ exT j2 m)) ⟨x5, svs, rfl, k1.trans k2, hc2, ht2, hL2, by rw [show exT j2 0 = [] from rfl, List.append_nil]; exact hP2⟩ ?_ ?_
      · rintro m σ H3 hm ⟨x5, svs3, rfl, k3, hc3, ht3, hL3, hP3⟩
        rw [show ((i2 : Int) + 1 + ((j2 - (i2 + 1) : Nat) : Int) - 1 + (m : Nat) * (-1)) = ((j2 - 1 - m : Nat) : Int) by omega]
        refine ⟨_, rfl, .inl ⟨rfl, _, SqL.of hL3⟩, _, rfl, sz2, fun s ns => ?_⟩
        have ks := KT.new [] ns (o := .tup [.str "exchange", .int (j2 - 1 - m : Nat)])
        have hL4 := ks.same _ _ hL3
        refine ⟨L, svs3, _, rfl, rfl, hL4, big_int ?_, _, svs3 ++ [.ref s], rfl, (k3.trans ks).late nL, ?_, ?_, upd_same, ?_⟩
        · rw [hP3.len, List.length_append, exT_len]
          omega
        · obtain ⟨u3, gvs3, h1, h2, h3⟩ := hc3.keep ks
          have n1 : c ≠ L := fun z => by rw [z, hL4] at h1; cases h1
          have n2 : u3 ≠ L := fun z => by rw [z, hL4] at h2; cases h2
          exact ⟨u3, gvs3, by rw [upd_ne n1]; exact h1, by rw [upd_ne n2]; exact h2, h3.mono fun _ _ => GtV.put hL4⟩
        · have h1 := ks.tp _ _ ht3
          rw [upd_ne (fun z => by rw [z, hL4] at h1; cases h1)]
          exact h1
        · rw [exT_succ, ← List.append_assoc]
          exact ((hP3.mono fun _ _ => StV.keep ks).snoc (d := (0, j2 - 1 - m)) ⟨s, rfl, upd_same⟩).mono fun _ _ => StV.put hL4
      rintro σ H3 ⟨x5', svs3, rfl, k3, hc3, ht3, hL3, hP3⟩
      rw [exT_all ij] at hP3
      -- the step with the two
      refine ⟨_, rfl, .inl ⟨rfl, _, SqL.of hL3⟩, _, rfl, _, rfl, t2, _, _, _, rfl, rfl, SqT.of ht3, rfl, sz2, fun s ns => ?_⟩
      have ks := KT.new [] ns (o := .tup [.str (wdOf (tagG b)), .int (i2 : Nat)])
      have hL4 := ks.same _ _ hL3
      refine ⟨L, svs3, _, rfl, rfl, hL4, big_int ?_, ?_⟩
      · rw [hP3.len, List.length_append, ← exT_all ij, exT_len]
        omega
      have hP4 : P2 (StV (upd (upd H3 s (.tup [.str (wdOf (tagG b)), .int (i2 : Nat)])) L (.lst (svs3 ++ [.ref s])))) (svs3 ++ [.ref s]) (st1 ++ stepsG b i2 j2) := by
        unfold stepsG
        rw [← List.append_assoc]
        exact ((hP3.mono fun _ _ => StV.keep ks).snoc (d := (tagG b, i2)) ⟨s, rfl, upd_same⟩).mono fun _ _ => StV.put hL4
      have hc4 : CircAt (upd (upd H3 s (.tup [.str (wdOf (tagG b)), .int (i2 : Nat)])) L (.lst (svs3 ++ [.ref s]))) c n gs1 := by
        obtain ⟨u3, gvs3, h1, h2, h3⟩ := hc3.keep ks
        have n1 : c ≠ L := fun z => by rw [z, hL4] at h1; cases h1
        have n2 : u3 ≠ L := fun z => by rw [z, hL4] at h2; cases h2
        exact ⟨u3, gvs3, by rw [upd_ne n1]; exact h1, by rw [upd_ne n2]; exact h2, h3.mono fun _ _ => GtV.put hL4⟩
      have ht4 : (upd (upd H3 s (.tup [.str (wdOf (tagG b)), .int (i2 : Nat)])) L (.lst (svs3 ++ [.ref s]))) t2 = some (.tup [.int i2, .int j2]) := by
        have h1 := ks.tp _ _ ht3
        rw [upd_ne (fun z => by rw [z, hL4] at h1; cases h1)]
        exact h1
      have hL5 : (upd (upd H3 s (.tup [.str (wdOf (tagG b)), .int (i2 : Nat)])) L (.lst (svs3 ++ [.ref s]))) L = some (.lst (svs3 ++ [.ref s])) := upd_same
      have k4 : KT [] H (upd (upd H3 s (.tup [.str (wdOf (tagG b)), .int (i2 : Nat)])) L (.lst (svs3 ++ [.ref s]))) := (k3.trans ks).late nL
      generalize upd (upd H3 s (.tup [.str (wdOf (tagG b)), .int (i2 : Nat)])) L (.lst (svs3 ++ [.ref s])) = H4 at hP4 hc4 ht4 hL5 k4 ⊢
      -- the gates
      obtain ⟨u4, gvs4, hct4, hcu4, hPg4⟩ := id hc4
      refine ⟨_, rfl, c, _, _, _, rfl, rfl, SqT.of hct4, rfl, ?_⟩
      refine ⟨fun v H' => TupG H' v (newG b gs1 i2 j2) ∧ KT [] H4 H', ?_, ?_⟩
      · cases b with
        | true =>
          refine ⟨_, rfl, rfl, _, rfl, ite_t (dstr_eq rfl) ⟨Nat.zero_le _, fun p np => ⟨⟨p, [], rfl, upd_same, .nil⟩, KT.new [] np⟩⟩⟩
        | false =>
          have at_ : ∀ {k : Nat}, k < gs1.length → GW n (atG gs1 k) := fun hk => by
            rw [← getE hk]
            exact hg1 _ (List.getElem_mem hk)
          obtain ⟨x, hx, hgx⟩ := gatE hPg4 (by omega : i2 < gs1.length)
          obtain ⟨y, hy, hgy⟩ := gatE hPg4 hj
          refine ⟨_, rfl, rfl, _, rfl, ite_f (dstr_ne (by decide +kernel)) ?_⟩
          refine ⟨_, rfl, _, rfl, t2, _, _, _, rfl, rfl, SqT.of ht4, rfl, u4, _, _, _, rfl, rfl, SqT.of hcu4, atI_nat hx, _, rfl, _, rfl, t2, _, _, _, rfl, rfl, SqT.of ht4, rfl, u4, _, _, _, rfl, rfl, SqT.of hcu4, atI_nat hy, x, y, _, _, rfl, hgx, hgy, (at_ (by omega)).gd (by omega), (at_ hj).gd (by omega), Nat.le_trans (at_ (by omega)).2.2.2 hn, Nat.le_trans (at_ hj).2.2.2 hn, fun v H5 k5 ⟨L2, vs2, ev, hL2, hPL⟩ => ?_⟩
          subst ev
          refine ⟨L2, vs2, rfl, .inl ⟨SqL.of hL2, fun p np => ⟨⟨p, vs2, rfl, upd_same, ?_⟩, k5.trans (KT.new [] np)⟩⟩⟩
          have e : (mergedP (atG gs1 i2) (atG gs1 j2)).getD [] = newG false gs1 i2 j2 := by
            unfold mergedP newG
            rw [if_neg (by decide)]
            cases mergeP (atG gs1 i2) (atG gs1 j2) <;> rfl
          rw [← e]
          exact gts_keep (KT.new [] np) hPL
      rintro v H5 ⟨hv, k5⟩
      have hT5 : TupG H5 (.ref u4) gs1 := ⟨u4, gvs4, rfl, k5.tp _ _ hcu4, gts_keep k5 hPg4⟩
      have hct5 := k5.tp _ _ hct4
      have ht5 := k5.tp _ _ ht4
      refine ⟨_, rfl, c, _, _, _, rfl, rfl, SqT.of hct5, rfl, ?_⟩
      refine ⟨fun v3 H' => KT [] H5 H' ∧ TupG H' v3 (joinG b gs1 i2 j2), ⟨fun v2 H' => KT [] H5 H' ∧ TupG H' v2 (gs1.take i2 ++ newG b gs1 i2 j2 ++ midG gs1 i2 j2), ⟨fun v1 H' => KT [] H5 H' ∧ TupG H' v1 (gs1.take i2 ++ newG b gs1 i2 j2), ?_, ?_⟩, ?_⟩, ?_⟩
      · refine ⟨_, rfl, _, rfl, t2, _, _, _, rfl, rfl, SqT.of ht5, rfl, _, rfl, ?_⟩
        refine sl_x hT5 (sl_to i2) fun v' H' k' h' => ⟨_, rfl, ?_⟩
        refine cat_x h' (hv.keep k') ?_ fun v2 H2 k2 h2 => ⟨k'.trans k2, h2⟩
        have := new_len b gs1 i2 j2
        rw [List.length_take]
        omega
      · rintro v1 H6 ⟨k6, h6⟩
        have ht6 := k6.tp _ _ ht5
        refine ⟨_, rfl, _, rfl, t2, _, _, _, rfl, rfl, SqT.of ht6, rfl, _, _, rfl, rfl, _, rfl, _, rfl, t2, _, _, _, rfl, rfl, SqT.of ht6, rfl, _, rfl, ?_⟩
        have em := sl_mid (gs := gs1) (i2 + 1) (j2 - (i2 + 1))
        rw [show i2 + 1 + (j2 - (i2 + 1)) = j2 by omega] at em
        refine sl_x (hT5.keep k6) em fun v' H' k' h' => ?_
        refine cat_x (h6.keep k') h' ?_ fun v2 H2 k2 h2 => ⟨(k6.trans k').trans k2, h2⟩
        have := new_len b gs1 i2 j2
        rw [List.length_append, List.length_take, List.length_take, List.length_drop]
        omega
      · rintro v2 H6 ⟨k6, h6⟩
        have ht6 := k6.tp _ _ ht5
        refine ⟨_, rfl, _, rfl, t2, _, _, _, rfl, rfl, SqT.of ht6, rfl, _, _, rfl, rfl, ((j2 + 1 : Nat) : Int), rfl, ?_⟩
        dsimp only [tNoPart]
        refine sl_x (hT5.keep k6) (sl_from (j2 + 1)) fun v' H' k' h' => ?_
        refine cat_x (h6.keep k') h' ?_ fun v2 H2 k2 h2 => ⟨(k6.trans k').trans k2, ?_⟩
        · have := new_len b gs1 i2 j2
          have := mid_len ij hj
          rw [List.length_append, List.length_append, List.length_take, List.length_drop]
          omega
        · unfold joinG
          rw [← List.append_assoc]
          exact h2
      rintro v3 H6 ⟨k6, u6, gvs6, rfl, hu6, hP6⟩
      refine ⟨sz2, fun c' nc => ?_⟩
      have kc := KT.new [] nc (o := .tup [.int n, .ref u6])
      have k7 := (k5.trans k6).trans kc
      refine ⟨c', _, _, _, _, _, joinG b gs1 i2 j2, _, _, rfl, k4.trans k7, ⟨u6, gvs6, upd_same, kc.tp _ _ hu6, gts_keep kc hP6⟩, k7.same _ _ hL5, hP4.mono fun _ _ => StV.keep k7, join_gw hg1 ij hj, by omega, ?_, fun st2 gs2 h => ?_⟩
      · have ls : (stepsG b i2 j2).length ≤ 900 := by
          unfold stepsG
          rw [← exT_all ij, List.length_append, exT_len, List.length_singleton]
          omega
        rw [List.length_append]
        omega
      · rw [List.append_assoc]
        exact ga1 _ _ (.step hf h)
    · rintro σ H1 ⟨c, x3, x4, x5, x6, x7, gs1, svs, st1, rfl, k1, hc1, hL1, hP1, hg1, hl1, _⟩
      omega
end

end My

set_option Elab.async false
set_option linter.all false
set_option maxRecDepth 100000
namespace My
open PySem PySem.Spec PyProof.Rows L2
def circD (n : Nat) (gs : List Gt) : PyData := .tuple [.int n, .tuple (gs.map gtD)]
theorem CircAt.rp {K : PySem.W.Frag} {H : Hp} {t : Addr} {n : Nat} {gs : List Gt} (h : CircAt H t n gs) : Rp K H (.ref t) (circD n gs) := by
  obtain ⟨u, gvs, h1, h2, h3⟩ := h
  exact .tup (SqT.of h1) (.cons (.int _) (.cons (.tup (SqT.of h2) (gts_rp h3)) .nil))
theorem circ_refl (n : Nat) (gs : List Gt) : PyData.eqv (circD n gs) (circD n gs) = true := SeqAt.eqv_refl _ (SeqAt.canLay_of_shaped (shaped_circ n gs))

theorem FnOk.ex {P : Program} {w : World} {K : PySem.W.Frag} {mg : Str → Option Value} {base : Heap} {CX : CXT} {k : Nat} {f : Addr} {fd : FuncData} {ps : List Str} {sp : Bool → Sp} (h : ∀ b, FnOk P w K mg base CX k f fd ps (sp b)) : FnOk P w K mg base CX k f fd ps (fun vs H Q E => ∃ b, sp b vs H Q E) :=
  ⟨fun vs H Q E ⟨b, q⟩ => (h b).len vs H Q E q, fun A outer s H args us vs Q E hr he hb hv ⟨b, q⟩ => (h b).run A outer s H args us vs Q E hr he hb hv q⟩
theorem okB_z_gathered {P : Program} {w : World} {K : PySem.W.Frag} {mg : Str → Option Value} {base : Heap} (T : Txt K mg) : FnOk P w K mg base CX0 4 T.f_z_gathered T.d_z_gathered ["circuit", "word"] (fun vs H Q E => ∃ b, spGath b vs H Q E) := FnOk.ex fun b => ok_z_gathered b T

theorem st_lay (s : Nat × Nat) : PyData.canLay0 (stD s) = true := by
  have h1 : PyData.canLay0 (.str "exchange") = true := by decide +kernel
  have h2 : PyData.canLay0 (.str "cancel") = true := by decide +kernel
  have h3 : PyData.canLay0 (.str "merge") = true := by decide +kernel
  have e : ∀ x : Str, PyData.canLay0 (.str x) = true → PyData.canLay0 (.tuple [.str x, .int s.2]) = true := fun x h => by
    show (PyData.canLay0 (.str x) && (true && true)) = true
    rw [h]
    rfl
  unfold stD wdOf
  split
  · exact e _ h1
  · split
    · exact e _ h2
    · exact e _ h3
theorem sts_lay : ∀ st : List (Nat × Nat), PyData.canLayAll0 (st.map stD) = true
  | [] => rfl
  | s :: r => by
    show (PyData.canLay0 (stD s) && PyData.canLayAll0 (r.map stD)) = true
    rw [sts_lay r, st_lay]
    rfl
theorem sts_deep : ∀ st : List (Nat × Nat), PyData.depthAll (st.map stD) ≤ 1
  | [] => Nat.zero_le _
  | s :: r => by
    show max (PyData.depth (stD s)) (PyData.depthAll (r.map stD)) ≤ 1
    have : PyData.depth (stD s) = 1 := rfl
    have := sts_deep r
    omega
theorem shaped_sts (st : List (Nat × Nat)) : SeqAt.shaped (.tuple (st.map stD)) = true := by
  unfold SeqAt.shaped
  rw [Bool.and_eq_true]
  refine ⟨sts_lay st, decide_eq_true ?_⟩
  show PyData.depthAll (st.map stD) + 1 ≤ 64
  have := sts_deep st
  omega
theorem sts_refl (st : List (Nat × Nat)) : PyData.eqv (.tuple (st.map stD)) (.tuple (st.map stD)) = true := SeqAt.eqv_refl _ (SeqAt.canLay_of_shaped (shaped_sts st))
def outD (n : Nat) (gs : List Gt) : PyData := .tuple [circD n gs, .int (-1)]
theorem shaped_out (n : Nat) (gs : List Gt) : SeqAt.shaped (outD n gs) = true := by
  unfold SeqAt.shaped
  rw [Bool.and_eq_true]
  refine ⟨?_, decide_eq_true ?_⟩
  · show ((true && (PyData.canLayAll0 (gs.map gtD) && true)) && (true && true)) = true
    rw [gts_lay]
    rfl
  · show max (max 0 (max (PyData.depthAll (gs.map gtD) + 1) 0) + 1) (max 0 0) + 1 ≤ 64
    have := gts_deep gs
    omega
theorem out_refl (n : Nat) (gs : List Gt) : PyData.eqv (outD n gs) (outD n gs) = true := SeqAt.eqv_refl _ (SeqAt.canLay_of_shaped (shaped_out n gs))
theorem StsV.dp {K : PySem.W.Frag} {H : Hp} {v : V} {st : List (Nat × Nat)} (h : StsV H v st) : Dp K H v (.tuple (st.map stD)) := by
  obtain ⟨a, vs, rfl, ha, hP⟩ := h
  exact .tup (SqT.of ha) (sts_rp hP).dp
theorem StepsV.same {K : PySem.W.Frag} {H : Hp} {n i : Nat} {gs : List Gt} {vs : List V} {r : Option (List Gt)} {k : Int} (h : StepsV K H n i gs vs r k) : (∀ g ∈ gs, GW n g) → ∀ gs', r = some gs' → (∀ g ∈ gs', GW n g) ∧ ∀ m, runN gs' m = runN gs m := by
  induction h with
  | done => intro hg gs' e; cases e; exact ⟨hg, fun _ => rfl⟩
  | stop _ _ => intro _ _ e; cases e
  | go _ a _ ih =>
    intro hg gs' e
    obtain ⟨w1, _, w3⟩ := stepV_same hg a
    obtain ⟨v1, v2⟩ := ih w1 gs' e
    exact ⟨v1, fun m => (v2 m).trans (w3 m)⟩
section
variable {P : Program} {w : World} {K : PySem.W.Frag} {mg : Str → Option Value} {base : Heap} {C : Addr}
set_option maxHeartbeats 8000000 in
theorem ok_law (T : Txt K mg) (TC : TxC K C) (TM : TxM K mg C) (TA : TxA K mg w T) : FnOk P w K mg base CX0 9 T.f_law T.d_law ["script"] (spLaw K) := by
  have G_z_draw := ok_z_draw (P := P) (w := w) (base := base) T
  have G_z_take := okG_z_take (P := P) (w := w) (base := base) T
  have G_z_rich := ok_z_rich (P := P) (w := w) (base := base) T
  have G_z_map := ok_z_map (P := P) (w := w) (base := base) T
  have G_z_gathered := okB_z_gathered (P := P) (w := w) (base := base) T
  have G_cancelling := ok_cancelling (P := P) (w := w) (base := base) T TC TM
  have G_merging := ok_merging (P := P) (w := w) (base := base) T TC TM
  have G_shrink := ok_shrink (P := P) (w := w) (base := base) T TC TM
  have G_apply_steps := ok_apply_steps (P := P) (w := w) (base := base) T TA
  refine T.F_law.ok sc_law (fun vs H Q E h => ?_) (fun cdv A outer s H vs Q E hr h => ?_)
  · obtain ⟨a, ns, rfl, _⟩ := h
    rfl
  · obtain ⟨a, ns, rfl, hS0, hlen, q⟩ := h
    refine ⟨_, (pss_cons (ps_set (i := 1) sc_law.nd rfl (Or.inl rfl) (pe_call G_z_draw (hr.mono (by omega)) (by rfl) T.g_z_draw T.F_z_draw.kp T.b_z_draw .nil pass0 (pa_cons (pv 0) pa_nil)))
      (pss_cons (ps_set (i := 2) sc_law.nd rfl (Or.inl rfl) (pe_call G_z_rich (hr.mono (by omega)) (by rfl) T.g_z_rich T.F_z_rich.kp T.b_z_rich .nil pass0 (pa_cons (pv 1) (pa_cons (pe_op op_add pe_int (pe_call G_z_take (hr.mono (by omega)) (by rfl) T.g_z_take T.F_z_take.kp T.b_z_take .nil pass0 (pa_cons (pv 1) (pa_cons pe_int pa_nil)))) (pa_cons pe_int pa_nil)))))
      (pss_cons (ps_set (i := 3) sc_law.nd rfl (Or.inl rfl) (pe_call G_z_map (hr.mono (by omega)) (by rfl) T.g_z_map T.F_z_map.kp T.b_z_map .nil pass0 (pa_cons (pv 2) pa_nil)))
      (pss_cons (ps_for PassesOwn.never rfl (pi_list (pe_lst (pa_cons pe_str (pa_cons pe_str pa_nil)))) (pg_name (i := 4) sc_law.nd rfl (Or.inl rfl))
        (pss_cons (ps_asg (pe_call G_z_gathered (hr.mono (by omega)) (by rfl) T.g_z_gathered T.F_z_gathered.kp T.b_z_gathered .nil pass0 (pa_cons (pv 2) (pa_cons (pv 4) pa_nil))) (pg_tup (by rfl) (pgs_cons (pg_name (i := 5) sc_law.nd rfl (Or.inl rfl)) (pgs_cons (pg_name (i := 6) sc_law.nd rfl (Or.inl rfl)) pgs_nil))))
        (pss_cons (ps_set (i := 7) sc_law.nd rfl (Or.inl rfl) (pe_cut (pe_ifExp (pt_cmpR op_eq (pv 4) pe_str (nomark _)) (pe_call G_cancelling (hr.mono (by omega)) (by rfl) T.g_cancelling T.F_cancelling.kp T.b_cancelling .nil pass0 (pa_cons (pv 2) pa_nil)) (pe_call G_merging (hr.mono (by omega)) (by rfl) T.g_merging T.F_merging.kp T.b_merging .nil pass0 (pa_cons (pv 2) pa_nil)))))
        (pss_one (ps_if (PW.pt (pw_or (pt_cmpR (op_neD hr.units) (pv 7) (pv 5) (nomark _)) (pw_or1 (pt_cmpR (op_neD hr.units) (pe_call G_apply_steps (hr.mono (by omega)) (by rfl) T.g_apply_steps T.F_apply_steps.kp T.b_apply_steps .nil pass0 (pa_cons (pv 2) (pa_cons (pv 5) pa_nil))) (pe_tup (pa_cons (pv 6) (pa_cons (pe_un un_neg pe_int) pa_nil))) (nomark _)))))
          (pss_one (ps_ret pe_bl))
          pss_nil)))))
      (pss_cons (ps_set (i := 8) sc_law.nd rfl (Or.inl rfl) (pe_tup pa_nil))
      (pss_cons (ps_set (i := 9) sc_law.nd rfl (Or.inl rfl) (pv 2))
      (pss_cons (ps_for PassesOwn.never rfl (pi_range1 (by rfl) T.m_range (pa_cons pe_int pa_nil)) (pg_name (i := 10) sc_law.nd rfl (Or.inl rfl))
        (pss_cons (ps_set (i := 11) sc_law.nd rfl (Or.inl rfl) (pe_callB call_len_seq (by rfl) T.m_len (by decide +kernel) (pa_cons (pv 8) pa_nil)))
        (pss_cons (ps_for PassesOwn.never rfl (pi_list (pe_lst (pa_cons pe_str (pa_cons pe_str pa_nil)))) (pg_name (i := 4) sc_law.nd rfl (Or.inl rfl))
          (pss_cons (ps_asg (pe_call G_z_gathered (hr.mono (by omega)) (by rfl) T.g_z_gathered T.F_z_gathered.kp T.b_z_gathered .nil pass0 (pa_cons (pv 9) (pa_cons (pv 4) pa_nil))) (pg_tup (by rfl) (pgs_cons (pg_name (i := 5) sc_law.nd rfl (Or.inl rfl)) (pgs_cons (pg_name (i := 9) sc_law.nd rfl (Or.inl rfl)) pgs_nil))))
          (pss_one (ps_set (i := 8) sc_law.nd rfl (Or.inl rfl) (pe_cut (pe_op op_catA (pv 8) (pv 5)))))))
        (pss_one (ps_if (pt_cmpR op_eq (pe_callB call_len_seq (by rfl) T.m_len (by decide +kernel) (pa_cons (pv 8) pa_nil)) (pv 11) (nomark _))
          (pss_one ps_break)
          pss_nil)))))
      (pss_cons (ps_asg (pe_call G_shrink (hr.mono (by omega)) (by rfl) T.g_shrink T.F_shrink.kp T.b_shrink .nil pass0 (pa_cons (pv 2) pa_nil)) (pg_tup (by rfl) (pgs_cons (pg_name (i := 12) sc_law.nd rfl (Or.inl rfl)) (pgs_cons (pg_name (i := 5) sc_law.nd rfl (Or.inl rfl)) pgs_nil))))
      (pss_cons (ps_if (PW.pt (pw_or (pt_cmpR (op_neD hr.units) (pv 12) (pv 9) (nomark _)) (pw_or (pt_cmpR (op_neD hr.units) (pv 5) (pv 8) (nomark _)) (pw_or (pt_cmpR (op_neD hr.units) (pe_call G_apply_steps (hr.mono (by omega)) (by rfl) T.g_apply_steps T.F_apply_steps.kp T.b_apply_steps .nil pass0 (pa_cons (pv 2) (pa_cons (pv 5) pa_nil))) (pe_tup (pa_cons (pv 12) (pa_cons (pe_un un_neg pe_int) pa_nil))) (nomark _)) (pw_or1 (pt_cmpR op_gt (pe_callB call_len_seq (by rfl) T.m_len (by decide +kernel) (pa_cons (pe_ix ix_tup (pv 12) pe_int (fun _ _ => rfl)) pa_nil)) (pe_callB call_len_seq (by rfl) T.m_len (by decide +kernel) (pa_cons (pe_ix ix_tup (pv 2) pe_int (fun _ _ => rfl)) pa_nil)) (nomark _)))))))
        (pss_one (ps_ret pe_bl))
        pss_nil)
      (pss_one (ps_ret (pe_and (pe_cmpR (op_eqD hr.units) (pe_call G_z_map (hr.mono (by omega)) (by rfl) T.g_z_map T.F_z_map.kp T.b_z_map .nil pass0 (pa_cons (pv 12) pa_nil)) (pv 3) (nomark _)) (pe_and (pe_cmpR (op_eqD hr.units) (pe_call G_cancelling (hr.mono (by omega)) (by rfl) T.g_cancelling T.F_cancelling.kp T.b_cancelling .nil pass0 (pa_cons (pv 12) pa_nil)) (pe_tup pa_nil) (nomark _)) (pe_one (pe_cmpR (op_eqD hr.units) (pe_call G_merging (hr.mono (by omega)) (by rfl) T.g_merging T.F_merging.kp T.b_merging .nil pass0 (pa_cons (pv 12) pa_nil)) (pe_tup pa_nil) (nomark _)))))))))))))))), ?_⟩
    refine ⟨_, rfl, a, ns, rfl, hS0, hlen, fun H1 dr sm ndr D => ?_⟩
    refine ⟨_, rfl, _, rfl, dr, 5, rfl, D, by decide, by decide, fun r H2 r0 r1 g2 => ?_⟩
    obtain ⟨m, rfl⟩ := int_nat r0
    refine ⟨_, _, rfl, rfl, ?_⟩
    obtain ⟨n, enn, n1, n5⟩ : ∃ n : Nat, 1 + m = n ∧ 1 ≤ n ∧ n ≤ 5 := ⟨1 + m, rfl, by omega, by omega⟩
    have en : V.int ((1 : Int) + (m : Int)) = V.int (n : Int) := by
      rw [← enn, show (1 : Int) + m = ((1 + m : Nat) : Int) by omega]
    refine ⟨dr, n, 9, ?_, g2.d, n1, by omega, by decide, fun ct H3 gs g3 hC hgw hln => ?_⟩
    · show [V.ref dr, V.int ((1 : Int) + (m : Int)), V.int 9] = _
      rw [en]
      rfl
    obtain ⟨cu, gvs, hct, hcu, hP⟩ := id hC
    refine ⟨_, rfl, ct, cu, n, gvs, gs, rfl, hct, hcu, hP, hgw, by omega, fun om H4 k4 hom => ?_⟩
    have hC4 := hC.keep k4
    clear hct hcu hP
    refine ⟨sz2, fun wl nwl => ⟨wl, rfl, ⟨_, SqL.of upd_same⟩, ?_⟩⟩
    have kwl := KT.new [] nwl (o := .lst [.str "cancel", .str "merge"])
    have hwl : (upd H4 wl (.lst [.str "cancel", .str "merge"])) wl = some (.lst [.str "cancel", .str "merge"]) := upd_same
    generalize upd H4 wl (.lst [.str "cancel", .str "merge"]) = H5 at kwl hwl ⊢
    have word : ∀ {i : Nat} {x : V}, ([.str "cancel", .str "merge"] : List V)[i]? = some x → ∃ b : Bool, x = .str (wdOf (tagG b)) ∧ (i = 0 → b = true) ∧ (i = 1 → b = false) ∧ i < 2 := fun {i x} h => by
      match i, h with
      | 0, h => cases h; exact ⟨true, rfl, fun _ => rfl, fun z => by omega, by omega⟩
      | 1, h => cases h; exact ⟨false, rfl, fun z => by omega, fun _ => rfl, by omega⟩
    refine for_list (K := K) (a := wl) (xs := [.str "cancel", .str "merge"]) (fun i σ H' => ∃ (x4 x5 x6 x7 : Option V), σ = [some (.ref a), some (.ref dr), some (.ref ct), some (.ref om), x4, x5, x6, x7, none, none, none, none, none] ∧ KT [] H5 H') ⟨none, none, none, none, rfl, .refl _ _⟩ ?_ ?_ ?_
    · rintro i σ H' _ ⟨_, _, _, _, _, k⟩
      exact SqL.of (k.same _ _ hwl)
    · rintro i x σ H6 hx ⟨x4, x5, x6, x7, rfl, k6⟩
      obtain ⟨b, rfl, _⟩ := word hx
      have hC6 := (hC4.keep kwl).keep k6
      refine ⟨_, rfl, _, rfl, b, ct, n, gs, rfl, hC6, hgw, by omega, by omega, fun r s c H7 st gs' k7 hr hs hc ga => ?_⟩
      refine ⟨r, _, rfl, SqT.of hr, rfl, _, _, rfl, _, _, rfl, rfl, ?_⟩
      have hC7 := hC6.keep k7
      refine ⟨fun v H' => ∃ st' gs2, KT [] H7 H' ∧ StsV H' v st' ∧ Gath b gs st' gs2, ?_, ?_⟩
      · cases b with
        | true => exact ⟨_, rfl, rfl, _, rfl, ite_t (dstr_eq rfl) ⟨_, rfl, ct, n, gs, rfl, hC7, hgw, by omega, by omega, fun v H' st' gs2 k h g => ⟨st', gs2, k, h, g⟩⟩⟩
        | false => exact ⟨_, rfl, rfl, _, rfl, ite_f (dstr_ne (by decide +kernel)) ⟨_, rfl, ct, n, gs, rfl, hC7, hgw, by omega, by omega, fun v H' st' gs2 k h g => ⟨st', gs2, k, h, g⟩⟩⟩
      rintro v H8 ⟨st', gs2, k8, hv, ga2⟩
      obtain ⟨e1, e2⟩ := ga.uniq ga2
      subst e1 e2
      have hs8 := hs.keep k8
      refine ⟨_, rfl, _, rfl, _, _, hv.dp, hs8.dp, shaped_sts _, shaped_sts _, _, rfl, ?_⟩
      rw [sts_refl]
      refine ite_f (by decide) ?_
      obtain ⟨sa, svs, rfl, hsa, hPs⟩ := id hs8
      refine ⟨_, rfl, _, rfl, ct, sa, n, gs, svs, _, some gs', -1, rfl, hC7.keep k8, hgw, by omega, SqT.of hsa, .tup (SqT.of hsa) (sts_rp hPs), StsV.steps hPs (by omega) ga.ap, fun t u H9 k9 ht hu => ?_⟩
      obtain ⟨ub, rfl, hub⟩ := (show ∃ t, u = .ref t ∧ CircAt H9 t n gs' from hu)
      refine ⟨_, rfl, _, rfl, sz2, fun p np => ?_⟩
      have kp := KT.new [] np (o := .tup [.ref c, .int (-1)])
      refine ⟨outD n gs', outD n gs', .tup (SqT.of (kp.tp _ _ ht)) (.cons (hub.keep kp).rp.dp (.cons (.int _) .nil)), .tup (SqT.of upd_same) (.cons ((hc.keep k8).keep (k9.trans kp)).rp.dp (.cons (.int _) .nil)), shaped_out _ _, shaped_out _ _, _, rfl, ?_⟩
      rw [out_refl]
      exact ite_f (by decide) ⟨_, _, _, _, rfl, (((k6.trans k7).trans k8).trans k9).trans kp⟩
    rintro σ H6 ⟨x4, x5, x6, x7, rfl, k6⟩
    -- the passes turn by turn
    refine ⟨Nat.zero_le _, fun d0 nd0 => ?_⟩
    have kd0 := KT.new [] nd0 (o := .tup [])
    have hd0 : StsV (upd H6 d0 (.tup [])) (.ref d0) [] := ⟨d0, [], rfl, upd_same, .nil⟩
    have k7 := (kwl.trans k6).trans kd0
    generalize upd H6 d0 (.tup []) = H7 at kd0 hd0 k7 ⊢
    refine ⟨_, rfl, 40, rfl, by decide, by decide, ?_⟩
    refine for_range (n := 40) (fun i σ H' => ∃ (x4 x5 x10 x11 : Option V) (v : V) (c : Addr) (gs1 : List Gt) (st1 : List (Nat × Nat)), σ = [some (.ref a), some (.ref dr), some (.ref ct), some (.ref om), x4, x5, x6, x7, some v, some (.ref c), x10, x11, none] ∧ KT [] H4 H' ∧ CircAt H' c n gs1 ∧ StsV H' v st1 ∧ (∀ g ∈ gs1, GW n g) ∧ gs1.length + i ≤ gs.length ∧ st1.length + gs1.length * 900 ≤ 810000 ∧ ∀ st2 gs2, Shr gs1 st2 gs2 → Shr gs (st1 ++ st2) gs2) ?_ ?_ ?_
    · exact ⟨x4, x5, none, none, .ref d0, ct, gs, [], rfl, k7, hC4.keep k7, hd0, hgw, Nat.le_refl _, by show 0 + _ ≤ _; omega, fun _ _ h => h⟩
    · rintro i σ H8 hi ⟨x4, x5, x10, x11, v, c, gs1, st1, rfl, k8, hc8, hv8, hg1, hl1, sl1, sh1⟩
      rw [Int.zero_add]
      obtain ⟨va, vvs, rfl, hva, hPv⟩ := id hv8
      refine ⟨_, rfl, va, vvs, rfl, .inr (SqT.of hva), ?_⟩
      rw [hPv.len]
      refine ⟨sz2, fun w2 nw2 => ⟨w2, rfl, ⟨_, SqL.of upd_same⟩, ?_⟩⟩
      have kw2 := KT.new [] nw2 (o := .lst [.str "cancel", .str "merge"])
      have hw2 : (upd H8 w2 (.lst [.str "cancel", .str "merge"])) w2 = some (.lst [.str "cancel", .str "merge"]) := upd_same
      have hc9 := hc8.keep kw2
      have hv9 := hv8.keep kw2
      generalize upd H8 w2 (.lst [.str "cancel", .str "merge"]) = H9 at kw2 hw2 hc9 hv9 ⊢
      refine for_list (K := K) (a := w2) (xs := [.str "cancel", .str "merge"]) (fun j σ H' => ∃ (x4 x5 : Option V) (v : V) (c : Addr) (g3 : List Gt) (st3 : List (Nat × Nat)), σ = [some (.ref a), some (.ref dr), some (.ref ct), some (.ref om), x4, x5, x6, x7, some v, some (.ref c), some (.int (i : Nat)), some (.int (st1.length : Nat)), none] ∧ KT [] H9 H' ∧ CircAt H' c n g3 ∧ StsV H' v (st1 ++ st3) ∧
        ((j = 0 ∧ g3 = gs1 ∧ st3 = []) ∨ (j = 1 ∧ Gath true gs1 st3 g3) ∨ (j = 2 ∧ ∃ cc mm g2, st3 = cc ++ mm ∧ Gath true gs1 cc g2 ∧ Gath false g2 mm g3))) ?_ ?_ ?_ ?_
      · exact ⟨x4, x5, .ref va, c, gs1, [], rfl, .refl _ _, hc9, by rw [List.append_nil]; exact hv9, .inl ⟨rfl, rfl, rfl⟩⟩
      · rintro j σ H' _ ⟨_, _, _, _, _, _, _, k, _⟩
        exact SqL.of (k.same _ _ hw2)
      · rintro j x σ H10 hx ⟨x4, x5, v, c, g3, st3, rfl, k10, hc10, hv10, hj⟩
        obtain ⟨b, rfl, b0, b1, j2⟩ := word hx
        have hg3 : (∀ g ∈ g3, GW n g) ∧ g3.length ≤ gs1.length ∧ st3.length + g3.length * 900 ≤ gs1.length * 900 := by
          rcases hj with ⟨_, rfl, rfl⟩ | ⟨_, h⟩ | ⟨z, _⟩
          · exact ⟨hg1, Nat.le_refl _, by show 0 + _ ≤ _; omega⟩
          · exact ⟨h.gw hg1, h.len.1, by have := h.stl; omega⟩
          · omega
        refine ⟨_, rfl, _, rfl, b, c, n, g3, rfl, hc10, hg3.1, by omega, by omega, fun r s c2 H11 st4 g4 k11 hr hs hc2 ga4 => ?_⟩
        refine ⟨r, _, rfl, SqT.of hr, rfl, _, _, rfl, _, _, rfl, rfl, ?_⟩
        have s4 := ga4.stl
        refine ⟨fun v H' => KT [] H11 H' ∧ StsV H' v ((st1 ++ st3) ++ st4), ⟨_, rfl, _, rfl, cat_s (hv10.keep k11) hs (by rw [List.length_append]; omega) fun v H' k h => ⟨k, h⟩⟩, ?_⟩
        rintro v2 H12 ⟨k12, hv12⟩
        rw [List.append_assoc] at hv12
        refine ⟨_, _, v2, c2, g4, _, rfl, (k10.trans k11).trans k12, hc2.keep k12, hv12, ?_⟩
        rcases hj with ⟨z, rfl, rfl⟩ | ⟨z, h⟩ | ⟨z, _⟩
        · rw [b0 z] at ga4
          exact .inr (.inl ⟨by omega, ga4⟩)
        · rw [b1 z] at ga4
          exact .inr (.inr ⟨by omega, _, _, _, rfl, h, ga4⟩)
        · omega
      rintro σ H10 ⟨x4', x5', v, c2, g3, st3, rfl, k10, hc10, hv10, hj⟩
      rcases hj with ⟨z, _⟩ | ⟨z, _⟩ | ⟨_, cc, mm, g2, e3, ga2, ga3⟩
      · cases z
      · cases z
      subst e3
      obtain ⟨va2, vvs2, rfl, hva2, hPv2⟩ := id hv10
      refine ⟨_, rfl, va2, vvs2, rfl, .inr (SqT.of hva2), _, rfl, rfl, _, rfl, ?_⟩
      rw [hPv2.len]
      have hl2 := ga2.len
      have hl3 := ga3.len
      have s2 := ga2.stl
      have s3 := ga3.stl
      have hg3 := ga3.gw (ga2.gw hg1)
      by_cases c1 : cc ++ mm = []
      case neg =>
        refine ite_f (not_bl (decide_eq_false fun z => ?_)) ?_
        · have := V.int.inj z
          rw [List.length_append] at this
          exact c1 (List.eq_nil_of_length_eq_zero (by omega))
        · refine ⟨_, _, _, _, .ref va2, c2, g3, _, rfl, (k8.trans kw2).trans k10, hc10, hv10, hg3, ?_, by rw [List.length_append, List.length_append]; omega, fun st4 gs4 h => ?_⟩
          · rcases Classical.em (cc = []) with z | z
            · have : mm ≠ [] := fun y => c1 (by rw [z, y]; rfl)
              have := hl3.2 this
              omega
            · have := hl2.2 z
              omega
          · rw [List.append_assoc]
            exact sh1 _ _ (.turn ga2 ga3 c1 h)
      obtain ⟨z1, z2⟩ := List.append_eq_nil_iff.mp c1
      subst z1 z2
      obtain ⟨e2, no2⟩ := ga2.nil
      obtain ⟨e3, no3⟩ := ga3.nil
      subst e2
      subst e3
      refine ite_t (decide_eq_true (by rw [List.append_nil, List.append_nil])) ?_
      rw [List.append_nil, List.append_nil] at hv10
      have shr := sh1 [] g3 (.stop no2 no3)
      rw [List.append_nil] at shr
      have k40 := (k8.trans kw2).trans k10
      -- shrink
      have hC10 := hC4.keep k40
      refine ⟨_, rfl, ct, n, gs, rfl, hC10, hgw, by omega, by omega, fun v5 H11 st5 gs5 k11 ⟨r, fc, fs, e, hr, hfc, hfs⟩ shr2 => ?_⟩
      subst e
      obtain ⟨e1, e2⟩ := shr.uniq shr2
      subst e1 e2
      refine ⟨r, _, rfl, SqT.of hr, rfl, _, _, rfl, _, _, rfl, rfl, ?_⟩
      refine ⟨_, rfl, _, rfl, circD n g3, circD n g3, hfc.rp.dp, (hc10.keep k11).rp.dp, shaped_circ _ _, shaped_circ _ _, _, rfl, ?_⟩
      rw [circ_refl]
      refine ite_f (by decide) ?_
      refine ⟨_, rfl, _, rfl, _, _, hfs.dp, (hv10.keep k11).dp, shaped_sts _, shaped_sts _, _, rfl, ?_⟩
      rw [sts_refl]
      refine ite_f (by decide) ?_
      obtain ⟨sa, svs, rfl, hsa, hPs⟩ := id hfs
      have stps := StsV.steps (K := K) (n := n) (i := 0) hPs (by omega : gs.length ≤ 100) shr.ap
      refine ⟨_, rfl, _, rfl, ct, sa, n, gs, svs, _, some g3, -1, rfl, hC10.keep k11, hgw, by omega, SqT.of hsa, .tup (SqT.of hsa) (sts_rp hPs), stps, fun t u H12 k12 ht hu => ?_⟩
      obtain ⟨ub, rfl, hub⟩ := (show ∃ t, u = .ref t ∧ CircAt H12 t n g3 from hu)
      refine ⟨_, rfl, _, rfl, sz2, fun p np => ?_⟩
      have kp := KT.new [] np (o := .tup [.ref fc, .int (-1)])
      refine ⟨outD n g3, outD n g3, .tup (SqT.of (kp.tp _ _ ht)) (.cons (hub.keep kp).rp.dp (.cons (.int _) .nil)), .tup (SqT.of upd_same) (.cons (hfc.keep (k12.trans kp)).rp.dp (.cons (.int _) .nil)), shaped_out _ _, shaped_out _ _, _, rfl, ?_⟩
      rw [out_refl]
      refine ite_f (by decide) ?_
      have k13 := (k11.trans k12).trans kp
      have hF := hfc.keep (k12.trans kp)
      have hC13 := hC10.keep k13
      have k4_13 := k40.trans k13
      generalize upd H12 p (.tup [.ref fc, .int (-1)]) = H13 at k13 hF hC13 k4_13 ⊢
      obtain ⟨fu, fvs, hf1, hf2, hfP⟩ := id hF
      obtain ⟨cu, gvs, hct, hcu, hP⟩ := id hC13
      refine ⟨_, rfl, fc, _, _, _, rfl, rfl, SqT.of hf1, rfl, fu, fvs, rfl, .inr (SqT.of hf2), _, rfl, ct, _, _, _, rfl, rfl, SqT.of hct, rfl, cu, gvs, rfl, .inr (SqT.of hcu), _, _, rfl, rfl, _, rfl, ?_⟩
      rw [hfP.len, hP.len]
      refine ite_f (not_bl (decide_eq_false ?_)) ?_
      · have := shr.len
        omega
      have hg3' := (stps.same hgw g3 rfl)
      refine ⟨_, rfl, fc, fu, n, fvs, g3, rfl, hf1, hf2, hfP, hg3, by omega, fun om2 H14 k14 hom2 => ?_⟩
      have e : (List.range (2 ^ n)).map (runN g3) = (List.range (2 ^ n)).map (runN gs) := List.map_congr_left fun x _ => hg3'.2 x
      rw [e] at hom2
      have hom14 := (k4_13.trans k14).same _ _ hom
      refine ⟨_, rfl, .list ((((List.range (2 ^ n)).map (runN gs)).map fun (x : Nat) => (x : Int)).map PyData.int), .list ((((List.range (2 ^ n)).map (runN gs)).map fun (x : Nat) => (x : Int)).map PyData.int), .lst (SqL.of hom2) (by rw [ivs_int]; exact dp_ints _), .lst (SqL.of hom14) (by rw [ivs_int]; exact dp_ints _), shaped_ints _, shaped_ints _, _, rfl, ?_⟩
      rw [SeqAt.eqv_refl _ (SeqAt.canLay_of_shaped (shaped_ints _))]
      refine ite_t rfl ?_
      have hF14 := hF.keep k14
      refine ⟨_, rfl, fc, n, g3, rfl, hF14, hg3, by omega, by omega, fun v6 H15 st6 gs6 k15 hs6 ga6 => ?_⟩
      obtain ⟨e6, _⟩ := ga6.uniq (.done shr.last.1)
      subst e6
      refine ⟨Nat.zero_le _, fun t1 nt1 => ?_⟩
      have kt1 := KT.new [] nt1 (o := .tup [])
      refine ⟨.tuple [], .tuple [], (hs6.keep kt1).dp, .tup (SqT.of upd_same) .nil, shaped_nilT, shaped_nilT, _, rfl, ite_t rfl ?_⟩
      refine ⟨_, rfl, fc, n, g3, rfl, (hF14.keep k15).keep kt1, hg3, by omega, by omega, fun v7 H16 st7 gs7 k16 hs7 ga7 => ?_⟩
      obtain ⟨e7, _⟩ := ga7.uniq (.done shr.last.2)
      subst e7
      refine ⟨Nat.zero_le _, fun t2 nt2 => ?_⟩
      have kt2 := KT.new [] nt2 (o := .tup [])
      refine ⟨.tuple [], .tuple [], (hs7.keep kt2).dp, .tup (SqT.of upd_same) .nil, shaped_nilT, shaped_nilT, ?_⟩
      exact q _
    · rintro σ H8 ⟨x4, x5, x10, x11, v, c, gs1, st1, rfl, k8, hc8, hv8, hg1, hl1, _⟩
      omega
end

end My

set_option Elab.async false
set_option linter.all false
set_option maxRecDepth 100000
namespace My
open PySem PySem.Spec PyProof.Rows L2
set_option maxHeartbeats 8000000 in
set_option maxHeartbeats 8000000 in
theorem all_mk {l : PySem.W.OpenLaw} {w : World} {K : PySem.W.Frag} {h : Heap} {mg : Str → Option Value} {fa : Addr} (X : K.In h) (G : h.Ns mainGlobals mg) (hfa : mg "law" = some (.ref fa))
    {f0 : Addr} {od0 an0 : Option Addr} {sl0 : Array (Option Value)} {oc0 kV0 dc0 pm0 cd0 ct0 : Value}
    {f1 : Addr} {od1 an1 : Option Addr} {sl1 : Array (Option Value)} {oc1 kV1 dc1 pm1 cd1 ct1 : Value}
    {f2 : Addr} {od2 an2 : Option Addr} {sl2 : Array (Option Value)} {oc2 kV2 dc2 pm2 cd2 ct2 : Value}
    {f3 : Addr} {od3 an3 : Option Addr} {sl3 : Array (Option Value)} {oc3 kV3 dc3 pm3 cd3 ct3 : Value}
    {f4 : Addr} {od4 an4 : Option Addr} {sl4 : Array (Option Value)} {oc4 kV4 dc4 pm4 cd4 ct4 : Value}
    {f5 : Addr} {od5 an5 : Option Addr} {sl5 : Array (Option Value)} {oc5 kV5 dc5 pm5 cd5 ct5 : Value}
    {f6 : Addr} {od6 an6 : Option Addr} {sl6 : Array (Option Value)} {oc6 kV6 dc6 pm6 cd6 ct6 : Value}
    {f7 : Addr} {od7 an7 : Option Addr} {sl7 : Array (Option Value)} {oc7 kV7 dc7 pm7 cd7 ct7 : Value}
    {f8 : Addr} {od8 an8 : Option Addr} {sl8 : Array (Option Value)} {oc8 kV8 dc8 pm8 cd8 ct8 : Value}
    {f9 : Addr} {od9 an9 : Option Addr} {sl9 : Array (Option Value)} {oc9 kV9 dc9 pm9 cd9 ct9 : Value}
    {f10 : Addr} {od10 an10 : Option Addr} {sl10 : Array (Option Value)} {oc10 kV10 dc10 pm10 cd10 ct10 : Value}
    {f11 : Addr} {od11 an11 : Option Addr} {sl11 : Array (Option Value)} {oc11 kV11 dc11 pm11 cd11 ct11 : Value}
    {f12 : Addr} {od12 an12 : Option Addr} {sl12 : Array (Option Value)} {oc12 kV12 dc12 pm12 cd12 ct12 : Value}
    {f13 : Addr} {od13 an13 : Option Addr} {sl13 : Array (Option Value)} {oc13 kV13 dc13 pm13 cd13 ct13 : Value}
    {f14 : Addr} {od14 an14 : Option Addr} {sl14 : Array (Option Value)} {oc14 kV14 dc14 pm14 cd14 ct14 : Value}
    {f15 : Addr} {od15 an15 : Option Addr} {sl15 : Array (Option Value)} {oc15 kV15 dc15 pm15 cd15 ct15 : Value}
    {f16 : Addr} {od16 an16 : Option Addr} {sl16 : Array (Option Value)} {oc16 kV16 dc16 pm16 cd16 ct16 : Value}
    {f17 : Addr} {od17 an17 : Option Addr} {sl17 : Array (Option Value)} {oc17 kV17 dc17 pm17 cd17 ct17 : Value}
    {f18 : Addr} {od18 an18 : Option Addr} {sl18 : Array (Option Value)} {oc18 kV18 dc18 pm18 cd18 ct18 : Value}
    {f19 : Addr} {od19 an19 : Option Addr} {sl19 : Array (Option Value)} {oc19 kV19 dc19 pm19 cd19 ct19 : Value}
    {f20 : Addr} {od20 an20 : Option Addr} {sl20 : Array (Option Value)} {oc20 kV20 dc20 pm20 cd20 ct20 : Value}
    {f21 : Addr} {od21 an21 : Option Addr} {sl21 : Array (Option Value)} {oc21 kV21 dc21 pm21 cd21 ct21 : Value}
    {f22 : Addr} {od22 an22 : Option Addr} {sl22 : Array (Option Value)} {oc22 kV22 dc22 pm22 cd22 ct22 : Value}
    {f23 : Addr} {od23 an23 : Option Addr} {sl23 : Array (Option Value)} {oc23 kV23 dc23 pm23 cd23 ct23 : Value}
    {f24 : Addr} {od24 an24 : Option Addr} {sl24 : Array (Option Value)} {oc24 kV24 dc24 pm24 cd24 ct24 : Value}
    {f25 : Addr} {od25 an25 : Option Addr} {sl25 : Array (Option Value)} {oc25 kV25 dc25 pm25 cd25 ct25 : Value}
    {f26 : Addr} {od26 an26 : Option Addr} {sl26 : Array (Option Value)} {oc26 kV26 dc26 pm26 cd26 ct26 : Value}
    {f27 : Addr} {od27 an27 : Option Addr} {sl27 : Array (Option Value)} {oc27 kV27 dc27 pm27 cd27 ct27 : Value}
    {f28 : Addr} {od28 an28 : Option Addr} {sl28 : Array (Option Value)} {oc28 kV28 dc28 pm28 cd28 ct28 : Value}
    {f29 : Addr} {od29 an29 : Option Addr} {sl29 : Array (Option Value)} {oc29 kV29 dc29 pm29 cd29 ct29 : Value}
    {f30 : Addr} {od30 an30 : Option Addr} {sl30 : Array (Option Value)} {oc30 kV30 dc30 pm30 cd30 ct30 : Value}
    {f31 : Addr} {od31 an31 : Option Addr} {sl31 : Array (Option Value)} {oc31 kV31 dc31 pm31 cd31 ct31 : Value}
    {f32 : Addr} {od32 an32 : Option Addr} {sl32 : Array (Option Value)} {oc32 kV32 dc32 pm32 cd32 ct32 : Value}
    {f33 : Addr} {od33 an33 : Option Addr} {sl33 : Array (Option Value)} {oc33 kV33 dc33 pm33 cd33 ct33 : Value}
    {f34 : Addr} {od34 an34 : Option Addr} {sl34 : Array (Option Value)} {oc34 kV34 dc34 pm34 cd34 ct34 : Value}
    {f35 : Addr} {od35 an35 : Option Addr} {sl35 : Array (Option Value)} {oc35 kV35 dc35 pm35 cd35 ct35 : Value}
    {f36 : Addr} {od36 an36 : Option Addr} {sl36 : Array (Option Value)} {oc36 kV36 dc36 pm36 cd36 ct36 : Value}
    {f37 : Addr} {od37 an37 : Option Addr} {sl37 : Array (Option Value)} {oc37 kV37 dc37 pm37 cd37 ct37 : Value}
    {f38 : Addr} {od38 an38 : Option Addr} {sl38 : Array (Option Value)} {oc38 kV38 dc38 pm38 cd38 ct38 : Value}
    {f39 : Addr} {od39 an39 : Option Addr} {sl39 : Array (Option Value)} {oc39 kV39 dc39 pm39 cd39 ct39 : Value}
    {f40 : Addr} {od40 an40 : Option Addr} {sl40 : Array (Option Value)} {oc40 kV40 dc40 pm40 cd40 ct40 : Value}
    {f41 : Addr} {od41 an41 : Option Addr} {sl41 : Array (Option Value)} {oc41 kV41 dc41 pm41 cd41 ct41 : Value}
    {f42 : Addr} {od42 an42 : Option Addr} {sl42 : Array (Option Value)} {oc42 kV42 dc42 pm42 cd42 ct42 : Value}
    {f43 : Addr} {od43 an43 : Option Addr} {sl43 : Array (Option Value)} {oc43 kV43 dc43 pm43 cd43 ct43 : Value}
    {f44 : Addr} {od44 an44 : Option Addr} {sl44 : Array (Option Value)} {oc44 kV44 dc44 pm44 cd44 ct44 : Value}
    {f45 : Addr} {od45 an45 : Option Addr} {sl45 : Array (Option Value)} {oc45 kV45 dc45 pm45 cd45 ct45 : Value}
    {f46 : Addr} {od46 an46 : Option Addr} {sl46 : Array (Option Value)} {oc46 kV46 dc46 pm46 cd46 ct46 : Value}
    {f47 : Addr} {od47 an47 : Option Addr} {sl47 : Array (Option Value)} {oc47 kV47 dc47 pm47 cd47 ct47 : Value}
    {f48 : Addr} {od48 an48 : Option Addr} {sl48 : Array (Option Value)} {oc48 kV48 dc48 pm48 cd48 ct48 : Value}
    {f49 : Addr} {od49 an49 : Option Addr} {sl49 : Array (Option Value)} {oc49 kV49 dc49 pm49 cd49 ct49 : Value}
    {C : Addr} (aC : PySem.W.nsIn K mainGlobals "Search" = some (some (.ref C))) (pg : PySem.W.plainGet K C Str.empty = true) (hd : PySem.W.hasDictIn K C = true) (po : PySem.W.plainOver K C = true) (sa : PySem.W.findIn K (.ref C) "__setattr__" = some (some (.builtin "object.__setattr__"))) (mks : PySem.W.makesIn K C = true) (kc : PySem.W.keepIn K (.ref C) = true)
    (n0 : PySem.W.findIn K (.ref C) "wires" = some none) (n1 : PySem.W.findIn K (.ref C) "word" = some none) (n2 : PySem.W.findIn K (.ref C) "gates" = some none) (n3 : PySem.W.findIn K (.ref C) "floors" = some none) (n4 : PySem.W.findIn K (.ref C) "partners" = some none) (n5 : PySem.W.findIn K (.ref C) "steps" = some none)
    (a0 : PySem.W.nsIn K mainGlobals "is_whole" = some (some (.ref f0))) (l0 : K.lookup f0 = some ⟨oc0, od0, .func (PySem.W.fnOf "is_whole" "is_whole" (defArgs s_is_whole) (defBody s_is_whole) (defScope s_is_whole) .none kV0 dc0 pm0 an0 cd0 ct0), sl0⟩) (c0 : PySem.W.codeIn K cd0 "is_whole" = true) (k0 : PySem.W.keepIn K (.ref f0) = true)
    (a1 : PySem.W.nsIn K mainGlobals "is_integer" = some (some (.ref f1))) (l1 : K.lookup f1 = some ⟨oc1, od1, .func (PySem.W.fnOf "is_integer" "is_integer" (defArgs s_is_integer) (defBody s_is_integer) (defScope s_is_integer) .none kV1 dc1 pm1 an1 cd1 ct1), sl1⟩) (c1 : PySem.W.codeIn K cd1 "is_integer" = true) (k1 : PySem.W.keepIn K (.ref f1) = true)
    (a2 : PySem.W.nsIn K mainGlobals "is_count" = some (some (.ref f2))) (l2 : K.lookup f2 = some ⟨oc2, od2, .func (PySem.W.fnOf "is_count" "is_count" (defArgs s_is_count) (defBody s_is_count) (defScope s_is_count) .none kV2 dc2 pm2 an2 cd2 ct2), sl2⟩) (c2 : PySem.W.codeIn K cd2 "is_count" = true) (k2 : PySem.W.keepIn K (.ref f2) = true)
    (a3 : PySem.W.nsIn K mainGlobals "begins_with_word" = some (some (.ref f3))) (l3 : K.lookup f3 = some ⟨oc3, od3, .func (PySem.W.fnOf "begins_with_word" "begins_with_word" (defArgs s_begins_with_word) (defBody s_begins_with_word) (defScope s_begins_with_word) .none kV3 dc3 pm3 an3 cd3 ct3), sl3⟩) (c3 : PySem.W.codeIn K cd3 "begins_with_word" = true) (k3 : PySem.W.keepIn K (.ref f3) = true)
    (a4 : PySem.W.nsIn K mainGlobals "is_pair" = some (some (.ref f4))) (l4 : K.lookup f4 = some ⟨oc4, od4, .func (PySem.W.fnOf "is_pair" "is_pair" (defArgs s_is_pair) (defBody s_is_pair) (defScope s_is_pair) .none kV4 dc4 pm4 an4 cd4 ct4), sl4⟩) (c4 : PySem.W.codeIn K cd4 "is_pair" = true) (k4 : PySem.W.keepIn K (.ref f4) = true)
    (a5 : PySem.W.nsIn K mainGlobals "is_control" = some (some (.ref f5))) (l5 : K.lookup f5 = some ⟨oc5, od5, .func (PySem.W.fnOf "is_control" "is_control" (defArgs s_is_control) (defBody s_is_control) (defScope s_is_control) .none kV5 dc5 pm5 an5 cd5 ct5), sl5⟩) (c5 : PySem.W.codeIn K cd5 "is_control" = true) (k5 : PySem.W.keepIn K (.ref f5) = true)
    (a6 : PySem.W.nsIn K mainGlobals "wires_of" = some (some (.ref f6))) (l6 : K.lookup f6 = some ⟨oc6, od6, .func (PySem.W.fnOf "wires_of" "wires_of" (defArgs s_wires_of) (defBody s_wires_of) (defScope s_wires_of) .none kV6 dc6 pm6 an6 cd6 ct6), sl6⟩) (c6 : PySem.W.codeIn K cd6 "wires_of" = true) (k6 : PySem.W.keepIn K (.ref f6) = true)
    (a7 : PySem.W.nsIn K mainGlobals "is_gate" = some (some (.ref f7))) (l7 : K.lookup f7 = some ⟨oc7, od7, .func (PySem.W.fnOf "is_gate" "is_gate" (defArgs s_is_gate) (defBody s_is_gate) (defScope s_is_gate) .none kV7 dc7 pm7 an7 cd7 ct7), sl7⟩) (c7 : PySem.W.codeIn K cd7 "is_gate" = true) (k7 : PySem.W.keepIn K (.ref f7) = true)
    (a8 : PySem.W.nsIn K mainGlobals "gate_fault" = some (some (.ref f8))) (l8 : K.lookup f8 = some ⟨oc8, od8, .func (PySem.W.fnOf "gate_fault" "gate_fault" (defArgs s_gate_fault) (defBody s_gate_fault) (defScope s_gate_fault) .none kV8 dc8 pm8 an8 cd8 ct8), sl8⟩) (c8 : PySem.W.codeIn K cd8 "gate_fault" = true) (k8 : PySem.W.keepIn K (.ref f8) = true)
    (a9 : PySem.W.nsIn K mainGlobals "cancelled" = some (some (.ref f9))) (l9 : K.lookup f9 = some ⟨oc9, od9, .func (PySem.W.fnOf "cancelled" "cancelled" (defArgs s_cancelled) (defBody s_cancelled) (defScope s_cancelled) .none kV9 dc9 pm9 an9 cd9 ct9), sl9⟩) (c9 : PySem.W.codeIn K cd9 "cancelled" = true) (k9 : PySem.W.keepIn K (.ref f9) = true)
    (a10 : PySem.W.nsIn K mainGlobals "are_opposed" = some (some (.ref f10))) (l10 : K.lookup f10 = some ⟨oc10, od10, .func (PySem.W.fnOf "are_opposed" "are_opposed" (defArgs s_are_opposed) (defBody s_are_opposed) (defScope s_are_opposed) .none kV10 dc10 pm10 an10 cd10 ct10), sl10⟩) (c10 : PySem.W.codeIn K cd10 "are_opposed" = true) (k10 : PySem.W.keepIn K (.ref f10) = true)
    (a11 : PySem.W.nsIn K mainGlobals "can_exchange" = some (some (.ref f11))) (l11 : K.lookup f11 = some ⟨oc11, od11, .func (PySem.W.fnOf "can_exchange" "can_exchange" (defArgs s_can_exchange) (defBody s_can_exchange) (defScope s_can_exchange) .none kV11 dc11 pm11 an11 cd11 ct11), sl11⟩) (c11 : PySem.W.codeIn K cd11 "can_exchange" = true) (k11 : PySem.W.keepIn K (.ref f11) = true)
    (a12 : PySem.W.nsIn K mainGlobals "exchanged" = some (some (.ref f12))) (l12 : K.lookup f12 = some ⟨oc12, od12, .func (PySem.W.fnOf "exchanged" "exchanged" (defArgs s_exchanged) (defBody s_exchanged) (defScope s_exchanged) .none kV12 dc12 pm12 an12 cd12 ct12), sl12⟩) (c12 : PySem.W.codeIn K cd12 "exchanged" = true) (k12 : PySem.W.keepIn K (.ref f12) = true)
    (a13 : PySem.W.nsIn K mainGlobals "other_value" = some (some (.ref f13))) (l13 : K.lookup f13 = some ⟨oc13, od13, .func (PySem.W.fnOf "other_value" "other_value" (defArgs s_other_value) (defBody s_other_value) (defScope s_other_value) .none kV13 dc13 pm13 an13 cd13 ct13), sl13⟩) (c13 : PySem.W.codeIn K cd13 "other_value" = true) (k13 : PySem.W.keepIn K (.ref f13) = true)
    (a14 : PySem.W.nsIn K mainGlobals "merged_gate" = some (some (.ref f14))) (l14 : K.lookup f14 = some ⟨oc14, od14, .func (PySem.W.fnOf "merged_gate" "merged_gate" (defArgs s_merged_gate) (defBody s_merged_gate) (defScope s_merged_gate) .none kV14 dc14 pm14 an14 cd14 ct14), sl14⟩) (c14 : PySem.W.codeIn K cd14 "merged_gate" = true) (k14 : PySem.W.keepIn K (.ref f14) = true)
    (a15 : PySem.W.nsIn K mainGlobals "merged" = some (some (.ref f15))) (l15 : K.lookup f15 = some ⟨oc15, od15, .func (PySem.W.fnOf "merged" "merged" (defArgs s_merged) (defBody s_merged) (defScope s_merged) .none kV15 dc15 pm15 an15 cd15 ct15), sl15⟩) (c15 : PySem.W.codeIn K cd15 "merged" = true) (k15 : PySem.W.keepIn K (.ref f15) = true)
    (a16 : PySem.W.nsIn K mainGlobals "passed" = some (some (.ref f16))) (l16 : K.lookup f16 = some ⟨oc16, od16, .func (PySem.W.fnOf "passed" "passed" (defArgs s_passed) (defBody s_passed) (defScope s_passed) .none kV16 dc16 pm16 an16 cd16 ct16), sl16⟩) (c16 : PySem.W.codeIn K cd16 "passed" = true) (k16 : PySem.W.keepIn K (.ref f16) = true)
    (a17 : PySem.W.nsIn K mainGlobals "two_instead" = some (some (.ref f17))) (l17 : K.lookup f17 = some ⟨oc17, od17, .func (PySem.W.fnOf "two_instead" "two_instead" (defArgs s_two_instead) (defBody s_two_instead) (defScope s_two_instead) .none kV17 dc17 pm17 an17 cd17 ct17), sl17⟩) (c17 : PySem.W.codeIn K cd17 "two_instead" = true) (k17 : PySem.W.keepIn K (.ref f17) = true)
    (a18 : PySem.W.nsIn K mainGlobals "twice" = some (some (.ref f18))) (l18 : K.lookup f18 = some ⟨oc18, od18, .func (PySem.W.fnOf "twice" "twice" (defArgs s_twice) (defBody s_twice) (defScope s_twice) .none kV18 dc18 pm18 an18 cd18 ct18), sl18⟩) (c18 : PySem.W.codeIn K cd18 "twice" = true) (k18 : PySem.W.keepIn K (.ref f18) = true)
    (a19 : PySem.W.nsIn K mainGlobals "split_gate" = some (some (.ref f19))) (l19 : K.lookup f19 = some ⟨oc19, od19, .func (PySem.W.fnOf "split_gate" "split_gate" (defArgs s_split_gate) (defBody s_split_gate) (defScope s_split_gate) .none kV19 dc19 pm19 an19 cd19 ct19), sl19⟩) (c19 : PySem.W.codeIn K cd19 "split_gate" = true) (k19 : PySem.W.keepIn K (.ref f19) = true)
    (a20 : PySem.W.nsIn K mainGlobals "apply_step" = some (some (.ref f20))) (l20 : K.lookup f20 = some ⟨oc20, od20, .func (PySem.W.fnOf "apply_step" "apply_step" (defArgs s_apply_step) (defBody s_apply_step) (defScope s_apply_step) .none kV20 dc20 pm20 an20 cd20 ct20), sl20⟩) (c20 : PySem.W.codeIn K cd20 "apply_step" = true) (k20 : PySem.W.keepIn K (.ref f20) = true)
    (a21 : PySem.W.nsIn K mainGlobals "_law_draw" = some (some (.ref f21))) (l21 : K.lookup f21 = some ⟨oc21, od21, .func (PySem.W.fnOf "_law_draw" "_law_draw" (defArgs s_z_draw) (defBody s_z_draw) (defScope s_z_draw) .none kV21 dc21 pm21 an21 cd21 ct21), sl21⟩) (c21 : PySem.W.codeIn K cd21 "_law_draw" = true) (k21 : PySem.W.keepIn K (.ref f21) = true)
    (a22 : PySem.W.nsIn K mainGlobals "_law_take" = some (some (.ref f22))) (l22 : K.lookup f22 = some ⟨oc22, od22, .func (PySem.W.fnOf "_law_take" "_law_take" (defArgs s_z_take) (defBody s_z_take) (defScope s_z_take) .none kV22 dc22 pm22 an22 cd22 ct22), sl22⟩) (c22 : PySem.W.codeIn K cd22 "_law_take" = true) (k22 : PySem.W.keepIn K (.ref f22) = true)
    (a23 : PySem.W.nsIn K mainGlobals "_law_gate" = some (some (.ref f23))) (l23 : K.lookup f23 = some ⟨oc23, od23, .func (PySem.W.fnOf "_law_gate" "_law_gate" (defArgs s_z_gate) (defBody s_z_gate) (defScope s_z_gate) .none kV23 dc23 pm23 an23 cd23 ct23), sl23⟩) (c23 : PySem.W.codeIn K cd23 "_law_gate" = true) (k23 : PySem.W.keepIn K (.ref f23) = true)
    (a24 : PySem.W.nsIn K mainGlobals "_law_turned" = some (some (.ref f24))) (l24 : K.lookup f24 = some ⟨oc24, od24, .func (PySem.W.fnOf "_law_turned" "_law_turned" (defArgs s_z_turned) (defBody s_z_turned) (defScope s_z_turned) .none kV24 dc24 pm24 an24 cd24 ct24), sl24⟩) (c24 : PySem.W.codeIn K cd24 "_law_turned" = true) (k24 : PySem.W.keepIn K (.ref f24) = true)
    (a25 : PySem.W.nsIn K mainGlobals "_law_bits" = some (some (.ref f25))) (l25 : K.lookup f25 = some ⟨oc25, od25, .func (PySem.W.fnOf "_law_bits" "_law_bits" (defArgs s_z_bits) (defBody s_z_bits) (defScope s_z_bits) .none kV25 dc25 pm25 an25 cd25 ct25), sl25⟩) (c25 : PySem.W.codeIn K cd25 "_law_bits" = true) (k25 : PySem.W.keepIn K (.ref f25) = true)
    (a26 : PySem.W.nsIn K mainGlobals "_law_value" = some (some (.ref f26))) (l26 : K.lookup f26 = some ⟨oc26, od26, .func (PySem.W.fnOf "_law_value" "_law_value" (defArgs s_z_value) (defBody s_z_value) (defScope s_z_value) .none kV26 dc26 pm26 an26 cd26 ct26), sl26⟩) (c26 : PySem.W.codeIn K cd26 "_law_value" = true) (k26 : PySem.W.keepIn K (.ref f26) = true)
    (a27 : PySem.W.nsIn K mainGlobals "_law_map" = some (some (.ref f27))) (l27 : K.lookup f27 = some ⟨oc27, od27, .func (PySem.W.fnOf "_law_map" "_law_map" (defArgs s_z_map) (defBody s_z_map) (defScope s_z_map) .none kV27 dc27 pm27 an27 cd27 ct27), sl27⟩) (c27 : PySem.W.codeIn K cd27 "_law_map" = true) (k27 : PySem.W.keepIn K (.ref f27) = true)
    (a28 : PySem.W.nsIn K mainGlobals "_law_free" = some (some (.ref f28))) (l28 : K.lookup f28 = some ⟨oc28, od28, .func (PySem.W.fnOf "_law_free" "_law_free" (defArgs s_z_free) (defBody s_z_free) (defScope s_z_free) .none kV28 dc28 pm28 an28 cd28 ct28), sl28⟩) (c28 : PySem.W.codeIn K cd28 "_law_free" = true) (k28 : PySem.W.keepIn K (.ref f28) = true)
    (a29 : PySem.W.nsIn K mainGlobals "_law_ordered" = some (some (.ref f29))) (l29 : K.lookup f29 = some ⟨oc29, od29, .func (PySem.W.fnOf "_law_ordered" "_law_ordered" (defArgs s_z_ordered) (defBody s_z_ordered) (defScope s_z_ordered) .none kV29 dc29 pm29 an29 cd29 ct29), sl29⟩) (c29 : PySem.W.codeIn K cd29 "_law_ordered" = true) (k29 : PySem.W.keepIn K (.ref f29) = true)
    (a30 : PySem.W.nsIn K mainGlobals "_law_one" = some (some (.ref f30))) (l30 : K.lookup f30 = some ⟨oc30, od30, .func (PySem.W.fnOf "_law_one" "_law_one" (defArgs s_z_one) (defBody s_z_one) (defScope s_z_one) .none kV30 dc30 pm30 an30 cd30 ct30), sl30⟩) (c30 : PySem.W.codeIn K cd30 "_law_one" = true) (k30 : PySem.W.keepIn K (.ref f30) = true)
    (a31 : PySem.W.nsIn K mainGlobals "_law_rich" = some (some (.ref f31))) (l31 : K.lookup f31 = some ⟨oc31, od31, .func (PySem.W.fnOf "_law_rich" "_law_rich" (defArgs s_z_rich) (defBody s_z_rich) (defScope s_z_rich) .none kV31 dc31 pm31 an31 cd31 ct31), sl31⟩) (c31 : PySem.W.codeIn K cd31 "_law_rich" = true) (k31 : PySem.W.keepIn K (.ref f31) = true)
    (a32 : PySem.W.nsIn K mainGlobals "moved_up" = some (some (.ref f32))) (l32 : K.lookup f32 = some ⟨oc32, od32, .func (PySem.W.fnOf "moved_up" "moved_up" (defArgs s_moved_up) (defBody s_moved_up) (defScope s_moved_up) .none kV32 dc32 pm32 an32 cd32 ct32), sl32⟩) (c32 : PySem.W.codeIn K cd32 "moved_up" = true) (k32 : PySem.W.keepIn K (.ref f32) = true)
    (a33 : PySem.W.findIn K (.ref C) "__init__" = some (some (.ref f33))) (i33 : PySem.W.isFn K (.ref f33) = true) (l33 : K.lookup f33 = some ⟨oc33, od33, .func (PySem.W.fnOf "__init__" "Search.__init__" (defArgs s_Search___init__) (defBody s_Search___init__) (defScope s_Search___init__) .none kV33 dc33 pm33 an33 cd33 ct33), sl33⟩) (c33 : PySem.W.codeIn K cd33 "Search.__init__" = true) (k33 : PySem.W.keepIn K (.ref f33) = true)
    (a34 : PySem.W.findIn K (.ref C) "fits" = some (some (.ref f34))) (i34 : PySem.W.isFn K (.ref f34) = true) (l34 : K.lookup f34 = some ⟨oc34, od34, .func (PySem.W.fnOf "fits" "Search.fits" (defArgs s_Search_fits) (defBody s_Search_fits) (defScope s_Search_fits) .none kV34 dc34 pm34 an34 cd34 ct34), sl34⟩) (c34 : PySem.W.codeIn K cd34 "Search.fits" = true) (k34 : PySem.W.keepIn K (.ref f34) = true)
    (a35 : PySem.W.findIn K (.ref C) "look_from" = some (some (.ref f35))) (i35 : PySem.W.isFn K (.ref f35) = true) (l35 : K.lookup f35 = some ⟨oc35, od35, .func (PySem.W.fnOf "look_from" "Search.look_from" (defArgs s_Search_look_from) (defBody s_Search_look_from) (defScope s_Search_look_from) .none kV35 dc35 pm35 an35 cd35 ct35), sl35⟩) (c35 : PySem.W.codeIn K cd35 "Search.look_from" = true) (k35 : PySem.W.keepIn K (.ref f35) = true)
    (a36 : PySem.W.findIn K (.ref C) "first_pair" = some (some (.ref f36))) (i36 : PySem.W.isFn K (.ref f36) = true) (l36 : K.lookup f36 = some ⟨oc36, od36, .func (PySem.W.fnOf "first_pair" "Search.first_pair" (defArgs s_Search_first_pair) (defBody s_Search_first_pair) (defScope s_Search_first_pair) .none kV36 dc36 pm36 an36 cd36 ct36), sl36⟩) (c36 : PySem.W.codeIn K cd36 "Search.first_pair" = true) (k36 : PySem.W.keepIn K (.ref f36) = true)
    (a37 : PySem.W.findIn K (.ref C) "take_out" = some (some (.ref f37))) (i37 : PySem.W.isFn K (.ref f37) = true) (l37 : K.lookup f37 = some ⟨oc37, od37, .func (PySem.W.fnOf "take_out" "Search.take_out" (defArgs s_Search_take_out) (defBody s_Search_take_out) (defScope s_Search_take_out) .none kV37 dc37 pm37 an37 cd37 ct37), sl37⟩) (c37 : PySem.W.codeIn K cd37 "Search.take_out" = true) (k37 : PySem.W.keepIn K (.ref f37) = true)
    (a38 : PySem.W.findIn K (.ref C) "is_stale" = some (some (.ref f38))) (i38 : PySem.W.isFn K (.ref f38) = true) (l38 : K.lookup f38 = some ⟨oc38, od38, .func (PySem.W.fnOf "is_stale" "Search.is_stale" (defArgs s_Search_is_stale) (defBody s_Search_is_stale) (defScope s_Search_is_stale) .none kV38 dc38 pm38 an38 cd38 ct38), sl38⟩) (c38 : PySem.W.codeIn K cd38 "Search.is_stale" = true) (k38 : PySem.W.keepIn K (.ref f38) = true)
    (a39 : PySem.W.findIn K (.ref C) "unite" = some (some (.ref f39))) (i39 : PySem.W.isFn K (.ref f39) = true) (l39 : K.lookup f39 = some ⟨oc39, od39, .func (PySem.W.fnOf "unite" "Search.unite" (defArgs s_Search_unite) (defBody s_Search_unite) (defScope s_Search_unite) .none kV39 dc39 pm39 an39 cd39 ct39), sl39⟩) (c39 : PySem.W.codeIn K cd39 "Search.unite" = true) (k39 : PySem.W.keepIn K (.ref f39) = true)
    (a40 : PySem.W.findIn K (.ref C) "outcome" = some (some (.ref f40))) (i40 : PySem.W.isFn K (.ref f40) = true) (l40 : K.lookup f40 = some ⟨oc40, od40, .func (PySem.W.fnOf "outcome" "Search.outcome" (defArgs s_Search_outcome) (defBody s_Search_outcome) (defScope s_Search_outcome) .none kV40 dc40 pm40 an40 cd40 ct40), sl40⟩) (c40 : PySem.W.codeIn K cd40 "Search.outcome" = true) (k40 : PySem.W.keepIn K (.ref f40) = true)
    (a41 : PySem.W.nsIn K mainGlobals "cancelled_all" = some (some (.ref f41))) (l41 : K.lookup f41 = some ⟨oc41, od41, .func (PySem.W.fnOf "cancelled_all" "cancelled_all" (defArgs s_cancelled_all) (defBody s_cancelled_all) (defScope s_cancelled_all) .none kV41 dc41 pm41 an41 cd41 ct41), sl41⟩) (c41 : PySem.W.codeIn K cd41 "cancelled_all" = true) (k41 : PySem.W.keepIn K (.ref f41) = true)
    (a42 : PySem.W.nsIn K mainGlobals "merged_all" = some (some (.ref f42))) (l42 : K.lookup f42 = some ⟨oc42, od42, .func (PySem.W.fnOf "merged_all" "merged_all" (defArgs s_merged_all) (defBody s_merged_all) (defScope s_merged_all) .none kV42 dc42 pm42 an42 cd42 ct42), sl42⟩) (c42 : PySem.W.codeIn K cd42 "merged_all" = true) (k42 : PySem.W.keepIn K (.ref f42) = true)
    (a43 : PySem.W.nsIn K mainGlobals "cancelling" = some (some (.ref f43))) (l43 : K.lookup f43 = some ⟨oc43, od43, .func (PySem.W.fnOf "cancelling" "cancelling" (defArgs s_cancelling) (defBody s_cancelling) (defScope s_cancelling) .none kV43 dc43 pm43 an43 cd43 ct43), sl43⟩) (c43 : PySem.W.codeIn K cd43 "cancelling" = true) (k43 : PySem.W.keepIn K (.ref f43) = true)
    (a44 : PySem.W.nsIn K mainGlobals "merging" = some (some (.ref f44))) (l44 : K.lookup f44 = some ⟨oc44, od44, .func (PySem.W.fnOf "merging" "merging" (defArgs s_merging) (defBody s_merging) (defScope s_merging) .none kV44 dc44 pm44 an44 cd44 ct44), sl44⟩) (c44 : PySem.W.codeIn K cd44 "merging" = true) (k44 : PySem.W.keepIn K (.ref f44) = true)
    (a45 : PySem.W.nsIn K mainGlobals "shrink" = some (some (.ref f45))) (l45 : K.lookup f45 = some ⟨oc45, od45, .func (PySem.W.fnOf "shrink" "shrink" (defArgs s_shrink) (defBody s_shrink) (defScope s_shrink) .none kV45 dc45 pm45 an45 cd45 ct45), sl45⟩) (c45 : PySem.W.codeIn K cd45 "shrink" = true) (k45 : PySem.W.keepIn K (.ref f45) = true)
    (a46 : PySem.W.nsIn K mainGlobals "apply_steps" = some (some (.ref f46))) (l46 : K.lookup f46 = some ⟨oc46, od46, .func (PySem.W.fnOf "apply_steps" "apply_steps" (defArgs s_apply_steps) (defBody s_apply_steps) (defScope s_apply_steps) .none kV46 dc46 pm46 an46 cd46 ct46), sl46⟩) (c46 : PySem.W.codeIn K cd46 "apply_steps" = true) (k46 : PySem.W.keepIn K (.ref f46) = true)
    (a47 : PySem.W.nsIn K mainGlobals "_law_pair" = some (some (.ref f47))) (l47 : K.lookup f47 = some ⟨oc47, od47, .func (PySem.W.fnOf "_law_pair" "_law_pair" (defArgs s_z_pair) (defBody s_z_pair) (defScope s_z_pair) .none kV47 dc47 pm47 an47 cd47 ct47), sl47⟩) (c47 : PySem.W.codeIn K cd47 "_law_pair" = true) (k47 : PySem.W.keepIn K (.ref f47) = true)
    (a48 : PySem.W.nsIn K mainGlobals "_law_gathered" = some (some (.ref f48))) (l48 : K.lookup f48 = some ⟨oc48, od48, .func (PySem.W.fnOf "_law_gathered" "_law_gathered" (defArgs s_z_gathered) (defBody s_z_gathered) (defScope s_z_gathered) .none kV48 dc48 pm48 an48 cd48 ct48), sl48⟩) (c48 : PySem.W.codeIn K cd48 "_law_gathered" = true) (k48 : PySem.W.keepIn K (.ref f48) = true)
    (a49 : PySem.W.nsIn K mainGlobals "law" = some (some (.ref f49))) (l49 : K.lookup f49 = some ⟨oc49, od49, .func (PySem.W.fnOf "law" "law" (defArgs s_law) (defBody s_law) (defScope s_law) .none kV49 dc49 pm49 an49 cd49 ct49), sl49⟩) (c49 : PySem.W.codeIn K cd49 "law" = true) (k49 : PySem.W.keepIn K (.ref f49) = true)
    (z0 : PySem.W.nsIn K mainGlobals "abs" = some none)
    (z1 : PySem.W.nsIn K mainGlobals "all" = some none)
    (z2 : PySem.W.nsIn K mainGlobals "any" = some none)
    (z3 : PySem.W.nsIn K mainGlobals "bool" = some none)
    (z4 : PySem.W.nsIn K mainGlobals "dict" = some none)
    (z5 : PySem.W.nsIn K mainGlobals "enumerate" = some none)
    (z6 : PySem.W.nsIn K mainGlobals "int" = some none)
    (z7 : PySem.W.nsIn K mainGlobals "isinstance" = some none)
    (z8 : PySem.W.nsIn K mainGlobals "len" = some none)
    (z9 : PySem.W.nsIn K mainGlobals "list" = some none)
    (z10 : PySem.W.nsIn K mainGlobals "min" = some none)
    (z11 : PySem.W.nsIn K mainGlobals "range" = some none)
    (z12 : PySem.W.nsIn K mainGlobals "reversed" = some none)
    (z13 : PySem.W.nsIn K mainGlobals "sorted" = some none)
    (z14 : PySem.W.nsIn K mainGlobals "str" = some none)
    (z15 : PySem.W.nsIn K mainGlobals "sum" = some none)
    (z16 : PySem.W.nsIn K mainGlobals "tuple" = some none)
    (z17 : PySem.W.nsIn K mainGlobals "zip" = some none)
    {aA : Addr} {esA : Array DictEntry} {nnA : Nat} (gA : PySem.W.nsIn K mainGlobals "OF_TWO" = some (some (.ref aA))) (lA : K.lookup aA = some { cls := .type "dict", data := .dict esA nnA }) (qA : PySem.W.KeysLit w.params esA.toList) (oA : (aA == sysModules) = false)
    (x_cancel : PySem.W.nsIn K aA "cancel" = some (some (.ref f9)))
    (x_exchange : PySem.W.nsIn K aA "exchange" = some (some (.ref f12)))
    (x_merge : PySem.W.nsIn K aA "merge" = some (some (.ref f15)))
    (x_pass : PySem.W.nsIn K aA "pass" = some (some (.ref f16)))
    (y_pair : PySem.W.nsIn K aA "pair" = some none)
    (y_split : PySem.W.nsIn K aA "split" = some none)
    (y_turn : PySem.W.nsIn K aA "turn" = some none)
    : ∃ fd : FuncData, (∀ (s : Shared) (v : Value), BindsTo s fd ⟨[v], []⟩ [("script", v)]) ∧ ∀ base : Heap, K.In base → base.Ns mainGlobals mg → FnOk l.prog w K mg base CX0 9 fa fd ["script"] (spLaw K) := by
  have e := hfa.symm.trans (PySem.W.mg_of X G a49)
  cases e
  have F0 := fun_mk (st := s_is_whole) l0 c0 k0
  have F1 := fun_mk (st := s_is_integer) l1 c1 k1
  have F2 := fun_mk (st := s_is_count) l2 c2 k2
  have F3 := fun_mk (st := s_begins_with_word) l3 c3 k3
  have F4 := fun_mk (st := s_is_pair) l4 c4 k4
  have F5 := fun_mk (st := s_is_control) l5 c5 k5
  have F6 := fun_mk (st := s_wires_of) l6 c6 k6
  have F7 := fun_mk (st := s_is_gate) l7 c7 k7
  have F8 := fun_mk (st := s_gate_fault) l8 c8 k8
  have F9 := fun_mk (st := s_cancelled) l9 c9 k9
  have F10 := fun_mk (st := s_are_opposed) l10 c10 k10
  have F11 := fun_mk (st := s_can_exchange) l11 c11 k11
  have F12 := fun_mk (st := s_exchanged) l12 c12 k12
  have F13 := fun_mk (st := s_other_value) l13 c13 k13
  have F14 := fun_mk (st := s_merged_gate) l14 c14 k14
  have F15 := fun_mk (st := s_merged) l15 c15 k15
  have F16 := fun_mk (st := s_passed) l16 c16 k16
  have F17 := fun_mk (st := s_two_instead) l17 c17 k17
  have F18 := fun_mk (st := s_twice) l18 c18 k18
  have F19 := fun_mk (st := s_split_gate) l19 c19 k19
  have F20 := fun_mk (st := s_apply_step) l20 c20 k20
  have F21 := fun_mk (st := s_z_draw) l21 c21 k21
  have F22 := fun_mk (st := s_z_take) l22 c22 k22
  have F23 := fun_mk (st := s_z_gate) l23 c23 k23
  have F24 := fun_mk (st := s_z_turned) l24 c24 k24
  have F25 := fun_mk (st := s_z_bits) l25 c25 k25
  have F26 := fun_mk (st := s_z_value) l26 c26 k26
  have F27 := fun_mk (st := s_z_map) l27 c27 k27
  have F28 := fun_mk (st := s_z_free) l28 c28 k28
  have F29 := fun_mk (st := s_z_ordered) l29 c29 k29
  have F30 := fun_mk (st := s_z_one) l30 c30 k30
  have F31 := fun_mk (st := s_z_rich) l31 c31 k31
  have F32 := fun_mk (st := s_moved_up) l32 c32 k32
  have F33 := fun_mk (st := s_Search___init__) l33 c33 k33
  have F34 := fun_mk (st := s_Search_fits) l34 c34 k34
  have F35 := fun_mk (st := s_Search_look_from) l35 c35 k35
  have F36 := fun_mk (st := s_Search_first_pair) l36 c36 k36
  have F37 := fun_mk (st := s_Search_take_out) l37 c37 k37
  have F38 := fun_mk (st := s_Search_is_stale) l38 c38 k38
  have F39 := fun_mk (st := s_Search_unite) l39 c39 k39
  have F40 := fun_mk (st := s_Search_outcome) l40 c40 k40
  have F41 := fun_mk (st := s_cancelled_all) l41 c41 k41
  have F42 := fun_mk (st := s_merged_all) l42 c42 k42
  have F43 := fun_mk (st := s_cancelling) l43 c43 k43
  have F44 := fun_mk (st := s_merging) l44 c44 k44
  have F45 := fun_mk (st := s_shrink) l45 c45 k45
  have F46 := fun_mk (st := s_apply_steps) l46 c46 k46
  have F47 := fun_mk (st := s_z_pair) l47 c47 k47
  have F48 := fun_mk (st := s_z_gathered) l48 c48 k48
  have F49 := fun_mk (st := s_law) l49 c49 k49
  have b0 := F0.binds (ps := ["value"]) fun _ _ _ _ _ _ us hl => match us, hl with | [_], _ => rfl
  have b1 := F1.binds (ps := ["value", "low", "high"]) fun _ _ _ _ _ _ us hl => match us, hl with | [_, _, _], _ => rfl
  have b2 := F2.binds (ps := ["value"]) fun _ _ _ _ _ _ us hl => match us, hl with | [_], _ => rfl
  have b3 := F3.binds (ps := ["value"]) fun _ _ _ _ _ _ us hl => match us, hl with | [_], _ => rfl
  have b4 := F4.binds (ps := ["value"]) fun _ _ _ _ _ _ us hl => match us, hl with | [_], _ => rfl
  have b5 := F5.binds (ps := ["value"]) fun _ _ _ _ _ _ us hl => match us, hl with | [_], _ => rfl
  have b6 := F6.binds (ps := ["gate"]) fun _ _ _ _ _ _ us hl => match us, hl with | [_], _ => rfl
  have b7 := F7.binds (ps := ["value"]) fun _ _ _ _ _ _ us hl => match us, hl with | [_], _ => rfl
  have b8 := F8.binds (ps := ["wires", "value"]) fun _ _ _ _ _ _ us hl => match us, hl with | [_, _], _ => rfl
  have b9 := F9.binds (ps := ["first", "second"]) fun _ _ _ _ _ _ us hl => match us, hl with | [_, _], _ => rfl
  have b10 := F10.binds (ps := ["controls", "others"]) fun _ _ _ _ _ _ us hl => match us, hl with | [_, _], _ => rfl
  have b11 := F11.binds (ps := ["first", "second"]) fun _ _ _ _ _ _ us hl => match us, hl with | [_, _], _ => rfl
  have b12 := F12.binds (ps := ["first", "second"]) fun _ _ _ _ _ _ us hl => match us, hl with | [_, _], _ => rfl
  have b13 := F13.binds (ps := ["control"]) fun _ _ _ _ _ _ us hl => match us, hl with | [_], _ => rfl
  have b14 := F14.binds (ps := ["first", "second"]) fun _ _ _ _ _ _ us hl => match us, hl with | [_, _], _ => rfl
  have b15 := F15.binds (ps := ["first", "second"]) fun _ _ _ _ _ _ us hl => match us, hl with | [_, _], _ => rfl
  have b16 := F16.binds (ps := ["first", "second"]) fun _ _ _ _ _ _ us hl => match us, hl with | [_, _], _ => rfl
  have b17 := F17.binds (ps := ["word", "gates"]) fun _ _ _ _ _ _ us hl => match us, hl with | [_, _], _ => rfl
  have b18 := F18.binds (ps := ["wires", "gate"]) fun _ _ _ _ _ _ us hl => match us, hl with | [_, _], _ => rfl
  have b19 := F19.binds (ps := ["wires", "gate", "wire"]) fun _ _ _ _ _ _ us hl => match us, hl with | [_, _, _], _ => rfl
  have b20 := F20.binds (ps := ["circuit", "step"]) fun _ _ _ _ _ _ us hl => match us, hl with | [_, _], _ => rfl
  have b21 := F21.binds (ps := ["script"]) fun _ _ _ _ _ _ us hl => match us, hl with | [_], _ => rfl
  have b22 := F22.binds (ps := ["draw", "many"]) fun _ _ _ _ _ _ us hl => match us, hl with | [_, _], _ => rfl
  have b23 := F23.binds (ps := ["draw", "wires", "most"]) fun _ _ _ _ _ _ us hl => match us, hl with | [_, _, _], _ => rfl
  have b24 := F24.binds (ps := ["gates", "bits"]) fun _ _ _ _ _ _ us hl => match us, hl with | [_, _], _ => rfl
  have b25 := F25.binds (ps := ["number", "wires"]) fun _ _ _ _ _ _ us hl => match us, hl with | [_, _], _ => rfl
  have b26 := F26.binds (ps := ["bits"]) fun _ _ _ _ _ _ us hl => match us, hl with | [_], _ => rfl
  have b27 := F27.binds (ps := ["circuit"]) fun _ _ _ _ _ _ us hl => match us, hl with | [_], _ => rfl
  have b28 := F28.binds (ps := ["one", "two"]) fun _ _ _ _ _ _ us hl => match us, hl with | [_, _], _ => rfl
  have b29 := F29.binds (ps := ["controls"]) fun _ _ _ _ _ _ us hl => match us, hl with | [_], _ => rfl
  have b30 := F30.binds (ps := ["one", "two"]) fun _ _ _ _ _ _ us hl => match us, hl with | [_, _], _ => rfl
  have b31 := F31.binds (ps := ["draw", "wires", "many"]) fun _ _ _ _ _ _ us hl => match us, hl with | [_, _, _], _ => rfl
  have b32 := F32.binds (ps := ["numbers", "gone"]) fun _ _ _ _ _ _ us hl => match us, hl with | [_, _], _ => rfl
  have b33 := F33.binds (ps := ["self", "circuit", "word"]) fun _ _ _ _ _ _ us hl => match us, hl with | [_, _, _], _ => rfl
  have b34 := F34.binds (ps := ["self", "first", "second"]) fun _ _ _ _ _ _ us hl => match us, hl with | [_, _, _], _ => rfl
  have b35 := F35.binds (ps := ["self", "at"]) fun _ _ _ _ _ _ us hl => match us, hl with | [_, _], _ => rfl
  have b36 := F36.binds (ps := ["self"]) fun _ _ _ _ _ _ us hl => match us, hl with | [_], _ => rfl
  have b37 := F37.binds (ps := ["self", "gone"]) fun _ _ _ _ _ _ us hl => match us, hl with | [_, _], _ => rfl
  have b38 := F38.binds (ps := ["self", "at", "early", "late", "joined"]) fun _ _ _ _ _ _ us hl => match us, hl with | [_, _, _, _, _], _ => rfl
  have b39 := F39.binds (ps := ["self", "early", "late"]) fun _ _ _ _ _ _ us hl => match us, hl with | [_, _, _], _ => rfl
  have b40 := F40.binds (ps := ["self"]) fun _ _ _ _ _ _ us hl => match us, hl with | [_], _ => rfl
  have b41 := F41.binds (ps := ["circuit"]) fun _ _ _ _ _ _ us hl => match us, hl with | [_], _ => rfl
  have b42 := F42.binds (ps := ["circuit"]) fun _ _ _ _ _ _ us hl => match us, hl with | [_], _ => rfl
  have b43 := F43.binds (ps := ["circuit"]) fun _ _ _ _ _ _ us hl => match us, hl with | [_], _ => rfl
  have b44 := F44.binds (ps := ["circuit"]) fun _ _ _ _ _ _ us hl => match us, hl with | [_], _ => rfl
  have b45 := F45.binds (ps := ["circuit"]) fun _ _ _ _ _ _ us hl => match us, hl with | [_], _ => rfl
  have b46 := F46.binds (ps := ["circuit", "steps"]) fun _ _ _ _ _ _ us hl => match us, hl with | [_, _], _ => rfl
  have b47 := F47.binds (ps := ["gates", "word"]) fun _ _ _ _ _ _ us hl => match us, hl with | [_, _], _ => rfl
  have b48 := F48.binds (ps := ["circuit", "word"]) fun _ _ _ _ _ _ us hl => match us, hl with | [_, _], _ => rfl
  let T : Txt K mg := ⟨f0, _, F0, PySem.W.mg_of X G a0, b0, f1, _, F1, PySem.W.mg_of X G a1, b1, f2, _, F2, PySem.W.mg_of X G a2, b2, f3, _, F3, PySem.W.mg_of X G a3, b3, f4, _, F4, PySem.W.mg_of X G a4, b4, f5, _, F5, PySem.W.mg_of X G a5, b5, f6, _, F6, PySem.W.mg_of X G a6, b6, f7, _, F7, PySem.W.mg_of X G a7, b7, f8, _, F8, PySem.W.mg_of X G a8, b8, f9, _, F9, PySem.W.mg_of X G a9, b9, f10, _, F10, PySem.W.mg_of X G a10, b10, f11, _, F11, PySem.W.mg_of X G a11, b11, f12, _, F12, PySem.W.mg_of X G a12, b12, f13, _, F13, PySem.W.mg_of X G a13, b13, f14, _, F14, PySem.W.mg_of X G a14, b14, f15, _, F15, PySem.W.mg_of X G a15, b15, f16, _, F16, PySem.W.mg_of X G a16, b16, f17, _, F17, PySem.W.mg_of X G a17, b17, f18, _, F18, PySem.W.mg_of X G a18, b18, f19, _, F19, PySem.W.mg_of X G a19, b19, f20, _, F20, PySem.W.mg_of X G a20, b20, f21, _, F21, PySem.W.mg_of X G a21, b21, f22, _, F22, PySem.W.mg_of X G a22, b22, f23, _, F23, PySem.W.mg_of X G a23, b23, f24, _, F24, PySem.W.mg_of X G a24, b24, f25, _, F25, PySem.W.mg_of X G a25, b25, f26, _, F26, PySem.W.mg_of X G a26, b26, f27, _, F27, PySem.W.mg_of X G a27, b27, f28, _, F28, PySem.W.mg_of X G a28, b28, f29, _, F29, PySem.W.mg_of X G a29, b29, f30, _, F30, PySem.W.mg_of X G a30, b30, f31, _, F31, PySem.W.mg_of X G a31, b31, f32, _, F32, PySem.W.mg_of X G a32, b32, f41, _, F41, PySem.W.mg_of X G a41, b41, f42, _, F42, PySem.W.mg_of X G a42, b42, f43, _, F43, PySem.W.mg_of X G a43, b43, f44, _, F44, PySem.W.mg_of X G a44, b44, f45, _, F45, PySem.W.mg_of X G a45, b45, f46, _, F46, PySem.W.mg_of X G a46, b46, f47, _, F47, PySem.W.mg_of X G a47, b47, f48, _, F48, PySem.W.mg_of X G a48, b48, fa, _, F49, PySem.W.mg_of X G a49, PySem.W.mg_none_of X G z0, PySem.W.mg_none_of X G z1, PySem.W.mg_none_of X G z2, PySem.W.mg_none_of X G z3, PySem.W.mg_none_of X G z4, PySem.W.mg_none_of X G z5, PySem.W.mg_none_of X G z6, PySem.W.mg_none_of X G z7, PySem.W.mg_none_of X G z8, PySem.W.mg_none_of X G z9, PySem.W.mg_none_of X G z10, PySem.W.mg_none_of X G z11, PySem.W.mg_none_of X G z12, PySem.W.mg_none_of X G z13, PySem.W.mg_none_of X G z14, PySem.W.mg_none_of X G z15, PySem.W.mg_none_of X G z16, PySem.W.mg_none_of X G z17⟩
  have TC : TxC K C := ⟨⟨pg, hd, po, sa⟩, n0, n1, n2, n3, n4, n5⟩
  let TM : TxM K mg C := ⟨f33, _, F33, b33, ⟨mks, a33, i33, kc⟩, PySem.W.mg_of X G aC, f34, _, F34, b34, ⟨a34, i34, k34⟩, f35, _, F35, b35, ⟨a35, i35, k35⟩, f36, _, F36, b36, ⟨a36, i36, k36⟩, f37, _, F37, b37, ⟨a37, i37, k37⟩, f38, _, F38, b38, ⟨a38, i38, k38⟩, f39, _, F39, b39, ⟨a39, i39, k39⟩, f40, _, F40, b40, ⟨a40, i40, k40⟩⟩
  let TA : TxA K mg w T := ⟨aA, PySem.W.mg_of X G gA, ⟨esA, nnA, .ref f9, lA, qA, x_cancel, rfl⟩, ⟨esA, nnA, .ref f12, lA, qA, x_exchange, rfl⟩, ⟨esA, nnA, .ref f15, lA, qA, x_merge, rfl⟩, ⟨esA, nnA, .ref f16, lA, qA, x_pass, rfl⟩, ⟨esA, nnA, _, lA, qA, x_cancel, rfl, oA⟩, ⟨esA, nnA, _, lA, qA, x_exchange, rfl, oA⟩, ⟨esA, nnA, _, lA, qA, x_merge, rfl, oA⟩, ⟨esA, nnA, _, lA, qA, x_pass, rfl, oA⟩, ⟨esA, nnA, _, lA, qA, y_pair, rfl, oA⟩, ⟨esA, nnA, _, lA, qA, y_split, rfl, oA⟩, ⟨esA, nnA, _, lA, qA, y_turn, rfl, oA⟩⟩
  exact ⟨PySem.W.fnOf "law" "law" (defArgs s_law) (defBody s_law) (defScope s_law) .none kV49 dc49 pm49 an49 cd49 ct49, fun s v => .of_eq rfl, fun base _ _ => ok_law T TC TM TA⟩
end My
open PySem PySem.W PyProof.Rows
set_option maxRecDepth 100000 in
set_option maxHeartbeats 0 in
theorem PySem.Challenge.cw_backrun_k51_passes_on_circuits_holds : PySem.Challenge.rw_backrun_k51_passes_on_circuits.Holds := by
  w_on; o_law; k_head; (case hw => w_witness2)
  k_fill
  refine L2.walk_of (l := PySem.Challenge.rw_backrun_k51_passes_on_circuits) (n := 63) (k := 9) (x := "script") (CX := fun _ => L2.CX0) (sp := fun w => My.spLaw _) rfl (by decide) rfl ⟨rfl, by decide, by decide⟩ (fun w h Y => PySem.W.kIn_of Y) ?F (fun _ _ a ns hl _ hS => ⟨a, ns, rfl, hS, hl, fun _ => rfl⟩) (fun _ _ _ _ _ h => h)
  case F =>
    intro w mg fa h KX G hmg
    refine' My.all_mk KX G hmg ?aC ?pg ?hd ?po ?sa ?mks ?kc ?n0 ?n1 ?n2 ?n3 ?n4 ?n5 ?a0 ?l0 ?c0 ?k0 ?a1 ?l1 ?c1 ?k1 ?a2 ?l2 ?c2 ?k2 ?a3 ?l3 ?c3 ?k3 ?a4 ?l4 ?c4 ?k4 ?a5 ?l5 ?c5 ?k5 ?a6 ?l6 ?c6 ?k6 ?a7 ?l7 ?c7 ?k7 ?a8 ?l8 ?c8 ?k8 ?a9 ?l9 ?c9 ?k9 ?a10 ?l10 ?c10 ?k10 ?a11 ?l11 ?c11 ?k11 ?a12 ?l12 ?c12 ?k12 ?a13 ?l13 ?c13 ?k13 ?a14 ?l14 ?c14 ?k14 ?a15 ?l15 ?c15 ?k15 ?a16 ?l16 ?c16 ?k16 ?a17 ?l17 ?c17 ?k17 ?a18 ?l18 ?c18 ?k18 ?a19 ?l19 ?c19 ?k19 ?a20 ?l20 ?c20 ?k20 ?a21 ?l21 ?c21 ?k21 ?a22 ?l22 ?c22 ?k22 ?a23 ?l23 ?c23 ?k23 ?a24 ?l24 ?c24 ?k24 ?a25 ?l25 ?c25 ?k25 ?a26 ?l26 ?c26 ?k26 ?a27 ?l27 ?c27 ?k27 ?a28 ?l28 ?c28 ?k28 ?a29 ?l29 ?c29 ?k29 ?a30 ?l30 ?c30 ?k30 ?a31 ?l31 ?c31 ?k31 ?a32 ?l32 ?c32 ?k32 ?a33 ?i33 ?l33 ?c33 ?k33 ?a34 ?i34 ?l34 ?c34 ?k34 ?a35 ?i35 ?l35 ?c35 ?k35 ?a36 ?i36 ?l36 ?c36 ?k36 ?a37 ?i37 ?l37 ?c37 ?k37 ?a38 ?i38 ?l38 ?c38 ?k38 ?a39 ?i39 ?l39 ?c39 ?k39 ?a40 ?i40 ?l40 ?c40 ?k40 ?a41 ?l41 ?c41 ?k41 ?a42 ?l42 ?c42 ?k42 ?a43 ?l43 ?c43 ?k43 ?a44 ?l44 ?c44 ?k44 ?a45 ?l45 ?c45 ?k45 ?a46 ?l46 ?c46 ?k46 ?a47 ?l47 ?c47 ?k47 ?a48 ?l48 ?c48 ?k48 ?a49 ?l49 ?c49 ?k49 ?z0 ?z1 ?z2 ?z3 ?z4 ?z5 ?z6 ?z7 ?z8 ?z9 ?z10 ?z11 ?z12 ?z13 ?z14 ?z15 ?z16 ?z17 ?gA ?lA ?qA ?oA ?x_cancel ?x_exchange ?x_merge ?x_pass ?y_pair ?y_split ?y_turn
    (case aC => k_is)
    (case pg => k_is)
    (case hd => k_is)
    (case po => k_is)
    (case sa => k_is)
    (case mks => k_is)
    (case kc => k_is)
    (case n0 => k_is)
    (case n1 => k_is)
    (case n2 => k_is)
    (case n3 => k_is)
    (case n4 => k_is)
    (case n5 => k_is)
    (case a0 => k_is)
    (case l0 => k_is)
    (case c0 => k_is)
    (case k0 => k_is)
    (case a1 => k_is)
    (case l1 => k_is)
    (case c1 => k_is)
    (case k1 => k_is)
    (case a2 => k_is)
    (case l2 => k_is)
    (case c2 => k_is)
    (case k2 => k_is)
    (case a3 => k_is)
    (case l3 => k_is)
    (case c3 => k_is)
    (case k3 => k_is)
    (case a4 => k_is)
    (case l4 => k_is)
    (case c4 => k_is)
    (case k4 => k_is)
    (case a5 => k_is)
    (case l5 => k_is)
    (case c5 => k_is)
    (case k5 => k_is)
    (case a6 => k_is)
    (case l6 => k_is)
    (case c6 => k_is)
    (case k6 => k_is)
    (case a7 => k_is)
    (case l7 => k_is)
    (case c7 => k_is)
    (case k7 => k_is)
    (case a8 => k_is)
    (case l8 => k_is)
    (case c8 => k_is)
    (case k8 => k_is)
    (case a9 => k_is)
    (case l9 => k_is)
    (case c9 => k_is)
    (case k9 => k_is)
    (case a10 => k_is)
    (case l10 => k_is)
    (case c10 => k_is)
    (case k10 => k_is)
    (case a11 => k_is)
    (case l11 => k_is)
    (case c11 => k_is)
    (case k11 => k_is)
    (case a12 => k_is)
    (case l12 => k_is)
    (case c12 => k_is)
    (case k12 => k_is)
    (case a13 => k_is)
    (case l13 => k_is)
    (case c13 => k_is)
    (case k13 => k_is)
    (case a14 => k_is)
    (case l14 => k_is)
    (case c14 => k_is)
    (case k14 => k_is)
    (case a15 => k_is)
    (case l15 => k_is)
    (case c15 => k_is)
    (case k15 => k_is)
    (case a16 => k_is)
    (case l16 => k_is)
    (case c16 => k_is)
    (case k16 => k_is)
    (case a17 => k_is)
    (case l17 => k_is)
    (case c17 => k_is)
    (case k17 => k_is)
    (case a18 => k_is)
    (case l18 => k_is)
    (case c18 => k_is)
    (case k18 => k_is)
    (case a19 => k_is)
    (case l19 => k_is)
    (case c19 => k_is)
    (case k19 => k_is)
    (case a20 => k_is)
    (case l20 => k_is)
    (case c20 => k_is)
    (case k20 => k_is)
    (case a21 => k_is)
    (case l21 => k_is)
    (case c21 => k_is)
    (case k21 => k_is)
    (case a22 => k_is)
    (case l22 => k_is)
    (case c22 => k_is)
    (case k22 => k_is)
    (case a23 => k_is)
    (case l23 => k_is)
    (case c23 => k_is)
    (case k23 => k_is)
    (case a24 => k_is)
    (case l24 => k_is)
    (case c24 => k_is)
    (case k24 => k_is)
    (case a25 => k_is)
    (case l25 => k_is)
    (case c25 => k_is)
    (case k25 => k_is)
    (case a26 => k_is)
    (case l26 => k_is)
    (case c26 => k_is)
    (case k26 => k_is)
    (case a27 => k_is)
    (case l27 => k_is)
    (case c27 => k_is)
    (case k27 => k_is)
    (case a28 => k_is)
    (case l28 => k_is)
    (case c28 => k_is)
    (case k28 => k_is)
    (case a29 => k_is)
    (case l29 => k_is)
    (case c29 => k_is)
    (case k29 => k_is)
    (case a30 => k_is)
    (case l30 => k_is)
    (case c30 => k_is)
    (case k30 => k_is)
    (case a31 => k_is)
    (case l31 => k_is)
    (case c31 => k_is)
    (case k31 => k_is)
    (case a32 => k_is)
    (case l32 => k_is)
    (case c32 => k_is)
    (case k32 => k_is)
    (case a33 => k_is)
    (case i33 => k_is)
    (case l33 => k_is)
    (case c33 => k_is)
    (case k33 => k_is)
    (case a34 => k_is)
    (case i34 => k_is)
    (case l34 => k_is)
    (case c34 => k_is)
    (case k34 => k_is)
    (case a35 => k_is)
    (case i35 => k_is)
    (case l35 => k_is)
    (case c35 => k_is)
    (case k35 => k_is)
    (case a36 => k_is)
    (case i36 => k_is)
    (case l36 => k_is)
    (case c36 => k_is)
    (case k36 => k_is)
    (case a37 => k_is)
    (case i37 => k_is)
    (case l37 => k_is)
    (case c37 => k_is)
    (case k37 => k_is)
    (case a38 => k_is)
    (case i38 => k_is)
    (case l38 => k_is)
    (case c38 => k_is)
    (case k38 => k_is)
    (case a39 => k_is)
    (case i39 => k_is)
    (case l39 => k_is)
    (case c39 => k_is)
    (case k39 => k_is)
    (case a40 => k_is)
    (case i40 => k_is)
    (case l40 => k_is)
    (case c40 => k_is)
    (case k40 => k_is)
    (case a41 => k_is)
    (case l41 => k_is)
    (case c41 => k_is)
    (case k41 => k_is)
    (case a42 => k_is)
    (case l42 => k_is)
    (case c42 => k_is)
    (case k42 => k_is)
    (case a43 => k_is)
    (case l43 => k_is)
    (case c43 => k_is)
    (case k43 => k_is)
    (case a44 => k_is)
    (case l44 => k_is)
    (case c44 => k_is)
    (case k44 => k_is)
    (case a45 => k_is)
    (case l45 => k_is)
    (case c45 => k_is)
    (case k45 => k_is)
    (case a46 => k_is)
    (case l46 => k_is)
    (case c46 => k_is)
    (case k46 => k_is)
    (case a47 => k_is)
    (case l47 => k_is)
    (case c47 => k_is)
    (case k47 => k_is)
    (case a48 => k_is)
    (case l48 => k_is)
    (case c48 => k_is)
    (case k48 => k_is)
    (case a49 => k_is)
    (case l49 => k_is)
    (case c49 => k_is)
    (case k49 => k_is)
    (case z0 => k_is)
    (case z1 => k_is)
    (case z2 => k_is)
    (case z3 => k_is)
    (case z4 => k_is)
    (case z5 => k_is)
    (case z6 => k_is)
    (case z7 => k_is)
    (case z8 => k_is)
    (case z9 => k_is)
    (case z10 => k_is)
    (case z11 => k_is)
    (case z12 => k_is)
    (case z13 => k_is)
    (case z14 => k_is)
    (case z15 => k_is)
    (case z16 => k_is)
    (case z17 => k_is)
    (case gA => k_is)
    (case lA => k_is)
    (case qA => (repeat' first | exact trivial | refine ⟨⟨_, _, rfl, rfl⟩, ?_⟩))
    (case oA => decide)
    (case x_cancel => k_is)
    (case x_exchange => k_is)
    (case x_merge => k_is)
    (case x_pass => k_is)
    (case y_pair => k_is)
    (case y_split => k_is)
    (case y_turn => k_is)

