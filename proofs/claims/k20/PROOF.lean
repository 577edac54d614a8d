import PyProof.Rows.All
import Wide.All
import OpenK.AllK
import Wide.FinOn
import HandS.ForMost
import HandS.Wide
import HandS.IsInst
import KE.KBits
import KE.OsArith
import HandS.AnyAll
import HandS.GenOver
import HandS.GenList
import HandS.Nested
import PyProof.GenQ
import HandS.TupAny
import HandS.TupMul
import HandS.Zip
import HandS.Style
import HandS.EndTab
import KE.KNestM
import HandS.Walk
import KE.GoesEnum
import HandS.Zip0
import HandS.CallLocal
import HandS.Call
import HandS.Defaults
import HandS.More
import HandS.Flow
import PyProof.ReprRoads
import PyProof.ReprBulk
import HandS.Conv
import HandS.Small
import HandS.WideBits
import PySem.Challenge.RW_backrun_k20_steps_and_steps_back
set_option Elab.async false
set_option linter.all false
set_option maxRecDepth 100000
/-! what serves every law: cuts, heaps that change at one place, the law's own draw -/
namespace My
open PySem PySem.Spec PyProof.Rows L2
/-! ### cuts -/
section
variable {X : Cx}
theorem ps_cut {st : Stmt} {t : TS} (h : PS X st t) : PS X st (fun D σ H => ∃ J : L2.St → Hp → Prop, t { D with nx := J } σ H ∧ ∀ σ' H', J σ' H' → D.nx σ' H') := by
  refine ⟨fun pins s σ H D I hh => ?_⟩
  obtain ⟨J, h1, h2⟩ := hh
  refine thn (h.run pins s σ H _ I h1) fun f s' z => ?_
  cases f with
  | next => obtain ⟨σ', H', I', j⟩ := z; exact ⟨σ', H', I', h2 σ' H' j⟩
  | brk => exact z
  | cont => exact z
  | ret v => exact z
theorem pe_cut {e : Expr} {t : TE} (h : PE X e t) : PE X e (fun σ H Q => ∃ J : V → Hp → Prop, t σ H J ∧ ∀ v H', J v H' → Q v H') := by
  refine ⟨fun pins s σ H Q I hh => ?_⟩
  obtain ⟨J, h1, h2⟩ := hh
  refine thn (h.run pins s σ H _ I h1) fun u s' ⟨v, H', I', r, j⟩ => ⟨v, H', I', r, h2 v H' j⟩
theorem pt_cut {e : Expr} {t : TT} (h : PT X e t) : PT X e (fun σ H Q => ∃ J : Bool → Hp → Prop, t σ H J ∧ ∀ b H', J b H' → Q b H') := by
  refine ⟨fun pins s σ H Q I hh => ?_⟩
  obtain ⟨J, h1, h2⟩ := hh
  refine thn (h.run pins s σ H _ I h1) fun u s' ⟨H', I', j⟩ => ⟨H', I', h2 u H' j⟩
end
/-! ### heaps -/
theorem same_upd {H : Hp} {p : Addr} {o : HO} (h : H p = none) : Same H (upd H p o) := fun b x e => by
  rw [upd_ne (ne_of_none e h)]
  exact e
/-- all but what stands at p stays -/
def KeepBut (p : Addr) (H H' : Hp) : Prop := ∀ b o, b ≠ p → H b = some o → H' b = some o
theorem KeepBut.refl (p : Addr) (H : Hp) : KeepBut p H H := fun _ _ _ e => e
theorem KeepBut.trans {p : Addr} {H H1 H2 : Hp} (a : KeepBut p H H1) (b : KeepBut p H1 H2) : KeepBut p H H2 := fun c o n e => b c o n (a c o n e)
theorem KeepBut.put (p : Addr) (H : Hp) (o : HO) : KeepBut p H (upd H p o) := fun b x n e => by
  rw [upd_ne n]
  exact e
theorem KeepBut.same {p : Addr} {H H1 : Hp} (a : Same H H1) : KeepBut p H H1 := fun c o _ e => a c o e
theorem KeepBut.new {p q : Addr} {H H1 : Hp} {o : HO} (a : KeepBut p H H1) (h : H1 q = none) : KeepBut p H (upd H1 q o) := a.trans (.same (same_upd h))
/-! ### the law's draw: [cells, place, rest, seed] -/
structure DrawIs (H : Hp) (p c : Addr) (cells : List Int) (pos rest seed : Int) : Prop where
  hp : H p = some (.lst [.ref c, .int pos, .int rest, .int seed])
  hc : H c = some (.lst (cells.map V.int))
  nn : ∀ x ∈ cells, 0 ≤ x
  po : -1 ≤ pos
  re : 0 ≤ rest
  s0 : 0 ≤ seed
  s1 : seed < 2147483647
def DrawAt (H : Hp) (p : Addr) : Prop := ∃ c cells pos rest seed, DrawIs H p c cells pos rest seed
theorem DrawIs.ne {H : Hp} {p c : Addr} {cells : List Int} {pos rest seed : Int} (D : DrawIs H p c cells pos rest seed) : c ≠ p := ne_of D.hc D.hp (by
  intro z
  cases cells with
  | nil => cases z
  | cons x r => cases z)
theorem DrawIs.put {H : Hp} {p c : Addr} {cells : List Int} {pos rest seed pos' rest' seed' : Int} (D : DrawIs H p c cells pos rest seed) (h1 : -1 ≤ pos') (h2 : 0 ≤ rest') (h3 : 0 ≤ seed') (h4 : seed' < 2147483647) :
    DrawIs (upd H p (.lst [.ref c, .int pos', .int rest', .int seed'])) p c cells pos' rest' seed' :=
  ⟨upd_same, by rw [upd_ne D.ne]; exact D.hc, D.nn, h1, h2, h3, h4⟩
theorem DrawIs.keep {H H' : Hp} {p c : Addr} {cells : List Int} {pos rest seed : Int} (D : DrawIs H p c cells pos rest seed) (k : Same H H') : DrawIs H' p c cells pos rest seed :=
  ⟨k _ _ D.hp, k _ _ D.hc, D.nn, D.po, D.re, D.s0, D.s1⟩
theorem DrawAt.keep {H H' : Hp} {p : Addr} (D : DrawAt H p) (k : Same H H') : DrawAt H' p := by
  obtain ⟨c, cells, pos, rest, seed, d⟩ := D
  exact ⟨c, cells, pos, rest, seed, d.keep k⟩
theorem DrawAt.some {H : Hp} {p : Addr} (D : DrawAt H p) : ∃ o, H p = some o := by
  obtain ⟨c, cells, pos, rest, seed, d⟩ := D
  exact ⟨_, d.hp⟩
theorem DrawAt.upd {H : Hp} {p q : Addr} {o : HO} (D : DrawAt H p) (h : H q = none) : DrawAt (upd H q o) p := D.keep (same_upd h)
/-! ### numbers -/
theorem int_nat {i : Int} (h : 0 ≤ i) : ∃ n : Nat, i = (n : Int) := ⟨i.toNat, by omega⟩
theorem fmod_lo {a b : Int} (h : 0 < b) : 0 ≤ a.fmod b := Int.fmod_nonneg_of_pos a h
theorem fmod_hi {a b : Int} (h : 0 < b) : a.fmod b < b := Int.fmod_lt_of_pos a h
theorem fmod_e {a b : Int} (h : 0 < b) : a.fmod b = a % b := Int.fmod_eq_emod_of_nonneg a (by omega)
theorem div_lo {a b : Int} (h : 0 ≤ a) (hb : 0 < b) : 0 ≤ a / b := Int.ediv_nonneg h (by omega)
end My
namespace My
open PySem PySem.Spec PyProof.Rows L2
/-! ### a written tuple of the top -/
theorem rel_abs : ∀ {u : Value} {x : V}, absV u = some x → RelV x u
  | .none, _, h => by cases h; rfl
  | .bool _, _, h => by cases h; rfl
  | .int _ t, _, h => by cases h; exact ⟨t, rfl⟩
  | .str _ t, _, h => by cases h; exact ⟨t, rfl⟩
  | .bytes _ t, _, h => by cases h; exact ⟨t, rfl⟩
  | .float _ t, _, h => by cases h; exact ⟨t, rfl⟩
  | .ref _, _, h => by cases h; rfl
  | .type _, _, h => by cases h; rfl
theorem vals_abs : ∀ {us : List Value} {xs : List V}, us.mapM absV = some xs → Vals xs us
  | [], xs, h => by
    cases h
    exact .nil
  | u :: us, xs, h => by
    rw [List.mapM_cons] at h
    cases e : absV u with
    | none => rw [e] at h; cases h
    | some x =>
      rw [e] at h
      cases e2 : us.mapM absV with
      | none => rw [e2] at h; cases h
      | some ys =>
        rw [e2] at h
        cases h
        exact .cons (rel_abs e) (vals_abs e2)
theorem sqT_k {K : PySem.W.Frag} {H : Hp} {a : Addr} {d : Option Addr} {its : Array Value} {n : Nat} {sl : Array (Option Value)} {xs : List V} (l : K.lookup a = some ⟨.type "tuple", d, .seq its n, sl⟩) (h : its.toList.mapM absV = some xs) (z : its.size ≤ sizeLine) : SqT K H a xs :=
  .inr ⟨_, its, n, l, rfl, rfl, z, vals_abs h⟩
end My

set_option Elab.async false
set_option linter.all false
/-! words: the ten ops by bits and by whole numbers -/
namespace My
open PySem PySem.Spec PyProof.Rows L2
theorem bit_and (a b k : Nat) : (a &&& b) / 2 ^ k % 2 = if a / 2 ^ k % 2 + b / 2 ^ k % 2 = 2 then 1 else 0 := by
  have h := Nat.testBit_and a b k
  rw [Nat.testBit_eq_decide_div_mod_eq, Nat.testBit_eq_decide_div_mod_eq, Nat.testBit_eq_decide_div_mod_eq] at h
  have h1 := Nat.mod_lt (a / 2 ^ k) (show 2 > 0 by decide)
  have h2 := Nat.mod_lt (b / 2 ^ k) (show 2 > 0 by decide)
  have h3 := Nat.mod_lt ((a &&& b) / 2 ^ k) (show 2 > 0 by decide)
  have h4 : ((a &&& b) / 2 ^ k % 2 = 1) ↔ (a / 2 ^ k % 2 = 1 ∧ b / 2 ^ k % 2 = 1) := by
    rw [← decide_eq_true_iff (p := (a &&& b) / 2 ^ k % 2 = 1), h, Bool.and_eq_true, decide_eq_true_iff, decide_eq_true_iff]
  split <;> omega
theorem bit_or (a b k : Nat) : (a ||| b) / 2 ^ k % 2 = if 0 < a / 2 ^ k % 2 + b / 2 ^ k % 2 then 1 else 0 := by
  have h := Nat.testBit_or a b k
  rw [Nat.testBit_eq_decide_div_mod_eq, Nat.testBit_eq_decide_div_mod_eq, Nat.testBit_eq_decide_div_mod_eq] at h
  have h1 := Nat.mod_lt (a / 2 ^ k) (show 2 > 0 by decide)
  have h2 := Nat.mod_lt (b / 2 ^ k) (show 2 > 0 by decide)
  have h3 := Nat.mod_lt ((a ||| b) / 2 ^ k) (show 2 > 0 by decide)
  have h4 : ((a ||| b) / 2 ^ k % 2 = 1) ↔ (a / 2 ^ k % 2 = 1 ∨ b / 2 ^ k % 2 = 1) := by
    rw [← decide_eq_true_iff (p := (a ||| b) / 2 ^ k % 2 = 1), h, Bool.or_eq_true, decide_eq_true_iff, decide_eq_true_iff]
  split <;> omega
theorem bit_xor (a b k : Nat) : (a ^^^ b) / 2 ^ k % 2 = if a / 2 ^ k % 2 + b / 2 ^ k % 2 = 1 then 1 else 0 := by
  have h := Nat.testBit_xor (x := a) (y := b) (i := k)
  rw [Nat.testBit_eq_decide_div_mod_eq, Nat.testBit_eq_decide_div_mod_eq, Nat.testBit_eq_decide_div_mod_eq] at h
  have h1 := Nat.mod_lt (a / 2 ^ k) (show 2 > 0 by decide)
  have h2 := Nat.mod_lt (b / 2 ^ k) (show 2 > 0 by decide)
  have h3 := Nat.mod_lt ((a ^^^ b) / 2 ^ k) (show 2 > 0 by decide)
  by_cases c1 : a / 2 ^ k % 2 = 1 <;> by_cases c2 : b / 2 ^ k % 2 = 1 <;> by_cases c3 : (a ^^^ b) / 2 ^ k % 2 = 1 <;> simp [c1, c2, c3] at h ⊢ <;> first | omega | (split <;> omega)
/-- and, or, xor of two numbers by their name -/
def bitF (op : Str) (a b : Nat) : Nat := if op = "and" then a &&& b else if op = "or" then a ||| b else a ^^^ b
/-- does the bit count -/
def bitC (op : Str) (both : Int) : Bool := if op = "and" then decide (both = 2) else if op = "or" then decide (0 < both) else decide (both = 1)
theorem bitF_step (op : Str) (a b k : Nat) : ((bitF op a b % 2 ^ (k + 1) : Nat) : Int) = ((bitF op a b % 2 ^ k : Nat) : Int) + (if bitC op (((a / 2 ^ k % 2 : Nat) : Int) + ((b / 2 ^ k % 2 : Nat) : Int)) = true then (2 : Int) ^ k else 0) := by
  have e : bitF op a b / 2 ^ k % 2 = if bitC op (((a / 2 ^ k % 2 : Nat) : Int) + ((b / 2 ^ k % 2 : Nat) : Int)) = true then 1 else 0 := by
    unfold bitF bitC
    by_cases c1 : op = "and"
    · rw [if_pos c1, if_pos c1, bit_and]
      simp only [decide_eq_true_eq]
      split <;> split <;> omega
    · rw [if_neg c1, if_neg c1]
      by_cases c2 : op = "or"
      · rw [if_pos c2, if_pos c2, bit_or]
        simp only [decide_eq_true_eq]
        split <;> split <;> omega
      · rw [if_neg c2, if_neg c2, bit_xor]
        simp only [decide_eq_true_eq]
        split <;> split <;> omega
  rw [Nat.mod_pow_succ, e]
  have hk : ((2 ^ k : Nat) : Int) = (2 : Int) ^ k := PySem.W.kbt_cast k
  split
  · rw [Nat.mul_one]; omega
  · rw [Nat.mul_zero]; omega
theorem bitF_lt (op : Str) {a b n : Nat} (ha : a < 2 ^ n) (hb : b < 2 ^ n) : bitF op a b < 2 ^ n := by
  unfold bitF
  split
  · exact Nat.and_lt_two_pow a hb
  · split
    · exact Nat.or_lt_two_pow ha hb
    · exact Nat.xor_lt_two_pow ha hb
theorem bitOr_nat (a b : Nat) : Builtin.bitOr (a : Int) (b : Int) = ((a ||| b : Nat) : Int) := by
  show Spec.bitOr (a : Int) (b : Int) = _
  have h1 : ¬ (0 ≤ -(a : Int) - 1) := by omega
  have h2 : ¬ (0 ≤ -(b : Int) - 1) := by omega
  have e1 : (-(-(a : Int) - 1) - 1).toNat = a := by omega
  have e2 : (-(-(b : Int) - 1) - 1).toNat = b := by omega
  unfold Spec.bitOr Spec.bitAnd Spec.bitNot
  rw [decide_eq_false h1, decide_eq_false h2]
  show -(-(((-(-(a : Int) - 1) - 1).toNat ||| (-(-(b : Int) - 1) - 1).toNat : Nat) : Int) - 1) - 1 = _
  rw [e1, e2]
  omega
theorem bitAnd_nat (a b : Nat) : Builtin.bitAnd (a : Int) (b : Int) = ((a &&& b : Nat) : Int) := PySem.W.os_band a b
theorem or_sub_and (a b : Nat) : (a ||| b) - (a &&& b) = a ^^^ b ∧ (a &&& b) ≤ (a ||| b) := by
  -- by bits from below
  have key : ∀ n : Nat, ∀ a b : Nat, a < 2 ^ n → b < 2 ^ n → (a ||| b) = (a ^^^ b) + (a &&& b) := by
    intro n
    induction n with
    | zero =>
      intro a b ha hb
      have : a = 0 := by omega
      have : b = 0 := by omega
      subst_vars
      rfl
    | succ n ih =>
      intro a b ha hb
      have h1 := bit_and a b 0
      have h2 := bit_or a b 0
      have h3 := bit_xor a b 0
      have e1 : (a &&& b) / 2 = (a / 2) &&& (b / 2) := Nat.and_div_two
      have e2 : (a ||| b) / 2 = (a / 2) ||| (b / 2) := Nat.or_div_two
      have e3 : (a ^^^ b) / 2 = (a / 2) ^^^ (b / 2) := Nat.xor_div_two
      have hp : 2 ^ (n + 1) = 2 ^ n * 2 := Nat.pow_succ ..
      have := ih (a / 2) (b / 2) (by omega) (by omega)
      simp only [Nat.pow_zero, Nat.div_one] at h1 h2 h3
      have m1 := Nat.mod_lt a (show 2 > 0 by decide)
      have m2 := Nat.mod_lt b (show 2 > 0 by decide)
      split at h1 <;> split at h2 <;> split at h3 <;> omega
  have hm : ∀ a : Nat, a < 2 ^ a := fun a => Nat.lt_two_pow_self
  have ha : a < 2 ^ (a + b) := Nat.lt_of_lt_of_le (hm a) (Nat.pow_le_pow_right (by decide) (by omega))
  have hb : b < 2 ^ (a + b) := Nat.lt_of_lt_of_le (hm b) (Nat.pow_le_pow_right (by decide) (by omega))
  have := key (a + b) a b ha hb
  omega
theorem bitXor_nat (a b : Nat) : Builtin.bitXor (a : Int) (b : Int) = ((a ^^^ b : Nat) : Int) := by
  show Builtin.bitOr (a : Int) (b : Int) - Builtin.bitAnd (a : Int) (b : Int) = _
  rw [bitOr_nat, bitAnd_nat]
  have := or_sub_and a b
  omega
/-- the word of an op, as the document has it -/
def cmpS (op : Str) (n : Nat) (x y : Int) : Int :=
  if op = "add" then (x + y) % 2 ^ n else if op = "sub" then (x - y) % 2 ^ n else if op = "mul" then (x * y) % 2 ^ n
  else if op = "and" then Builtin.bitAnd x y else if op = "or" then Builtin.bitOr x y else if op = "xor" then Builtin.bitXor x y
  else if op = "less" then (if x < y then 1 else 0) else if op = "equal" then (if x = y then 1 else 0)
  else if (n : Int) ≤ y then 0 else if op = "shl" then (x * 2 ^ y.toNat) % 2 ^ n else x / 2 ^ y.toNat
theorem bitF_cmp {op : Str} (h : op = "and" ∨ op = "or" ∨ op = "xor") (n a b : Nat) : cmpS op n (a : Int) (b : Int) = ((bitF op a b : Nat) : Int) := by
  rcases h with rfl | rfl | rfl
  · exact bitAnd_nat a b
  · exact bitOr_nat a b
  · exact bitXor_nat a b
end My

set_option Elab.async false
set_option linter.all false
set_option maxRecDepth 100000
set_option maxHeartbeats 4000000
/-! all(e for x in xs), any(e for x in xs): the element any expression that gives a truth value, calls of own defs too -/
namespace My
open PySem PySem.Spec PyProof.Rows L2 GxR NdefX GenW
/-- the context of the generator's frame -/
def gcx (X : Cx) (s : Shared) (H : Hp) (A : Around) (N : List Str) (cenv : Env) (fp : List Addr) : Cx :=
  { X with A := A, N := N, s_0 := s, H_0 := H, env := cenv, outer := X.stack, stack := cenv :: X.stack, ex := fp, fn := fun _ => false, calm := true, pn := [], xe := fun _ _ => False }
/-- the names that the element reads of the def around it, with their slots there -/
def Caps (X : Cx) (scope : Scope) : List (Str × Nat) → Prop
  | [] => True
  | p :: r => (X.N[p.2]? = some p.1 ∧ scope.names.lookup p.1 = some .free ∧ (X.env.scope.names.lookup p.1 = some .cell ∨ X.env.scope.names.lookup p.1 = some .free)) ∧ Caps X scope r
def gσ (σ : L2.St) (own : List (Str × Nat)) (v : Option V) : L2.St := v :: own.map fun p => (σ[p.2]?).getD none
def gN (x : Str) (own : List (Str × Nat)) : List Str := x :: own.map (·.1)
theorem caps_at {X : Cx} {scope : Scope} : ∀ {own : List (Str × Nat)} {i : Nat} {p : Str × Nat}, Caps X scope own → own[i]? = some p → X.N[p.2]? = some p.1 ∧ scope.names.lookup p.1 = some .free ∧ (X.env.scope.names.lookup p.1 = some .cell ∨ X.env.scope.names.lookup p.1 = some .free)
  | [], _, _, _, e => by simp at e
  | q :: r, 0, p, h, e => by simp at e; subst e; exact h.1
  | q :: r, i + 1, p, h, e => caps_at (own := r) (i := i) h.2 (by simpa using e)
section
variable {X : Cx} {pins : List (Addr × Obj)} {σ : L2.St} {H : Hp} {s s' : Shared}
/-- the heap as it was -/
theorem inv_same (I : Inv X pins σ H s) (h : s'.heap = s.heap) (ho : s'.os = s.os) (hb : AllBare s'.gens) : Inv X pins σ H s' := by
  obtain ⟨hh, g, d, t, o⟩ := s'
  obtain rfl : hh = s.heap := h
  obtain rfl : o = s.os := ho
  exact I.step (g' := g) (d' := d) (t' := t) (ch := []) (fun _ z => nomatch z) (fun _ _ _ _ _ e _ => e) (fun _ o _ _ _ e _ => ⟨o.slots, e⟩) (fun _ _ _ _ n => n) (fun _ o _ e => ⟨o, e⟩) (fun _ _ e => e) (fun _ _ _ e => e)
    (fun b ps e => ⟨#[], by rw [e]; simp⟩) (fun _ hm => hm) I.hok hb
/-- the frame of the generator begins -/
theorem gen_start {it a : Addr} {go : Obj} {fp : List Addr} {scope : Scope} {x : Str} {own : List (Str × Nat)} {A : Around} {h' : Heap} {bi : Addr} {code : Value} {gg : Array GenState} {tk : Nat}
    (I : Inv X pins σ H s) (hfp : ∀ b ∈ fp, FpOk X pins H b ∧ b < s.heap.objs.size) (S : GenS X.env scope x) (hc : Caps X scope own) (hA : A.handled = none) (hF : A.frames = some (genEnv scope (cloFrom X.env.cells scope.names []) s.heap.objs.size code bi X.env :: X.stack)) (hbi : bi = builtinsNs)
    (hn : h'.Ns s.heap.objs.size fun y => if y = ".0" then some (.ref it) else none) (kp : ∀ b o, s.heap.get? b = some o → (h'.push go).get? b = some o) (hsz : h'.objs.size = s.heap.objs.size + 1) (ha : a = h'.objs.size) (hnc : ∀ v, go.data ≠ .cell v) (hfr : go.isFreed = false) (hg : AllBare gg) :
    Inv (gcx X s H A (gN x own) (genEnv scope (cloFrom X.env.cells scope.names []) s.heap.objs.size code bi X.env) fp) [(a, go)] (gσ σ own none) H { s with gens := gg, toks := tk, heap := h'.push go } := by
  have cm : ∀ {y c}, (cloFrom X.env.cells scope.names []).lookup y = some c → X.env.cells.lookup y = some c := fun {y c} e => clo_cm S.free e
  have okB : (gcx X s H A (gN x own) (genEnv scope (cloFrom X.env.cells scope.names []) s.heap.objs.size code bi X.env) fp).Ok := by
    refine ⟨I.ok.mod, S.kind, I.ok.glob, hbi, Nat.le_refl _, fun y z c e1 e2 => I.ok.inj y z c (cm e1) (cm e2), fun y hy => ?_, fun y c z _ => (by cases z), fun _ => hA, hF, .inr ⟨rfl, rfl⟩, fun b hb => ⟨Nat.ne_of_lt (hfp b hb).2, fun y c e z => (hfp b hb).1.2.2.2.2.1 y c (cm e) z⟩,
      I.bs, Nat.le_trans I.ok.bsz I.sz, fun b o e hb => ?_, fun b hb z => ?_, I.stack, I.stkFree⟩
    · have hy : scope.names.lookup y = some .cell ∨ scope.names.lookup y = some .free := hy
      rcases hy with hy | hy
      · exact absurd rfl (S.cell _ (PySem.mem_of_lookup hy))
      · obtain ⟨c, e⟩ := S.free _ (PySem.mem_of_lookup hy) rfl
        exact ⟨c, clo_has S.free (PySem.mem_of_lookup hy) e⟩
    · rcases (hfp b hb).1.2.2.2.1 with z | z
      · exact I.ok.noex b o e z
      · exact absurd (Nat.lt_of_lt_of_le (Heap.lt_size e) (Nat.le_trans I.ok.bsz z)) (Nat.lt_irrefl _)
    · rcases List.mem_cons.mp (I.stkSub b z) with z | z
      · exact (hfp b hb).1.2.1 z
      · exact (hfp b hb).1.2.2.1 z
  refine ⟨okB, rfl, hg, Un.kept kp, ⟨_, hn.push _, fun i y v e1 e2 _ => ?_⟩, fun y c e => ?_, I.hok.fresh (Nat.le_refl _), fun y c e => I.freeC y c (cm e), fun p hp => ?_, I.hok.kept kp, ?_⟩
  · cases i with
    | zero => cases e2
    | succ i =>
      have e1 : (own.map (·.1))[i]? = some y := e1
      have e2 : (own.map fun p => (σ[p.2]?).getD none)[i]? = some (some v) := e2
      rw [List.getElem?_map] at e1 e2
      cases q : own[i]? with
      | none => rw [q] at e1; cases e1
      | some p =>
        rw [q] at e1 e2
        cases e1
        obtain ⟨hN, hf, hk⟩ := caps_at hc q
        have e3 : σ[p.2]? = some (some v) := by
          have e2 : some ((σ[p.2]?).getD none) = some (some v) := e2
          cases r : σ[p.2]? with
          | none => rw [r] at e2; cases e2
          | some u => rw [r] at e2; exact e2
        obtain ⟨m, _, hl⟩ := I.loc
        obtain ⟨u, r, lk⟩ := hl p.2 p.1 v hN e3 (.inr hk)
        refine ⟨u, r, .inr ⟨.inr hf, ?_⟩⟩
        rcases lk with ⟨k, _⟩ | ⟨_, c, e, o, ho, hd⟩
        · have k : X.env.scope.names.lookup p.1 = some .local := k
          rcases hk with hk | hk <;> (rw [hk] at k; cases k)
        · exact ⟨c, clo_has S.free (PySem.mem_of_lookup hf) e, o, kp c o ho, hd⟩
  · obtain ⟨v, o, ho, hd⟩ := I.cell y c (cm e)
    exact ⟨v, o, kp c o ho, hd⟩
  · have hp : p = (a, go) := by simpa [gcx] using hp
    subst hp
    refine ⟨?_, I.hok.fresh (by rw [ha, hsz]; exact Nat.le_succ _), ?_, fun z => ?_, hnc⟩
    · show (h'.push go).get? a = some go
      rw [ha]
      exact Heap.get?_push_size _ hfr
    · show a ≠ s.heap.objs.size
      rw [ha, hsz]
      exact Nat.succ_ne_self _
    · have hlt : ∀ b, b ∈ frs X.stack → b < s.heap.objs.size := fun b hb => by
        rcases List.mem_cons.mp (I.stkSub b hb) with y | y
        · rw [y]; exact I.lt
        · by_cases q : b < s.heap.objs.size
          · exact q
          · exact absurd y (I.nofs (Nat.le_of_not_lt q))
      have q := hlt a z
      rw [ha, hsz] at q
      exact absurd q (Nat.not_lt.mpr (Nat.le_succ _))
  · simp [gσ, gN, gcx]
end

theorem bne_of : ∀ {a b : Bool}, ¬ a = b → a = !b
  | true, true, h => absurd rfl h
  | true, false, _ => rfl
  | false, true, _ => rfl
  | false, false, h => absurd rfl h
/-! ### the generator's turns -/
section
variable {X : Cx} {al : Bool} {W : Nat → Nat → Hp → Prop} {QF : V → Hp → Prop}
/-- what a turn hands out: the answer is settled, or it goes on -/
def YAll (X' : Cx) (pn : List (Addr × Obj)) (al : Bool) (QF : V → Hp → Prop) : Protocol := fun _ _ v s kap =>
  ∃ σ H, Inv X' pn σ H s ∧ ((v = .bool (!al) ∧ QF (.bl (!al)) H) ∨ (v = .bool al ∧ ∀ s', s'.heap = s.heap → s'.os = s.os → AllBare s'.gens → kap (.send .none) s'))
def PAll (X' : Cx) (pn : List (Addr × Obj)) (al : Bool) (QF : V → Hp → Prop) (_ : Nat) (_ s : Shared) : Prop := ∃ σ H, Inv X' pn σ H s ∧ QF (.bl al) H
/-- one turn of the reading -/
def TAll (σ : L2.St) (own : List (Str × Nat)) (te : TE) (al : Bool) (J : It) (W : Nat → Nat → Hp → Prop) (QF : V → Hp → Prop) : Prop := ∀ i m H, W i m H →
  (J.stop i H ∧ QF (.bl al) H) ∨ (J.go i H ∧ ∃ Nx : Hp → Prop, (∀ H', Nx H' → ∃ m', m' < m ∧ W (i + 1) m' H') ∧ ∀ v H', J.yld i H v H' → te (gσ σ own (some v)) H' fun y H2 => ∃ b, y = .bl b ∧ if b = al then Nx H2 else QF (.bl (!al)) H2)
theorem seg_all {A : Around} {elt iter : Expr} {x : Str} {px gpos : Pos} {scope : Scope} {cenv : Env} {s₁ : Shared} {H₁ : Hp} {own : List (Str × Nat)} {fp : List Addr} {it : Addr} {a : Addr} {go : Obj} {J : It} {tn : Nat → Heap → Prop} {σ : L2.St} {te : TE}
    (hsc : cenv.scope = scope) (hx : scope.names.lookup x = some .local) (hco : scope.isCoroutine = false) (hnd : (gN x own).Nodup) (haf : ∀ b ∈ fp, a ≠ b)
    (T : Turn X.prog X.w X.K (.Name x px) J fp it tn)
    (he : PE (gcx X s₁ H₁ (A.over (.compLoop (.GeneratorExp elt [⟨.Name x px, iter, [], 0⟩] scope gpos) 0 (.ref it) .none cenv) []) (gN x own) cenv fp) elt te)
    (turn : TAll σ own te al J W QF) : ∀ (m n i : Nat) (s₀ s : Shared) (H : Hp) (v₀ : Option V), m < n →
      Inv (gcx X s₁ H₁ (A.over (.compLoop (.GeneratorExp elt [⟨.Name x px, iter, [], 0⟩] scope gpos) 0 (.ref it) .none cenv) []) (gN x own) cenv fp) [(a, go)] (gσ σ own v₀) H s → tn i s.heap → (∀ b ∈ fp, H b = none) → W i m H →
      Seg (model X.prog X.w) A (fun n s₀ r s₂ => r = .ok .next ∧ PAll (gcx X s₁ H₁ (A.over (.compLoop (.GeneratorExp elt [⟨.Name x px, iter, [], 0⟩] scope gpos) 0 (.ref it) .none cenv) []) (gN x own) cenv fp) [(a, go)] al QF n s₀ s₂)
        (YAll (gcx X s₁ H₁ (A.over (.compLoop (.GeneratorExp elt [⟨.Name x px, iter, [], 0⟩] scope gpos) 0 (.ref it) .none cenv) []) (gN x own) cenv fp) [(a, go)] al QF) n s₀
        (.compLoop (.GeneratorExp elt [⟨.Name x px, iter, [], 0⟩] scope gpos) 0 (.ref it) .none cenv)
        ((model X.prog X.w).den (.compLoop (.GeneratorExp elt [⟨.Name x px, iter, [], 0⟩] scope gpos) 0 (.ref it) .none cenv)) [] s := by
  generalize hcd : (Code.compLoop (.GeneratorExp elt [⟨.Name x px, iter, [], 0⟩] scope gpos) 0 (.ref it) .none cenv) = cd at *
  have hcalm : ∀ (Y : Cx), (gcx X s₁ H₁ (A.over cd []) (gN x own) cenv fp).calm = true := fun _ => rfl
  intro m
  induction m using Nat.strongRecOn with
  | _ m ih =>
    intro n i s₀ s H v₀ hmn I st hfn w
    have stat : ∀ {σ' : L2.St} {H' : Hp} {s' : Shared}, Inv (gcx X s₁ H₁ (A.over cd []) (gN x own) cenv fp) [(a, go)] σ' H' s' → (∀ b ∈ fp, H' b = none) → ∀ b ∈ fp, FpOk (gcx X s₁ H₁ (A.over cd []) (gN x own) cenv fp) [(a, go)] H' b := fun {σ' H' s'} I' hn b hb =>
      ⟨hn b hb, (I'.ok.exf b hb).1, I'.ok.exfs b hb, .inl hb, fun x c e => (I'.ok.exf b hb).2 x c e, fun p hp => by
        have hp : p = (a, go) := by simpa [gcx] using hp
        rw [hp]
        exact haf b hb⟩
    have den : (model X.prog X.w).den cd = (compTurn (.GeneratorExp elt [⟨.Name x px, iter, [], 0⟩] scope gpos) 0 (.ref it) .none cenv).onRaise (leaving cenv) := by rw [← hcd]; rfl
    rw [den, compTurn_gen, Sem.onRaise_eq_wrap, hcd]
    refine seg_bind_wrap (wpAny_standAt ?_)
    rcases turn i m H w with ⟨stop, qq⟩ | ⟨gg, Nx, hNx, step⟩
    · refine seg_bind_wrap (thnF (T.done (gcx X s₁ H₁ (A.over cd []) (gN x own) cenv fp) rfl rfl rfl rfl i [(a, go)] s _ H (fun _ _ => False) I (stat I hfn) st stop) fun r s2 ⟨hr, I2⟩ => ?_)
      subst hr
      exact seg_end (.ok .next) ⟨rfl, _, H, I2, qq⟩
    · refine seg_bind_wrap (thnF (T.item (gcx X s₁ H₁ (A.over cd []) (gN x own) cenv fp) rfl rfl rfl rfl i [(a, go)] s _ H (fun _ _ => False) I (stat I hfn) st gg) fun r s2 ⟨u, hr, h2⟩ => ?_)
      subst hr
      refine seg_bind_wrap (thnF h2 fun _ s3 ⟨v, H3, I3, r3, y3, st3, n3⟩ => ?_)
      have I3' := I3.pinned (stat I3 n3) (T.obj _ _ st3)
      have hsx : cenv.scope.names.lookup x = some .local := by rw [hsc]; exact hx
      refine seg_bind_wrap (wpAny_assign_Name (store_ok (i := 0) (x := x) I3' hnd rfl (.inl hsx) r3 (fun s4 I4 => ?_) (.inr hsx)))
      have I4 : Inv (gcx X s₁ H₁ (A.over cd []) (gN x own) cenv fp) ([(a, go)] ++ pinsAt fp s3.heap) (gσ σ own (some v)) H3 s4 := I4
      refine seg_bind_wrap (wpAny_tests_nil ?_)
      simp only [if_true]
      have hy : ∀ v, yieldOut cenv v = yieldValue v := fun v => by simp only [yieldOut, hsc, hco, Bool.false_eq_true, if_false]
      simp only [hy]
      rw [Sem.bind_eq_wrap', Sem.bind_eq_wrap', Sem.wrap_wrap, Sem.wrap_wrap]
      refine seg_wrap (thnF (he.run _ s4 _ H3 _ I4 (step v H3 y3)) fun y s5 ⟨z, H5, I5, r5, b, hz, q5⟩ => ?_)
      subst hz
      obtain rfl : y = .bool b := r5
      obtain ⟨k, rfl⟩ : ∃ k, n = k + 1 := ⟨n - 1, by omega⟩
      refine seg_at (seg_yield rfl rfl rfl ⟨_, H5, I5.unpinned, ?_⟩)
      by_cases hb : b = al
      · subst hb
        rw [if_pos rfl] at q5
        obtain ⟨m', hm', w'⟩ := hNx H5 q5
        refine .inr ⟨rfl, fun s6 e6 o6 b6 => ?_⟩
        have pin' : ∀ b ∈ fp, ∀ o, s3.heap.get? b = some o → s5.heap.get? b = some o ∧ H5 b = none := fun b hb o e =>
          let z := I5.pin (b, o) (List.mem_append_right _ (List.mem_append_right _ (mem_pinsAt hb e)))
          ⟨z.1, z.2.1⟩
        refine seg_again (c' := cd) (by rw [← hcd]; rfl) (ih m' hm' k (i + 1) _ s6 H5 (some v) (by omega) (inv_same I5.unpinned e6 o6 b6) (T.keep _ _ _ st3 fun b hb o e => by rw [e6]; exact (pin' b hb o e).1) (fun b hb => ?_) w')
        obtain ⟨o, e, _⟩ := T.obj _ _ st3 b hb
        exact (pin' b hb o e).2
      · rw [if_neg hb] at q5
        have e : b = !al := bne_of hb
        exact .inl ⟨by rw [e], q5⟩
end
end My

set_option Elab.async false
set_option linter.all false
set_option maxRecDepth 100000
set_option maxHeartbeats 4000000
namespace My
open PySem PySem.Spec PyProof.Rows L2 GxR NdefX GenW
section
variable {Y : Cx} {QF : V → Hp → Prop} {a : Addr} {go : Obj} {g : Nat} {A0 : Around} {Re : Result → Shared → Prop}
theorem pull_all {al : Bool} {n : Nat} {s : Shared} {gs : GenState} {Q : Option Value → Shared → Prop} {E : Value → Shared → Prop} (hh : A0.handled = none) (hroom : A0.depth < recursionLimit) (hgen : ∀ h : Heap, h.get? a = some go → h.IsGen a g)
    (hgs : s.gens[g]? = some gs) (hI : ∃ σ H, Inv Y [(a, go)] σ H s)
    (hgo : gs.Goes (model Y.prog Y.w) A0.in1 (fun n s₀ r s₁ => r = .ok .next ∧ PAll Y [(a, go)] al QF n s₀ s₁) (YAll Y [(a, go)] al QF) n (.send .none) (s.setGen g .running))
    (hN : ∀ σ H s', Inv Y [(a, go)] σ H s' → QF (.bl al) H → Q none s') (hS : ∀ σ H s', Inv Y [(a, go)] σ H s' → QF (.bl (!al)) H → Q (some (.bool (!al))) s')
    (hG : ∀ m gs' s', n = m + 1 → s'.gens[g]? = some gs' → (∃ σ H, Inv Y [(a, go)] σ H s') →
      gs'.Goes (model Y.prog Y.w) A0.in1 (fun n s₀ r s₁ => r = .ok .next ∧ PAll Y [(a, go)] al QF n s₀ s₁) (YAll Y [(a, go)] al QF) m (.send .none) (s'.setGen g .running) → Q (some (.bool al)) s') :
    wpAny (model Y.prog Y.w) A0 (pyNext (.ref a)) Q E s := by
  obtain ⟨σ, H, I⟩ := hI
  have hlt : g + 1 ≤ s.gens.size := by
    obtain ⟨h, _⟩ := Array.getElem?_eq_some_iff.mp hgs
    exact h
  refine wpAny_gsz hlt ?_
  refine wpAny_pyNext_genexpQ (P := PAll Y [(a, go)] al QF) hh I.nolimit hroom (hgen _ (I.pin (a, go) (List.mem_append_right _ List.mem_cons_self)).1) hgs hgo (fun v s₁ gs' hb hy => ?_) (fun s₁ hp h' hk => ?_)
  · intro hz
    obtain ⟨σ1, H1, I1, hv⟩ := hy
    have I2 : Inv Y [(a, go)] σ1 H1 (s₁.setGen g gs') := inv_same I1 rfl rfl (allBare_setGen I1.bare hb)
    rcases hv with ⟨rfl, q⟩ | ⟨rfl, kap⟩
    · exact hS _ _ _ I2 q
    · have e := kap ((s₁.setGen g gs').setGen g .running) rfl rfl (allBare_setGen I2.bare rfl)
      cases n with
      | zero => exact e.elim
      | succ m =>
        have hz' : g < s₁.gens.size := by
          rw [setGen_size] at hz
          exact hz
        exact hG m gs' _ rfl (setGen_at hz') ⟨_, _, I2⟩ e
  · intro _
    obtain ⟨σ1, H1, I1, q⟩ := hp
    exact hN σ1 H1 _ ((inv_same (s' := s₁.setGen g .finished) I1 rfl rfl (allBare_setGen I1.bare rfl)).kept (t' := s₁.toks) hk) q
theorem all_turns (hh : A0.handled = none) (hroom : A0.depth < recursionLimit) (hgen : ∀ h : Heap, h.get? a = some go → h.IsGen a g)
    (hR : ∀ σ H b s, Inv Y [(a, go)] σ H s → QF (.bl b) H → Re (.ok (.ret (.bool b))) s) : ∀ (n : Nat) (s : Shared) (gs : GenState), s.gens[g]? = some gs → (∃ σ H, Inv Y [(a, go)] σ H s) →
      gs.Goes (model Y.prog Y.w) A0.in1.in1 (fun n s₀ r s₁ => r = .ok .next ∧ PAll Y [(a, go)] true QF n s₀ s₁) (YAll Y [(a, go)] true QF) n (.send .none) (s.setGen g .running) →
      codeAny (model Y.prog Y.w) A0 (.builtin "all.loop" ⟨[.ref a], []⟩) Re s := by
  intro n
  induction n with
  | zero =>
    intro s gs hgs hI hgo
    refine codeAny_builtin F.entry_all_loop ?_
    rw [Around.under_plainId F.plain_all_loop _]
    show wpAny _ A0.in1 (pyNext (.ref a) >>= _) _ _ s
    refine wpAny_bind (pull_all (A0 := A0.in1) hh hroom hgen hgs hI hgo (fun σ H s' I q => ?_) (fun σ H s' I q => ?_) fun m gs' s' e _ _ _ => ?_)
    · exact wpAny_bind (wpAny_rule (wpAny_pure (hR σ H true s' I q)))
    · refine wpAny_bind (wpAny_holding (wpAny_truthy_bool ?_))
      refine wpAny_bind (wpAny_letGo ?_)
      exact wpAny_bind (wpAny_rule (wpAny_pure (hR σ H false s' I q)))
    · cases e
  | succ n ih =>
    intro s gs hgs hI hgo
    refine codeAny_builtin F.entry_all_loop ?_
    rw [Around.under_plainId F.plain_all_loop _]
    show wpAny _ A0.in1 (pyNext (.ref a) >>= _) _ _ s
    refine wpAny_bind (pull_all (A0 := A0.in1) hh hroom hgen hgs hI hgo (fun σ H s' I q => ?_) (fun σ H s' I q => ?_) fun m gs' s' e h1 h2 h3 => ?_)
    · exact wpAny_bind (wpAny_rule (wpAny_pure (hR σ H true s' I q)))
    · refine wpAny_bind (wpAny_holding (wpAny_truthy_bool ?_))
      refine wpAny_bind (wpAny_letGo ?_)
      exact wpAny_bind (wpAny_rule (wpAny_pure (hR σ H false s' I q)))
    · obtain rfl : n = m := Nat.succ.inj e
      refine wpAny_bind (wpAny_holding (wpAny_truthy_bool ?_))
      refine wpAny_bind (wpAny_letGo ?_)
      exact wpAny_pure ⟨plainId_quiet F.plain_all_loop _, ih s' gs' h1 h2 h3⟩
theorem any_turns (hh : A0.handled = none) (hroom : A0.depth < recursionLimit) (hgen : ∀ h : Heap, h.get? a = some go → h.IsGen a g)
    (hR : ∀ σ H b s, Inv Y [(a, go)] σ H s → QF (.bl b) H → Re (.ok (.ret (.bool b))) s) : ∀ (n : Nat) (s : Shared) (gs : GenState), s.gens[g]? = some gs → (∃ σ H, Inv Y [(a, go)] σ H s) →
      gs.Goes (model Y.prog Y.w) A0.in1.in1 (fun n s₀ r s₁ => r = .ok .next ∧ PAll Y [(a, go)] false QF n s₀ s₁) (YAll Y [(a, go)] false QF) n (.send .none) (s.setGen g .running) →
      codeAny (model Y.prog Y.w) A0 (.builtin "any.loop" ⟨[.ref a], []⟩) Re s := by
  intro n
  induction n with
  | zero =>
    intro s gs hgs hI hgo
    refine codeAny_builtin F.entry_any_loop ?_
    rw [Around.under_plainId F.plain_any_loop _]
    show wpAny _ A0.in1 (pyNext (.ref a) >>= _) _ _ s
    refine wpAny_bind (pull_all (A0 := A0.in1) hh hroom hgen hgs hI hgo (fun σ H s' I q => ?_) (fun σ H s' I q => ?_) fun m gs' s' e _ _ _ => ?_)
    · exact wpAny_bind (wpAny_rule (wpAny_pure (hR σ H false s' I q)))
    · refine wpAny_bind (wpAny_holding (wpAny_truthy_bool ?_))
      refine wpAny_bind (wpAny_letGo ?_)
      exact wpAny_bind (wpAny_rule (wpAny_pure (hR σ H true s' I q)))
    · cases e
  | succ n ih =>
    intro s gs hgs hI hgo
    refine codeAny_builtin F.entry_any_loop ?_
    rw [Around.under_plainId F.plain_any_loop _]
    show wpAny _ A0.in1 (pyNext (.ref a) >>= _) _ _ s
    refine wpAny_bind (pull_all (A0 := A0.in1) hh hroom hgen hgs hI hgo (fun σ H s' I q => ?_) (fun σ H s' I q => ?_) fun m gs' s' e h1 h2 h3 => ?_)
    · exact wpAny_bind (wpAny_rule (wpAny_pure (hR σ H false s' I q)))
    · refine wpAny_bind (wpAny_holding (wpAny_truthy_bool ?_))
      refine wpAny_bind (wpAny_letGo ?_)
      exact wpAny_bind (wpAny_rule (wpAny_pure (hR σ H true s' I q)))
    · obtain rfl : n = m := Nat.succ.inj e
      refine wpAny_bind (wpAny_holding (wpAny_truthy_bool ?_))
      refine wpAny_bind (wpAny_letGo ?_)
      exact wpAny_pure ⟨plainId_quiet F.plain_any_loop _, ih s' gs' h1 h2 h3⟩
end
end My

set_option Elab.async false
set_option linter.all false
set_option maxRecDepth 100000
set_option maxHeartbeats 4000000
namespace My
open PySem PySem.Spec PyProof.Rows L2 GxR NdefX GenW
/-- all(e for x in ..): P the def's table of code objects; W by the turn and a measure -/
def tGen (al : Bool) (P : Addr) (wi : TI) (own : List (Str × Nat)) (te : TE) : TE := fun σ H Q => wi σ H fun J H1 => TabG H1 P ∧ ∀ H2, Tabbed P H1 H2 → ∃ W : Nat → Nat → Hp → Prop, (∃ m, W 0 m H2) ∧ TAll σ own te al J W Q
/-- the generator's scope is in order -/
def genOk (scope : Scope) (x : Str) : Bool := scope.kind == .function && !scope.isCoroutine && scope.names.all (fun y => y.2 != .cell) && scope.names.lookup (".0" : Str) == some NameKind.local && scope.names.lookup x == some NameKind.local
def freeOk (sc scope : Scope) : Bool := scope.names.all fun y => y.2 != .free || sc.names.lookup y.1 == some NameKind.cell || sc.names.lookup y.1 == some NameKind.free
theorem gens_of {env : Env} {scope : Scope} {x : Str} (h : genOk scope x = true) (hf : freeOk env.scope scope = true) (has : ∀ y, (env.kindOf y = some .cell ∨ env.kindOf y = some .free) → ∃ c, env.cells.lookup y = some c) : GenS env scope x := by
  unfold genOk at h
  simp only [Bool.and_eq_true, beq_iff_eq, Bool.not_eq_true', List.all_eq_true, bne_iff_ne] at h
  obtain ⟨⟨⟨⟨h1, h2⟩, h3⟩, h4⟩, h5⟩ := h
  refine ⟨h1, h2, h3, h4, h5, fun y hy e => ?_⟩
  unfold freeOk at hf
  have q := List.all_eq_true.mp hf y hy
  simp only [Bool.or_eq_true, bne_iff_ne, beq_iff_eq] at q
  refine has y.1 ?_
  rcases q with (q | q) | q
  · exact absurd e q
  · exact .inl q
  · exact .inr q
section
variable {X : Cx} {pins : List (Addr × Obj)} {σ : L2.St} {H : Hp} {s : Shared}
theorem gen_made {al : Bool} {c P : Addr} {elt iter : Expr} {x : Str} {px gpos : Pos} {scope : Scope} {wi : TI} {te : TE} {own : List (Str × Nat)} {k : Nat} {Q : VK} {Q' : Value → Shared → Prop}
    (hr : Room (k + 1) X.A) (hcalm : X.calm = true) (TB : TabB X.base X.mg c P) (hcode : X.env.code = .ref c) (S : GenS X.env scope x) (hc : Caps X scope own) (hnd : (gN x own).Nodup) (hi : PI X (.Name x px) iter wi)
    (he : ∀ (s : Shared) (H : Hp) (A : Around) (cl : List (Str × Addr)) (C : Addr) (code : Value) (bi : Addr) (fp : List Addr), Room k A → PE (gcx X s H A (gN x own) (genEnv scope cl C code bi X.env) fp) elt te)
    (hs : ∀ v, genFold iter X.env v = pure v) (I : Inv X pins σ H s) (h : tGen al P wi own te σ H Q)
    (hQ : ∀ (Y : Cx) (a g : Nat) (go : Obj) (n : Nat) (cs : Code) (s5 : Shared), Y.prog = X.prog → Y.w = X.w → (∀ h : Heap, h.get? a = some go → h.IsGen a g) → s5.gens[g]? = some (.fresh cs) → (∃ σ H, Inv Y [(a, go)] σ H s5) → s5.heap.IsGen a g →
      GenState.Goes (model X.prog X.w) X.A.in1.in1 (fun n s₀ r s₁ => r = .ok .next ∧ PAll Y [(a, go)] al Q n s₀ s₁) (YAll Y [(a, go)] al Q) n (.fresh cs) (.send .none) (s5.setGen g .running) →
      (∀ σ' H' s', Inv Y [(a, go)] σ' H' s' → Inv X pins σ H' s') → Q' (.ref a) s5) :
    wpAny (model X.prog X.w) X.A (eval (.GeneratorExp elt [⟨.Name x px, iter, [], 0⟩] scope gpos) X.env) Q' X.xe s := by
  refine wpAny_GeneratorExp_make S.co (closure_ok S.free) S.cell S.dot S.kind (by have := hr.dp; omega) ?_ hs
  refine thn (hi.run pins s σ H _ I h) fun xv s1 hx => thn hx fun itv s2 h2 => ?_
  obtain ⟨it, fp, tn, J, H2, e, I2, T, st2, f2, ⟨ps, hP, ht⟩, q⟩ := h2
  subst e
  refine ⟨I2.nolimit, ?_⟩
  have hPs : s2.heap.get? P = some { cls := .none, data := .fields ps } := I2.hok P _ hP
  have cd : PySem.W.CodeHd s2.heap c P := TB.code.keeps fun b u e => I2.bk b u e
  have nP : ∀ b ∈ fp, b ≠ P := fun b hb z => by
    have := (f2 b hb).1
    rw [z, hP] at this
    cases this
  have cont : ∀ (code : Value) (s3 : Shared) (H3 : Hp), Inv X pins σ H3 s3 → Tabbed P H2 H3 → (∀ b u, b ≠ P → s2.heap.get? b = some u → s3.heap.get? b = some u) →
      wpAny (model X.prog X.w) X.A (builtinsFor X.env.globals X.env.builtins) (fun bi s₄ =>
        ∀ h', h'.Ns s₄.heap.objs.size (fun y => if y = ".0" then some (.ref it) else none) → Heap.SameBut s₄.heap.objs.size (s₄.heap.push { cls := .type "frame", data := .dict #[] }) h' →
          Q' (.ref h'.objs.size) { s₄ with
            gens := s₄.gens.push (.fresh (.compStart (.GeneratorExp elt [⟨.Name x px, iter, [], 0⟩] scope gpos) 0 (.ref it) .none (genEnv scope (cloFrom X.env.cells scope.names []) s₄.heap.objs.size code bi X.env))),
            toks := s₄.toks + 1 + 1 + 1,
            heap := h'.push { cls := .type "generator", data := .fields #[.int s₄.gens.size 0, .str "<genexpr>" (s₄.toks + 1), .str (X.env.qual ++ "<genexpr>") (s₄.toks + 1 + 1)] } }) X.xe s3 := by
    intro code s3 H3 I3 hT kp3
    obtain ⟨bm, ob, e1, e2, e3, e4, e5, e6, e7, e8⟩ := TB.bm
    refine wpAny_builtinsFor (m := X.mg) (by rw [I3.ok.glob]; exact I3.mod.glob.keeps I3.bk) e1 e2 (I3.bk _ _ e5) e6 e7 e8 ?_
    intro h' hn' hs'
    have keep' : ∀ b o, s3.heap.get? b = some o → h'.get? b = some o := fun b o e => hs'.extBut b o (Nat.ne_of_lt (Heap.lt_size e)) (Heap.get?_push_of_some _ e)
    have hsz : h'.objs.size = s3.heap.objs.size + 1 := by rw [hs'.1, Heap.size_push]
    have ffp : ∀ b ∈ fp, FpOk X pins H3 b ∧ b < s3.heap.objs.size := fun b hb => by
      obtain ⟨o, e, _⟩ := T.obj _ _ st2 b hb
      exact ⟨⟨by rw [hT.2 b (nP b hb)]; exact (f2 b hb).1, (f2 b hb).2⟩, Heap.lt_size (kp3 b o (nP b hb) e)⟩
    have st3 : tn 0 s3.heap := T.keep _ _ _ st2 fun b hb o e => kp3 b o (nP b hb) e
    obtain ⟨W, ⟨m0, w0⟩, turn⟩ := q H3 hT
    generalize hgo : ({ cls := .type "generator", data := .fields #[.int s3.gens.size 0, .str "<genexpr>" (s3.toks + 1), .str (X.env.qual ++ "<genexpr>") (s3.toks + 1 + 1)] } : Obj) = go
    have kp5 : ∀ b o, s3.heap.get? b = some o → (h'.push go).get? b = some o := fun b o e => Heap.get?_push_of_some _ (keep' b o e)
    have hisg : ∀ h : Heap, h.get? h'.objs.size = some go → h.IsGen h'.objs.size s3.gens.size := fun h e => ⟨go, _, _, e, by rw [← hgo], by rw [← hgo], by rw [← hgo]⟩
    have hA : (X.A.in1.in1.over (.compLoop (.GeneratorExp elt [⟨.Name x px, iter, [], 0⟩] scope gpos) 0 (.ref it) .none (genEnv scope (cloFrom X.env.cells scope.names []) s3.heap.objs.size code builtinsNs X.env)) []).frames = some (genEnv scope (cloFrom X.env.cells scope.names []) s3.heap.objs.size code builtinsNs X.env :: X.stack) := by
      show pushEnvs [genEnv scope (cloFrom X.env.cells scope.names []) s3.heap.objs.size code builtinsNs X.env] (pushEnvs [] X.A.frames) = _
      rw [I3.ok.frames]
      rfl
    have hRm : Room k (X.A.in1.in1.over (.compLoop (.GeneratorExp elt [⟨.Name x px, iter, [], 0⟩] scope gpos) 0 (.ref it) .none (genEnv scope (cloFrom X.env.cells scope.names []) s3.heap.objs.size code builtinsNs X.env)) []) := by
      have d := hr.dp
      have u := hr.un
      refine ⟨hr.hd, ?_, ?_⟩
      · show X.A.depth + 0 + 1 + 3 * k + 5 < _
        omega
      · show X.A.units + 1 + 1 + 0 + 3 + 16 * k + 200 < _
        omega
    have I5 := gen_start (it := it) (a := h'.objs.size) (go := go) (fp := fp) (own := own) (A := X.A.in1.in1.over (.compLoop (.GeneratorExp elt [⟨.Name x px, iter, [], 0⟩] scope gpos) 0 (.ref it) .none (genEnv scope (cloFrom X.env.cells scope.names []) s3.heap.objs.size code builtinsNs X.env)) [])
      (gg := s3.gens.push (.fresh (.compStart (.GeneratorExp elt [⟨.Name x px, iter, [], 0⟩] scope gpos) 0 (.ref it) .none (genEnv scope (cloFrom X.env.cells scope.names []) s3.heap.objs.size code builtinsNs X.env)))) (tk := s3.toks + 1 + 1 + 1)
      I3 ffp S hc hr.hd hA rfl hn' kp5 hsz rfl (fun v z => by rw [← hgo] at z; cases z) (by rw [← hgo]; rfl) (I3.bare.push rfl)
    have haf : ∀ b ∈ fp, h'.objs.size ≠ b := fun b hb z => by
      have := (ffp b hb).2
      rw [← z, hsz] at this
      exact absurd this (Nat.not_lt.mpr (Nat.le_succ _))
    refine hQ (gcx X s3 H3 (X.A.in1.in1.over (.compLoop (.GeneratorExp elt [⟨.Name x px, iter, [], 0⟩] scope gpos) 0 (.ref it) .none (genEnv scope (cloFrom X.env.cells scope.names []) s3.heap.objs.size code builtinsNs X.env)) []) (gN x own) (genEnv scope (cloFrom X.env.cells scope.names []) s3.heap.objs.size code builtinsNs X.env) fp) h'.objs.size s3.gens.size go (m0 + 1) _ _ rfl rfl hisg (Array.getElem?_push_size ..) ⟨_, _, I5⟩ (hisg _ (Heap.get?_push_size _ (by rw [← hgo]; rfl))) ⟨rfl, ?_⟩ (fun σ' H' s' I6 => ?_)
    · have loop := seg_all (X := X) (A := X.A.in1.in1) (al := al) (W := W) (QF := Q) (elt := elt) (iter := iter) (x := x) (px := px) (gpos := gpos) (scope := scope) (cenv := genEnv scope (cloFrom X.env.cells scope.names []) s3.heap.objs.size code builtinsNs X.env)
        (s₁ := s3) (H₁ := H3) (own := own) (fp := fp) (it := it) (a := h'.objs.size) (go := go) (J := J) (tn := tn) (σ := σ) (te := te) rfl S.loc S.co hnd haf T (he _ _ _ _ _ _ _ _ hRm) turn m0 (m0 + 1) 0
      have st5 : tn 0 (h'.push go) := T.keep _ _ _ st3 fun b _ o e => kp5 b o e
      have nf5 : ∀ b ∈ fp, H3 b = none := fun b hb => (ffp b hb).1.1
      generalize hs5 : ({ s3 with gens := s3.gens.push (.fresh (.compStart (.GeneratorExp elt [⟨.Name x px, iter, [], 0⟩] scope gpos) 0 (.ref it) .none (genEnv scope (cloFrom X.env.cells scope.names []) s3.heap.objs.size code builtinsNs X.env))), toks := s3.toks + 1 + 1 + 1, heap := h'.push go } : Shared) = s5 at I5 ⊢
      have h5 : s5.heap = h'.push go := by rw [← hs5]
      have I5' := inv_same (s' := s5.setGen s3.gens.size .running) I5 rfl rfl (allBare_setGen I5.bare rfl)
      have lp := loop (s5.setGen s3.gens.size .running) (s5.setGen s3.gens.size .running) H3 none (Nat.lt_succ_self _) I5' (by show tn 0 s5.heap; rw [h5]; exact st5) nf5 w0
      show Seg _ _ _ _ _ _ _ ((compStart (.GeneratorExp elt [⟨.Name x px, iter, [], 0⟩] scope gpos) 0 (.ref it) .none (genEnv scope (cloFrom X.env.cells scope.names []) s3.heap.objs.size code builtinsNs X.env)).onRaise (leaving (genEnv scope (cloFrom X.env.cells scope.names []) s3.heap.objs.size code builtinsNs X.env))) [] _
      unfold compStart
      rw [Sem.onRaise_eq_wrap]
      show Seg _ _ _ _ _ _ _ ((ask >>= _).wrap _ _ _ _) [] _
      refine seg_bind_wrap (wpAny_askSetting ?_)
      have slf : tn 0 (s5.setGen s3.gens.size .running).heap := by
        show tn 0 s5.heap
        rw [h5]
        exact st5
      split
      · exact seg_again rfl lp
      · first
          | exact seg_bind_wrap (wpAny_rule (seg_bind_wrap (wpAny_standAt (seg_bind_wrap (T.self _ 0 _ _ _ slf (seg_again rfl lp))))))
          | (refine seg_bind_wrap (wpAny_rule ?_); show Seg _ _ _ _ _ _ _ ((standAt iter.pos >>= _).wrap _ _ _ _) [] _; exact seg_bind_wrap (wpAny_standAt (seg_bind_wrap (T.self _ 0 _ _ _ slf (seg_again rfl lp)))))
    · exact I3.call' (ch := fp) I6.os I6.base I6.hok I6.bare fun b hb => ⟨(ffp b hb).1.2.2.2.1, (ffp b hb).1.2.1, (ffp b hb).1.2.2.2.2.1, (ffp b hb).1.2.2.2.2.2⟩
  cases hf : codeAmong gpos ps.toList with
  | none =>
    refine wpAny_genexprCodeX hcode (cd.code hPs ht) (cd.tab hPs) hf fun c' h3 tk hx hge hlt hco' _ htab' _ => ?_
    obtain ⟨o1, vs, f1, tf, fl, tg, inF, tx, tt, op, _, _, _, _, _, _, _, _, _, htr, _⟩ := hco'
    have I3 := inv_tab (g' := s2.gens) (d' := s2.drawn) (t' := tk) I2 hP (fun b o hb e => hx b o hb e) htab'.2 I2.bare
    exact cont _ _ _ I3 ⟨⟨_, upd_same, htr⟩, fun b hb => upd_ne hb⟩ fun b u hb e => hx b u hb e
  | some cv =>
    refine wpAny_genexprCode_hit hcode (cd.code hPs ht) hf ?_
    exact cont cv s2 H2 I2 ⟨⟨ps, hP, ht⟩, fun _ _ => rfl⟩ fun _ _ _ e => e
theorem pe_allG {c P : Addr} {elt iter : Expr} {x : Str} {px p pos gpos : Pos} {scope : Scope} {wi : TI} {te : TE} (own : List (Str × Nat)) {k : Nat}
    (hr : Room (k + 1) X.A) (hg : Gl X "all") (hm : X.mg "all" = none) (TB : TabB X.base X.mg c P) (hcode : X.env.code = .ref c) (gk : genOk scope x = true) (fk : freeOk X.env.scope scope = true) (hc : Caps X scope own) (hnd : (gN x own).Nodup) (hcalm : X.calm = true) (hi : PI X (.Name x px) iter wi)
    (he : ∀ (s : Shared) (H : Hp) (A : Around) (cl : List (Str × Addr)) (C : Addr) (code : Value) (bi : Addr) (fp : List Addr), Room k A → PE (gcx X s H A (gN x own) (genEnv scope cl C code bi X.env) fp) elt te)
    (hs : ∀ v, genFold iter X.env v = pure v := by intro _; rfl)
    (hE : starEach [.GeneratorExp elt [⟨.Name x px, iter, [], 0⟩] scope gpos] X.env = (false, eval (.GeneratorExp elt [⟨.Name x px, iter, [], 0⟩] scope gpos) X.env) :: starEach [] X.env := by rfl) :
    PE X (.Call (.Name "all" p) [.GeneratorExp elt [⟨.Name x px, iter, [], 0⟩] scope gpos] [] pos) (tGen true P wi own te) := by
  refine ⟨fun pins s σ H Q I h => ?_⟩
  refine wpAny_Call_Name_kw (ld_blt I hg hm (by decide +kernel : bootBuiltins "all" = some (.builtin "all")) ?_)
  refine PyProof.Rows.callWith_builtin1 ?_ hE (by rfl)
  rw [hE]
  show wpAny _ _ (spliced ((false, eval (.GeneratorExp elt [⟨.Name x px, iter, [], 0⟩] scope gpos) X.env) :: backTo pos (starEach [] X.env))) _ _ s
  refine Calls.spliced_cons (gen_made hr hcalm TB hcode (gens_of gk fk I.ok.has) hc hnd hi he hs I h fun Y a g go n cs s5 hp hw hgen hgs hI hisg hgo hback => ?_)
  refine Calls.spliced_nil ?_
  refine call_function_tree F.kind_all F.plain_all F.entry_all (F.args_all1 _) ?_
  unfold Builtin.«all»
  refine wpAny_bind (m := oneArg "all" _) (wpAny_pure ?_)
  refine wpAny_bind (wpAny_pyIter_gen hisg ?_)
  rw [← hp, ← hw] at hgo ⊢
  exact wpAny_pure ⟨plainId_quiet F.plain_all_loop _, all_turns (A0 := X.A) (QF := Q) hr.hd (by have := hr.dp; omega) hgen (fun σ' H' b s6 I6 q => ⟨.bl b, H', hback _ _ _ I6, rfl, q⟩) n s5 _ hgs hI hgo⟩
theorem pe_anyG {c P : Addr} {elt iter : Expr} {x : Str} {px p pos gpos : Pos} {scope : Scope} {wi : TI} {te : TE} (own : List (Str × Nat)) {k : Nat}
    (hr : Room (k + 1) X.A) (hg : Gl X "any") (hm : X.mg "any" = none) (TB : TabB X.base X.mg c P) (hcode : X.env.code = .ref c) (gk : genOk scope x = true) (fk : freeOk X.env.scope scope = true) (hc : Caps X scope own) (hnd : (gN x own).Nodup) (hcalm : X.calm = true) (hi : PI X (.Name x px) iter wi)
    (he : ∀ (s : Shared) (H : Hp) (A : Around) (cl : List (Str × Addr)) (C : Addr) (code : Value) (bi : Addr) (fp : List Addr), Room k A → PE (gcx X s H A (gN x own) (genEnv scope cl C code bi X.env) fp) elt te)
    (hs : ∀ v, genFold iter X.env v = pure v := by intro _; rfl)
    (hE : starEach [.GeneratorExp elt [⟨.Name x px, iter, [], 0⟩] scope gpos] X.env = (false, eval (.GeneratorExp elt [⟨.Name x px, iter, [], 0⟩] scope gpos) X.env) :: starEach [] X.env := by rfl) :
    PE X (.Call (.Name "any" p) [.GeneratorExp elt [⟨.Name x px, iter, [], 0⟩] scope gpos] [] pos) (tGen false P wi own te) := by
  refine ⟨fun pins s σ H Q I h => ?_⟩
  refine wpAny_Call_Name_kw (ld_blt I hg hm (by decide +kernel : bootBuiltins "any" = some (.builtin "any")) ?_)
  refine PyProof.Rows.callWith_builtin1 ?_ hE (by rfl)
  rw [hE]
  show wpAny _ _ (spliced ((false, eval (.GeneratorExp elt [⟨.Name x px, iter, [], 0⟩] scope gpos) X.env) :: backTo pos (starEach [] X.env))) _ _ s
  refine Calls.spliced_cons (gen_made hr hcalm TB hcode (gens_of gk fk I.ok.has) hc hnd hi he hs I h fun Y a g go n cs s5 hp hw hgen hgs hI hisg hgo hback => ?_)
  refine Calls.spliced_nil ?_
  refine call_function_tree F.kind_any F.plain_any F.entry_any (F.args_any1 _) ?_
  unfold Builtin.«any»
  refine wpAny_bind (m := oneArg "any" _) (wpAny_pure ?_)
  refine wpAny_bind (wpAny_pyIter_gen hisg ?_)
  rw [← hp, ← hw] at hgo ⊢
  exact wpAny_pure ⟨plainId_quiet F.plain_any_loop _, any_turns (A0 := X.A) (QF := Q) hr.hd (by have := hr.dp; omega) hgen (fun σ' H' b s6 I6 q => ⟨.bl b, H', hback _ _ _ I6, rfl, q⟩) n s5 _ hgs hI hgo⟩
end
/-! ### a def whose code object is known -/
structure FunC (K : PySem.W.Frag) (x qual : Str) (st : Stmt) (f : Addr) (fd : FuncData) (c : Addr) : Prop where
  ex : ∃ (oc : Value) (od : Option Addr) (kV doc pm : Value) (an : Option Addr) (ct : Value) (osl : Array (Option Value)),
    fd = PySem.W.fnOf x qual (defArgs st) (defBody st) (defScope st) .none kV doc pm an (.ref c) ct ∧ K.lookup f = some ⟨oc, od, .func fd, osl⟩ ∧ PySem.W.codeIn K (.ref c) qual = true
  kp : PySem.W.keepIn K (.ref f) = true
section
variable {P : Program} {w : World} {K : PySem.W.Frag} {mg : Str → Option Value} {base : Heap}
theorem FunC.fun {x qual : Str} {st : Stmt} {f : Addr} {fd : FuncData} {c : Addr} (F : FunC K x qual st f fd c) : Fun K x qual st f fd :=
  ⟨let ⟨oc, od, kV, doc, pm, an, ct, osl, h⟩ := F.ex; ⟨oc, od, kV, doc, pm, an, .ref c, ct, osl, h⟩, F.kp⟩
theorem FunC.ok {x qual : Str} {st : Stmt} {f : Addr} {fd : FuncData} {c : Addr} {N ps : List Str} {k : Nat} {sp : Sp} (F : FunC K x qual st f fd c) (S : FnScope N ps (defScope st)) (len : ∀ vs H Q E, sp vs H Q E → vs.length = ps.length)
    (hbody : ∀ (A : Around) (outer : List Env) (s : Shared) (H : Hp) (vs : List V) (Q : VK) (E : XK), Room k (A.deeper (envOfC qual (defScope st) s.heap.objs.size f (.ref c))) → sp vs H Q E →
      ∃ t, PSs (cxOf CX0 P w K mg base N qual (defScope st) f (.ref c) A outer s H E).nox (defBody st) t ∧ t { nx := fun _ H' => Q .non H', rt := Q } (start N vs) H) : FnOk P w K mg base CX0 (k + 1) f fd ps sp := by
  obtain ⟨oc, od, kV, doc, pm, an, ct, osl, e, lk, hcd⟩ := F.ex
  cases e
  refine fn_of lk hcd S len fun A outer s H vs Q E hr hsp => ?_
  obtain ⟨t, h, q⟩ := hbody A outer s H vs Q E hr hsp
  exact ⟨t, h.nox, q⟩
theorem func_mk {x qual : Str} {st : Stmt} {f c : Addr} {oc : Value} {od an : Option Addr} {osl : Array (Option Value)} {kV doc pm ct : Value} (l : K.lookup f = some ⟨oc, od, .func (PySem.W.fnOf x qual (defArgs st) (defBody st) (defScope st) .none kV doc pm an (.ref c) ct), osl⟩)
    (h : PySem.W.codeIn K (.ref c) qual = true) (k : PySem.W.keepIn K (.ref f) = true) : FunC K x qual st f (PySem.W.fnOf x qual (defArgs st) (defBody st) (defScope st) .none kV doc pm an (.ref c) ct) c := ⟨⟨oc, od, kV, doc, pm, an, ct, osl, rfl, l, h⟩, k⟩
end
end My

set_option Elab.async false
set_option linter.all false
set_option maxRecDepth 100000
/-! data of ints, texts, truth values, None and tuples; heaps that keep all but some places -/
namespace My
open PySem PySem.Spec PyProof.Rows L2
/-! ### what is kept -/
structure KT (S : List Addr) (H H' : Hp) : Prop where
  kp : ∀ b o, b ∉ S → H b = some o → H' b = some o
  tp : ∀ b xs, H b = some (.tup xs) → H' b = some (.tup xs)
  fz : ∀ b o u, H b = some (.frz o u) → H' b = some (.frz o u)
  th : ∀ b o, H b = some o → ∃ o', H' b = some o'
  hd : ∀ b c t, H b = some (.lst (.ref c :: t)) → ∃ t', H' b = some (.lst (.ref c :: t'))
section
variable {S S' : List Addr} {H H1 H2 H' : Hp} {K : PySem.W.Frag}
theorem KT.refl (S : List Addr) (H : Hp) : KT S H H := ⟨fun _ _ _ e => e, fun _ _ e => e, fun _ _ _ e => e, fun _ o e => ⟨o, e⟩, fun _ _ t e => ⟨t, e⟩⟩
theorem KT.trans (a : KT S H H1) (b : KT S H1 H2) : KT S H H2 :=
  ⟨fun c o n e => b.kp c o n (a.kp c o n e), fun c xs e => b.tp c xs (a.tp c xs e), fun c o u e => b.fz c o u (a.fz c o u e), fun c o e => let ⟨o', e'⟩ := a.th c o e; b.th c o' e', fun c d t e => let ⟨t', e'⟩ := a.hd c d t e; b.hd c d t' e'⟩
theorem KT.mono (a : KT S H H1) (h : ∀ b ∈ S, b ∈ S') : KT S' H H1 := ⟨fun b o n e => a.kp b o (fun z => n (h b z)) e, a.tp, a.fz, a.th, a.hd⟩
theorem KT.new (S : List Addr) {p : Addr} {o : HO} (h : H p = none) : KT S H (upd H p o) :=
  ⟨fun b x _ e => by rw [upd_ne (ne_of_none e h)]; exact e, fun b x e => by rw [upd_ne (ne_of_none e h)]; exact e, fun b x u e => by rw [upd_ne (ne_of_none e h)]; exact e, fun b x e => ⟨x, by rw [upd_ne (ne_of_none e h)]; exact e⟩, fun b c t e => ⟨t, by rw [upd_ne (ne_of_none e h)]; exact e⟩⟩
theorem KT.of_same (a : Same H H1) : KT S H H1 := ⟨fun b o _ e => a b o e, fun b xs e => a b _ e, fun b o u e => a b _ e, fun b o e => ⟨o, a b o e⟩, fun b c t e => ⟨t, a b _ e⟩⟩
/-- a place changes that is no tuple and not locked -/
theorem KT.put {p : Addr} {u o : HO} (hp : p ∈ S) (h : H p = some u) (h1 : ∀ xs, u ≠ .tup xs) (h2 : ∀ o v, u ≠ .frz o v) (h3 : ∀ xs, u ≠ .lst xs) : KT S H (upd H p o) :=
  ⟨fun b x n e => by rw [upd_ne (fun z => n (by rw [z]; exact hp))]; exact e, fun b x e => by
    rw [upd_ne (fun z => by rw [z, h] at e; exact h1 x (Option.some.inj e))]; exact e, fun b x v e => by
    rw [upd_ne (fun z => by rw [z, h] at e; exact h2 x v (Option.some.inj e))]; exact e, fun b x e => by
    by_cases z : b = p
    · exact ⟨o, by rw [z, upd_same]⟩
    · exact ⟨x, by rw [upd_ne z]; exact e⟩, fun b c t e => ⟨t, by rw [upd_ne (fun z => by rw [z, h] at e; exact h3 _ (Option.some.inj e))]; exact e⟩⟩
/-- a place changes that did not stand at the start -/
theorem KT.late {p : Addr} {o : HO} (a : KT S H H1) (h : H p = none) : KT S H (upd H1 p o) :=
  ⟨fun b x n e => by rw [upd_ne (ne_of_none e h)]; exact a.kp b x n e, fun b x e => by rw [upd_ne (ne_of_none e h)]; exact a.tp b x e, fun b x u e => by rw [upd_ne (ne_of_none e h)]; exact a.fz b x u e,
    fun b x e => by rw [upd_ne (ne_of_none e h)]; exact a.th b x e, fun b c t e => by rw [upd_ne (ne_of_none e h)]; exact a.hd b c t e⟩
theorem KT.free (a : KT S H H1) {p : Addr} (h : H1 p = none) : H p = none := by
  cases q : H p with
  | none => rfl
  | some o =>
    obtain ⟨o', e⟩ := a.th p o q
    rw [h] at e
    cases e
theorem KT.tab {P : Addr} (h : GxR.Tabbed P H H1) (t : GxR.TabG H P) (hP : P ∈ S) : KT S H H1 := by
  obtain ⟨ps, e, _⟩ := t
  obtain ⟨⟨ps', e', _⟩, k⟩ := h
  have ne : ∀ b o, H b = some o → (∀ q, o ≠ .tbl q) → b ≠ P := fun b o q n z => by rw [z, e] at q; exact n ps (Option.some.inj q).symm
  refine ⟨fun b o n q => ?_, fun b xs q => ?_, fun b o u q => ?_, fun b o q => ?_, fun b c t q => ⟨t, by rw [k b (ne b _ q (fun _ z => by cases z))]; exact q⟩⟩
  · rw [k b (fun z => n (by rw [z]; exact hP))]; exact q
  · rw [k b (ne b _ q (fun _ z => by cases z))]; exact q
  · rw [k b (ne b _ q (fun _ z => by cases z))]; exact q
  · by_cases z : b = P
    · exact ⟨_, by rw [z]; exact e'⟩
    · exact ⟨o, by rw [k b z]; exact q⟩
theorem KT.sqT (a : KT S H H1) {p : Addr} {xs : List V} (h : SqT K H p xs) : SqT K H1 p xs := by
  rcases h with (h | ⟨o, h⟩) | h
  · exact .inl (.inl (a.tp _ _ h))
  · exact .inl (.inr ⟨o, a.fz _ _ _ h⟩)
  · exact .inr h
theorem KT.sqL (a : KT S H H1) {p : Addr} {xs : List V} (n : p ∉ S) (h : SqL K H p xs) : SqL K H1 p xs := by
  rcases h with (h | ⟨o, h⟩) | h
  · exact .inl (.inl (a.kp _ _ n h))
  · exact .inl (.inr ⟨o, a.fz _ _ _ h⟩)
  · exact .inr h
end
/-! ### data -/
mutual
inductive Rp (K : PySem.W.Frag) (H : Hp) : V → PyData → Prop
  | non : Rp K H .non .none
  | bl (b : Bool) : Rp K H (.bl b) (.bool b)
  | int (i : Int) : Rp K H (.int i) (.int i)
  | str (x : Str) : Rp K H (.str x) (.str x)
  | tup {a : Addr} {xs : List V} {ds : List PyData} : SqT K H a xs → RpA K H xs ds → Rp K H (.ref a) (.tuple ds)
inductive RpA (K : PySem.W.Frag) (H : Hp) : List V → List PyData → Prop
  | nil : RpA K H [] []
  | cons {v : V} {vs : List V} {d : PyData} {ds : List PyData} : Rp K H v d → RpA K H vs ds → RpA K H (v :: vs) (d :: ds)
end
section
variable {K : PySem.W.Frag} {S : List Addr} {H H' : Hp}
mutual
theorem Rp.keep (k : KT S H H') : ∀ {d : PyData} {v : V}, Rp K H v d → Rp K H' v d
  | .none, _, h => by cases h; exact .non
  | .bool b, _, h => by cases h; exact .bl b
  | .int i, _, h => by cases h; exact .int i
  | .str x, _, h => by cases h; exact .str x
  | .list ds, _, h => by cases h
  | .dict ds, _, h => by cases h
  | .tuple ds, _, h => by
    cases h with
    | tup hs ha => exact .tup (k.sqT hs) (RpA.keep k ha)
theorem RpA.keep (k : KT S H H') : ∀ {ds : List PyData} {vs : List V}, RpA K H vs ds → RpA K H' vs ds
  | [], _, h => by cases h; exact .nil
  | d :: ds, _, h => by
    cases h with
    | cons h1 h2 => exact .cons (Rp.keep k h1) (RpA.keep k h2)
end
mutual
theorem Rp.dp : ∀ {d : PyData} {v : V}, Rp K H v d → Dp K H v d
  | .none, _, h => by cases h; exact .non
  | .bool b, _, h => by cases h; exact .bl b
  | .int i, _, h => by cases h; exact .int i
  | .str x, _, h => by cases h; exact .str x
  | .list ds, _, h => by cases h
  | .dict ds, _, h => by cases h
  | .tuple ds, _, h => by
    cases h with
    | tup hs ha => exact .tup hs (RpA.dp ha)
theorem RpA.dp : ∀ {ds : List PyData} {vs : List V}, RpA K H vs ds → DpAll K H vs ds
  | [], _, h => by cases h; exact .nil
  | d :: ds, _, h => by
    cases h with
    | cons h1 h2 => exact .cons (Rp.dp h1) (RpA.dp h2)
end
theorem RpA.length : ∀ {ds : List PyData} {vs : List V}, RpA K H vs ds → vs.length = ds.length
  | [], _, h => by cases h; rfl
  | d :: ds, _, h => by
    cases h with
    | cons h1 h2 => rw [List.length_cons, List.length_cons, RpA.length h2]
theorem RpA.get : ∀ {ds : List PyData} {vs : List V} {i : Nat} {v : V}, RpA K H vs ds → vs[i]? = some v → ∃ d, ds[i]? = some d ∧ Rp K H v d
  | [], _, i, v, h, e => by cases h; simp at e
  | d :: ds, _, i, v, h, e => by
    cases h with
    | cons h1 h2 =>
      cases i with
      | zero => simp at e; subst e; exact ⟨d, rfl, h1⟩
      | succ i =>
        obtain ⟨d', e', r⟩ := RpA.get h2 (i := i) (v := v) (by simpa using e)
        exact ⟨d', by simpa using e', r⟩
theorem RpA.app : ∀ {ds es : List PyData} {vs us : List V}, RpA K H vs ds → RpA K H us es → RpA K H (vs ++ us) (ds ++ es)
  | [], _, _, _, h, g => by cases h; exact g
  | d :: ds, _, _, _, h, g => by
    cases h with
    | cons h1 h2 => exact .cons h1 (RpA.app h2 g)
theorem RpA.snoc {ds : List PyData} {vs : List V} {v : V} {d : PyData} (h : RpA K H vs ds) (g : Rp K H v d) : RpA K H (vs ++ [v]) (ds ++ [d]) := h.app (.cons g .nil)
theorem RpA.take : ∀ {ds : List PyData} {vs : List V} (n : Nat), RpA K H vs ds → RpA K H (vs.take n) (ds.take n)
  | _, _, 0, _ => by simp only [List.take_zero]; exact .nil
  | [], _, n + 1, h => by cases h; simp only [List.take_nil]; exact .nil
  | d :: ds, _, n + 1, h => by
    cases h with
    | cons h1 h2 => rw [List.take_succ_cons, List.take_succ_cons]; exact .cons h1 (RpA.take n h2)
theorem RpA.drop : ∀ {ds : List PyData} {vs : List V} (n : Nat), RpA K H vs ds → RpA K H (vs.drop n) (ds.drop n)
  | _, _, 0, h => h
  | [], _, n + 1, h => by cases h; simp only [List.drop_nil]; exact .nil
  | d :: ds, _, n + 1, h => by
    cases h with
    | cons h1 h2 => rw [List.drop_succ_cons, List.drop_succ_cons]; exact RpA.drop n h2
/-- a tuple just made -/
theorem Rp.made {p : Addr} {vs : List V} {ds : List PyData} (hp : H p = none) (h : RpA K H vs ds) : Rp K (upd H p (.tup vs)) (.ref p) (.tuple ds) := .tup (SqT.of upd_same) (h.keep (KT.new [] hp))
theorem Rp.inv {v : V} {ds : List PyData} (h : Rp K H v (.tuple ds)) : ∃ a xs, v = .ref a ∧ SqT K H a xs ∧ RpA K H xs ds := by
  cases h with
  | tup hs ha => exact ⟨_, _, rfl, hs, ha⟩
theorem RpA.inv {vs : List V} {d : PyData} {ds : List PyData} (h : RpA K H vs (d :: ds)) : ∃ v r, vs = v :: r ∧ Rp K H v d ∧ RpA K H r ds := by
  cases h with
  | cons h1 h2 => exact ⟨_, _, rfl, h1, h2⟩
theorem RpA.inv0 {vs : List V} (h : RpA K H vs []) : vs = [] := by cases h; rfl
theorem Rp.sInv {v : V} {x : Str} (h : Rp K H v (.str x)) : v = .str x := by cases h; rfl
theorem Rp.iInv {v : V} {x : Int} (h : Rp K H v (.int x)) : v = .int x := by cases h; rfl
end
end My

set_option Elab.async false
set_option linter.all false
set_option maxRecDepth 100000
set_option maxHeartbeats 4000000
namespace My
open PySem PySem.Spec PyProof.Rows L2
theorem tuple_mul1 (l : Addr) (items : Array Value) (n : Nat) (dd : Option Addr) (sl : Array (Option Value)) (x : Int) (u : Tok) (c0 : (decide (x < -(2 ^ 63)) || decide (x ≥ 2 ^ 63)) = false) (c1 : (items.isEmpty || x == 1) = true) :
    Meets (Builtin.«tuple.__mul__» ⟨[.ref l, .int x u], []⟩) (fun _ R s => s.heap.get? l = some { cls := .type "tuple", dict := dd, data := .seq items n, slots := sl } ∧
      R (.ok (.ret (Value.ref l))) s) :=
  .of_wp fun prog w A R s h => by
    obtain ⟨hp, g, d, tk, os⟩ := s
    obtain ⟨hl, h⟩ := h
    have f1 := AutoSeq1.idx_int
    wp_walk using wpAny_loadPart' hl
    repeat (first
      | (refine wpAny_ite_false (decide_eq_false (by rw [c0]; exact Bool.false_ne_true)) ?_; wp_walk using wpAny_loadPart' hl)
      | (refine wpAny_ite_true (decide_eq_true c1) ?_; wp_walk using wpAny_loadPart' hl))
    exact ⟨_, rfl, h⟩
/-- (x,) * k, k from 1 on: the same tuple for 1, else a new one -/
def rRepZ (K : PySem.W.Frag) : R2 := fun x y H Q => ∃ l k xs, x = .ref l ∧ y = .int k ∧ SqT K H l xs ∧ xs ≠ [] ∧ 1 ≤ k ∧ k ≤ 1000 ∧ xs.length ≤ 1000 ∧ (k = 1 → Q (.ref l) H) ∧ (2 ≤ k → ∀ p, H p = none → Q (.ref p) (upd H p (.tup (List.replicate k.toNat xs).flatten)))
section
variable {X : Cx} {K : PySem.W.Frag}
theorem op_repZ (h : X.K = K) : OpR X (binaryOp .Mult) (rRepZ K) := by
  subst h
  intro pins s σ H x y v u Q I rx ry h
  obtain ⟨l, k, xs, rfl, rfl, hT, hne, h1, h2, hz, q1, q2⟩ := h
  by_cases hk : k = 1
  · subst hk
    have q := q1 rfl
    cases rx
    obtain ⟨t, rfl⟩ := ry
    obtain ⟨its, r, ⟨⟨cls, dd, data, sl⟩, ho, hc, n, hd⟩, hs⟩ := I.tuple hT
    simp only at hc hd
    subst hc hd
    refine wpAny_binaryOp_repeat_ref (T := "tuple") (U := "int") (by decide) ⟨_, ho, rfl⟩ (fun s' => typeIs_int s' 1 t) noFill_tuple_mul F.fills_int_mul F.slot_int_rmul repeat_tuple F.slot_int_index.lookup
      (call_meets F.slot_int_rmul (typeIs_int s 1 t) F.entry_int_rmul (F.args_int_rmul_2 _ _) (int_rmul_tuple 1 t l its.toArray n dd sl)
        ⟨ho, rfl, ⟨_, ho, rfl⟩, call_meets F.slot_tuple_mul ⟨_, ho, rfl⟩ F.entry_tuple_mul (F.args_tuple_mul_2 _ _) (tuple_mul1 l its.toArray n dd sl 1 t (by decide) (by simp)) ⟨ho, ?_⟩⟩)
    exact ⟨.ref l, H, I, rfl, q⟩
  · exact op_repT pins s σ H _ _ v u Q I rx ry ⟨l, k, xs, rfl, rfl, hT, hne, by omega, h2, hz, q2 (by omega)⟩
end
/-- the truth of the name in the i-th slot -/
theorem pt_truthK {X : Cx} {K : PySem.W.Frag} (h : X.K = K) (i : Nat) {x : Str} {pos : Pos} (hN : X.N[i]? = some x := by rfl) (hv : Vis X.env.scope x := by first | exact Or.inl rfl | exact Or.inr (Or.inl rfl) | exact Or.inr (Or.inr rfl)) (hd : (x == ("__debug__" : Str)) = false := by decide)
    (hcd : (x == ("__classdict__" : Str)) = false := by decide) : PT X (.Name x pos) (fun σ H Q => tVar i σ H fun x H' => ∃ k, TruV K x H' k ∧ Q k H') := by
  subst h
  exact pt_truth (pv i hN hv hd hcd) (by intro _; rfl)
end My

set_option Elab.async false
set_option linter.all false
set_option maxRecDepth 100000
/-! the end of a row whose defs hold generator expressions -/
namespace My
open PySem PySem.Spec PyProof.Rows L2
/-- what the head tells of the defs' code objects: their tables are empty -/
def RecTabs (q : Program) (mg : Str → Option Value) (h : Heap) : Prop := ∀ d ∈ recsOf q, ∃ a o fd c P, mg d.name = some (.ref a) ∧ h.get? a = some o ∧ o.data = .func fd ∧ fd.code = .ref c ∧ h.IsCode c P #[] ∧ h.TableAt c P #[]
theorem walk_ofG {l : PySem.W.OpenLaw} {n k : Nat} {q : Program} {loose : List Str} {XP : (Str → Option Value) → Heap → Prop} {YP : World → Heap → Prop} {d : DefRec} {K : Params → PySem.W.Frag} {x : Str}
    (hn : l.most = some n) (hn2 : n ≤ sizeLine) (hdf : d.params.defaults = []) (hr : Room k callerA) (hY : ∀ (w : World) (h : Heap), YP w h → (K w.params).In h)
    (F : ∀ (w : World) (mg : Str → Option Value) (fa : Addr) (h : Heap), (K w.params).In h → h.Ns mainGlobals mg → mg d.name = some (.ref fa) → RecTabs q mg h → LamX.LawAtS l w (K w.params) CX0 k n x mg fa h) :
    PySem.W.WalkO q loose XP YP l.row.toRowW d [] (fun f vs => PySem.call f vs) := by
  refine Att.attach_callB hn hdf fun w s₀ s₁ mg mb fa o pm cd doc a vs ns G Y ho hd hcd hmg hobj hints hlen hbits hg => ?_
  have KX := hY w _ Y
  obtain ⟨fd, cs, sp, hT, nT, C, hb, hsp, hF⟩ := F w mg fa _ KX G.T.g hmg G.T.tab
  exact LamX.law_callTs KX G.T.g G.T.b G.T.builtins G.T.nolimit hg hT nT C G.T.bmain hobj hints (Nat.le_trans hlen hn2) hr hF hb (fun H hH hS => hsp H a ns hlen hbits hH hS) fun H e s' h => h
/-- the table of the code object at c -/
def codeTab (K : PySem.W.Frag) (c : Addr) : Option Addr := match K.lookup c with
  | some ⟨_, _, .fields vs, _⟩ => (match (vs[11]? : Option Value) with | some (.ref P) => some P | _ => none)
  | _ => none
/-- the table of the def that bears this name stands empty -/
theorem tab_of {q : Program} {mg : Str → Option Value} {h : Heap} {K : PySem.W.Frag} {nm : Str} {f c P : Addr} {oc : Value} {od : Option Addr} {fd : FuncData} {osl : Array (Option Value)} (T : RecTabs q mg h) (X : K.In h)
    (hrec : ((recsOf q).any fun e => e.name == nm) = true) (hm : mg nm = some (.ref f)) (lk : K.lookup f = some ⟨oc, od, .func fd, osl⟩) (hc : fd.code = .ref c) (hd : codeTab K c = some P) : h.get? P = some { cls := .none, data := .fields #[] } := by
  obtain ⟨d, hd1, e⟩ := List.any_eq_true.mp hrec
  have e : d.name = nm := beq_iff_eq.mp e
  obtain ⟨a, o, fd', c', P', h1, h2, h3, h4, h5, h6⟩ := T d hd1
  rw [e, hm] at h1
  cases h1
  rw [X _ _ lk] at h2
  cases h2
  cases h3
  rw [hc] at h4
  cases h4
  obtain ⟨⟨oc', vc, e1, _, e3, e4⟩, hP⟩ := h6
  unfold codeTab at hd
  split at hd
  · rename_i vs _ hk
    rw [X _ _ hk] at e1
    cases e1
    cases e3
    rw [e4] at hd
    cases hd
    exact hP
  · cases hd
/-- the code object's fields are in order -/
def hdOk (vs : Array Value) (c P : Addr) : Bool := (match (vs[11]? : Option Value) with | some (.ref P') => P' == P | _ => false) &&
  (match vs.getD 18 .none with | .str _ _ => true | _ => false) && (match vs.getD 7 .none with | .int _ _ => true | _ => false) &&
  (match vs.getD 9 .none with | .bool _ => true | _ => false) && (match vs.getD 10 .none with | .int _ _ => true | _ => false) && c != P
theorem codeHd_mk {K : PySem.W.Frag} {c P : Addr} {vs : Array Value} {dd : Option Addr} {sl : Array (Option Value)} (lk : K.lookup c = some ⟨.type "code", dd, .fields vs, sl⟩) (_ : vs[11]? = some (.ref P)) (h : hdOk vs c P = true) : PySem.W.codeHdIn K c P = true := by
  unfold PySem.W.codeHdIn
  rw [lk]
  exact h
theorem codeTab_mk {K : PySem.W.Frag} {c P : Addr} {vs : Array Value} {dd : Option Addr} {sl : Array (Option Value)} (lk : K.lookup c = some ⟨.type "code", dd, .fields vs, sl⟩) (h : vs[11]? = some (.ref P)) : codeTab K c = some P := by
  unfold codeTab
  rw [lk]
  show (match (vs[11]? : Option Value) with | some (.ref P) => some P | _ => none) = _
  rw [h]
end My

set_option Elab.async false
set_option linter.all false
set_option maxRecDepth 100000
namespace My
open PySem PySem.Spec PyProof.Rows L2
/-! small steps of a reading -/
theorem ite_f {c A B : Prop} [Decidable c] (h : ¬ c) (q : B) : if c then A else B := by rw [if_neg h]; exact q
theorem ite_t {c A B : Prop} [Decidable c] (h : c) (q : A) : if c then A else B := by rw [if_pos h]; exact q
theorem dstr_ne {a b : Str} (h : ¬ a = b) : ¬ decide (V.str a = V.str b) = true := fun z => h (V.str.inj (of_decide_eq_true z))
theorem dstr_eq {a b : Str} (h : a = b) : decide (V.str a = V.str b) = true := decide_eq_true (by rw [h])
theorem dint_ne {a b : Int} (h : ¬ a = b) : ¬ decide (V.int a = V.int b) = true := fun z => h (V.int.inj (of_decide_eq_true z))
theorem dint_eq {a b : Int} (h : a = b) : decide (V.int a = V.int b) = true := decide_eq_true (by rw [h])
theorem dget_s {H : Hp} {a : Addr} {kvs : List (Key × V)} {x : Str} {v : V} (e : H a = some (.dK kvs)) (h : valV kvs (.inr x) = some v) : DGet H a (.str x) (some v) := by
  rw [← h]
  exact DGet.k (k := Sum.inr x) e
theorem dget_f {H : Hp} {a : Addr} {o : Obj} {kvs : List (Key × V)} {x : Str} {v : V} (e : H a = some (.frz o (.dK kvs))) (h : valV kvs (.inr x) = some v) : DGet H a (.str x) (some v) := by
  rw [← h]
  exact .inl ⟨kvs, .inr x, .inr ⟨o, e⟩, rfl, rfl⟩
theorem not_bl {b : Bool} (h : b = false) : ¬ b = true := by rw [h]; exact Bool.false_ne_true
end My
namespace My
open PySem PySem.Spec PyProof.Rows L2
theorem or_bl {a b : Bool} {p : Prop} (h : ¬ a = true) (g : b = true ∨ p) : b = true ∨ p := g
theorem dp_strL {K : PySem.W.Frag} {H : Hp} : ∀ xs : List Str, DpAll K H (xs.map V.str) (xs.map PyData.str)
  | [] => .nil
  | x :: r => .cons (.str x) (dp_strL r)
theorem layAll_strs : ∀ xs : List Str, (∀ x ∈ xs, (PyData.str x).canLay0 = true) → PyData.canLayAll0 (xs.map PyData.str) = true
  | [], _ => rfl
  | x :: r, h => by
    show (PyData.canLay0 (.str x) && PyData.canLayAll0 (r.map PyData.str)) = true
    rw [layAll_strs r (fun y hy => h y (List.mem_cons_of_mem _ hy)), Bool.and_true]
    exact h x List.mem_cons_self
theorem depthAll_strs : ∀ xs : List Str, PyData.depthAll (xs.map PyData.str) = 0
  | [] => rfl
  | x :: r => by
    show max (PyData.depth (.str x)) (PyData.depthAll (r.map PyData.str)) = 0
    rw [depthAll_strs r]
    rfl
theorem shaped_strs (xs : List Str) (h : ∀ x ∈ xs, (PyData.str x).canLay0 = true) : SeqAt.shaped (.list (xs.map PyData.str)) = true := by
  unfold SeqAt.shaped
  rw [Bool.and_eq_true]
  refine ⟨layAll_strs xs h, decide_eq_true ?_⟩
  show PyData.depthAll (xs.map PyData.str) + 1 ≤ 64
  rw [depthAll_strs]
  decide
theorem eqv_nil (xs : List PyData) : PyData.eqv (.list xs) (.list []) = xs.isEmpty := by
  cases xs with
  | nil => rfl
  | cons x r => rfl
/-! a statement laid open -/
theorem seq_asg_op {r : R2} {ta tb : TE} {g : TG} {u : TS} {D : Ends} {σ : L2.St} {H : Hp} (h : ta σ H fun x H1 => tb σ H1 fun y H2 => r x y H2 fun v H3 => g v σ H3 (u D)) : tSeq (tAsg (tOp r ta tb) g) u D σ H := h
theorem seq_asg {te : TE} {g : TG} {u : TS} {D : Ends} {σ : L2.St} {H : Hp} (h : te σ H fun v H3 => g v σ H3 (u D)) : tSeq (tAsg te g) u D σ H := h
theorem seq_any {t u : TS} {D : Ends} {σ : L2.St} {H : Hp} (h : t { D with nx := u D } σ H) : tSeq t u D σ H := h
end My
namespace My
open PySem PySem.Spec PyProof.Rows L2
/-! the same operators, the written part by its name: within a comprehension's block -/
section
variable {X : Cx} {K : PySem.W.Frag}
theorem opNI (h : X.K = K) : OpR X (compareOp .NotIn) (rIn K true) := by subst h; exact op_notIn_seq
theorem opIN (h : X.K = K) : OpR X (compareOp .In) (rIn K false) := by subst h; exact op_in_seq
theorem ixL (h : X.K = K) : IxR X (rIxL K) := by subst h; exact ix_list
theorem ixT (h : X.K = K) : IxR X (rIxT K) := by subst h; exact ix_tup
theorem ixQ (h : X.K = K) : IxR X (rIx K) := by subst h; exact ix_seq
theorem opED (h : X.K = K) (hu : X.A.units + 64 < cLine) : OpR X (compareOp .Eq) (rEqD K) := by subst h; exact op_eqD hu
theorem opND (h : X.K = K) (hu : X.A.units + 64 < cLine) : OpR X (compareOp .NotEq) (rNeD K) := by subst h; exact op_neD hu
theorem slL (h : X.K = K) : SlR X (rSlL K) := by subst h; exact sl_list
theorem slT (h : X.K = K) : SlR X (rSlA K) := by subst h; exact sl_tupA
theorem catT (h : X.K = K) : OpR X (binaryOp .Add) (rCatA K) := by subst h; exact op_catA
theorem lnQ (h : X.K = K) : CallR X (.builtin "len") (fun xs H Q => ∃ p ys, xs = [.ref p] ∧ (SqL K H p ys ∨ SqT K H p ys) ∧ Q (.int ys.length) H) := by subst h; exact call_len_seq
theorem lsO (h : X.K = K) : CallR X (.type "list") (fun xs H Q => ∃ p ys, xs = [.ref p] ∧ (SqL K H p ys ∨ SqT K H p ys) ∧ ∀ l, H l = none → Q (.ref l) (upd H l (.lst ys))) := by subst h; exact call_list_of
theorem tpO (h : X.K = K) : CallR X (.type "tuple") (fun xs H Q => ∃ p ys, xs = [.ref p] ∧ ((SqL K H p ys ∧ ∀ l, H l = none → Q (.ref l) (upd H l (.tup ys))) ∨ (SqT K H p ys ∧ Q (.ref p) H))) := by subst h; exact call_tuple_of
theorem isI (h : X.K = K) : CallR X (.builtin "isinstance") (rIsi K) := by subst h; exact call_isi
end
end My
namespace My
open PySem PySem.Spec PyProof.Rows L2
/-! a walk over a list or a tuple, as it comes -/
section
variable {X : Cx} {tg : Expr}
def iSeq (K : PySem.W.Frag) (tl : TE) : TI := fun σ H R => tl σ H fun x H1 => ∃ (a : Addr) (xs : List V) (G : Hp → Prop), x = .ref a ∧ ((G = fun H => SqL K H a xs) ∨ (G = fun H => SqT K H a xs)) ∧ G H1 ∧ ∀ J, Walk J xs.length G (YAt xs) → R J H1
theorem pi_seq {l : Expr} {tl : TE} (hl : PE X l tl) : PI X tg l (iSeq X.K tl) := by
  refine ⟨fun pins s σ H R I h => ?_⟩
  refine thn (hl.run pins s σ H _ I h) fun v s1 ⟨x, H1, I1, r1, q1⟩ => ?_
  obtain ⟨a, xs, G, e, hG, g1, q⟩ := q1
  subst e
  cases r1
  have fp : ∀ b ∈ [s1.heap.objs.size], FpOk X pins H1 b := fun b hb => by
    rw [List.mem_singleton.mp hb]
    exact I1.fpOk (Nat.le_refl _) (I1.hok.fresh (Nat.le_refl _))
  rcases hG with rfl | rfl
  · have hq : SqL X.K H1 a xs := g1
    obtain ⟨its, _, p, _⟩ := I1.list hq
    refine wpAny_pyIter_list p.isList ?_
    exact ⟨_, _, _, _, H1, rfl, I1.kept (t' := s1.toks) fun b o e => Heap.get?_push_of_some _ e, turn_list a _, ⟨_, Heap.get?_push_size _ rfl, rfl, rfl⟩, fp, q _ walk_list⟩
  · have hq : SqT X.K H1 a xs := g1
    obtain ⟨its, _, p, _⟩ := I1.tuple hq
    refine wpAny_pyIter_tuple (show s1.heap.IsTuple a its.toArray from p) ?_
    exact ⟨_, _, _, _, H1, rfl, I1.kept (t' := s1.toks) fun b o e => Heap.get?_push_of_some _ e, turn_tuple a _, ⟨_, Heap.get?_push_size _ rfl, rfl, rfl⟩, fp, q _ walk_tup⟩
end
theorem lookup_memG {β : Type} {nm : List (Str × β)} (nd : (nm.map (·.1)).Nodup) {x : Str} {s : β} (h : (x, s) ∈ nm) : nm.lookup x = some s := by
  induction nm with
  | nil => cases h
  | cons p r ih =>
    obtain ⟨y, t⟩ := p
    rw [List.map_cons, List.nodup_cons] at nd
    rcases List.mem_cons.mp h with e | h
    · cases e
      rw [List.lookup_cons_self]
    · have ne : ¬ x = y := fun z => nd.1 (by rw [← z]; exact List.mem_map.mpr ⟨_, h, rfl⟩)
      rw [List.lookup_cons]
      have : (x == y) = false := by simpa using ne
      rw [this]
      exact ih nd.2 h
end My

set_option Elab.async false
set_option linter.all false
set_option maxRecDepth 100000
/-! methods of built-in types within a comprehension -/
namespace My
open PySem PySem.Spec PyProof.Rows L2
section
variable {X : Cx} {K : PySem.W.Frag} {o e : Expr} {es : List Expr} {to : TE} {t : TA} {name : Str} {apos cpos : Pos} {T id : String} {r : V → List V → Hp → VK → Prop}
theorem pe_bmK (h : X.K = K) (pa : PlainAttrs T) (slot : Slot T name id) (hty : typeOf (.builtin id) = pure (.type "method_descriptor")) (hm : MtR X id r) (ho : PE X o to) (ha : PA X (e :: es) t) (hbase : attributeBase o name X.env (eval o X.env) = eval o X.env := by rfl)
    (hfew : ((backTo cpos (starEach (e :: es) X.env)).all (fun x => !x.1) && (backToKw cpos (keywordEach [] X.env)).all (fun x => x.1.isSome) && decide ((e :: es).length + ([] : List Keyword).length + (if ([] : List Keyword).isEmpty then 0 else 1) < 30)) = true := by rfl)
    (hline : (apos.endLine == cpos.line) = true := by rfl) (hs : starEach (e :: es) X.env = (false, eval e X.env) :: starEach es X.env := by rfl) (hplain : (backTo cpos (starEach es X.env)).any (·.1) = false := by rfl) :
    PE X (.Call (.Attribute o name apos) (e :: es) [] cpos) (tBM K T r to t) := by
  subst h
  exact pe_bm pa slot hty hm ho ha hbase hfew hline hs hplain
/-- the truth of any expression -/
def tTru (K : PySem.W.Frag) (ta : TE) : TT := fun σ H Q => ta σ H fun x H' => ∃ k, TruV K x H' k ∧ Q k H'
theorem pt_truthE {a : Expr} {ta : TE} (h : X.K = K) (ha : PE X a ta) (he : ∀ whole, isTrue a X.env whole = (do let v ← whole; standAt a.pos; holding [v] (truthy v))) : PT X a (tTru K ta) := by
  subst h
  exact pt_truth ha he
end
end My

set_option Elab.async false
set_option linter.all false
set_option maxRecDepth 100000
set_option maxHeartbeats 2000000
/-! enumerate over a tuple -/
namespace My
open PySem PySem.Spec PyProof.Rows L2
open AutoSeq1 (wpAny_loadPart')
theorem meets_en {v : Value} {o : Obj} {B : Heap → Prop} (b : Begins v o B) : Meets (Builtin.«enumerate.__new__» ⟨[.type "enumerate", v], []⟩)
    (fun _ R s => B s.heap ∧ R (.ok (.ret (.ref (s.heap.push o).objs.size))) { s with heap := (s.heap.push o).push { cls := .type "enumerate", data := .fields #[.none, .bool false, .ref s.heap.objs.size, rawInt 0, .none, .none] } }) :=
  .of_wp fun prog w A R s h => by
    obtain ⟨hp, g, d, tk, os⟩ := s
    obtain ⟨h1, h⟩ := h
    have sb := sub_enumerate
    have it : ∀ {A' : Around} {E : Value → Shared → Prop} {Q : Value → Shared → Prop}, Q (.ref hp.objs.size) ⟨hp.push o, g, d, tk, os⟩ → wpAny (model prog w) A' (pyIter v) Q E ⟨hp, g, d, tk, os⟩ := fun q => b.iter prog w _ _ ⟨hp, g, d, tk, os⟩ _ h1 q
    wp_walk using it
    refine wpAny_stack_any fun u => wpAny_pure ?_
    split
    · rename_i c _ _ _ _ _
      cases (c == Value.type "enumerate") <;> (wp_walk using it; exact ⟨_, rfl, h⟩)
    · wp_walk using it
      exact ⟨_, rfl, h⟩
section
variable {prog : Program} {w : World} {A : Around} {E : Value → Shared → Prop} {s : Shared}
theorem call_en {v : Value} {o : Obj} {B : Heap → Prop} {Q : Value → Shared → Prop} (b : Begins v o B) (h1 : B s.heap)
    (h : ∀ h', IsEnum h' (s.heap.objs.size + 1) s.heap.objs.size 0 .none → h'.get? s.heap.objs.size = some o → (∀ c u, s.heap.get? c = some u → h'.get? c = some u) → Q (.ref (s.heap.objs.size + 1)) { s with heap := h' }) :
    wpAny (model prog w) A (call (.type "enumerate") [v]) Q E s := by
  refine callType_new F.called_enumerate (by decide) (F.typeCall_enumerate_1 _) (F.newCall_enumerate_1 _) (fun u => F.args_object_init_2 u _) F.entry_enumerate_new (meets_en b) ⟨h1, ?_⟩
  have z : (s.heap.push o).objs.size = s.heap.objs.size + 1 := Heap.size_push ..
  have e := Heap.get?_push_size (s.heap.push o) (o := { cls := .type "enumerate", data := .fields #[.none, .bool false, .ref s.heap.objs.size, rawInt 0, .none, .none] }) rfl
  rw [z] at e
  show _ ∧ _
  rw [z]
  exact ⟨⟨_, e, rfl⟩, h _ e (Heap.get?_push_of_some _ (Heap.get?_push_size _ b.free)) fun c u x => Heap.get?_push_of_some _ (Heap.get?_push_of_some _ x)⟩
end
/-- the tuple at a, each item in a new pair -/
def IteT (K : PySem.W.Frag) (a : Addr) : It where
  go := fun i H => ∃ (xs : List V) (x : V), SqT K H a xs ∧ xs[i]? = some x
  yld := fun i H v H' => ∃ T x, v = .ref T ∧ H T = none ∧ H' = upd H T (.tup [.int (i : Nat), x]) ∧ ∀ xs, SqT K H a xs → xs[i]? = some x
  stop := fun i H => ∃ xs : List V, SqT K H a xs ∧ xs.length ≤ i
theorem turn_enT {P : Program} {w : World} {K : PySem.W.Frag} {elts : List Expr} {kk : Nat} {tpos : Pos} (a e it : Addr) (hne : e ≠ it) (hea : e ≠ a) (hai : a ≠ it) :
    Turn P w K (.Tuple elts kk tpos) (IteT K a) [e, it] e (fun i h => (∃ old, IsEnum h e it ((i : Nat) : Int) old) ∧ h.IsTupleIter it a i) where
  mem := List.mem_cons_self
  obj := fun i h st b hb => by
    obtain ⟨⟨old, he⟩, o, ho, _, hd⟩ := st
    rcases List.mem_cons.mp hb with z | z
    · rw [z]; exact ⟨_, he, fun v q => nomatch q⟩
    · rw [List.mem_singleton.mp z]; exact ⟨o, ho, fun v q => by rw [hd] at q; cases q⟩
  keep := fun i h h' ⟨⟨old, he⟩, hi⟩ k => ⟨⟨old, k e (by simp) _ he⟩, hi.at fun o q => k it (by simp) o q⟩
  item := by
    intro X hP hw hK hc i pins s σ H E I hf st hg
    subst hP hw hK
    obtain ⟨⟨old, he⟩, hit⟩ := st
    obtain ⟨xs, x, hq, hx⟩ := hg
    obtain ⟨its, rv, ⟨po, p⟩, hz⟩ := I.tuple hq
    obtain ⟨u, hu, ru⟩ := rv.get hx
    have hi : i < its.toArray.size := by
      rw [List.size_toArray]
      exact (List.getElem?_eq_some_iff.mp hu).1
    have hel := Heap.lt_size he
    have hil : it < s.heap.objs.size := let ⟨_, q, _⟩ := hit; Heap.lt_size q
    have D : Draws X.prog X.w X.A.in1 it [it, a] its.toArray.size (fun i v => its.toArray[i]? = some v) (fun i h => h.IsTupleIter it a i ∧ h.IsTuple a its.toArray) := Draws.tuple (A := X.A.in1) (I.ok.hd hc) it a hai its.toArray
    refine wpAny_pyNext_enum_itemD (n := its.toArray.size) D he ⟨hit, ⟨po, p⟩⟩ hi hne (fun z => (List.mem_cons.mp z).elim hne fun z => hea (List.mem_singleton.mp z)) fun y h' tk hy ho hst hT hsz hk => ?_
    have hy : y = u := by
      have : its.toArray[i]? = some u := by simpa using hu
      exact Option.some.inj (hy.symm.trans this)
    subst hy
    refine ⟨_, rfl, wpAny_letOwnedTupleGo_enum (s := { s with heap := h', toks := tk + 1 }) ho fun h'' he' sb => ?_⟩
    have nT : s.heap.objs.size ≠ e := Nat.ne_of_gt hel
    have hT2 := (sb.2 _ nT).trans hT
    have new : ObjOk X.prog X.w (upd H s.heap.objs.size (.tup [.int (i : Nat), x])) h'' s.heap.objs.size (.tup [.int (i : Nat), x]) :=
      ⟨(by show 2 ≤ sizeLine; decide), [.int i tk, y], .cons ⟨_, rfl⟩ (.cons ru .nil), ⟨_, hT2, rfl, _, rfl⟩⟩
    have I1 : Inv X pins σ (upd H s.heap.objs.size (.tup [.int (i : Nat), x])) { s with heap := h'', toks := tk + 1 } :=
      I.turnedNew (ch := [e, it]) (fun b ob hb q => by
        have n1 : b ≠ e := fun z => hb (by rw [z]; simp)
        have n2 : b ≠ it := fun z => hb (by rw [z]; simp)
        exact (sb.2 b n1).trans (hk b ob n1 n2 q)) hf (Nat.le_refl _) new
    refine ⟨.ref s.heap.objs.size, _, I1, rfl, ⟨_, x, rfl, I.hok.fresh (Nat.le_refl _), rfl, fun ys hy => (I.tuple_inj hy hq) ▸ hx⟩, ⟨⟨y, ?_⟩, hst.1.at fun o q => (sb.2 it (Ne.symm hne)).trans q⟩, fun b hb => ?_⟩
    · have e1 : ((i + 1 : Nat) : Int) = (i : Int) + 1 := by omega
      rw [e1]; exact he'
    · have hb' : b ≠ s.heap.objs.size := by
        rcases List.mem_cons.mp hb with z | z
        · rw [z]; exact Nat.ne_of_lt hel
        · rw [List.mem_singleton.mp z]; exact Nat.ne_of_lt hil
      rw [upd_ne hb']
      exact (hf b hb).1
  done := by
    intro X hP hw hK hc i pins s σ H E I hf st hg
    subst hP hw hK
    obtain ⟨⟨old, he⟩, hit⟩ := st
    obtain ⟨xs, hq, hx⟩ := hg
    obtain ⟨its, rv, ⟨po, p⟩, hz⟩ := I.tuple hq
    obtain ⟨f0, f1, f2, f3, f4, f5⟩ := hf it (by simp)
    have D : wpAny (model X.prog X.w) X.A (pyNext (.ref e)) (fun r s1 => r = none ∧ Inv X pins σ H s1) E s := by
      have hT : s.TypeIs (.ref e) "enumerate" := ⟨_, he, rfl⟩
      unfold pyNext
      refine wpAny_bind (wpAny_attempt (wpAny_callSpecial?_slot (name := Str.ofString "__next__") hT F.slot_enumerate_next (wpAny_call_entry F.slot_enumerate_next hT F.entry_enumerate_next ?_ (F.args_enumerate_next_1 _))))
      show wpAny _ _ (field (.ref e) 2 >>= _) _ _ _
      refine wpAny_bind (wpAny_field he rfl (x := .ref it) rfl (wpAny_bind ?_))
      refine RZ.nextOf_tuple_end (I.ok.hd hc) hit ⟨po, p⟩ (by have := rv.length; simp; omega) fun h' x hx' hs => ?_
      obtain ⟨o, ho, hc'⟩ := hs
      exact wpAny_bind (wpAny_isInstance (T := "StopIteration") (b := true) ⟨o, ho, hc'⟩ isSubtype_stop (wpAny_pure ⟨rfl, I.turned (t' := s.toks) (fun b o hb q => hx' b o hb q) f0 f1 f3 f4 f5⟩))
    exact D
  self := fun A i s Q E st h => let ⟨⟨_, he⟩, _⟩ := st; wpAny_pyIter_enum he h
def iEnT (K : PySem.W.Frag) (ta : TA) : TI := fun σ H R => ta σ H fun vs H1 => ∃ a xs, vs = [.ref a] ∧ SqT K H1 a xs ∧ R (IteT K a) H1
theorem pi_enT {X : Cx} {e : Expr} {ta : TA} {p pos tpos : Pos} {elts : List Expr} {kk : Nat} (hg : Gl X "enumerate") (hm : X.mg "enumerate" = none) (ha : PA X [e] ta) (hs : starEach [e] X.env = [(false, eval e X.env)] := by rfl) :
    PI X (.Tuple elts kk tpos) (.Call (.Name "enumerate" p) [e] [] pos) (iEnT X.K ta) := by
  refine ⟨fun pins s σ H R I h => Call_ (ld_blt I hg hm boot_enumerate (PyProof.Rows.callWith_type1 (thn (ha.run pos pins s σ H _ I h) fun us s1 ⟨vs, H1, I1, r1, q1⟩ => ?_) hs rfl))⟩
  obtain ⟨a, xs, rfl, hq, q⟩ := q1
  cases r1 with
  | cons r rr =>
    cases rr
    cases r
    obtain ⟨its, rv, ⟨po, p'⟩, hz⟩ := I1.tuple hq
    have hal : a < s1.heap.objs.size := let ⟨q', _⟩ := p'; Heap.lt_size q'
    refine call_en (begins_tuple a its.toArray) ⟨po, p'⟩ fun h' he hit hk => wpAny_pyIter_enum he ?_
    refine ⟨s1.heap.objs.size + 1, [s1.heap.objs.size + 1, s1.heap.objs.size], _, _, H1, rfl, I1.kept (t' := s1.toks) hk, turn_enT a (s1.heap.objs.size + 1) s1.heap.objs.size (Nat.succ_ne_self _) (Nat.ne_of_gt (Nat.lt_succ_of_lt hal)) (Nat.ne_of_lt hal), ⟨⟨.none, he⟩, ⟨_, hit, rfl, rfl⟩⟩, fun b hb => ?_, q⟩
    have hle : s1.heap.objs.size ≤ b := by
      rcases List.mem_cons.mp hb with z | z
      · rw [z]; exact Nat.le_add_right _ _
      · rw [List.mem_singleton.mp z]; exact Nat.le_refl _
    exact I1.fpOk hle (I1.hok.fresh hle)
theorem walk_enT {K : PySem.W.Frag} {a : Addr} {xs : List V} : Walk (IteT K a) xs.length (fun H => SqT K H a xs) (YPair (fun i => some (.int (i : Nat))) (fun i => xs[i]?)) where
  goes := fun i _ hi q => ⟨xs, xs[i], q, by simp [hi]⟩
  stops := fun _ q => ⟨xs, q, Nat.le_refl _⟩
  yields := fun i H v H' _ q ⟨T, x, h1, h2, h3, h4⟩ => ⟨T, .int (i : Nat), x, h1, h2, h3, rfl, h4 xs q⟩
end My

set_option Elab.async false
set_option linter.all false
set_option maxRecDepth 100000
/-! the low part of a word -/
namespace My
open PySem PySem.Spec
theorem add_xor (a b : Nat) : a + b = (a ^^^ b) + 2 * (a &&& b) := by
  have key : ∀ n a b : Nat, a < 2 ^ n → b < 2 ^ n → a + b = (a ^^^ b) + 2 * (a &&& b) := by
    intro n
    induction n with
    | zero =>
      intro a b ha hb
      have : a = 0 := by omega
      have : b = 0 := by omega
      subst_vars
      rfl
    | succ n ih =>
      intro a b ha hb
      have h := ih (a / 2) (b / 2) (by omega) (by omega)
      have h1 := bit_and a b 0
      have h2 := bit_xor a b 0
      have e1 : (a ^^^ b) / 2 = (a / 2) ^^^ (b / 2) := Nat.xor_div_two
      have e2 : (a &&& b) / 2 = (a / 2) &&& (b / 2) := Nat.and_div_two
      rw [Nat.pow_zero, Nat.div_one, Nat.div_one, Nat.div_one] at h1 h2
      split at h1 <;> split at h2 <;> omega
  have hm : ∀ a : Nat, a < 2 ^ a := fun a => Nat.lt_two_pow_self
  exact key (a + b) a b (Nat.lt_of_lt_of_le (hm a) (Nat.pow_le_pow_right (by decide) (by omega))) (Nat.lt_of_lt_of_le (hm b) (Nat.pow_le_pow_right (by decide) (by omega)))
theorem bitXor_neg (a c : Nat) : Builtin.bitXor (a : Int) (-((c : Int) + 1)) = -(((a ^^^ c : Nat) : Int) + 1) := by
  have h1 : Builtin.bitAnd (a : Int) (-((c : Int) + 1)) = (a : Int) - ((a &&& c : Nat) : Int) := by
    unfold Builtin.bitAnd
    rw [decide_eq_true (show (0 : Int) ≤ a by omega), decide_eq_false (show ¬ (0 : Int) ≤ -((c : Int) + 1) by omega)]
    show (a : Int) - _ = _
    have : (Builtin.bitNot (-((c : Int) + 1))).toNat = c := by unfold Builtin.bitNot; omega
    rw [this, Int.toNat_natCast]
  have h2 : Builtin.bitOr (a : Int) (-((c : Int) + 1)) = -((c : Int) - ((c &&& a : Nat) : Int)) - 1 := by
    unfold Builtin.bitOr
    have e1 : Builtin.bitNot (a : Int) = -((a : Int) + 1) := by unfold Builtin.bitNot; omega
    have e2 : Builtin.bitNot (-((c : Int) + 1)) = (c : Int) := by unfold Builtin.bitNot; omega
    rw [e1, e2]
    unfold Builtin.bitAnd
    rw [decide_eq_false (show ¬ (0 : Int) ≤ -((a : Int) + 1) by omega), decide_eq_true (show (0 : Int) ≤ c by omega)]
    have : (Builtin.bitNot (-((a : Int) + 1))).toNat = a := by unfold Builtin.bitNot; omega
    show Builtin.bitNot ((c : Int) - _) = _
    rw [this, Int.toNat_natCast]
    unfold Builtin.bitNot
    omega
  show Builtin.bitOr _ _ - Builtin.bitAnd _ _ = _
  rw [h1, h2, Nat.and_comm c a]
  have := add_xor a c
  omega
theorem xor_top {n u c : Nat} (hu : u < 2 ^ n) (hc : c < 2 ^ n) : u ^^^ (2 ^ n - (c + 1)) = 2 ^ n - ((u ^^^ c) + 1) := by
  have hx : u ^^^ c < 2 ^ n := Nat.xor_lt_two_pow hu hc
  refine Nat.eq_of_testBit_eq fun i => ?_
  rw [Nat.testBit_xor, Nat.testBit_two_pow_sub_succ hc, Nat.testBit_two_pow_sub_succ hx, Nat.testBit_xor]
  by_cases h : i < n
  · simp [h]
  · have h1 : u.testBit i = false := Nat.testBit_lt_two_pow (Nat.lt_of_lt_of_le hu (Nat.pow_le_pow_right (by decide) (by omega)))
    simp [h, h1]
theorem low_cast (a n : Nat) : ((a : Int) % 2 ^ n) = ((a % 2 ^ n : Nat) : Int) := by
  have : ((2 : Int) ^ n) = ((2 ^ n : Nat) : Int) := by exact_mod_cast rfl
  rw [this]
  exact (Int.natCast_emod a (2 ^ n)).symm
theorem low_neg (c n : Nat) : (-((c : Int) + 1)) % 2 ^ n = ((2 ^ n - (c % 2 ^ n + 1) : Nat) : Int) := by
  have e : ((2 : Int) ^ n) = ((2 ^ n : Nat) : Int) := by exact_mod_cast rfl
  have hp : 0 < 2 ^ n := Nat.pow_pos (by decide)
  have hl := Nat.mod_lt c hp
  have hd := Nat.div_add_mod c (2 ^ n)
  rw [e]
  generalize 2 ^ n = N at hp hl hd ⊢
  have : (-((c : Int) + 1)) = ((N - (c % N + 1) : Nat) : Int) + (N : Int) * (-((c / N : Nat) : Int) - 1) := by
    have h2 : ((N : Int)) * ((c / N : Nat) : Int) + ((c % N : Nat) : Int) = c := by exact_mod_cast hd
    have h3 : ((N - (c % N + 1) : Nat) : Int) = (N : Int) - ((c % N : Nat) : Int) - 1 := by omega
    rw [h3, Int.mul_sub, Int.mul_neg, Int.mul_one]
    omega
  rw [this, Int.add_mul_emod_self_left]
  exact Int.emod_eq_of_lt (by omega) (by omega)
/-- the low part of a word xor-ed -/
theorem low_xor {a b : Int} (n : Nat) (ha : 0 ≤ a) : (Builtin.bitXor a b) % 2 ^ n = Builtin.bitXor (a % 2 ^ n) (b % 2 ^ n) := by
  obtain ⟨A, rfl⟩ : ∃ A : Nat, a = A := ⟨a.toNat, by omega⟩
  by_cases hb : 0 ≤ b
  · obtain ⟨B, rfl⟩ : ∃ B : Nat, b = B := ⟨b.toNat, by omega⟩
    rw [bitXor_nat, low_cast, low_cast, low_cast, bitXor_nat, Nat.xor_mod_two_pow]
  · obtain ⟨c, rfl⟩ : ∃ c : Nat, b = -((c : Int) + 1) := ⟨(-b - 1).toNat, by omega⟩
    have hp : 0 < 2 ^ n := Nat.pow_pos (by decide)
    rw [bitXor_neg, low_neg, low_neg, low_cast, bitXor_nat, Nat.xor_mod_two_pow, xor_top (Nat.mod_lt A hp) (Nat.mod_lt c hp)]
theorem xor_put {n h u v : Nat} (hu : u < 2 ^ n) (hv : v < 2 ^ n) : (2 ^ n * h + u) ^^^ (u ^^^ v) = 2 ^ n * h + v := by
  refine Nat.eq_of_testBit_eq fun i => ?_
  rw [Nat.testBit_xor, Nat.testBit_xor, Nat.testBit_two_pow_mul_add _ hu, Nat.testBit_two_pow_mul_add _ hv]
  by_cases l : i < n
  · rw [if_pos l, if_pos l]
    cases u.testBit i <;> cases v.testBit i <;> rfl
  · have h1 : u.testBit i = false := Nat.testBit_lt_two_pow (Nat.lt_of_lt_of_le hu (Nat.pow_le_pow_right (by decide) (by omega)))
    have h2 : v.testBit i = false := Nat.testBit_lt_two_pow (Nat.lt_of_lt_of_le hv (Nat.pow_le_pow_right (by decide) (by omega)))
    rw [if_neg l, if_neg l, h1, h2]
    simp
/-- a register gets the low part of a word -/
theorem low_put {a b : Int} (n : Nat) (ha : 0 ≤ a) : Builtin.bitXor a ((Builtin.bitXor a b) % 2 ^ n) = a - a % 2 ^ n + b % 2 ^ n := by
  rw [low_xor n ha]
  obtain ⟨A, rfl⟩ : ∃ A : Nat, a = A := ⟨a.toNat, by omega⟩
  have hp : 0 < 2 ^ n := Nat.pow_pos (by decide)
  have hpi : (0 : Int) < 2 ^ n := Int.pow_pos (by decide)
  obtain ⟨v, hv, hv2⟩ : ∃ v : Nat, b % 2 ^ n = v ∧ v < 2 ^ n := by
    refine ⟨(b % 2 ^ n).toNat, ?_, ?_⟩
    · have := Int.emod_nonneg b (Int.ne_of_gt hpi)
      omega
    · have h1 := Int.emod_nonneg b (Int.ne_of_gt hpi)
      have h2 := Int.emod_lt_of_pos b hpi
      have e : ((2 : Int) ^ n) = ((2 ^ n : Nat) : Int) := by exact_mod_cast rfl
      rw [e] at h1 h2 ⊢
      omega
  have hd := Nat.div_add_mod A (2 ^ n)
  have hx := xor_put (h := A / 2 ^ n) (Nat.mod_lt A hp) hv2
  rw [hd] at hx
  rw [hv, low_cast, bitXor_nat, bitXor_nat, hx]
  have := Nat.mod_lt A hp
  omega
end My

set_option Elab.async false
set_option linter.all false
set_option maxRecDepth 100000
/-! an attribute as one of several targets -/
namespace My
open PySem PySem.Spec PyProof.Rows L2
section
variable {X : Cx} {o : Expr} {f : Str} {pos : Pos} {to : TE}
/-- o.f = .. -/
def gFld (K : PySem.W.Frag) (to : TE) (f : Str) : TG := fun v σ H Q => to σ H fun x H2 => ∃ a C dx fs, x = .ref a ∧ H2 a = some (.ins C dx fs) ∧ Cls K C ∧ NoAttr K C f ∧ fs.length < 1000 ∧ Q σ (upd H2 a (.ins C dx (putF f v fs)))
theorem pg_fld (ho : PE X o to) : PG X (.Attribute o f pos) (gFld X.K to f) := by
  refine ⟨fun pins s σ H v u Q I r h => ?_⟩
  rw [assign_Attribute]
  refine wpAny_bind (wpAny_holding (thn (ho.run pins s σ H _ I h) fun ov s1 ⟨x, H1, I1, r1, a, C, dx, fs, ex, ea, c, n, l, q⟩ => ?_))
  subst ex
  obtain rfl : ov = Value.ref a := r1
  refine wpAny_bind (wpAny_standAt (wpAny_bind (wpAny_holding ?_)))
  refine setattr_ok I1 ea c n l r fun s3 I3 => ?_
  exact wpAny_release ⟨σ, _, I3, q⟩
end
end My

set_option Elab.async false
set_option linter.all false
set_option maxRecDepth 100000
/-! a call of a name that holds one of several defs, told where it is called -/
namespace My
open PySem PySem.Spec PyProof.Rows L2
def tCallH (P : Program) (w : World) (K : PySem.W.Frag) (mg : Str → Option Value) (base : Heap) (k i : Nat) (t : TA) : TE := fun σ H Q => ∃ f sp, σ[i]? = some (some (.ref f)) ∧ Held P w K mg base k f sp ∧ t σ H fun vs H1 => sp vs H1 Q fun _ _ _ => False
theorem pe_callH {X : Cx} {k i : Nat} {x : Str} {p pos : Pos} {e : Expr} {es : List Expr} {t : TA} (hr : Room k X.A) (hN : X.N[i]? = some x) (hv : Vis X.env.scope x) (ha : PA X (e :: es) t)
    (h1 : (x == Str.ofString "__debug__") = false := by rfl) (h2 : (x == Str.ofString "__classdict__") = false := by rfl) (h3 : starEach (e :: es) X.env = (false, eval e X.env) :: starEach es X.env := by rfl) (h4 : ((backTo pos (starEach es X.env)).any fun x => x.1) = false := by rfl) :
    PE X (.Call (.Name x p) (e :: es) [] pos) (tCallH X.prog X.w X.K X.mg X.base k i t) :=
  ⟨fun pins s σ H Q I h => by
    obtain ⟨f, sp, hf, hh, ht⟩ := h
    refine (pe_callA (S := fun g => if g = f then some sp else none) (fun g sp' e => ?_) hr hN hv ha h1 h2 h3 h4).run pins s σ H Q I ⟨f, sp, hf, if_pos rfl, ht⟩
    by_cases z : g = f
    · rw [if_pos z] at e
      cases e
      rw [z]
      exact hh
    · rw [if_neg z] at e
      cases e⟩
theorem Held.of {P : Program} {w : World} {K : PySem.W.Frag} {mg : Str → Option Value} {base : Heap} {k k' : Nat} {f : Addr} {fd : FuncData} {ps : List Str} {sp : Sp} (F : FnOk P w K mg base CX0 k f fd ps sp) (hk : PySem.W.keepIn K (.ref f) = true) (hb : L2.Binds K fd ps []) (h : k ≤ k') : Held P w K mg base k' f sp :=
  ⟨fd, ps, ⟨F.len, fun A outer s H args us vs Q E r => F.run A outer s H args us vs Q E (r.mono h)⟩, hk, hb⟩
theorem fun_kbn {K : PySem.W.Frag} {x qual : Str} {st : Stmt} {f : Addr} {fd : FuncData} {ps ks : List Str} {n : Nat} (F : Fun K x qual st f fd)
    (h : ∀ (kV doc pm : Value) (an : Option Addr) (cdv ct : Value) (us ws : List Value), us.length = n → ws.length = ks.length → bindArgs (PySem.W.fnOf x qual (defArgs st) (defBody st) (defScope st) .none kV doc pm an cdv ct) { pos := us, kw := ks.zip ws } = pure (ps.zip (us ++ ws))) :
    KBn K fd ps n ks (fun us ws => us ++ ws) (fun vs zs => vs ++ zs) := by
  obtain ⟨oc, od, kV, doc, pm, an, cdv, ct, osl, rfl, _, _⟩ := F.ex
  exact ⟨fun s us ws _ hu hw => .of_eq (h kV doc pm an cdv ct us ws hu hw), fun a b => a.append b⟩
end My

set_option Elab.async false
set_option linter.all false
set_option maxRecDepth 100000
/-! a law's own def, called from the top: no text is being shown there, so repr of data can be read -/
namespace My
open PySem PySem.Spec PyProof.Rows L2
theorem call_reprD {X : Cx} (hg : X.A.guards = some []) (hu : X.A.units + 70 < cLine) : CallR X (.builtin "repr") (fun xs H Q => ∃ (a : Addr) (d : PyData), xs = [.ref a] ∧ Dp X.K H (.ref a) d ∧ d.showable = true ∧ d.hasDict = false ∧ d.depth ≤ 64 ∧ d.shown.length ≤ sizeLine ∧ Q (.str d.shown) H) :=
  fun pins s σ H xs us Q I hv h => by
    obtain ⟨a, d, rfl, hd, hs, hdi, hdp, hl, q⟩ := h
    cases hv with
    | cons h1 h2 =>
      cases h2
      have h1 : _ = Value.ref a := h1
      subst h1
      obtain ⟨as, r⟩ := Dp.reads I d _ (Value.ref a) hd rfl
      exact repr_of_reads' r hs (fun z => by rw [hdi] at z; cases z) hg (by omega) (fun _ _ e => e) (fun h' u tk hk => ⟨.str d.shown, H, I.kept hk, ⟨u, rfl⟩, q⟩) hl
theorem u70 {k : Nat} {A : Around} (h : Room k A) : A.units + 70 < cLine := by
  have := h.un
  omega
/-- the promise of a def that is called from the top -/
def FnTop (P : Program) (w : World) (K : PySem.W.Frag) (mg : Str → Option Value) (base : Heap) (f : Addr) (fd : FuncData) (ps : List Str) (sp : Sp) : Prop :=
  ∀ (s : Shared) (H : Hp) (args : Args) (us : List Value) (vs : List V) (Q : VK) (E : XK), Env0 P w K mg base callerA [] s H → BindsTo s fd args (ps.zip us) → Vals vs us → sp vs H Q E → codeAny (model P w) callerA (Code.call (.ref f) args) (CR CX0 [] P w H s Q E) s
theorem fun_top {P : Program} {w : World} {K : PySem.W.Frag} {mg : Str → Option Value} {base : Heap} {x qual : Str} {st : Stmt} {f : Addr} {fd : FuncData} {N ps : List Str} {k : Nat} {sp : Sp} (F : Fun K x qual st f fd) (S : FnScope N ps (defScope st)) (hr : Room (k + 1) callerA)
    (len : ∀ vs H Q E, sp vs H Q E → vs.length = ps.length)
    (hbody : ∀ (cdv : Value) (s : Shared) (H : Hp) (vs : List V) (Q : VK) (E : XK), Room k (callerA.deeper (envOfC qual (defScope st) s.heap.objs.size f cdv)) → sp vs H Q E →
      ∃ t, PSs (cxOf CX0 P w K mg base N qual (defScope st) f cdv callerA [] s H E).nox (defBody st) t ∧ t { nx := fun _ H' => Q .non H', rt := Q } (L2.start N vs) H) : FnTop P w K mg base f fd ps sp := by
  intro s H args us vs Q E e0 hb r hsp
  obtain ⟨oc, od, kV, doc, pm, an, cdv, ct, osl, rfl, lk, hcd⟩ := F.ex
  have hl := len vs H Q E hsp
  have KX := PySem.W.Frag.In.keeps e0.mod.kin fun b o e => (e0.bs b o e).1
  have lim := Heap.NoLimit.keeps e0.mod.nolimit fun b o e => (e0.bs b o e).1
  refine codeAny_call_function hr.depth (KX f _ lk) rfl S.co S.gen rfl (PySem.W.codeRec_of KX hcd) (hb _ _ _ _ ?_)
  refine wpAny_newFunctionEnv_cells S.kind (fun y hy => ?_) fun env he s1 hc => ?_
  · rcases S.par y.1 (List.of_mem_zip hy).1 with q | q
    · exact .inl q
    · exact .inr ⟨q, PySem.W.cellsFrom_some _ _ _ (.inl q)⟩
  · subst he
    refine ⟨Heap.NoLimit.keeps lim hc.toInCall.keep, codeAny_func ?_⟩
    obtain ⟨t, ht, hq⟩ := hbody cdv s H vs Q E (hr.deeper _) hsp
    have I := inv_start (CX := CX0) (E := E) S hr.hd e0 hl r hc
    refine wpAny_mono ((PSs.nox ht).run [] s1 (L2.start N vs) H { nx := fun _ H' => Q .non H', rt := Q } I hq) (fun fl s' hs => ?_) (fun e s' h => h)
    cases fl with
    | next =>
      obtain ⟨σ', H', J, q⟩ := hs
      exact ⟨.non, H', J.os, J.bare, J.base, J.hok, rfl, q⟩
    | brk =>
      obtain ⟨σ', H', J, q⟩ := hs
      exact q.elim
    | cont =>
      obtain ⟨σ', H', J, q⟩ := hs
      exact q.elim
    | ret u =>
      obtain ⟨v, σ', H', J, rv, q⟩ := hs
      exact ⟨v, H', J.os, J.bare, J.base, J.hok, rv, q⟩
theorem law_top {P : Program} {w : World} {K : PySem.W.Frag} {mg mb : Str → Option Value} {fa a : Addr} {fd : FuncData} {x : Str} {sp : Sp} {s₁ : Shared} {vs : List Value} {ns : List Int} (KX : K.In s₁.heap) (hns : s₁.heap.Ns mainGlobals mg) (hb : s₁.heap.Ns builtinsNs mb)
    (hbb : ∀ y : Str, y ≠ Str.ofString "__name__" → mb y = bootBuiltins y) (hlim : s₁.heap.NoLimit) (hg : s₁.gens = #[]) (ha : s₁.heap.get? a = some { cls := .type "list", data := .seq vs.toArray }) (hi : IntsAre vs ns) (hl : ns.length ≤ sizeLine)
    (F : ∀ base : Heap, K.In base → base.Ns mainGlobals mg → FnTop P w K mg base fa fd [x] sp) (hbind : ∀ (s : Shared) (u : Value), BindsTo s fd { pos := [u] } [(x, u)]) (hsp : ∀ H : Hp, Only H → SqL K H a (ns.map V.int) → sp [.ref a] H (fun v _ => v = .bl true) (fun _ _ _ => False)) :
    codeAny (model P w) callerA (Code.call (.ref fa) { pos := [.ref a] }) (fun r s' => r = .ok (.ret (.bool true)) ∧ OldK s₁.heap s'.heap ∧ s'.os = s₁.os ∧ AllBare s'.gens) s₁ := by
  have rv := vals_ints hi
  have lenV := IntsAre.length hi
  have core : ∀ H : Hp, Only H → SqL K H a (ns.map V.int) → HOk P w H s₁.heap → (∀ b, H b ≠ none → b = a) → (H a ≠ none → K.lookup a = none) →
      codeAny (model P w) callerA (Code.call (.ref fa) { pos := [.ref a] }) (fun r s' => r = .ok (.ret (.bool true)) ∧ OldK s₁.heap s'.heap ∧ s'.os = s₁.os ∧ AllBare s'.gens) s₁ := by
    intro H hO hS hok hA hK
    have noA : ∀ {b : Addr} {o : Obj} {es : Array DictEntry} {ep : Nat}, s₁.heap.get? b = some o → o.data = .dict es ep → H b = none := by
      intro b o es ep e d
      cases q : H b with
      | none => rfl
      | some u =>
        have e' := hA b (by rw [q]; simp)
        subst e'
        rw [ha] at e
        cases e
        cases d
    have nsK : ∀ {b : Addr} {m : Str → Option Value}, s₁.heap.Ns b m → (hidT s₁.heap H).Ns b m := by
      rintro b m ⟨o, es, ep, e, d, r⟩
      exact ⟨o, es, ep, hidT_get e (noA e d), d, r⟩
    have hKb : K.In (hidT s₁.heap H) := by
      intro b o e
      refine hidT_get (KX b o e) ?_
      cases q : H b with
      | none => rfl
      | some u =>
        have e' := hA b (by rw [q]; simp)
        subst e'
        rw [hK (by rw [q]; simp)] at e
        cases e
    have hM : L2.Mod K mg (hidT s₁.heap H) := ⟨hKb, nsK hns, ⟨mb, nsK hb, hbb⟩, let ⟨mc, h1, h2⟩ := hlim; ⟨mc, nsK h1, h2⟩⟩
    have e0 : Env0 P w K mg (hidT s₁.heap H) callerA [] s₁ H := ⟨rfl, hM, fun b o e => of_hidT e, Nat.le_of_eq (hidT_size s₁.heap H), trivial, fun b h => (nomatch h), hok, AllBare.of_eq hg⟩
    refine codeAny_mono (F (hidT s₁.heap H) hKb (nsK hns) s₁ H { pos := [.ref a] } [.ref a] [.ref a] (fun v _ => v = .bl true) (fun _ _ _ => False) e0 (hbind s₁ (.ref a)) (Paired.cons rfl Paired.nil) (hsp H hO hS)) fun r s' h => ?_
    cases r with
    | error e => exact h.elim
    | ok fl =>
      cases fl with
      | next => exact h.elim
      | brk => exact h.elim
      | cont => exact h.elim
      | ret u =>
        obtain ⟨v, H', os, bare, un, hok', r', q⟩ := h
        have q : v = .bl true := q
        subst q
        have r' : u = Value.bool true := r'.symm ▸ rfl
        subst r'
        refine ⟨rfl, OldK.of_keep fun b o e => ?_, os, bare⟩
        cases q : H b with
        | none => exact un.keep b o e q (by simp [frs]) (by simp)
        | some u =>
          rcases hO b with z | ⟨ob, xs, z⟩
          · rw [z] at q
            cases q
          · have e1 := (hok b _ z).1
            have e2 := (hok' b _ (un.frzs b _ _ z)).1
            rw [e1] at e
            cases e
            exact e2
  cases hk : K.lookup a with
  | none =>
    refine core (fun b => if b = a then some (.frz { cls := .type "list", data := .seq vs.toArray } (.lst (ns.map V.int))) else none) (fun b => ?_) (.inl (.inr ⟨_, if_pos rfl⟩)) (fun b u z => ?_) (fun b z => ?_) fun _ => hk
    · by_cases h : b = a
      · exact .inr ⟨_, _, if_pos h⟩
      · exact .inl (if_neg h)
    · by_cases h : b = a
      · subst h
        have z : (if b = b then some (HO.frz { cls := .type "list", data := .seq vs.toArray } (.lst (ns.map V.int))) else none) = some u := z
        rw [if_pos rfl] at z
        cases z
        exact ⟨ha, by rw [List.length_map]; exact hl, vs, 0, rv, ha⟩
      · have z : (if b = a then some (HO.frz { cls := .type "list", data := .seq vs.toArray } (.lst (ns.map V.int))) else none) = some u := z
        rw [if_neg h] at z
        cases z
    · by_cases h : b = a
      · exact h
      · exact absurd (if_neg h) z
  | some o =>
    have e := KX a o hk
    rw [ha] at e
    cases e
    refine core (fun _ => none) (fun _ => .inl rfl) (.inr ⟨_, vs.toArray, 0, hk, rfl, rfl, rfl, ?_, ?_⟩) (fun b u z => (nomatch z)) (fun b z => absurd rfl z) fun z => absurd rfl z
    · rw [List.size_toArray, lenV]
      exact hl
    · exact rv
theorem walk_top {l : PySem.W.OpenLaw} {n : Nat} {q : Program} {loose : List Str} {XP : (Str → Option Value) → Heap → Prop} {YP : World → Heap → Prop} {d : DefRec} {K : Params → PySem.W.Frag} {sp : World → Sp} {x : Str}
    (hn : l.most = some n) (hn2 : n ≤ sizeLine) (hdf : d.params.defaults = []) (hY : ∀ (w : World) (h : Heap), YP w h → (K w.params).In h)
    (F : ∀ (w : World) (mg : Str → Option Value) (fa : Addr) (h : Heap), (K w.params).In h → h.Ns mainGlobals mg → mg d.name = some (.ref fa) → ∃ fd, (∀ (s : Shared) (u : Value), BindsTo s fd { pos := [u] } [(x, u)]) ∧ ∀ base : Heap, (K w.params).In base → base.Ns mainGlobals mg → FnTop l.prog w (K w.params) mg base fa fd [x] (sp w))
    (hsp : ∀ (w : World) (H : Hp) (a : Addr) (ns : List Int), ns.length ≤ n → Only H → SqL (K w.params) H a (ns.map V.int) → sp w [.ref a] H (fun v _ => v = .bl true) (fun _ _ _ => False)) :
    PySem.W.WalkO q loose XP YP l.row.toRowW d [] (fun f vs => PySem.call f vs) := by
  refine Att.attach_call hn hdf fun w s₀ s₁ mg mb fa o pm cd doc a vs ns G Y ho hd hcd hmg hobj hints hlen hg => ?_
  have KX := hY w _ Y
  obtain ⟨fd, hb, hF⟩ := F w mg fa _ KX G.T.g hmg
  exact law_top KX G.T.g G.T.b G.T.builtins G.T.nolimit hg hobj hints (Nat.le_trans hlen hn2) hF hb fun H hO hS => hsp w H a ns hlen hO hS
end My

set_option Elab.async false
set_option linter.all false
set_option maxRecDepth 100000
namespace My
open PySem PySem.Spec PyProof.Rows L2
def topS (i : Nat) : Stmt := PySem.Challenge.pw_backrun_k20_steps_and_steps_back.main.body.getD i (.Pass ⟨0, 0, 0, 0⟩)
abbrev s_top : Stmt := topS 2
abbrev N_top : List Str := ["w"]
theorem sc_top : FnScope N_top ["w"] (defScope s_top) := ⟨rfl, rfl, rfl, by decide +kernel, rfl, by decide +kernel, by decide +kernel⟩
abbrev s_shift : Stmt := topS 4
abbrev N_shift : List Str := ["op", "w", "x", "y"]
theorem sc_shift : FnScope N_shift ["op", "w", "x", "y"] (defScope s_shift) := ⟨rfl, rfl, rfl, by decide +kernel, rfl, by decide +kernel, by decide +kernel⟩
abbrev s_compute : Stmt := topS 3
abbrev N_compute : List Str := ["op", "w", "x", "y"]
theorem sc_compute : FnScope N_compute ["op", "w", "x", "y"] (defScope s_compute) := ⟨rfl, rfl, rfl, by decide +kernel, rfl, by decide +kernel, by decide +kernel⟩
abbrev s_compute_low : Stmt := topS 8
abbrev N_compute_low : List Str := ["op", "width", "x", "y", "low", "first", "second"]
theorem sc_compute_low : FnScope N_compute_low ["op", "width", "x", "y"] (defScope s_compute_low) := ⟨rfl, rfl, rfl, by decide +kernel, rfl, by decide +kernel, by decide +kernel⟩
abbrev s_change_low : Stmt := topS 11
abbrev N_change_low : List Str := ["core", "at", "word", "old"]
theorem sc_change_low : FnScope N_change_low ["core", "at", "word"] (defScope s_change_low) := ⟨rfl, rfl, rfl, by decide +kernel, rfl, by decide +kernel, by decide +kernel⟩
abbrev s_do_add : Stmt := topS 12
abbrev N_do_add : List Str := ["core", "instruction", "sign", "_", "d", "s"]
theorem sc_do_add : FnScope N_do_add ["core", "instruction", "sign"] (defScope s_do_add) := ⟨rfl, rfl, rfl, by decide +kernel, rfl, by decide +kernel, by decide +kernel⟩
abbrev s_do_sub : Stmt := topS 13
abbrev N_do_sub : List Str := ["core", "instruction", "sign", "_", "d", "s"]
theorem sc_do_sub : FnScope N_do_sub ["core", "instruction", "sign"] (defScope s_do_sub) := ⟨rfl, rfl, rfl, by decide +kernel, rfl, by decide +kernel, by decide +kernel⟩
abbrev s_do_xor : Stmt := topS 14
abbrev N_do_xor : List Str := ["core", "instruction", "sign", "_", "d", "s"]
theorem sc_do_xor : FnScope N_do_xor ["core", "instruction", "sign"] (defScope s_do_xor) := ⟨rfl, rfl, rfl, by decide +kernel, rfl, by decide +kernel, by decide +kernel⟩
abbrev s_do_addi : Stmt := topS 15
abbrev N_do_addi : List Str := ["core", "instruction", "sign", "_", "d", "n"]
theorem sc_do_addi : FnScope N_do_addi ["core", "instruction", "sign"] (defScope s_do_addi) := ⟨rfl, rfl, rfl, by decide +kernel, rfl, by decide +kernel, by decide +kernel⟩
abbrev s_do_xori : Stmt := topS 16
abbrev N_do_xori : List Str := ["core", "instruction", "sign", "_", "d", "n"]
theorem sc_do_xori : FnScope N_do_xori ["core", "instruction", "sign"] (defScope s_do_xori) := ⟨rfl, rfl, rfl, by decide +kernel, rfl, by decide +kernel, by decide +kernel⟩
abbrev s_do_op : Stmt := topS 17
abbrev N_do_op : List Str := ["core", "instruction", "sign", "op", "d", "a", "b", "word"]
theorem sc_do_op : FnScope N_do_op ["core", "instruction", "sign"] (defScope s_do_op) := ⟨rfl, rfl, rfl, by decide +kernel, rfl, by decide +kernel, by decide +kernel⟩
abbrev s_do_swap : Stmt := topS 19
abbrev N_do_swap : List Str := ["core", "instruction", "sign", "_", "a", "b", "word"]
theorem sc_do_swap : FnScope N_do_swap ["core", "instruction", "sign"] (defScope s_do_swap) := ⟨rfl, rfl, rfl, by decide +kernel, rfl, by decide +kernel, by decide +kernel⟩
abbrev s_do_exch : Stmt := topS 20
abbrev N_do_exch : List Str := ["core", "instruction", "sign", "_", "a", "b", "at", "word"]
theorem sc_do_exch : FnScope N_do_exch ["core", "instruction", "sign"] (defScope s_do_exch) := ⟨rfl, rfl, rfl, by decide +kernel, rfl, by decide +kernel, by decide +kernel⟩
abbrev s_do_addr : Stmt := topS 21
abbrev N_do_addr : List Str := ["core", "instruction", "sign", "_", "d", "s"]
theorem sc_do_addr : FnScope N_do_addr ["core", "instruction", "sign"] (defScope s_do_addr) := ⟨rfl, rfl, rfl, by decide +kernel, rfl, by decide +kernel, by decide +kernel⟩
abbrev s_do_subr : Stmt := topS 22
abbrev N_do_subr : List Str := ["core", "instruction", "sign", "_", "d", "s"]
theorem sc_do_subr : FnScope N_do_subr ["core", "instruction", "sign"] (defScope s_do_subr) := ⟨rfl, rfl, rfl, by decide +kernel, rfl, by decide +kernel, by decide +kernel⟩
abbrev s_do_addl : Stmt := topS 23
abbrev N_do_addl : List Str := ["core", "instruction", "sign", "_", "d", "m"]
theorem sc_do_addl : FnScope N_do_addl ["core", "instruction", "sign"] (defScope s_do_addl) := ⟨rfl, rfl, rfl, by decide +kernel, rfl, by decide +kernel, by decide +kernel⟩
abbrev s_do_neg : Stmt := topS 24
abbrev N_do_neg : List Str := ["core", "instruction", "sign", "_", "r"]
theorem sc_do_neg : FnScope N_do_neg ["core", "instruction", "sign"] (defScope s_do_neg) := ⟨rfl, rfl, rfl, by decide +kernel, rfl, by decide +kernel, by decide +kernel⟩
abbrev s_do_over : Stmt := topS 25
abbrev N_do_over : List Str := ["core", "instruction", "sign", "_", "d", "a", "m"]
theorem sc_do_over : FnScope N_do_over ["core", "instruction", "sign"] (defScope s_do_over) := ⟨rfl, rfl, rfl, by decide +kernel, rfl, by decide +kernel, by decide +kernel⟩
abbrev s_do_swapbr : Stmt := topS 26
abbrev N_do_swapbr : List Str := ["core", "instruction", "sign", "_", "r", "word"]
theorem sc_do_swapbr : FnScope N_do_swapbr ["core", "instruction", "sign"] (defScope s_do_swapbr) := ⟨rfl, rfl, rfl, by decide +kernel, rfl, by decide +kernel, by decide +kernel⟩
abbrev s_do_bra : Stmt := topS 27
abbrev N_do_bra : List Str := ["core", "instruction", "sign", "_", "off"]
theorem sc_do_bra : FnScope N_do_bra ["core", "instruction", "sign"] (defScope s_do_bra) := ⟨rfl, rfl, rfl, by decide +kernel, rfl, by decide +kernel, by decide +kernel⟩
abbrev s_do_rbra : Stmt := topS 30
abbrev N_do_rbra : List Str := ["core", "instruction", "sign", "_", "off"]
theorem sc_do_rbra : FnScope N_do_rbra ["core", "instruction", "sign"] (defScope s_do_rbra) := ⟨rfl, rfl, rfl, by decide +kernel, rfl, by decide +kernel, by decide +kernel⟩
abbrev s_do_nothing : Stmt := topS 31
abbrev N_do_nothing : List Str := ["core", "instruction", "sign"]
theorem sc_do_nothing : FnScope N_do_nothing ["core", "instruction", "sign"] (defScope s_do_nothing) := ⟨rfl, rfl, rfl, by decide +kernel, rfl, by decide +kernel, by decide +kernel⟩
abbrev s_do_test : Stmt := topS 18
abbrev N_do_test : List Str := ["core", "instruction", "sign", "_", "d", "a"]
theorem sc_do_test : FnScope N_do_test ["core", "instruction", "sign"] (defScope s_do_test) := ⟨rfl, rfl, rfl, by decide +kernel, rfl, by decide +kernel, by decide +kernel⟩
abbrev s_do_brz : Stmt := topS 28
abbrev N_do_brz : List Str := ["core", "instruction", "sign", "_", "r", "off"]
theorem sc_do_brz : FnScope N_do_brz ["core", "instruction", "sign"] (defScope s_do_brz) := ⟨rfl, rfl, rfl, by decide +kernel, rfl, by decide +kernel, by decide +kernel⟩
abbrev s_do_brn : Stmt := topS 29
abbrev N_do_brn : List Str := ["core", "instruction", "sign", "_", "r", "off"]
theorem sc_do_brn : FnScope N_do_brn ["core", "instruction", "sign"] (defScope s_do_brn) := ⟨rfl, rfl, rfl, by decide +kernel, rfl, by decide +kernel, by decide +kernel⟩
abbrev s_Core___init__ : Stmt := inClass (topS 33) 0
abbrev N_Core___init__ : List Str := ["self", "machine", "state", "registers", "memory"]
theorem sc_Core___init__ : FnScope N_Core___init__ ["self", "machine", "state"] (defScope s_Core___init__) := ⟨rfl, rfl, rfl, by decide +kernel, rfl, by decide +kernel, by decide +kernel⟩
abbrev s_Core_state : Stmt := inClass (topS 33) 1
abbrev N_Core_state : List Str := ["self"]
theorem sc_Core_state : FnScope N_Core_state ["self"] (defScope s_Core_state) := ⟨rfl, rfl, rfl, by decide +kernel, rfl, by decide +kernel, by decide +kernel⟩
abbrev s_Core_here : Stmt := inClass (topS 33) 2
abbrev N_Core_here : List Str := ["self"]
theorem sc_Core_here : FnScope N_Core_here ["self"] (defScope s_Core_here) := ⟨rfl, rfl, rfl, by decide +kernel, rfl, by decide +kernel, by decide +kernel⟩
abbrev s_Core_act : Stmt := inClass (topS 33) 4
abbrev N_Core_act : List Str := ["self", "sign", "instruction", "action"]
theorem sc_Core_act : FnScope N_Core_act ["self", "sign"] (defScope s_Core_act) := ⟨rfl, rfl, rfl, by decide +kernel, rfl, by decide +kernel, by decide +kernel⟩
abbrev s_Core_forth : Stmt := inClass (topS 33) 5
abbrev N_Core_forth : List Str := ["self"]
theorem sc_Core_forth : FnScope N_Core_forth ["self"] (defScope s_Core_forth) := ⟨rfl, rfl, rfl, by decide +kernel, rfl, by decide +kernel, by decide +kernel⟩
abbrev s_Core_retrace : Stmt := inClass (topS 33) 6
abbrev N_Core_retrace : List Str := ["self"]
theorem sc_Core_retrace : FnScope N_Core_retrace ["self"] (defScope s_Core_retrace) := ⟨rfl, rfl, rfl, by decide +kernel, rfl, by decide +kernel, by decide +kernel⟩
abbrev s_step : Stmt := topS 9
abbrev N_step : List Str := ["machine", "state", "core"]
theorem sc_step : FnScope N_step ["machine", "state"] (defScope s_step) := ⟨rfl, rfl, rfl, by decide +kernel, rfl, by decide +kernel, by decide +kernel⟩
abbrev s_back : Stmt := topS 10
abbrev N_back : List Str := ["machine", "state", "core"]
theorem sc_back : FnScope N_back ["machine", "state"] (defScope s_back) := ⟨rfl, rfl, rfl, by decide +kernel, rfl, by decide +kernel, by decide +kernel⟩
abbrev s_z_draw : Stmt := topS 35
abbrev N_z_draw : List Str := ["script", "seed", "cell"]
theorem sc_z_draw : FnScope N_z_draw ["script"] (defScope s_z_draw) := ⟨rfl, rfl, rfl, by decide +kernel, rfl, by decide +kernel, by decide +kernel⟩
abbrev s_z_take : Stmt := topS 36
abbrev N_z_take : List Str := ["draw", "many", "found"]
theorem sc_z_take : FnScope N_z_take ["draw", "many"] (defScope s_z_take) := ⟨rfl, rfl, rfl, by decide +kernel, rfl, by decide +kernel, by decide +kernel⟩
abbrev s_z_shapes : Stmt := topS 37
abbrev N_z_shapes : List Str := ["shapes", "op", "rest"]
theorem sc_z_shapes : FnScope N_z_shapes [] (defScope s_z_shapes) := ⟨rfl, rfl, rfl, by decide +kernel, rfl, by decide +kernel, by decide +kernel⟩
abbrev s_z_words : Stmt := topS 38
abbrev N_z_words : List Str := []
theorem sc_z_words : FnScope N_z_words [] (defScope s_z_words) := ⟨rfl, rfl, rfl, by decide +kernel, rfl, by decide +kernel, by decide +kernel⟩
abbrev s_z_number : Stmt := topS 39
abbrev N_z_number : List Str := ["draw", "bits", "top_v", "k"]
theorem sc_z_number : FnScope N_z_number ["draw", "bits"] (defScope s_z_number) := ⟨rfl, rfl, rfl, by decide +kernel, rfl, by decide +kernel, by decide +kernel⟩
abbrev s_z_different : Stmt := topS 40
abbrev N_z_different : List Str := ["draw", "many", "found", "r"]
theorem sc_z_different : FnScope N_z_different ["draw", "many"] (defScope s_z_different) := ⟨rfl, rfl, rfl, by decide +kernel, rfl, by decide +kernel, by decide +kernel⟩
abbrev s_z_instruction : Stmt := topS 41
abbrev N_z_instruction : List Str := ["draw", "width", "near", "op", "shape", "registers", "parts", "k"]
theorem sc_z_instruction : FnScope N_z_instruction ["draw", "width", "near"] (defScope s_z_instruction) := ⟨rfl, rfl, rfl, by decide +kernel, rfl, by decide +kernel, by decide +kernel⟩
abbrev s_z_state : Stmt := topS 42
abbrev N_z_state : List Str := ["draw", "code", "registers", "pc", "br", "memory", "r", "k"]
theorem sc_z_state : FnScope N_z_state ["draw", "code"] (defScope s_z_state) := ⟨rfl, rfl, rfl, by decide +kernel, rfl, by decide +kernel, by decide +kernel⟩
abbrev s_z_result : Stmt := topS 43
abbrev N_z_result : List Str := ["op", "w", "x", "y"]
theorem sc_z_result : FnScope N_z_result ["op", "w", "x", "y"] (defScope s_z_result) := ⟨rfl, rfl, rfl, by decide +kernel, rfl, by decide +kernel, by decide +kernel⟩
abbrev s_z_act : Stmt := topS 44
abbrev N_z_act : List Str := ["m", "w", "ins", "sign", "op", "top_v", "reg", "d", "low", "high", "by", "at"]
theorem sc_z_act : FnScope N_z_act ["m", "w", "ins", "sign"] (defScope s_z_act) := ⟨rfl, rfl, rfl, by decide +kernel, rfl, by decide +kernel, by decide +kernel⟩
abbrev s_z_step : Stmt := topS 45
abbrev N_z_step : List Str := ["machine", "state", "m", "pc", "direction", "ins"]
theorem sc_z_step : FnScope N_z_step ["machine", "state"] (defScope s_z_step) := ⟨rfl, rfl, rfl, by decide +kernel, rfl, by decide +kernel, by decide +kernel⟩
abbrev s_law : Stmt := topS 46
abbrev N_law : List Str := ["script", "draw", "width", "code", "machine", "turn", "state", "before", "after", "earlier", "k"]
theorem sc_law : FnScope N_law ["script"] (defScope s_law) := ⟨rfl, rfl, rfl, by decide +kernel, rfl, by decide +kernel, by decide +kernel⟩
/-- what the top has left -/
structure Txt (K : PySem.W.Frag) (mg : Str → Option Value) where
  f_top : Addr
  d_top : FuncData
  F_top : Fun K "top" "top" s_top f_top d_top
  g_top : mg "top" = some (.ref f_top)
  b_top : Binds K d_top ["w"] []
  f_shift : Addr
  d_shift : FuncData
  F_shift : Fun K "shift" "shift" s_shift f_shift d_shift
  g_shift : mg "shift" = some (.ref f_shift)
  b_shift : Binds K d_shift ["op", "w", "x", "y"] []
  f_compute : Addr
  d_compute : FuncData
  F_compute : Fun K "compute" "compute" s_compute f_compute d_compute
  g_compute : mg "compute" = some (.ref f_compute)
  b_compute : Binds K d_compute ["op", "w", "x", "y"] []
  f_compute_low : Addr
  d_compute_low : FuncData
  F_compute_low : Fun K "compute_low" "compute_low" s_compute_low f_compute_low d_compute_low
  g_compute_low : mg "compute_low" = some (.ref f_compute_low)
  b_compute_low : Binds K d_compute_low ["op", "width", "x", "y"] []
  f_change_low : Addr
  d_change_low : FuncData
  F_change_low : Fun K "change_low" "change_low" s_change_low f_change_low d_change_low
  g_change_low : mg "change_low" = some (.ref f_change_low)
  b_change_low : Binds K d_change_low ["core", "at", "word"] []
  f_do_add : Addr
  d_do_add : FuncData
  F_do_add : Fun K "do_add" "do_add" s_do_add f_do_add d_do_add
  g_do_add : mg "do_add" = some (.ref f_do_add)
  b_do_add : Binds K d_do_add ["core", "instruction", "sign"] []
  f_do_sub : Addr
  d_do_sub : FuncData
  F_do_sub : Fun K "do_sub" "do_sub" s_do_sub f_do_sub d_do_sub
  g_do_sub : mg "do_sub" = some (.ref f_do_sub)
  b_do_sub : Binds K d_do_sub ["core", "instruction", "sign"] []
  f_do_xor : Addr
  d_do_xor : FuncData
  F_do_xor : Fun K "do_xor" "do_xor" s_do_xor f_do_xor d_do_xor
  g_do_xor : mg "do_xor" = some (.ref f_do_xor)
  b_do_xor : Binds K d_do_xor ["core", "instruction", "sign"] []
  f_do_addi : Addr
  d_do_addi : FuncData
  F_do_addi : Fun K "do_addi" "do_addi" s_do_addi f_do_addi d_do_addi
  g_do_addi : mg "do_addi" = some (.ref f_do_addi)
  b_do_addi : Binds K d_do_addi ["core", "instruction", "sign"] []
  f_do_xori : Addr
  d_do_xori : FuncData
  F_do_xori : Fun K "do_xori" "do_xori" s_do_xori f_do_xori d_do_xori
  g_do_xori : mg "do_xori" = some (.ref f_do_xori)
  b_do_xori : Binds K d_do_xori ["core", "instruction", "sign"] []
  f_do_op : Addr
  d_do_op : FuncData
  F_do_op : Fun K "do_op" "do_op" s_do_op f_do_op d_do_op
  g_do_op : mg "do_op" = some (.ref f_do_op)
  b_do_op : Binds K d_do_op ["core", "instruction", "sign"] []
  f_do_swap : Addr
  d_do_swap : FuncData
  F_do_swap : Fun K "do_swap" "do_swap" s_do_swap f_do_swap d_do_swap
  g_do_swap : mg "do_swap" = some (.ref f_do_swap)
  b_do_swap : Binds K d_do_swap ["core", "instruction", "sign"] []
  f_do_exch : Addr
  d_do_exch : FuncData
  F_do_exch : Fun K "do_exch" "do_exch" s_do_exch f_do_exch d_do_exch
  g_do_exch : mg "do_exch" = some (.ref f_do_exch)
  b_do_exch : Binds K d_do_exch ["core", "instruction", "sign"] []
  f_do_addr : Addr
  d_do_addr : FuncData
  F_do_addr : Fun K "do_addr" "do_addr" s_do_addr f_do_addr d_do_addr
  g_do_addr : mg "do_addr" = some (.ref f_do_addr)
  b_do_addr : Binds K d_do_addr ["core", "instruction", "sign"] []
  f_do_subr : Addr
  d_do_subr : FuncData
  F_do_subr : Fun K "do_subr" "do_subr" s_do_subr f_do_subr d_do_subr
  g_do_subr : mg "do_subr" = some (.ref f_do_subr)
  b_do_subr : Binds K d_do_subr ["core", "instruction", "sign"] []
  f_do_addl : Addr
  d_do_addl : FuncData
  F_do_addl : Fun K "do_addl" "do_addl" s_do_addl f_do_addl d_do_addl
  g_do_addl : mg "do_addl" = some (.ref f_do_addl)
  b_do_addl : Binds K d_do_addl ["core", "instruction", "sign"] []
  f_do_neg : Addr
  d_do_neg : FuncData
  F_do_neg : Fun K "do_neg" "do_neg" s_do_neg f_do_neg d_do_neg
  g_do_neg : mg "do_neg" = some (.ref f_do_neg)
  b_do_neg : Binds K d_do_neg ["core", "instruction", "sign"] []
  f_do_over : Addr
  d_do_over : FuncData
  F_do_over : Fun K "do_over" "do_over" s_do_over f_do_over d_do_over
  g_do_over : mg "do_over" = some (.ref f_do_over)
  b_do_over : Binds K d_do_over ["core", "instruction", "sign"] []
  f_do_swapbr : Addr
  d_do_swapbr : FuncData
  F_do_swapbr : Fun K "do_swapbr" "do_swapbr" s_do_swapbr f_do_swapbr d_do_swapbr
  g_do_swapbr : mg "do_swapbr" = some (.ref f_do_swapbr)
  b_do_swapbr : Binds K d_do_swapbr ["core", "instruction", "sign"] []
  f_do_bra : Addr
  d_do_bra : FuncData
  F_do_bra : Fun K "do_bra" "do_bra" s_do_bra f_do_bra d_do_bra
  g_do_bra : mg "do_bra" = some (.ref f_do_bra)
  b_do_bra : Binds K d_do_bra ["core", "instruction", "sign"] []
  f_do_rbra : Addr
  d_do_rbra : FuncData
  F_do_rbra : Fun K "do_rbra" "do_rbra" s_do_rbra f_do_rbra d_do_rbra
  g_do_rbra : mg "do_rbra" = some (.ref f_do_rbra)
  b_do_rbra : Binds K d_do_rbra ["core", "instruction", "sign"] []
  f_do_nothing : Addr
  d_do_nothing : FuncData
  F_do_nothing : Fun K "do_nothing" "do_nothing" s_do_nothing f_do_nothing d_do_nothing
  g_do_nothing : mg "do_nothing" = some (.ref f_do_nothing)
  b_do_nothing : Binds K d_do_nothing ["core", "instruction", "sign"] []
  f_do_test : Addr
  d_do_test : FuncData
  F_do_test : Fun K "do_test" "do_test" s_do_test f_do_test d_do_test
  g_do_test : mg "do_test" = some (.ref f_do_test)
  b_do_test : Binds K d_do_test ["core", "instruction", "sign"] []
  f_do_brz : Addr
  d_do_brz : FuncData
  F_do_brz : Fun K "do_brz" "do_brz" s_do_brz f_do_brz d_do_brz
  g_do_brz : mg "do_brz" = some (.ref f_do_brz)
  b_do_brz : Binds K d_do_brz ["core", "instruction", "sign"] []
  f_do_brn : Addr
  d_do_brn : FuncData
  F_do_brn : Fun K "do_brn" "do_brn" s_do_brn f_do_brn d_do_brn
  g_do_brn : mg "do_brn" = some (.ref f_do_brn)
  b_do_brn : Binds K d_do_brn ["core", "instruction", "sign"] []
  f_step : Addr
  d_step : FuncData
  F_step : Fun K "step" "step" s_step f_step d_step
  g_step : mg "step" = some (.ref f_step)
  b_step : Binds K d_step ["machine", "state"] []
  f_back : Addr
  d_back : FuncData
  F_back : Fun K "back" "back" s_back f_back d_back
  g_back : mg "back" = some (.ref f_back)
  b_back : Binds K d_back ["machine", "state"] []
  f_z_draw : Addr
  d_z_draw : FuncData
  F_z_draw : Fun K "_law_draw" "_law_draw" s_z_draw f_z_draw d_z_draw
  g_z_draw : mg "_law_draw" = some (.ref f_z_draw)
  b_z_draw : Binds K d_z_draw ["script"] []
  f_z_take : Addr
  d_z_take : FuncData
  F_z_take : Fun K "_law_take" "_law_take" s_z_take f_z_take d_z_take
  g_z_take : mg "_law_take" = some (.ref f_z_take)
  b_z_take : Binds K d_z_take ["draw", "many"] []
  f_z_shapes : Addr
  d_z_shapes : FuncData
  F_z_shapes : Fun K "_law_shapes" "_law_shapes" s_z_shapes f_z_shapes d_z_shapes
  g_z_shapes : mg "_law_shapes" = some (.ref f_z_shapes)
  b_z_shapes : Binds K d_z_shapes [] []
  f_z_words : Addr
  d_z_words : FuncData
  F_z_words : Fun K "_law_words" "_law_words" s_z_words f_z_words d_z_words
  g_z_words : mg "_law_words" = some (.ref f_z_words)
  b_z_words : Binds K d_z_words [] []
  f_z_number : Addr
  d_z_number : FuncData
  F_z_number : Fun K "_law_number" "_law_number" s_z_number f_z_number d_z_number
  g_z_number : mg "_law_number" = some (.ref f_z_number)
  b_z_number : Binds K d_z_number ["draw", "bits"] []
  f_z_different : Addr
  d_z_different : FuncData
  F_z_different : Fun K "_law_different" "_law_different" s_z_different f_z_different d_z_different
  g_z_different : mg "_law_different" = some (.ref f_z_different)
  b_z_different : Binds K d_z_different ["draw", "many"] []
  f_z_instruction : Addr
  d_z_instruction : FuncData
  F_z_instruction : Fun K "_law_instruction" "_law_instruction" s_z_instruction f_z_instruction d_z_instruction
  g_z_instruction : mg "_law_instruction" = some (.ref f_z_instruction)
  b_z_instruction : Binds K d_z_instruction ["draw", "width", "near"] []
  f_z_state : Addr
  d_z_state : FuncData
  F_z_state : Fun K "_law_state" "_law_state" s_z_state f_z_state d_z_state
  g_z_state : mg "_law_state" = some (.ref f_z_state)
  b_z_state : Binds K d_z_state ["draw", "code"] []
  f_z_result : Addr
  d_z_result : FuncData
  F_z_result : Fun K "_law_result" "_law_result" s_z_result f_z_result d_z_result
  g_z_result : mg "_law_result" = some (.ref f_z_result)
  b_z_result : Binds K d_z_result ["op", "w", "x", "y"] []
  f_z_act : Addr
  d_z_act : FuncData
  F_z_act : Fun K "_law_act" "_law_act" s_z_act f_z_act d_z_act
  g_z_act : mg "_law_act" = some (.ref f_z_act)
  b_z_act : Binds K d_z_act ["m", "w", "ins", "sign"] []
  f_z_step : Addr
  d_z_step : FuncData
  F_z_step : Fun K "_law_step" "_law_step" s_z_step f_z_step d_z_step
  g_z_step : mg "_law_step" = some (.ref f_z_step)
  b_z_step : Binds K d_z_step ["machine", "state"] []
  f_law : Addr
  d_law : FuncData
  F_law : Fun K "law" "law" s_law f_law d_law
  g_law : mg "law" = some (.ref f_law)
  m_abs : mg "abs" = none
  m_int : mg "int" = none
  m_len : mg "len" = none
  m_list : mg "list" = none
  m_min : mg "min" = none
  m_range : mg "range" = none
  m_repr : mg "repr" = none
  m_tuple : mg "tuple" = none
  a_SKIP : Addr
  m_SKIP : mg "SKIP" = some (.ref a_SKIP)
  t_SKIP : ∀ H, SqT K H a_SKIP [V.str "skip"]
  k_WHOLE : Tok
  m_WHOLE : mg "WHOLE" = some (.int 4294967295 k_WHOLE)
/-- the methods -/
structure TxM (K : PySem.W.Frag) (mg : Str → Option Value) (C : Addr) where
  f_Core___init__ : Addr
  d_Core___init__ : FuncData
  F_Core___init__ : Fun K "__init__" "Core.__init__" s_Core___init__ f_Core___init__ d_Core___init__
  b_Core___init__ : Binds K d_Core___init__ ["self", "machine", "state"] []
  mkc : Mk K C f_Core___init__
  gC : mg "Core" = some (.ref C)
  f_Core_state : Addr
  d_Core_state : FuncData
  F_Core_state : Fun K "state" "Core.state" s_Core_state f_Core_state d_Core_state
  b_Core_state : Binds K d_Core_state ["self"] []
  m_Core_state : Meth K C "state" f_Core_state
  f_Core_here : Addr
  d_Core_here : FuncData
  F_Core_here : Fun K "here" "Core.here" s_Core_here f_Core_here d_Core_here
  b_Core_here : Binds K d_Core_here ["self"] []
  m_Core_here : Meth K C "here" f_Core_here
  f_Core_act : Addr
  d_Core_act : FuncData
  F_Core_act : Fun K "act" "Core.act" s_Core_act f_Core_act d_Core_act
  b_Core_act : Binds K d_Core_act ["self", "sign"] []
  m_Core_act : Meth K C "act" f_Core_act
  f_Core_forth : Addr
  d_Core_forth : FuncData
  F_Core_forth : Fun K "forth" "Core.forth" s_Core_forth f_Core_forth d_Core_forth
  b_Core_forth : Binds K d_Core_forth ["self"] []
  m_Core_forth : Meth K C "forth" f_Core_forth
  f_Core_retrace : Addr
  d_Core_retrace : FuncData
  F_Core_retrace : Fun K "retrace" "Core.retrace" s_Core_retrace f_Core_retrace d_Core_retrace
  b_Core_retrace : Binds K d_Core_retrace ["self"] []
  m_Core_retrace : Meth K C "retrace" f_Core_retrace

section
variable {P : Program} {w : World} {K : PySem.W.Frag} {mg : Str → Option Value} {base : Heap}
/-! ### the draw -/
/-- the cells stay where they are -/
def Cs (p : Addr) (H H' : Hp) : Prop := ∀ c t, H p = some (.lst (.ref c :: t)) → ∃ t', H' p = some (.lst (.ref c :: t'))
theorem Cs.refl (p : Addr) (H : Hp) : Cs p H H := fun _ t e => ⟨t, e⟩
theorem Cs.trans {p : Addr} {H H1 H2 : Hp} (a : Cs p H H1) (b : Cs p H1 H2) : Cs p H H2 := fun c t e => let ⟨t', e'⟩ := a c t e; b c t' e'
theorem Cs.new {p q : Addr} {H : Hp} {o : HO} (h : H q = none) : Cs p H (upd H q o) := fun c t e => ⟨t, by rw [upd_ne (ne_of_none e h)]; exact e⟩
/-- a number from 0 to m - 1, the draw turned -/
def spTake : Sp := fun vs H Q _ => ∃ (p : Addr) (m : Int), vs = [.ref p, .int m] ∧ DrawAt H p ∧ 0 < m ∧ m ≤ 2 ^ 40 ∧ ∀ (r : Int) (H' : Hp), 0 ≤ r → r < m → KeepBut p H H' → Cs p H H' → DrawAt H' p → Q (.int r) H'
theorem ok_z_take (T : Txt K mg) : FnOk P w K mg base CX0 1 T.f_z_take T.d_z_take ["draw", "many"] spTake := by
  refine T.F_z_take.ok sc_z_take (fun vs H Q E h => ?_) (fun cdv A outer s H vs Q E hr h => ?_)
  · obtain ⟨p, m, rfl, _⟩ := h
    rfl
  · obtain ⟨p, m, rfl, ⟨c, cells, pos, rest, seed, D⟩, hm, hm2, q⟩ := h
    have hc0 := D.hp
    refine ⟨_, (pss_cons (ps_cut (ps_if (pt_cmpR op_eq (pe_ix ix_list (pv 0) pe_int (fun _ _ => rfl)) pe_int (nomark _))
        (pss_cons (ps_asg (pe_op op_add (pe_ix ix_list (pv 0) pe_int (fun _ _ => rfl)) pe_int) (pg_sub (pv 0) pe_int set_list))
        (pss_cons (ps_cut (ps_if (pt_cmpR op_lt (pe_ix ix_list (pv 0) pe_int (fun _ _ => rfl)) (pe_callB call_len_seq (by rfl) T.m_len (by decide +kernel) (pa_cons (pe_ix ix_list (pv 0) pe_int (fun _ _ => rfl)) pa_nil)) (nomark _))
          (pss_one (ps_asg (pe_ix ix_list (pe_ix ix_list (pv 0) pe_int (fun _ _ => rfl)) (pe_ix ix_list (pv 0) pe_int (fun _ _ => rfl)) (fun _ _ => rfl)) (pg_sub (pv 0) pe_int set_list)))
          pss_nil))
        (pss_one (ps_if (pt_cmpR op_eq (pe_ix ix_list (pv 0) pe_int (fun _ _ => rfl)) pe_int (nomark _))
          (pss_cons (ps_asg (pe_op op_modN (pe_callTy call_int1 (by rfl) T.m_int (by decide +kernel) (pa_cons (pe_op op_add (pe_op op_mul (pe_ix ix_list (pv 0) pe_int (fun _ _ => rfl)) pe_int) pe_int) pa_nil)) pe_int) (pg_sub (pv 0) pe_int set_list))
          (pss_one (ps_asg (pe_ix ix_list (pv 0) pe_int (fun _ _ => rfl)) (pg_sub (pv 0) pe_int set_list))))
          pss_nil))))
        pss_nil))
      (pss_cons (ps_set (i := 2) sc_z_take.nd rfl (Or.inl rfl) (pe_op op_modN (pe_callTy call_int1 (by rfl) T.m_int (by decide +kernel) (pa_cons (pe_ix ix_list (pv 0) pe_int (fun _ _ => rfl)) pa_nil)) (pv 1)))
      (pss_cons (ps_asg (pe_op op_fdivW (pe_ix ix_list (pv 0) pe_int (fun _ _ => rfl)) (pv 1)) (pg_sub (pv 0) pe_int set_list))
      (pss_one (ps_ret (pv 2)))))), ?_⟩
    refine ⟨fun σ H1 => ∃ pos rest seed, σ = [some (.ref p), some (.int m), none] ∧ DrawIs H1 p c cells pos rest seed ∧ KeepBut p H H1, ?_, ?_⟩
    · -- draw[2] == 0
      refine ⟨_, rfl, _, _, _, _, rfl, rfl, SqL.of D.hp, rfl, rfl, _, rfl, ite2 (fun e => ?_) (fun e => ?_)⟩
      · -- draw[1] = draw[1] + 1
        refine ⟨_, rfl, _, _, _, _, rfl, rfl, SqL.of D.hp, rfl, _, _, rfl, rfl, _, rfl, _, _, _, 1, rfl, rfl, D.hp, rfl, ?_⟩
        have h1 := D.po
        have D1 : DrawIs (upd H p (.lst [.ref c, .int (pos + 1), .int rest, .int seed])) p c cells (pos + 1) rest seed := D.put (by omega) D.re D.s0 D.s1
        have k1 : KeepBut p H (upd H p (.lst [.ref c, .int (pos + 1), .int rest, .int seed])) := .put _ _ _
        refine ⟨fun σ H1 => ∃ rest, σ = [some (.ref p), some (.int m), none] ∧ DrawIs H1 p c cells (pos + 1) rest seed ∧ KeepBut p H H1, ?_, ?_⟩
        · -- draw[1] < len(draw[0])
          refine ⟨_, rfl, _, _, _, _, rfl, rfl, SqL.of D1.hp, rfl, _, rfl, _, _, _, _, rfl, rfl, SqL.of D1.hp, rfl, _, _, rfl, .inl (SqL.of D1.hc), _, _, rfl, rfl, _, rfl, ite2 (fun e => ?_) (fun e => ?_)⟩
          · have e1 : pos + 1 < ((cells.map V.int).length : Int) := of_decide_eq_true e
            rw [List.length_map] at e1
            obtain ⟨n, hn⟩ := int_nat (show 0 ≤ pos + 1 by omega)
            have hn2 : n < cells.length := by omega
            refine ⟨_, rfl, _, _, _, _, rfl, rfl, SqL.of D1.hp, rfl, _, rfl, _, _, _, _, rfl, rfl, SqL.of D1.hp, rfl, _, _, _, .int cells[n], rfl, rfl, SqL.of D1.hc, ?_, _, rfl, _, _, _, 2, rfl, rfl, D1.hp, rfl, ?_⟩
            · rw [hn]
              exact atI_nat (by rw [List.getElem?_map, List.getElem?_eq_getElem hn2]; rfl)
            · exact ⟨_, rfl, D1.put D1.po (D1.nn _ (List.getElem_mem hn2)) D1.s0 D1.s1, k1.trans (.put _ _ _)⟩
          · exact ⟨rest, rfl, D1, k1⟩
        · rintro σ H1 ⟨rest1, rfl, D2, k2⟩
          -- draw[2] == 0
          refine ⟨_, rfl, _, _, _, _, rfl, rfl, SqL.of D2.hp, rfl, rfl, _, rfl, ite2 (fun e => ?_) (fun e => ?_)⟩
          · have s0 := D2.s0
            have s1 := D2.s1
            refine ⟨_, rfl, _, _, _, _, rfl, rfl, SqL.of D2.hp, rfl, _, _, rfl, rfl, .inl ⟨by omega, by omega⟩, _, _, rfl, rfl, .inl ⟨_, rfl, _, _, rfl, rfl, (show (2147483647 : Int) ≠ 0 by decide), _, rfl, _, _, _, 3, rfl, rfl, D2.hp, rfl, ?_⟩⟩
            have f0 : 0 ≤ (seed * 48271 + 11).fmod 2147483647 := fmod_lo (by decide)
            have f1 : (seed * 48271 + 11).fmod 2147483647 < 2147483647 := fmod_hi (by decide)
            have D3 := D2.put (seed' := (seed * 48271 + 11).fmod 2147483647) D2.po D2.re f0 f1
            refine ⟨_, rfl, _, _, _, _, rfl, rfl, SqL.of D3.hp, rfl, _, rfl, _, _, _, 2, rfl, rfl, D3.hp, rfl, ?_⟩
            exact ⟨_, _, _, rfl, D3.put D3.po f0 f0 f1, (k2.trans (.put _ _ _)).trans (.put _ _ _)⟩
          · exact ⟨_, _, _, rfl, D2, k2⟩
      · exact ⟨_, _, _, rfl, D, .refl _ _⟩
    · rintro σ H1 ⟨pos, rest, seed, rfl, D, k⟩
      -- found = int(draw[2]) % many; draw[2] = draw[2] // many
      refine ⟨_, rfl, _, _, _, _, rfl, rfl, SqL.of D.hp, rfl, .inl ⟨_, rfl, _, rfl, _, _, rfl, rfl, (by omega), ?_⟩⟩
      refine ⟨_, rfl, _, _, _, _, rfl, rfl, SqL.of D.hp, rfl, _, rfl, _, _, rfl, rfl, wide_div (b := 41) hm (by omega) (by decide) (by decide), _, rfl, _, _, _, 2, rfl, rfl, D.hp, rfl, ?_⟩
      exact ⟨_, rfl, q _ _ (fmod_lo hm) (fmod_hi hm) (k.trans (.put _ _ _)) (fun c' t e => by rw [hc0] at e; cases e; exact ⟨_, upd_same⟩) ⟨_, _, _, _, _, D.put D.po (div_lo D.re hm) D.s0 D.s1⟩⟩
theorem drawAt_isl {H : Hp} {p : Addr} (D : DrawAt H p) : ∃ xs, H p = some (.lst xs) := by
  obtain ⟨c, cells, pos, rest, seed, d⟩ := D
  exact ⟨_, d.hp⟩
theorem KT.of_but {H H' : Hp} {p : Addr} (D : DrawAt H p) (D' : DrawAt H' p) (k : KeepBut p H H') (cs : Cs p H H') : KT [p] H H' := by
  obtain ⟨xs, e⟩ := (drawAt_isl D)
  obtain ⟨ys, e'⟩ := (drawAt_isl D')
  have ne : ∀ b o, H b = some o → (∀ q, o ≠ .lst q) → b ≠ p := fun b o q n z => by rw [z, e] at q; exact n xs (Option.some.inj q).symm
  refine ⟨fun b o n q => k b o (fun z => n (by rw [z]; exact List.mem_singleton.mpr rfl)) q, fun b xs q => k b _ (ne b _ q fun _ z => by cases z) q, fun b o u q => k b _ (ne b _ q fun _ z => by cases z) q, fun b o q => ?_, fun b c t q => ?_⟩
  rotate_left
  · by_cases z : b = p
    · subst z
      exact cs c t q
    · exact ⟨t, k b _ z q⟩
  by_cases z : b = p
  · exact ⟨_, by rw [z]; exact e'⟩
  · exact ⟨o, k b o z q⟩
/-- the draw is led on: all else stays -/
structure GS (dr : Addr) (H H' : Hp) : Prop where
  k : KT [dr] H H'
  d : DrawAt H' dr
  c : Cs dr H H'
theorem GS.trans {dr : Addr} {H H1 H2 : Hp} (a : GS dr H H1) (b : GS dr H1 H2) : GS dr H H2 := ⟨a.k.trans b.k, b.d, a.c.trans b.c⟩
theorem GS.new {dr p : Addr} {H : Hp} {o : HO} (D : DrawAt H dr) (h : H p = none) : GS dr H (upd H p o) := ⟨KT.new _ h, D.upd h, .new h⟩
theorem GS.refl {dr : Addr} {H : Hp} (D : DrawAt H dr) : GS dr H H := ⟨KT.refl _ _, D, .refl _ _⟩
theorem GS.late {dr p : Addr} {H H1 : Hp} {o : HO} (a : GS dr H H1) (D : DrawAt H dr) (h : H p = none) : GS dr H (upd H1 p o) := by
  obtain ⟨u, e⟩ := D.some
  have n : dr ≠ p := ne_of_none e h
  obtain ⟨c, cells, pos, rest, seed, d⟩ := id D
  have hp1 : H1 p = none ∨ ∃ o', H1 p = some o' := by cases e : H1 p <;> simp
  refine ⟨a.k.late h, ?_, fun c' t e' => ?_⟩
  · obtain ⟨c1, cells1, pos1, rest1, seed1, d1⟩ := a.d
    obtain ⟨t', e1⟩ := a.c _ _ d.hp
    have hc1 : c1 = c := by
      have := d1.hp.symm.trans e1
      simp at this
      exact this.1
    subst hc1
    have nc : c1 ≠ p := fun z => by
      have := d.hc
      rw [z, h] at this
      cases this
    exact ⟨c1, cells1, pos1, rest1, seed1, ⟨by rw [upd_ne n]; exact d1.hp, by rw [upd_ne nc]; exact d1.hc, d1.nn, d1.po, d1.re, d1.s0, d1.s1⟩⟩
  · obtain ⟨t', e1⟩ := a.c c' t e'
    exact ⟨t', by rw [upd_ne n]; exact e1⟩
def spTakeG : Sp := fun vs H Q _ => ∃ (p : Addr) (m : Int), vs = [.ref p, .int m] ∧ DrawAt H p ∧ 0 < m ∧ m ≤ 2 ^ 40 ∧ ∀ (r : Int) (H' : Hp), 0 ≤ r → r < m → GS p H H' → Q (.int r) H'
theorem okG_z_take (T : Txt K mg) : FnOk P w K mg base CX0 1 T.f_z_take T.d_z_take ["draw", "many"] spTakeG :=
  (ok_z_take T).imp fun vs H Q E ⟨p, m, h1, h2, h3, h4, h5⟩ => ⟨p, m, h1, h2, h3, h4, fun r H' r0 r1 k c D => h5 r H' r0 r1 ⟨KT.of_but h2 D k c, D, c⟩⟩
theorem sz1 : (1 : Nat) ≤ sizeLine := by decide
theorem sz2 : (2 : Nat) ≤ sizeLine := by decide
end

section
variable {P : Program} {w : World} {K : PySem.W.Frag} {mg : Str → Option Value} {base : Heap}
def spDraw (K : PySem.W.Frag) : Sp := fun vs H Q _ => ∃ (a : Addr) (ns : List Int), vs = [.ref a] ∧ SqL K H a (ns.map V.int) ∧ ns.length ≤ 63 ∧ ∀ (H' : Hp) (p : Addr), Same H H' → H p = none → DrawAt H' p → Q (.ref p) H'
def absI (i : Int) : Int := if i < 0 then -i else i
theorem absI_nn (i : Int) : 0 ≤ absI i := by
  unfold absI
  split <;> omega
theorem ok_z_draw (T : Txt K mg) : FnOk P w K mg base CX0 1 T.f_z_draw T.d_z_draw ["script"] (spDraw K) := by
  refine T.F_z_draw.ok sc_z_draw (fun vs H Q E h => ?_) (fun cdv A outer s H vs Q E hr h => ?_)
  · obtain ⟨a, ns, rfl, _⟩ := h
    rfl
  · obtain ⟨a, ns, rfl, hS, hlen, q⟩ := h
    have itm : ∀ (i : Nat) (x : V), (ns.map V.int)[i]? = some x → ∃ z, ns[i]? = some z ∧ x = V.int z := fun i x e => by
      rw [List.getElem?_map] at e
      cases e2 : ns[i]? with
      | none => rw [e2] at e; cases e
      | some z => rw [e2] at e; exact ⟨z, rfl, (Option.some.inj e).symm⟩
    refine ⟨_, (pss_cons (ps_set (i := 1) sc_z_draw.nd rfl (Or.inl rfl) pe_int)
      (pss_cons (ps_for PassesOwn.never rfl (pi_list (pv 0)) (pg_name (i := 2) sc_z_draw.nd rfl (Or.inl rfl))
        (pss_one (ps_set (i := 1) sc_z_draw.nd rfl (Or.inl rfl) (pe_op op_modN (pe_callTy call_int1 (by rfl) T.m_int (by decide +kernel) (pa_cons (pe_op op_add (pe_op op_add (pe_op op_mul (pv 1) pe_int) (pe_op op_modN (pe_callB call_abs (by rfl) T.m_abs (by decide +kernel) (pa_cons (pe_callTy call_int1 (by rfl) T.m_int (by decide +kernel) (pa_cons (pv 2) pa_nil)) pa_nil)) pe_int)) pe_int) pa_nil)) pe_int))))
      (pss_one (ps_ret (pe_lst (pa_cons (pe_lc (own := [("cell", 2)]) (g := gName 2) (by rfl) sc_z_draw.nd (pi_list (pv 0)) (blkOk_by (own := [("cell", 2)]) (N := N_z_draw) (sc := defScope s_z_draw) (by decide +kernel)) (fun _ _ _ _ _ => (pg_name (i := 2) sc_z_draw.nd rfl (Or.inl rfl))) (fun _ _ _ _ _ => pts_nil) (fun _ _ _ _ _ => (pe_callB call_abs (by rfl) T.m_abs (by decide +kernel) (pa_cons (pe_callTy call_int1 (by rfl) T.m_int (by decide +kernel) (pa_cons (pv 2) pa_nil)) pa_nil)))) (pa_cons (pe_un un_neg pe_int) (pa_cons pe_int (pa_cons (pv 1) pa_nil))))))))), ?_⟩
    refine ⟨_, rfl, a, rfl, ⟨_, hS⟩, for_list (xs := ns.map V.int) (fun i σ H1 => ∃ (seed : Int) (c : Option V), σ = [some (.ref a), some (.int seed), c] ∧ H1 = H ∧ 0 ≤ seed ∧ seed < 2147483647) ⟨7, none, rfl, rfl, by decide, by decide⟩ ?_ ?_ ?_⟩
    · rintro i σ H1 _ ⟨_, _, _, rfl, _⟩
      exact hS
    · rintro i x σ H1 hx ⟨seed, c, rfl, rfl, s0, s1⟩
      obtain ⟨z, hz, rfl⟩ := itm i x hx
      refine ⟨_, rfl, _, _, rfl, rfl, .inl ⟨by omega, by omega⟩, _, rfl, .inl ⟨_, rfl, _, rfl, _, _, rfl, rfl, (show (65521 : Int) ≠ 0 by decide), _, _, rfl, rfl, _, _, rfl, rfl, .inl ⟨_, rfl, _, _, rfl, rfl, (show (2147483647 : Int) ≠ 0 by decide), ?_⟩⟩⟩
      exact ⟨_, _, rfl, rfl, fmod_lo (by decide), fmod_hi (by decide)⟩
    · rintro σ H1 ⟨seed, c, rfl, rfl, s0, s1⟩
      -- the cells
      refine ⟨_, rfl, a, rfl, ⟨_, hS⟩, fun D hD => lc_list (xs := ns.map V.int) (fun i H2 => ∃ acc : List Int, Same H1 H2 ∧ H2 D = some (.lst (acc.map V.int)) ∧ acc.length = i ∧ ∀ x ∈ acc, 0 ≤ x) ⟨[], same_upd hD, upd_same, rfl, fun _ z => nomatch z⟩ ?_ ?_ ?_⟩
      · rintro i H2 _ ⟨acc, sm, _⟩
        exact sm.seq hS
      · rintro i x H2 hx ⟨acc, sm, hA, hl, hn⟩
        obtain ⟨z, hz, rfl⟩ := itm i x hx
        have hi : i < ns.length := (List.getElem?_eq_some_iff.mp hz).1
        refine ⟨rfl, ⟨_, rfl, .inl ⟨_, rfl, _, rfl, _, hA, small1000 (by rw [List.length_map]; omega), acc ++ [absI z], fun b o e => ?_, ?_, ?_, fun x hx => ?_⟩⟩⟩
        · rw [upd_ne (ne_of_none e hD)]
          exact sm _ _ e
        · rw [upd_same, List.map_append]
          rfl
        · rw [List.length_append, hl]; rfl
        · rcases List.mem_append.mp hx with h | h
          · exact hn x h
          · rw [List.mem_singleton.mp h]
            exact absI_nn z
      · rintro H2 ⟨acc, sm, hA, hl, hn⟩
        refine ⟨_, rfl, _, rfl, (by show 4 ≤ sizeLine; decide), fun p hp => ?_⟩
        refine q _ p (sm.trans (same_upd hp)) (sm.free hp) ⟨D, acc, -1, 0, seed, ⟨upd_same, ?_, hn, by decide, by decide, s0, s1⟩⟩
        rw [upd_ne (ne_of_none hA hp)]
        exact hA
/-! ### the law -/
theorem atI_in {α : Type} {xs : List α} {r : Int} (h0 : 0 ≤ r) (h1 : r < xs.length) : ∃ v, atI xs r = some v ∧ v ∈ xs := by
  obtain ⟨n, rfl⟩ := int_nat h0
  have hn : n < xs.length := by omega
  exact ⟨xs[n], atI_nat (List.getElem?_eq_getElem hn), List.getElem_mem hn⟩
end

section
variable {P : Program} {w : World} {K : PySem.W.Frag} {mg : Str → Option Value} {base : Heap}
/-- the words of instructions and their shapes, in the order in which they are put down -/
def shL : List (Str × Str) := [("add", "rr"), ("sub", "rr"), ("xor", "rr"), ("swap", "rr"), ("exch", "rr"), ("addr", "rr"), ("subr", "rr"), ("test", "rr"),
  ("and", "rrr"), ("or", "rrr"), ("mul", "rrr"), ("less", "rrr"), ("equal", "rrr"), ("shl", "rrr"), ("shr", "rrr"), ("rem", "rrr"), ("differ", "rrr"),
  ("addi", "rn"), ("xori", "rn"), ("addl", "rm"), ("neg", "r"), ("over", "rrm"), ("swapbr", "r"), ("bra", "o"), ("brz", "ro"),
  ("brn", "ro"), ("rbra", "o"), ("skip", ""), ("halt", ""), ("fail", "k")]
def shD : Str × Str := ("", "")
def shK (n : Nat) : List (Key × V) := (shL.take n).map fun p => (.inr p.1, .str p.2)
def shX (a n : Nat) : List V := ((shL.drop a).take n).map fun p => V.str p.1
def shR (a n : Nat) : List (Key × V) := ((shL.drop a).take n).map fun p => (.inr p.1, .str p.2)
theorem shK_put : ∀ n, n < 30 → putK (shK n) (.inr (shL.getD n shD).1) (.str (shL.getD n shD).2) = shK (n + 1) := by decide +kernel
theorem shK_len (n : Nat) : (shK n).length < sizeLine := by
  unfold shK
  rw [List.length_map, List.length_take]
  exact Nat.lt_of_le_of_lt (Nat.min_le_right _ _) (by decide)
theorem sh_rr : ∀ n, n < 8 → (shL.getD (0 + n) shD).2 = "rr" := by decide +kernel
theorem sh_rrr : ∀ n, n < 9 → (shL.getD (8 + n) shD).2 = "rrr" := by decide +kernel
theorem shR_new1 : mergeK [] (shR 17 8) = shR 17 8 := by decide +kernel
theorem shR_new2 : mergeK [] (shR 25 5) = shR 25 5 := by decide +kernel
theorem shR_val1 : ∀ n, n < 8 → valV (shR 17 8) (.inr (shL.getD (17 + n) shD).1) = some (.str (shL.getD (17 + n) shD).2) := by decide +kernel
theorem shR_val2 : ∀ n, n < 5 → valV (shR 25 5) (.inr (shL.getD (25 + n) shD).1) = some (.str (shL.getD (25 + n) shD).2) := by decide +kernel
theorem shX_get {a n i : Nat} {x : V} (h : (shX a n)[i]? = some x) : i < n ∧ x = .str (shL.getD (a + i) shD).1 := by
  unfold shX at h
  rw [List.getElem?_map] at h
  cases e : ((shL.drop a).take n)[i]? with
  | none => rw [e] at h; cases h
  | some p =>
    rw [e] at h
    have hi : i < n := by
      have := (List.getElem?_eq_some_iff.mp e).1
      rw [List.length_take] at this
      omega
    rw [List.getElem?_take_of_lt hi, List.getElem?_drop] at e
    refine ⟨hi, ?_⟩
    rw [List.getD_eq_getElem?_getD, e]
    exact (Option.some.inj h).symm
theorem shR_get {a n i : Nat} {k : Key} {v : V} (h : (shR a n)[i]? = some (k, v)) : i < n ∧ k = .inr (shL.getD (a + i) shD).1 := by
  have h2 : (shX a n)[i]? = some (kV k) := by
    unfold shR at h
    unfold shX
    rw [List.getElem?_map] at h ⊢
    cases e : ((shL.drop a).take n)[i]? with
    | none => rw [e] at h; cases h
    | some p => rw [e] at h; cases h; rfl
  obtain ⟨h3, h4⟩ := shX_get h2
  refine ⟨h3, ?_⟩
  cases k with
  | inl z => cases h4
  | inr z => cases h4; rfl
def spShapes : Sp := fun vs H Q _ => vs = [] ∧ ∀ (p : Addr) (H' : Hp), KT [] H H' → H' p = some (.dK (shK 30)) → Q (.ref p) H'
set_option maxHeartbeats 4000000 in
theorem ok_z_shapes (T : Txt K mg) : FnOk P w K mg base CX0 1 T.f_z_shapes T.d_z_shapes [] spShapes := by
  refine T.F_z_shapes.ok sc_z_shapes (fun vs H Q E h => ?_) (fun cdv A outer s H vs Q E hr h => ?_)
  · obtain ⟨rfl, _⟩ := h
    rfl
  · obtain ⟨rfl, q⟩ := h
    refine ⟨_, (pss_cons (ps_set (i := 0) sc_z_shapes.nd rfl (Or.inl rfl) pe_dnewK)
      (pss_cons (ps_for PassesOwn.never rfl (pi_list (pe_lst (pa_cons pe_str (pa_cons pe_str (pa_cons pe_str (pa_cons pe_str (pa_cons pe_str (pa_cons pe_str (pa_cons pe_str (pa_cons pe_str pa_nil)))))))))) (pg_name (i := 1) sc_z_shapes.nd rfl (Or.inl rfl))
        (pss_one (ps_dput (hu_of hr) (pv 0) (pv 1) pe_str rfl)))
      (pss_cons (ps_for PassesOwn.never rfl (pi_list (pe_lst (pa_cons pe_str (pa_cons pe_str (pa_cons pe_str (pa_cons pe_str (pa_cons pe_str (pa_cons pe_str (pa_cons pe_str (pa_cons pe_str (pa_cons pe_str pa_nil))))))))))) (pg_name (i := 1) sc_z_shapes.nd rfl (Or.inl rfl))
        (pss_one (ps_dput (hu_of hr) (pv 0) (pv 1) pe_str rfl)))
      (pss_cons (ps_set (i := 2) sc_z_shapes.nd rfl (Or.inl rfl) (pe_disp (pps_cons pe_str pe_str (pps_cons pe_str pe_str (pps_cons pe_str pe_str (pps_cons pe_str pe_str (pps_cons pe_str pe_str (pps_cons pe_str pe_str (pps_cons pe_str pe_str (pps_cons pe_str pe_str pps_nil)))))))) (by rfl) (by rfl) (fun z => by cases z) (by decide)))
      (pss_cons (ps_lock (ps_for PassesOwn.never rfl (pi_keys (pv 2)) (pg_name (i := 1) sc_z_shapes.nd rfl (Or.inl rfl))
        (pss_one (ps_dput (hu_of hr) (pv 0) (pv 1) (pe_dget (hu_of hr) (pv 2) (pv 1) (fun _ _ => rfl)) rfl))))
      (pss_cons (ps_set (i := 2) sc_z_shapes.nd rfl (Or.inl rfl) (pe_disp (pps_cons pe_str pe_str (pps_cons pe_str pe_str (pps_cons pe_str pe_str (pps_cons pe_str pe_str (pps_cons pe_str pe_str pps_nil))))) (by rfl) (by rfl) (fun z => by cases z) (by decide)))
      (pss_cons (ps_lock (ps_for PassesOwn.never rfl (pi_keys (pv 2)) (pg_name (i := 1) sc_z_shapes.nd rfl (Or.inl rfl))
        (pss_one (ps_dput (hu_of hr) (pv 0) (pv 1) (pe_dget (hu_of hr) (pv 2) (pv 1) (fun _ _ => rfl)) rfl))))
      (pss_one (ps_ret (pv 0)))))))))), ?_⟩
    refine fun p np => ?_
    have k0 := KT.new [] np (o := .dK [])
    refine ⟨(by show 8 ≤ sizeLine; decide), fun l nl => ⟨l, rfl, ⟨_, SqL.of upd_same⟩, ?_⟩⟩
    have k1 := k0.trans (KT.new [] nl (o := .lst (shX 0 8)))
    refine for_list (xs := shX 0 8) (fun i σ H1 => ∃ c, σ = [some (.ref p), c, none] ∧ KT [] H H1 ∧ H1 l = some (.lst (shX 0 8)) ∧ H1 p = some (.dK (shK i))) ⟨none, rfl, k1, upd_same, (KT.new [] nl).kp _ _ (by simp) upd_same⟩ ?_ ?_ ?_
    · rintro i σ H1 _ ⟨c, rfl, _, hl, _⟩
      exact SqL.of hl
    · rintro i x σ H1 hx ⟨c, rfl, k, hl, hp⟩
      obtain ⟨hi, rfl⟩ := shX_get hx
      have e2 := sh_rr i hi
      have e3 := shK_put i (by omega)
      rw [Nat.zero_add] at e2
      rw [e2] at e3
      rw [Nat.zero_add]
      refine ⟨_, rfl, _, rfl, p, _, rfl, DPut.k (k := Sum.inr _) hp (shK_len i), _, rfl, k.late np, ?_, ?_⟩
      · rw [upd_ne (ne_of hl hp (by intro z; cases z))]
        exact hl
      · rw [upd_same, e3]
    rintro σ H1 ⟨c, rfl, k2, hl, hp⟩
    refine ⟨(by show 9 ≤ sizeLine; decide), fun l2 nl2 => ⟨l2, rfl, ⟨_, SqL.of upd_same⟩, ?_⟩⟩
    have k3 := k2.trans (KT.new [] nl2 (o := .lst (shX 8 9)))
    refine for_list (xs := shX 8 9) (fun i σ H1 => ∃ c, σ = [some (.ref p), c, none] ∧ KT [] H H1 ∧ H1 l2 = some (.lst (shX 8 9)) ∧ H1 p = some (.dK (shK (8 + i)))) ⟨c, rfl, k3, upd_same, (KT.new [] nl2).kp _ _ (by simp) hp⟩ ?_ ?_ ?_
    · rintro i σ H1 _ ⟨c, rfl, _, hl, _⟩
      exact SqL.of hl
    · rintro i x σ H1 hx ⟨c, rfl, k, hl, hp⟩
      obtain ⟨hi, rfl⟩ := shX_get hx
      have e2 := sh_rrr i hi
      have e3 := shK_put (8 + i) (by omega)
      rw [e2] at e3
      refine ⟨_, rfl, _, rfl, p, _, rfl, DPut.k (k := Sum.inr _) hp (shK_len _), _, rfl, k.late np, ?_, ?_⟩
      · rw [upd_ne (ne_of hl hp (by intro z; cases z))]
        exact hl
      · rw [upd_same, e3]
        rfl
    clear hp hl k1 k0 k2 k3
    rintro σ H1 ⟨c, rfl, k2, hl, hp⟩
    have hp : H1 p = some (.dK (shK 17)) := hp
    -- rest, for the first time
    refine fun r nr => ⟨upd_same, shR 17 8, rfl, (by decide), ?_⟩
    rw [upd_upd, shR_new1]
    have kr := k2.trans (KT.new [] nr (o := .dK (shR 17 8)))
    have hp1 := (KT.new [] nr (o := .dK (shR 17 8))).kp _ _ (by simp) hp
    have nrH : H r = none := by
      cases e : H r with
      | none => rfl
      | some o => rw [k2.kp _ _ (by simp) e] at nr; cases nr
    have npr : p ≠ r := ne_of_none hp nr
    refine ⟨r, .dK (shR 17 8), upd_same, trivial, fun od => ⟨_, rfl, r, od, rfl, .inl ⟨shR 17 8, upd_same, ?_⟩⟩⟩
    refine for_it (walk_keys (o := od) (kvs := shR 17 8)) (fun i σ H1 => ∃ c, σ = [some (.ref p), c, some (.ref r)] ∧ KT [] H H1 ∧ H1 r = some (.frz od (.dK (shR 17 8))) ∧ H1 p = some (.dK (shK (17 + i)))) ⟨c, rfl, kr.late nrH, upd_same, by rw [upd_ne npr]; exact hp1⟩ ?_ ?_ ?_
    · rintro i σ H1 _ ⟨c, rfl, _, h, _⟩
      exact h
    · rintro i x σ H1 H2 hi ⟨c, rfl, k, hr, hp⟩ ⟨rfl, kk, v, hk, rfl⟩
      obtain ⟨hi, rfl⟩ := shR_get hk
      have e3 := shK_put (17 + i) (by omega)
      refine ⟨_, rfl, _, rfl, _, _, rfl, dget_f hr (shR_val1 i hi), _, rfl, _, rfl, p, _, rfl, DPut.k (k := Sum.inr _) hp (shK_len _), _, rfl, k.late np, ?_, ?_⟩
      · rw [upd_ne (Ne.symm npr)]
        exact hr
      · rw [upd_same, e3]
        rfl
    clear hp hp1
    rintro σ H2 ⟨c, rfl, k3, hr, hp⟩
    refine ⟨hr, ?_⟩
    have hp : H2 p = some (.dK (shK 25)) := hp
    have k4 := k3.late nrH (o := .dK (shR 17 8))
    have hp2 : (upd H2 r (.dK (shR 17 8))) p = some (.dK (shK 25)) := by rw [upd_ne npr]; exact hp
    generalize upd H2 r (.dK (shR 17 8)) = H3 at k4 hp2 ⊢
    -- and again
    refine fun r2 nr2 => ⟨upd_same, shR 25 5, rfl, (by decide), ?_⟩
    rw [upd_upd, shR_new2]
    have kr2 := k4.trans (KT.new [] nr2 (o := .dK (shR 25 5)))
    have hp3 := (KT.new [] nr2 (o := .dK (shR 25 5))).kp _ _ (by simp) hp2
    have nrH2 : H r2 = none := by
      cases e : H r2 with
      | none => rfl
      | some o => rw [k4.kp _ _ (by simp) e] at nr2; cases nr2
    have npr2 : p ≠ r2 := ne_of_none hp2 nr2
    refine ⟨r2, .dK (shR 25 5), upd_same, trivial, fun od2 => ⟨_, rfl, r2, od2, rfl, .inl ⟨shR 25 5, upd_same, ?_⟩⟩⟩
    refine for_it (walk_keys (o := od2) (kvs := shR 25 5)) (fun i σ H1 => ∃ c, σ = [some (.ref p), c, some (.ref r2)] ∧ KT [] H H1 ∧ H1 r2 = some (.frz od2 (.dK (shR 25 5))) ∧ H1 p = some (.dK (shK (25 + i)))) ⟨c, rfl, kr2.late nrH2, upd_same, by rw [upd_ne npr2]; exact hp3⟩ ?_ ?_ ?_
    · rintro i σ H1 _ ⟨c, rfl, _, h, _⟩
      exact h
    · rintro i x σ H1 H2 hi ⟨c, rfl, k, hr, hp⟩ ⟨rfl, kk, v, hk, rfl⟩
      obtain ⟨hi, rfl⟩ := shR_get hk
      have e3 := shK_put (25 + i) (by omega)
      refine ⟨_, rfl, _, rfl, _, _, rfl, dget_f hr (shR_val2 i hi), _, rfl, _, rfl, p, _, rfl, DPut.k (k := Sum.inr _) hp (shK_len _), _, rfl, k.late np, ?_, ?_⟩
      · rw [upd_ne (Ne.symm npr2)]
        exact hr
      · rw [upd_same, e3]
        rfl
    clear hp
    rintro σ H4 ⟨c, rfl, k5, hr2, hp⟩
    refine ⟨hr2, ?_⟩
    have hp : H4 p = some (.dK (shK 30)) := hp
    refine ⟨_, rfl, q p _ (k5.late nrH2) ?_⟩
    rw [upd_ne npr2]
    exact hp
/-- the words, as they are drawn -/
def wdL : List Str := ["add", "sub", "xor", "addi", "xori", "and", "or", "mul", "less", "equal", "shl", "shr", "rem", "differ", "test", "swap", "exch", "addr", "subr", "addl", "neg", "over", "swapbr", "bra", "brz", "brn", "rbra", "skip", "halt", "fail"]
def spWords : Sp := fun vs H Q _ => vs = [] ∧ ∀ l, H l = none → Q (.ref l) (upd H l (.lst (wdL.map V.str)))
theorem ok_z_words (T : Txt K mg) : FnOk P w K mg base CX0 1 T.f_z_words T.d_z_words [] spWords := by
  refine T.F_z_words.ok sc_z_words (fun vs H Q E h => ?_) (fun cdv A outer s H vs Q E hr h => ?_)
  · obtain ⟨rfl, _⟩ := h
    rfl
  · obtain ⟨rfl, q⟩ := h
    refine ⟨_, (pss_one (ps_ret (pe_lst (pa_cons pe_str (pa_cons pe_str (pa_cons pe_str (pa_cons pe_str (pa_cons pe_str (pa_cons pe_str (pa_cons pe_str (pa_cons pe_str (pa_cons pe_str (pa_cons pe_str (pa_cons pe_str (pa_cons pe_str (pa_cons pe_str (pa_cons pe_str (pa_cons pe_str (pa_cons pe_str (pa_cons pe_str (pa_cons pe_str (pa_cons pe_str (pa_cons pe_str (pa_cons pe_str (pa_cons pe_str (pa_cons pe_str (pa_cons pe_str (pa_cons pe_str (pa_cons pe_str (pa_cons pe_str (pa_cons pe_str (pa_cons pe_str (pa_cons pe_str pa_nil))))))))))))))))))))))))))))))))), ?_⟩
    exact ⟨(by show 30 ≤ sizeLine; decide), fun l nl => q l nl⟩
end

end My

set_option Elab.async false
set_option linter.all false
set_option maxRecDepth 100000
namespace My
open PySem PySem.Spec PyProof.Rows L2
section
variable {P : Program} {w : World} {K : PySem.W.Frag} {mg : Str → Option Value} {base : Heap}
theorem ne_new {H : Hp} {dr D : Addr} (d : DrawAt H dr) (h : H D = none) : D ≠ dr := fun z => by
  obtain ⟨o, e⟩ := d.some
  rw [z, e] at h
  cases h
theorem KT.same {H H' : Hp} (k : KT [] H H') : Same H H' := fun b o e => k.kp b o (by simp) e
theorem GS.of {dr : Addr} {H H' : Hp} (d : DrawAt H dr) (k : KT [] H H') : GS dr H H' := ⟨k.mono (fun _ h => (nomatch h)), d.keep k.same, fun c t e => ⟨t, k.same _ _ e⟩⟩
def spNumber : Sp := fun vs H Q _ => ∃ (p : Addr) (n : Nat), vs = [.ref p, .int n] ∧ DrawAt H p ∧ n ≤ 32 ∧ ∀ (r : Int) (H' : Hp), 0 ≤ r → r < 2 ^ n → GS p H H' → Q (.int r) H'
theorem ok_z_number (T : Txt K mg) : FnOk P w K mg base CX0 2 T.f_z_number T.d_z_number ["draw", "bits"] spNumber := by
  have G_z_take := okG_z_take (P := P) (w := w) (base := base) T
  refine T.F_z_number.ok sc_z_number (fun vs H Q E h => ?_) (fun cdv A outer s H vs Q E hr h => ?_)
  · obtain ⟨p, n, rfl, _⟩ := h
    rfl
  · obtain ⟨p, n, rfl, D, hn, q⟩ := h
    have hp : (0 : Int) < 2 ^ n := Int.pow_pos (by decide)
    refine ⟨_, (pss_cons (ps_set (i := 2) sc_z_number.nd rfl (Or.inl rfl) (pe_op op_sub (pe_op op_shl pe_int (pv 1)) pe_int))
      (pss_cons (ps_set (i := 3) sc_z_number.nd rfl (Or.inl rfl) (pe_call G_z_take (hr.mono (by omega)) (by rfl) T.g_z_take T.F_z_take.kp T.b_z_take .nil pass0 (pa_cons (pv 0) (pa_cons pe_int pa_nil))))
      (pss_cons (ps_if (pt_cmpR op_lt (pv 3) pe_int (nomark _))
        (pss_one (ps_ret (pe_callB (call_min2 rfl) (by rfl) T.m_min (by decide +kernel) (pa_cons (pv 2) (pa_cons (pe_call G_z_take (hr.mono (by omega)) (by rfl) T.g_z_take T.F_z_take.kp T.b_z_take .nil pass0 (pa_cons (pv 0) (pa_cons pe_int pa_nil))) pa_nil)))))
        pss_nil)
      (pss_cons (ps_if (pt_cmpR op_eq (pv 3) pe_int (nomark _))
        (pss_one (ps_ret (pe_op op_sub (pv 2) (pe_callB (call_min2 rfl) (by rfl) T.m_min (by decide +kernel) (pa_cons (pv 2) (pa_cons (pe_call G_z_take (hr.mono (by omega)) (by rfl) T.g_z_take T.F_z_take.kp T.b_z_take .nil pass0 (pa_cons (pv 0) (pa_cons pe_int pa_nil))) pa_nil))))))
        pss_nil)
      (pss_one (ps_ret (pe_op op_andM (pe_callTy call_int1 (by rfl) T.m_int (by decide +kernel) (pa_cons (pe_op op_add (pe_op op_mul (pe_call G_z_take (hr.mono (by omega)) (by rfl) T.g_z_take T.F_z_take.kp T.b_z_take .nil pass0 (pa_cons (pv 0) (pa_cons pe_int pa_nil))) pe_int) (pe_call G_z_take (hr.mono (by omega)) (by rfl) T.g_z_take T.F_z_take.kp T.b_z_take .nil pass0 (pa_cons (pv 0) (pa_cons pe_int pa_nil)))) pa_nil)) (pv 2)))))))), ?_⟩
    refine ⟨_, rfl, _, _, rfl, rfl, ⟨by omega, by omega, by decide⟩, _, _, rfl, rfl, ?_⟩
    have e : (1 : Int) * 2 ^ (n : Int).toNat - 1 = 2 ^ n - 1 := by rw [Int.one_mul]; rfl
    dsimp only
    rw [e]
    refine ⟨_, rfl, p, 6, rfl, D, by decide, by decide, fun k H1 k0 k1 g1 => ?_⟩
    refine ⟨_, rfl, _, _, rfl, rfl, _, rfl, ite2 (fun e => ?_) (fun e => ?_)⟩
    · refine ⟨_, rfl, _, rfl, p, 5, rfl, g1.d, by decide, by decide, fun r H2 r0 r1 g2 => ⟨_, _, rfl, q _ _ ?_ ?_ (g1.trans g2)⟩⟩
      · split <;> omega
      · split <;> omega
    · refine ⟨_, rfl, rfl, _, rfl, ite2 (fun e => ?_) (fun e => ?_)⟩
      · refine ⟨_, rfl, _, rfl, _, rfl, p, 3, rfl, g1.d, by decide, by decide, fun r H2 r0 r1 g2 => ⟨_, _, rfl, _, _, rfl, rfl, q _ _ ?_ ?_ (g1.trans g2)⟩⟩
        · split <;> omega
        · split <;> omega
      · refine ⟨_, rfl, p, 65536, rfl, g1.d, by decide, by decide, fun a H2 a0 a1 g2 => ⟨_, _, rfl, rfl, .inl ⟨by omega, by omega⟩, _, rfl, p, 65536, rfl, g2.d, by decide, by decide, fun b H3 b0 b1 g3 => ⟨_, _, rfl, rfl, .inl ⟨_, rfl, _, rfl, _, n, rfl, rfl, ?_⟩⟩⟩⟩
        exact q _ _ (Int.emod_nonneg _ (Int.ne_of_gt hp)) (Int.emod_lt_of_pos _ hp) ((g1.trans g2).trans g3)
def RgIn (rs : List Int) : Prop := ∀ r ∈ rs, 0 ≤ r ∧ r < 16
theorem flat_ints (xs : List Int) : (xs.map V.int).all flatV = true := List.all_eq_true.mpr fun x hx => by
  obtain ⟨n, _, rfl⟩ := List.mem_map.mp hx
  rfl
theorem inV_ints (x : Int) : ∀ xs : List Int, inV (V.int x) (xs.map V.int) = decide (x ∈ xs)
  | [] => by simp [inV]
  | y :: r => by
    have ih := inV_ints x r
    have e : inV (V.int x) ((y :: r).map V.int) = (eqV (V.int y) (V.int x) || inV (V.int x) (r.map V.int)) := rfl
    rw [e, ih]
    have e2 : eqV (V.int y) (V.int x) = decide (x = y) := by
      show (y == x) = _
      rw [Bool.eq_iff_iff, beq_iff_eq, decide_eq_true_iff]
      exact eq_comm
    rw [e2]
    by_cases h : x = y <;> simp [h]
theorem free_turn {fs : List Int} (h : fs.length < 3) (hr : RgIn fs) (r : Int) (r0 : 0 ≤ r) (r1 : r < 16) : ∃ m : Nat, (r + m) % 16 ∉ fs := by
  cases fs with
  | nil => exact ⟨0, by simp⟩
  | cons a t =>
    cases t with
    | nil =>
      by_cases e : (r + (0 : Nat)) % 16 = a
      · refine ⟨1, fun z => ?_⟩
        rw [List.mem_singleton] at z
        omega
      · exact ⟨0, fun z => e (List.mem_singleton.mp z)⟩
    | cons b t =>
      cases t with
      | nil =>
        by_cases e0 : (r + (0 : Nat)) % 16 ∈ [a, b]
        · by_cases e1 : (r + (1 : Nat)) % 16 ∈ [a, b]
          · refine ⟨2, fun z => ?_⟩
            simp only [List.mem_cons, List.not_mem_nil, or_false] at e0 e1 z
            omega
          · exact ⟨1, e1⟩
        · exact ⟨0, e0⟩
      | cons c t => exact absurd h (by simp only [List.length_cons]; omega)
def spDifferent : Sp := fun vs H Q _ => ∃ (p : Addr), vs = [.ref p, .int 3] ∧ DrawAt H p ∧ ∀ (a b c : Int) (l : Addr) (H' : Hp), RgIn [a, b, c] → a ≠ b → a ≠ c → b ≠ c → H l = none → GS p H H' → H' l = some (.lst [.int a, .int b, .int c]) → Q (.ref l) H'
theorem ok_z_different (T : Txt K mg) : FnOk P w K mg base CX0 2 T.f_z_different T.d_z_different ["draw", "many"] spDifferent := by
  have G_z_take := okG_z_take (P := P) (w := w) (base := base) T
  refine T.F_z_different.ok sc_z_different (fun vs H Q E h => ?_) (fun cdv A outer s H vs Q E hr h => ?_)
  · obtain ⟨p, rfl, _⟩ := h
    rfl
  · obtain ⟨p, rfl, D, q⟩ := h
    refine ⟨_, (pss_cons (ps_set (i := 2) sc_z_different.nd rfl (Or.inl rfl) (pe_lst pa_nil))
      (pss_cons (ps_while PassesOwn.never (pt_cmpR op_lt (pe_callB call_len_seq (by rfl) T.m_len (by decide +kernel) (pa_cons (pv 2) pa_nil)) (pv 1) (nomark _))
        (pss_cons (ps_set (i := 3) sc_z_different.nd rfl (Or.inl rfl) (pe_ix ix_list (pe_lst (pa_cons (pe_call G_z_take (hr.mono (by omega)) (by rfl) T.g_z_take T.F_z_take.kp T.b_z_take .nil pass0 (pa_cons (pv 0) (pa_cons pe_int pa_nil))) (pa_cons (pe_call G_z_take (hr.mono (by omega)) (by rfl) T.g_z_take T.F_z_take.kp T.b_z_take .nil pass0 (pa_cons (pv 0) (pa_cons pe_int pa_nil))) pa_nil))) (pe_call G_z_take (hr.mono (by omega)) (by rfl) T.g_z_take T.F_z_take.kp T.b_z_take .nil pass0 (pa_cons (pv 0) (pa_cons pe_int pa_nil))) (fun _ _ => rfl)))
        (pss_cons (ps_while PassesOwn.never (pt_cmpR op_in_seq (pv 3) (pv 2) (by rfl))
          (pss_one (ps_set (i := 3) sc_z_different.nd rfl (Or.inl rfl) (pe_op op_modN (pe_callTy call_int1 (by rfl) T.m_int (by decide +kernel) (pa_cons (pe_op op_add (pv 3) pe_int) pa_nil)) pe_int))))
        (pss_one (ps_expr (pe_bm PySem.F.plainAttrs_list PySem.F.slot_list_append PySem.F.type_list_append mt_append (pv 2) (pa_cons (pv 3) pa_nil)))))))
      (pss_one (ps_ret (pv 2))))), ?_⟩
    refine ⟨Nat.zero_le _, fun l nl => ?_⟩
    have lp : l ∉ [p] := by
      rw [List.mem_singleton]
      exact ne_new D nl
    refine ⟨fun m σ H1 => ∃ (fs : List Int) (c : Option V), m = 3 - fs.length ∧ σ = [some (.ref p), some (.int 3), some (.ref l), c] ∧ GS p H H1 ∧ H1 l = some (.lst (fs.map V.int)) ∧ fs.length ≤ 3 ∧ RgIn fs ∧ fs.Nodup, ⟨3, [], none, rfl, rfl, GS.new D nl, upd_same, by decide, fun r h => (nomatch h), .nil⟩, ?_⟩
    rintro m σ H1 ⟨fs, c, rfl, rfl, g, hl, h3, hin, hnd⟩
    refine ⟨_, rfl, _, _, rfl, .inl (SqL.of hl), _, rfl, _, _, rfl, rfl, _, rfl, ite2 (fun e => ?_) (fun e => ?_)⟩
    · have e1 : ((fs.map V.int).length : Int) < 3 := of_decide_eq_true e
      rw [List.length_map] at e1
      have e2 : fs.length < 3 := by omega
      refine ⟨_, fun σ' H' n => n, ?_⟩
      refine ⟨_, rfl, p, 5, rfl, g.d, by decide, by decide, fun a H2 a0 a1 g2 => ⟨_, rfl, p, 16, rfl, g2.d, by decide, by decide, fun b H3 b0 b1 g3 => ⟨(by show 2 ≤ sizeLine; decide), fun l2 nl2 => ?_⟩⟩⟩
      have g4 := ((g.trans g2).trans g3).trans (GS.new g3.d nl2 (o := .lst [.int a, .int b]))
      have hl4 := (GS.new g3.d nl2 (o := .lst [.int a, .int b])).k.kp _ _ lp (g3.k.kp _ _ lp (g2.k.kp _ _ lp hl))
      have l2p : l2 ∉ [p] := by
        rw [List.mem_singleton]
        exact ne_new g3.d nl2
      refine ⟨_, rfl, p, 2, rfl, g4.d, by decide, by decide, fun k H4 k0 k1 g5 => ?_⟩
      have hk : ∃ v : Int, atI [V.int a, V.int b] k = some (.int v) ∧ 0 ≤ v ∧ v < 16 := by
        have : k = 0 ∨ k = 1 := by omega
        rcases this with rfl | rfl
        · exact ⟨a, rfl, a0, by omega⟩
        · exact ⟨b, rfl, b0, b1⟩
      obtain ⟨v, hv, v0, v1⟩ := hk
      refine ⟨_, _, _, _, rfl, rfl, SqL.of (g5.k.kp _ _ l2p upd_same), hv, ?_⟩
      obtain ⟨m0, hm0⟩ := free_turn e2 hin v v0 v1
      refine ⟨fun m σ H2 => ∃ r : Int, σ = [some (.ref p), some (.int 3), some (.ref l), some (.int r)] ∧ GS p H H2 ∧ H2 l = some (.lst (fs.map V.int)) ∧ 0 ≤ r ∧ r < 16 ∧ (r + m) % 16 ∉ fs, ⟨m0, v, rfl, g4.trans g5, g5.k.kp _ _ lp hl4, v0, v1, hm0⟩, ?_⟩
      rintro m σ H5 ⟨r, rfl, g6, hl6, r0, r1, hm⟩
      refine ⟨_, rfl, _, rfl, l, _, rfl, .inl (SqL.of hl6), rfl, flat_ints fs, _, rfl, ?_⟩
      have ein : (if false = true then !inV (V.int r) (fs.map V.int) else inV (V.int r) (fs.map V.int)) = decide (r ∈ fs) := by rw [if_neg (by decide), inV_ints]
      refine ite2 (fun e => ?_) (fun e => ?_)
      · have e : (if false = true then !inV (V.int r) (fs.map V.int) else inV (V.int r) (fs.map V.int)) = true := e
        rw [ein] at e
        have hr := of_decide_eq_true e
        refine ⟨fun σ' H' => ∃ m', m' < m ∧ ∃ r : Int, σ' = [some (.ref p), some (.int 3), some (.ref l), some (.int r)] ∧ GS p H H' ∧ H' l = some (.lst (fs.map V.int)) ∧ 0 ≤ r ∧ r < 16 ∧ (r + m') % 16 ∉ fs, fun σ' H' h => h, ?_⟩
        refine ⟨_, rfl, _, _, rfl, rfl, .inl ⟨_, rfl, _, _, rfl, rfl, (show (16 : Int) ≠ 0 by decide), ?_⟩⟩
        have f0 : 0 ≤ (r + 1).fmod 16 := fmod_lo (by decide)
        have f1 : (r + 1).fmod 16 < 16 := fmod_hi (by decide)
        have m1 : m ≠ 0 := fun z => by
          subst z
          apply hm
          have : (r + (0 : Nat)) % 16 = r := by omega
          rw [this]
          exact hr
        refine ⟨m - 1, by omega, _, rfl, g6, hl6, f0, f1, ?_⟩
        have : ((r + 1).fmod 16 + ((m - 1 : Nat) : Int)) % 16 = (r + m) % 16 := by
          rw [fmod_e (by decide)]
          omega
        rw [this]
        exact hm
      · have e : ¬ (if false = true then !inV (V.int r) (fs.map V.int) else inV (V.int r) (fs.map V.int)) = true := e
        rw [ein] at e
        have hr : r ∉ fs := fun z => e (decide_eq_true z)
        refine ⟨_, rfl, .inl ⟨rfl, _, SqL.of hl6⟩, _, rfl, l, _, _, rfl, rfl, hl6, ?_, ?_⟩
        · rw [List.length_map]
          exact Nat.lt_of_le_of_lt (by omega : _ ≤ 1000) (by decide)
        · refine ⟨3 - (fs.length + 1), by omega, fs ++ [r], _, by rw [List.length_append]; rfl, rfl, g6.late D nl, ?_, ?_, ?_, ?_⟩
          · rw [upd_same, List.map_append]
            rfl
          · rw [List.length_append]
            exact e2
          · intro x hx
            rcases List.mem_append.mp hx with hx | hx
            · exact hin x hx
            · rw [List.mem_singleton.mp hx]
              exact ⟨r0, r1⟩
          · rw [List.nodup_append]
            refine ⟨hnd, by simp, fun x hx y hy z => ?_⟩
            rw [List.mem_singleton.mp hy] at z
            exact hr (z ▸ hx)
    · have e1 : ¬ ((fs.map V.int).length : Int) < 3 := fun z => e (decide_eq_true z)
      rw [List.length_map] at e1
      have e2 : fs.length = 3 := by omega
      match fs, e2 with
      | [a, b, c], _ =>
        have n1 := List.nodup_cons.mp hnd
        have n2 := List.nodup_cons.mp n1.2
        refine ⟨_, rfl, q a b c l H1 hin ?_ ?_ ?_ nl g hl⟩
        · intro z
          exact n1.1 (by simp [z])
        · intro z
          exact n1.1 (by simp [z])
        · intro z
          exact n2.1 (by simp [z])
end

end My

set_option Elab.async false
set_option linter.all false
set_option maxRecDepth 100000
namespace My
open PySem PySem.Spec PyProof.Rows L2
section
variable {P : Program} {w : World} {K : PySem.W.Frag} {mg : Str → Option Value} {base : Heap}
def shapeOf (op : Str) : Str := ((shL.find? fun p => decide (p.1 = op)).map (·.2)).getD ""
theorem sh_val : ∀ k, k < 30 → valV (shK 30) (.inr (wdL.getD k "")) = some (.str (shapeOf (wdL.getD k ""))) := by decide +kernel
theorem sh_small : ∀ k, k < 30 → (shapeOf (wdL.getD k "")).cps.size ≤ 3 := by decide +kernel
theorem chr_is (c d : Nat) : (V.str ⟨#[c]⟩ = V.str ⟨#[d]⟩) ↔ c = d := by
  constructor
  · intro h
    have h2 := V.str.inj h
    simpa using h2
  · intro h
    rw [h]
/-- what may stand as the j-th part of an instruction, by the letter of the shape -/
def PtOk (n near : Nat) (rs : List Int) (j ch : Nat) (p : Int) : Prop :=
  if ch = 114 then rs[j]? = some p else if ch = 110 then 0 ≤ p ∧ p < 2 ^ n else if ch = 109 then 0 ≤ p ∧ p < 2 ^ 32 else if ch = 111 then -(near : Int) ≤ p ∧ p ≤ near else 0 ≤ p ∧ p < 9
def PtsOk (n near : Nat) (rs : List Int) (cs : List Nat) (ps : List Int) : Prop := ∀ j ch p, cs[j]? = some ch → ps[j]? = some p → PtOk n near rs j ch p
theorem pts_snoc {n near : Nat} {rs : List Int} {cs : List Nat} {ps : List Int} {c : Nat} {x : Int} (h : PtsOk n near rs cs ps) (hc : cs[ps.length]? = some c) (hx : PtOk n near rs ps.length c x) : PtsOk n near rs cs (ps ++ [x]) := by
  intro j ch p h1 h2
  rcases Nat.lt_trichotomy j ps.length with l | l | l
  · rw [List.getElem?_append_left l] at h2
    exact h j ch p h1 h2
  · subst l
    rw [List.getElem?_append_right (Nat.le_refl _), Nat.sub_self] at h2
    rw [hc] at h1
    cases h1
    cases h2
    exact hx
  · rw [List.getElem?_append_right (by omega)] at h2
    obtain ⟨m, hm⟩ : ∃ m, j - ps.length = m + 1 := ⟨j - ps.length - 1, by omega⟩
    rw [hm] at h2
    simp at h2
structure InsOk (n near : Nat) (op : Str) (ps : List Int) : Prop where
  wd : ∃ k, k < 30 ∧ op = wdL.getD k ""
  ln : ps.length = (shapeOf op).cps.size
  rs : ∃ a b c : Int, RgIn [a, b, c] ∧ a ≠ b ∧ a ≠ c ∧ PtsOk n near [a, b, c] (shapeOf op).cps.toList ps
def InsV (H : Hp) (v : V) (d : Str × List Int) : Prop := ∃ t, v = .ref t ∧ H t = some (.tup (.str d.1 :: d.2.map V.int))
def spInstruction : Sp := fun vs H Q _ => ∃ (p : Addr) (n near : Nat), vs = [.ref p, .int n, .int near] ∧ DrawAt H p ∧ n ≤ 32 ∧ near ≤ 1000 ∧
  ∀ (v : V) (op : Str) (ps : List Int) (H' : Hp), GS p H H' → InsV H' v (op, ps) → InsOk n near op ps → Q v H'
set_option maxHeartbeats 4000000 in
theorem ok_z_instruction (T : Txt K mg) : FnOk P w K mg base CX0 3 T.f_z_instruction T.d_z_instruction ["draw", "width", "near"] spInstruction := by
  have G_z_take := okG_z_take (P := P) (w := w) (base := base) T
  have G_z_words := ok_z_words (P := P) (w := w) (base := base) T
  have G_z_shapes := ok_z_shapes (P := P) (w := w) (base := base) T
  have G_z_number := ok_z_number (P := P) (w := w) (base := base) T
  have G_z_different := ok_z_different (P := P) (w := w) (base := base) T
  refine T.F_z_instruction.ok sc_z_instruction (fun vs H Q E h => ?_) (fun cdv A outer s H vs Q E hr h => ?_)
  · obtain ⟨p, n, near, rfl, _⟩ := h
    rfl
  · obtain ⟨p, n, near, rfl, D, hn, hnear, q⟩ := h
    refine ⟨_, (pss_cons (ps_set (i := 3) sc_z_instruction.nd rfl (Or.inl rfl) (pe_ix ix_list (pe_call0 G_z_words (hr.mono (by omega)) (by rfl) T.g_z_words T.F_z_words.kp T.b_z_words .nil pass0) (pe_call G_z_take (hr.mono (by omega)) (by rfl) T.g_z_take T.F_z_take.kp T.b_z_take .nil pass0 (pa_cons (pv 0) (pa_cons pe_int pa_nil))) (fun _ _ => rfl)))
      (pss_cons (ps_set (i := 4) sc_z_instruction.nd rfl (Or.inl rfl) (pe_dget (hu_of hr) (pe_call0 G_z_shapes (hr.mono (by omega)) (by rfl) T.g_z_shapes T.F_z_shapes.kp T.b_z_shapes .nil pass0) (pv 3) (fun _ _ => rfl)))
      (pss_cons (ps_set (i := 5) sc_z_instruction.nd rfl (Or.inl rfl) (pe_call G_z_different (hr.mono (by omega)) (by rfl) T.g_z_different T.F_z_different.kp T.b_z_different .nil pass0 (pa_cons (pv 0) (pa_cons pe_int pa_nil))))
      (pss_cons (ps_cut (ps_if (PW.pt (pw_and (pt_cmpR op_eq (pv 4) pe_str (nomark _)) (pw_and1 (pt_cmpR op_eq (pe_call G_z_take (hr.mono (by omega)) (by rfl) T.g_z_take T.F_z_take.kp T.b_z_take .nil pass0 (pa_cons (pv 0) (pa_cons pe_int pa_nil))) pe_int (nomark _)))))
        (pss_one (ps_set (i := 5) sc_z_instruction.nd rfl (Or.inl rfl) (pe_lst (pa_cons (pe_ix ix_list (pv 5) pe_int (fun _ _ => rfl)) (pa_cons (pe_ix ix_list (pv 5) pe_int (fun _ _ => rfl)) (pa_cons (pe_ix ix_list (pv 5) pe_int (fun _ _ => rfl)) pa_nil))))))
        pss_nil))
      (pss_cons (ps_set (i := 6) sc_z_instruction.nd rfl (Or.inl rfl) (pe_lst (pa_cons (pv 3) pa_nil)))
      (pss_cons (ps_for PassesOwn.never rfl (pi_range1 (by rfl) T.m_range (pa_cons (pe_callB call_len_str (by rfl) T.m_len (by decide +kernel) (pa_cons (pv 4) pa_nil)) pa_nil)) (pg_name (i := 7) sc_z_instruction.nd rfl (Or.inl rfl))
        (pss_one (ps_if (pt_cmpR op_eq (pe_ix ix_str (pv 4) (pv 7) (fun _ _ => rfl)) pe_str (nomark _))
          (pss_one (ps_expr (pe_bm PySem.F.plainAttrs_list PySem.F.slot_list_append PySem.F.type_list_append mt_append (pv 6) (pa_cons (pe_ix ix_list (pv 5) (pv 7) (fun _ _ => rfl)) pa_nil))))
          (pss_one (ps_if (pt_cmpR op_eq (pe_ix ix_str (pv 4) (pv 7) (fun _ _ => rfl)) pe_str (nomark _))
            (pss_one (ps_expr (pe_bm PySem.F.plainAttrs_list PySem.F.slot_list_append PySem.F.type_list_append mt_append (pv 6) (pa_cons (pe_call G_z_number (hr.mono (by omega)) (by rfl) T.g_z_number T.F_z_number.kp T.b_z_number .nil pass0 (pa_cons (pv 0) (pa_cons (pv 1) pa_nil))) pa_nil))))
            (pss_one (ps_if (pt_cmpR op_eq (pe_ix ix_str (pv 4) (pv 7) (fun _ _ => rfl)) pe_str (nomark _))
              (pss_one (ps_expr (pe_bm PySem.F.plainAttrs_list PySem.F.slot_list_append PySem.F.type_list_append mt_append (pv 6) (pa_cons (pe_call G_z_number (hr.mono (by omega)) (by rfl) T.g_z_number T.F_z_number.kp T.b_z_number .nil pass0 (pa_cons (pv 0) (pa_cons pe_int pa_nil))) pa_nil))))
              (pss_one (ps_if (pt_cmpR op_eq (pe_ix ix_str (pv 4) (pv 7) (fun _ _ => rfl)) pe_str (nomark _))
                (pss_one (ps_expr (pe_bm PySem.F.plainAttrs_list PySem.F.slot_list_append PySem.F.type_list_append mt_append (pv 6) (pa_cons (pe_op op_sub (pe_call G_z_take (hr.mono (by omega)) (by rfl) T.g_z_take T.F_z_take.kp T.b_z_take .nil pass0 (pa_cons (pv 0) (pa_cons (pe_op op_add (pe_op op_mul pe_int (pv 2)) pe_int) pa_nil))) (pv 2)) pa_nil))))
                (pss_one (ps_expr (pe_bm PySem.F.plainAttrs_list PySem.F.slot_list_append PySem.F.type_list_append mt_append (pv 6) (pa_cons (pe_call G_z_take (hr.mono (by omega)) (by rfl) T.g_z_take T.F_z_take.kp T.b_z_take .nil pass0 (pa_cons (pv 0) (pa_cons pe_int pa_nil))) pa_nil)))))))))))))
      (pss_one (ps_ret (pe_callTy call_tuple_of (by rfl) T.m_tuple (by decide +kernel) (pa_cons (pv 6) pa_nil)))))))))), ?_⟩
    refine ⟨rfl, fun lw nlw => ?_⟩
    have g1 := GS.new D nlw (o := .lst (wdL.map V.str))
    have lwp : lw ∉ [p] := by rw [List.mem_singleton]; exact ne_new D nlw
    refine ⟨_, rfl, p, 30, rfl, g1.d, by decide, by decide, fun k H2 k0 k1 g2 => ?_⟩
    obtain ⟨nk, rfl⟩ := int_nat k0
    have hnk : nk < 30 := by omega
    have hat : atI (wdL.map V.str) (nk : Int) = some (.str (wdL.getD nk "")) := by
      refine atI_nat ?_
      have hl : nk < wdL.length := hnk
      rw [List.getElem?_map, List.getElem?_eq_getElem hl, List.getD_eq_getElem?_getD, List.getElem?_eq_getElem hl]
      rfl
    refine ⟨_, _, _, _, rfl, rfl, SqL.of (g2.k.kp _ _ lwp upd_same), hat, ?_⟩
    have hop : ∃ k, k < 30 ∧ wdL.getD nk "" = wdL.getD k "" := ⟨nk, hnk, rfl⟩
    have hval := sh_val nk hnk
    have hsm := sh_small nk hnk
    generalize wdL.getD nk "" = op at hop hval hsm ⊢
    have g3 := g1.trans g2
    clear hat g1 g2
    refine ⟨rfl, fun sp H3 k3 hsp => ⟨_, rfl, _, _, rfl, dget_s hsp hval, ?_⟩⟩
    have g4 := g3.trans (GS.of g3.d k3)
    refine ⟨_, rfl, p, rfl, g4.d, fun a b c l H4 hin hab hac hbc nl g5 hl => ?_⟩
    have g6 := g4.trans g5
    refine ⟨fun σ H5 => ∃ (l : Addr) (a b c : Int), σ = [some (.ref p), some (.int n), some (.int near), some (.str op), some (.str (shapeOf op)), some (.ref l), none, none] ∧ GS p H H5 ∧ RgIn [a, b, c] ∧ a ≠ b ∧ a ≠ c ∧ H5 l = some (.lst [.int a, .int b, .int c]), ?_, ?_⟩
    · refine ⟨_, rfl, rfl, _, rfl, ite2 (fun e => ?_) (fun e => ?_)⟩
      · refine ⟨_, rfl, p, 3, rfl, g6.d, by decide, by decide, fun r H5 r0 r1 g7 => ?_⟩
        have lp : l ∉ [p] := by rw [List.mem_singleton]; exact ne_new g4.d nl
        have hl5 := g7.k.kp _ _ lp hl
        have g8 := g6.trans g7
        refine ⟨rfl, _, rfl, ite2 (fun e => ?_) (fun e => ?_)⟩
        · refine ⟨_, rfl, _, _, _, _, rfl, rfl, SqL.of hl5, rfl, _, rfl, _, _, _, _, rfl, rfl, SqL.of hl5, rfl, _, rfl, _, _, _, _, rfl, rfl, SqL.of hl5, rfl, (by show 3 ≤ sizeLine; decide), fun l2 nl2 => ?_⟩
          refine ⟨l2, a, b, b, rfl, g8.trans (GS.new g8.d nl2), ?_, hab, hab, upd_same⟩
          intro x hx
          refine hin x ?_
          simp only [List.mem_cons, List.not_mem_nil, or_false] at hx ⊢
          omega
        · exact ⟨l, a, b, c, rfl, g8, hin, hab, hac, hl5⟩
      · exact ite_f (by decide) ⟨l, a, b, c, rfl, g6, hin, hab, hac, hl⟩
    clear hin hab hac hbc hl g6 g5 nl
    rintro σ H5 ⟨l, a, b, c, rfl, g, hin, hab, hac, hl⟩
    refine ⟨_, rfl, (by show 1 ≤ sizeLine; decide), fun M nM => ?_⟩
    have lM : l ≠ M := ne_of_none hl nM
    have gM := GS.new g.d nM (o := .lst [.str op])
    have Mp : M ∉ [p] := by rw [List.mem_singleton]; exact ne_new g.d nM
    have lp : l ∉ [p] := by
      rw [List.mem_singleton]
      intro z
      obtain ⟨c', cells, pos, rest, seed, I⟩ := g.d
      rw [z, I.hp] at hl
      cases hl
    have hsz : (shapeOf op).length = (shapeOf op).cps.size := rfl
    refine ⟨_, rfl, _, rfl, (by rw [hsz]; exact Nat.le_trans hsm (by decide)), ((shapeOf op).length : Int), rfl, by omega, by rw [hsz]; omega, ?_⟩
    have e0 : (((shapeOf op).length : Nat) : Int).toNat = (shapeOf op).cps.size := by rw [hsz]; rfl
    rw [e0]
    refine for_range (n := (shapeOf op).cps.size) (fun i σ H6 => ∃ (x7 : Option V) (ps : List Int), σ = [some (.ref p), some (.int n), some (.int near), some (.str op), some (.str (shapeOf op)), some (.ref l), some (.ref M), x7] ∧ GS p H H6 ∧ H6 l = some (.lst [.int a, .int b, .int c]) ∧ H6 M = some (.lst (.str op :: ps.map V.int)) ∧ ps.length = i ∧ PtsOk n near [a, b, c] (shapeOf op).cps.toList ps) ?_ ?_ ?_
    · exact ⟨none, [], rfl, g.trans gM, gM.k.kp _ _ lp hl, upd_same, rfl, fun j ch p _ h => by simp at h⟩
    · rintro i σ H6 hi ⟨x7, ps, rfl, g6, hl6, hM, hlen, hps⟩
      rw [Int.zero_add]
      have nMH : H M = none := by
        cases e : H M with
        | none => rfl
        | some o => rw [g.k.kp _ _ Mp e] at nM; cases nM
      have hil : i < (shapeOf op).cps.toList.length := by simpa using hi
      obtain ⟨ch, hch⟩ : ∃ ch, (shapeOf op).cps.toList[i]? = some ch := ⟨_, List.getElem?_eq_getElem hil⟩
      have hchI : atI (shapeOf op).cps.toList (i : Int) = some ch := atI_nat hch
      have hzl : (shapeOf op).length ≤ sizeLine := by rw [hsz]; exact Nat.le_trans hsm (by decide)
      have hsz2 : (V.str op :: ps.map V.int).length < sizeLine := by
        rw [List.length_cons, List.length_map]
        exact Nat.lt_of_le_of_lt (by omega : _ ≤ 1000) (by decide)
      have fin : ∀ (x : Int) (H7 : Hp), GS p H H7 → H7 l = some (.lst [.int a, .int b, .int c]) → H7 M = some (.lst (.str op :: ps.map V.int)) → PtOk n near [a, b, c] i ch x →
          ∃ (x7' : Option V) (ps' : List Int), ([some (.ref p), some (.int n), some (.int near), some (.str op), some (.str (shapeOf op)), some (.ref l), some (.ref M), some (.int (i : Int))] : L2.St) = [some (.ref p), some (.int n), some (.int near), some (.str op), some (.str (shapeOf op)), some (.ref l), some (.ref M), x7'] ∧ GS p H (upd H7 M (.lst ((V.str op :: ps.map V.int) ++ [.int x]))) ∧ (upd H7 M (.lst ((V.str op :: ps.map V.int) ++ [.int x]))) l = some (.lst [.int a, .int b, .int c]) ∧ (upd H7 M (.lst ((V.str op :: ps.map V.int) ++ [.int x]))) M = some (.lst (.str op :: ps'.map V.int)) ∧ ps'.length = i + 1 ∧ PtsOk n near [a, b, c] (shapeOf op).cps.toList ps' := by
        intro x H7 g7 hl7 hM7 hp
        refine ⟨_, ps ++ [x], rfl, g7.late D nMH, ?_, ?_, ?_, ?_⟩
        · rw [upd_ne lM]
          exact hl7
        · rw [upd_same, List.map_append]
          rfl
        · rw [List.length_append, hlen]
          rfl
        · exact pts_snoc hps (by rw [hlen]; exact hch) (by rw [hlen]; exact hp)
      have hi3 : i < 3 := by omega
      refine ⟨_, rfl, _, rfl, _, _, _, rfl, rfl, hzl, hchI, rfl, _, rfl, ite2 (fun e => ?_) (fun e => ?_)⟩
      · have e1 : ch = 114 := (chr_is ch 114).mp (of_decide_eq_true e)
        obtain ⟨x, hx⟩ : ∃ x, ([a, b, c] : List Int)[i]? = some x := ⟨_, List.getElem?_eq_getElem (by simpa using hi3)⟩
        have hxI : atI [V.int a, V.int b, V.int c] (i : Int) = some (.int x) := atI_nat (by
          show ([a, b, c].map V.int)[i]? = _
          rw [List.getElem?_map, hx]
          rfl)
        refine ⟨_, rfl, .inl ⟨rfl, _, SqL.of hM⟩, _, rfl, _, rfl, l, _, _, _, rfl, rfl, SqL.of hl6, hxI, M, _, _, rfl, rfl, hM, hsz2, ?_⟩
        refine fin x _ g6 hl6 hM ?_
        unfold PtOk
        rw [if_pos e1]
        exact hx
      have n1 : ch ≠ 114 := fun z => e (decide_eq_true ((chr_is ch 114).mpr z))
      refine ⟨_, rfl, _, rfl, _, _, _, rfl, rfl, hzl, hchI, rfl, _, rfl, ite2 (fun e => ?_) (fun e => ?_)⟩
      · have e1 : ch = 110 := (chr_is ch 110).mp (of_decide_eq_true e)
        refine ⟨_, rfl, .inl ⟨rfl, _, SqL.of hM⟩, _, rfl, _, rfl, p, n, rfl, g6.d, hn, fun r H7 r0 r1 g7 => ?_⟩
        refine ⟨M, _, _, rfl, rfl, g7.k.kp _ _ Mp hM, hsz2, ?_⟩
        refine fin r _ (g6.trans g7) (g7.k.kp _ _ lp hl6) (g7.k.kp _ _ Mp hM) ?_
        unfold PtOk
        rw [if_neg n1, if_pos e1]
        exact ⟨r0, r1⟩
      have n2 : ch ≠ 110 := fun z => e (decide_eq_true ((chr_is ch 110).mpr z))
      refine ⟨_, rfl, _, rfl, _, _, _, rfl, rfl, hzl, hchI, rfl, _, rfl, ite2 (fun e => ?_) (fun e => ?_)⟩
      · have e1 : ch = 109 := (chr_is ch 109).mp (of_decide_eq_true e)
        refine ⟨_, rfl, .inl ⟨rfl, _, SqL.of hM⟩, _, rfl, p, 32, rfl, g6.d, (by decide), fun r H7 r0 r1 g7 => ?_⟩
        refine ⟨M, _, _, rfl, rfl, g7.k.kp _ _ Mp hM, hsz2, ?_⟩
        refine fin r _ (g6.trans g7) (g7.k.kp _ _ lp hl6) (g7.k.kp _ _ Mp hM) ?_
        unfold PtOk
        rw [if_neg n1, if_neg n2, if_pos e1]
        exact ⟨r0, r1⟩
      have n3 : ch ≠ 109 := fun z => e (decide_eq_true ((chr_is ch 109).mpr z))
      refine ⟨_, rfl, _, rfl, _, _, _, rfl, rfl, hzl, hchI, rfl, _, rfl, ite2 (fun e => ?_) (fun e => ?_)⟩
      · have e1 : ch = 111 := (chr_is ch 111).mp (of_decide_eq_true e)
        refine ⟨_, rfl, .inl ⟨rfl, _, SqL.of hM⟩, _, rfl, _, rfl, _, _, rfl, rfl, .inl ⟨by omega, by omega⟩, _, _, rfl, rfl, p, 2 * (near : Int) + 1, rfl, g6.d, by omega, Int.le_trans (by omega : _ ≤ (100000 : Int)) (by decide), fun r H7 r0 r1 g7 => ?_⟩
        refine ⟨_, rfl, _, _, rfl, rfl, M, _, _, rfl, rfl, g7.k.kp _ _ Mp hM, hsz2, ?_⟩
        refine fin (r - near) _ (g6.trans g7) (g7.k.kp _ _ lp hl6) (g7.k.kp _ _ Mp hM) ?_
        unfold PtOk
        rw [if_neg n1, if_neg n2, if_neg n3, if_pos e1]
        omega
      have n4 : ch ≠ 111 := fun z => e (decide_eq_true ((chr_is ch 111).mpr z))
      refine ⟨_, rfl, .inl ⟨rfl, _, SqL.of hM⟩, _, rfl, p, 4, rfl, g6.d, by decide, by decide, fun r H7 r0 r1 g7 => ?_⟩
      refine ⟨M, _, _, rfl, rfl, g7.k.kp _ _ Mp hM, hsz2, ?_⟩
      refine fin r _ (g6.trans g7) (g7.k.kp _ _ lp hl6) (g7.k.kp _ _ Mp hM) ?_
      unfold PtOk
      rw [if_neg n1, if_neg n2, if_neg n3, if_neg n4]
      omega
    · rintro σ H6 ⟨x7, ps, rfl, g6, hl6, hM, hlen, hps⟩
      refine ⟨_, rfl, M, _, rfl, .inl ⟨SqL.of hM, fun t nt => ?_⟩⟩
      exact q _ op ps _ (g6.trans (GS.new g6.d nt)) ⟨t, rfl, upd_same⟩ ⟨hop, hlen, a, b, c, hin, hab, hac, hps⟩
end

end My

set_option Elab.async false
set_option linter.all false
set_option maxRecDepth 100000
namespace My
open PySem PySem.Spec PyProof.Rows L2
section
variable {P : Program} {w : World} {K : PySem.W.Frag} {mg : Str → Option Value} {base : Heap}
/-- a state of the machine -/
structure Mst where
  regs : List Int
  pc : Int
  br : Int
  dir : Int
  mem : List Int
def W32 (x : Int) : Prop := 0 ≤ x ∧ x < 2 ^ 32
structure Mst.Ok (S : Mst) : Prop where
  r16 : S.regs.length = 16
  rw : ∀ x ∈ S.regs, W32 x
  pc : W32 S.pc
  br : W32 S.br
  dir : S.dir = 1 ∨ S.dir = -1
  m1 : 1 ≤ S.mem.length
  m6 : S.mem.length ≤ 6
  mw : ∀ x ∈ S.mem, W32 x
def StV (H : Hp) (v : V) (S : Mst) : Prop := ∃ t ra ma, v = .ref t ∧ H t = some (.tup [.ref ra, .int S.pc, .int S.br, .int S.dir, .ref ma]) ∧ H ra = some (.tup (S.regs.map V.int)) ∧ H ma = some (.tup (S.mem.map V.int))
theorem StV.keep {L : List Addr} {H H' : Hp} (k : KT L H H') {v : V} {S : Mst} : StV H v S → StV H' v S := fun ⟨t, ra, ma, h1, h2, h3, h4⟩ => ⟨t, ra, ma, h1, k.tp _ _ h2, k.tp _ _ h3, k.tp _ _ h4⟩
theorem InsV.keep {L : List Addr} {H H' : Hp} (k : KT L H H') {v : V} {d : Str × List Int} : InsV H v d → InsV H' v d := fun ⟨t, h1, h2⟩ => ⟨t, h1, k.tp _ _ h2⟩
/-- [number(draw, 32) for .. in range(m)] -/
def spState : Sp := fun vs H Q _ => ∃ (p : Addr) (m : Nat), vs = [.ref p, .int m] ∧ DrawAt H p ∧ m ≤ 1000 ∧
  ∀ (v : V) (S : Mst) (H' : Hp), GS p H H' → StV H' v S → S.Ok → Q v H'
set_option maxHeartbeats 4000000 in
theorem ok_z_state (T : Txt K mg) : FnOk P w K mg base CX0 3 T.f_z_state T.d_z_state ["draw", "code"] spState := by
  have G_z_take := okG_z_take (P := P) (w := w) (base := base) T
  have G_z_number := ok_z_number (P := P) (w := w) (base := base) T
  refine T.F_z_state.ok sc_z_state (fun vs H Q E h => ?_) (fun cdv A outer s H vs Q E hr h => ?_)
  · obtain ⟨p, m, rfl, _⟩ := h
    rfl
  · obtain ⟨p, m, rfl, D, hm, q⟩ := h
    refine ⟨_, (pss_cons (ps_set (i := 2) sc_z_state.nd rfl (Or.inl rfl) (pe_callTy call_tuple_of (by rfl) T.m_tuple (by decide +kernel) (pa_cons (pe_lc (own := [("r", 6)]) (g := gName 6) (by rfl) sc_z_state.nd (pi_range1 (by rfl) T.m_range (pa_cons pe_int pa_nil)) (blkOk_by (own := [("r", 6)]) (N := N_z_state) (sc := defScope s_z_state) (by decide +kernel)) (fun _ _ _ _ _ => (pg_name (i := 6) sc_z_state.nd rfl (Or.inl rfl))) (fun _ _ _ _ _ => pts_nil) (fun _ _ _ _ _ => (pe_call G_z_number (hr.mono (by omega)) (by rfl) T.g_z_number T.F_z_number.kp T.b_z_number .nil pass0 (pa_cons (pv 0) (pa_cons pe_int pa_nil))))) pa_nil)))
      (pss_cons (ps_set (i := 3) sc_z_state.nd rfl (Or.inl rfl) (pe_ix ix_list (pe_lst (pa_cons (pe_call G_z_take (hr.mono (by omega)) (by rfl) T.g_z_take T.F_z_take.kp T.b_z_take .nil pass0 (pa_cons (pv 0) (pa_cons (pe_op op_add (pv 1) pe_int) pa_nil))) (pa_cons pe_int (pa_cons (pe_call G_z_number (hr.mono (by omega)) (by rfl) T.g_z_number T.F_z_number.kp T.b_z_number .nil pass0 (pa_cons (pv 0) (pa_cons pe_int pa_nil))) pa_nil)))) (pe_ix ix_list (pe_lst (pa_cons pe_int (pa_cons pe_int (pa_cons pe_int (pa_cons pe_int (pa_cons pe_int pa_nil)))))) (pe_call G_z_take (hr.mono (by omega)) (by rfl) T.g_z_take T.F_z_take.kp T.b_z_take .nil pass0 (pa_cons (pv 0) (pa_cons pe_int pa_nil))) (fun _ _ => rfl)) (fun _ _ => rfl)))
      (pss_cons (ps_set (i := 4) sc_z_state.nd rfl (Or.inl rfl) (pe_ix ix_list (pe_lst (pa_cons pe_int (pa_cons pe_int (pa_cons (pe_call G_z_take (hr.mono (by omega)) (by rfl) T.g_z_take T.F_z_take.kp T.b_z_take .nil pass0 (pa_cons (pv 0) (pa_cons pe_int pa_nil))) (pa_cons pe_int (pa_cons (pe_call G_z_number (hr.mono (by omega)) (by rfl) T.g_z_number T.F_z_number.kp T.b_z_number .nil pass0 (pa_cons (pv 0) (pa_cons pe_int pa_nil))) pa_nil)))))) (pe_call G_z_take (hr.mono (by omega)) (by rfl) T.g_z_take T.F_z_take.kp T.b_z_take .nil pass0 (pa_cons (pv 0) (pa_cons pe_int pa_nil))) (fun _ _ => rfl)))
      (pss_cons (ps_set (i := 5) sc_z_state.nd rfl (Or.inl rfl) (pe_callTy call_tuple_of (by rfl) T.m_tuple (by decide +kernel) (pa_cons (pe_lc (own := [("k", 7)]) (g := gName 7) (by rfl) sc_z_state.nd (pi_range1 (by rfl) T.m_range (pa_cons (pe_op op_add pe_int (pe_call G_z_take (hr.mono (by omega)) (by rfl) T.g_z_take T.F_z_take.kp T.b_z_take .nil pass0 (pa_cons (pv 0) (pa_cons pe_int pa_nil)))) pa_nil)) (blkOk_by (own := [("k", 7)]) (N := N_z_state) (sc := defScope s_z_state) (by decide +kernel)) (fun _ _ _ _ _ => (pg_name (i := 7) sc_z_state.nd rfl (Or.inl rfl))) (fun _ _ _ _ _ => pts_nil) (fun _ _ _ _ _ => (pe_call G_z_number (hr.mono (by omega)) (by rfl) T.g_z_number T.F_z_number.kp T.b_z_number .nil pass0 (pa_cons (pv 0) (pa_cons pe_int pa_nil))))) pa_nil)))
      (pss_one (ps_ret (pe_tup (pa_cons (pv 2) (pa_cons (pv 3) (pa_cons (pv 4) (pa_cons (pe_ix ix_list (pe_lst (pa_cons pe_int (pa_cons (pe_un un_neg pe_int) pa_nil))) (pe_call G_z_take (hr.mono (by omega)) (by rfl) T.g_z_take T.F_z_take.kp T.b_z_take .nil pass0 (pa_cons (pv 0) (pa_cons pe_int pa_nil))) (fun _ _ => rfl)) (pa_cons (pv 5) pa_nil)))))))))))), ?_⟩
    -- registers
    refine ⟨16, rfl, by decide, by decide, fun D1 nD1 => ?_⟩
    refine lc_range (n := 16) (fun i H1 => ∃ L : List Int, GS p H H1 ∧ H1 D1 = some (.lst (L.map V.int)) ∧ L.length = i ∧ ∀ x ∈ L, W32 x) ⟨[], GS.new D nD1, upd_same, rfl, fun x h => nomatch h⟩ ?_ ?_
    · rintro i H1 hi ⟨L, g, hD, hl, hw⟩
      have Dp : D1 ∉ [p] := by rw [List.mem_singleton]; exact ne_new D nD1
      refine ⟨rfl, _, rfl, p, 32, rfl, g.d, by decide, fun r H2 r0 r1 g2 => ⟨_, g2.k.kp _ _ Dp hD, ?_, L ++ [r], (g.trans g2).late D nD1, ?_, ?_, ?_⟩⟩
      · rw [List.length_map]
        exact Nat.lt_of_le_of_lt (by omega : _ ≤ 1000) (by decide)
      · rw [upd_same, List.map_append]
        rfl
      · rw [List.length_append, hl]
        rfl
      · intro x hx
        rcases List.mem_append.mp hx with hx | hx
        · exact hw x hx
        · rw [List.mem_singleton.mp hx]
          exact ⟨r0, r1⟩
    rintro H1 ⟨regs, g1, hD1, hr16, hrw⟩
    refine ⟨_, _, rfl, .inl ⟨SqL.of hD1, fun ra nra => ?_⟩⟩
    have g2 := g1.trans (GS.new g1.d nra (o := .tup (regs.map V.int)))
    have hra : (upd H1 ra (.tup (regs.map V.int))) ra = some (.tup (regs.map V.int)) := upd_same
    generalize upd H1 ra (.tup (regs.map V.int)) = H2 at g2 hra ⊢
    clear hD1 nra g1
    -- pc
    refine ⟨_, rfl, _, rfl, _, _, rfl, rfl, p, (m : Int) + 1, rfl, g2.d, by omega, Int.le_trans (by omega : _ ≤ (100000 : Int)) (by decide), fun a H3 a0 a1 g3 => ?_⟩
    refine ⟨_, rfl, p, 32, rfl, (g2.trans g3).d, by decide, fun b H4 b0 b1 g4 => ⟨(by show 3 ≤ sizeLine; decide), fun l nl => ?_⟩⟩
    have g5 := ((g2.trans g3).trans g4)
    have g6 := g5.trans (GS.new g5.d nl (o := .lst [.int a, .int 0, .int b]))
    have lp : l ∉ [p] := by rw [List.mem_singleton]; exact ne_new g5.d nl
    refine ⟨(by show 5 ≤ sizeLine; decide), fun l2 nl2 => ?_⟩
    have g7 := g6.trans (GS.new g6.d nl2 (o := .lst [.int 0, .int 0, .int 0, .int 1, .int 2]))
    have l2p : l2 ∉ [p] := by rw [List.mem_singleton]; exact ne_new g6.d nl2
    have hl7 := (GS.new g6.d nl2 (o := .lst [.int 0, .int 0, .int 0, .int 1, .int 2])).k.kp _ _ lp upd_same
    refine ⟨_, rfl, p, 5, rfl, g7.d, by decide, by decide, fun k H5 k0 k1 g8 => ?_⟩
    have hk : ∃ v : Int, atI [V.int 0, V.int 0, V.int 0, V.int 1, V.int 2] k = some (.int v) ∧ 0 ≤ v ∧ v < 3 := by
      have : k = 0 ∨ k = 1 ∨ k = 2 ∨ k = 3 ∨ k = 4 := by omega
      rcases this with rfl | rfl | rfl | rfl | rfl
      · exact ⟨0, rfl, by decide, by decide⟩
      · exact ⟨0, rfl, by decide, by decide⟩
      · exact ⟨0, rfl, by decide, by decide⟩
      · exact ⟨1, rfl, by decide, by decide⟩
      · exact ⟨2, rfl, by decide, by decide⟩
    obtain ⟨j, hj, j0, j1⟩ := hk
    have hj2 : ∃ v : Int, atI [V.int a, V.int 0, V.int b] j = some (.int v) ∧ W32 v := by
      have : j = 0 ∨ j = 1 ∨ j = 2 := by omega
      rcases this with rfl | rfl | rfl
      · exact ⟨a, rfl, a0, Int.lt_of_lt_of_le a1 (Int.le_trans (by omega : _ ≤ (100000 : Int)) (by decide))⟩
      · exact ⟨0, rfl, by decide, by decide⟩
      · exact ⟨b, rfl, b0, b1⟩
    obtain ⟨pc, hpc, wpc⟩ := hj2
    refine ⟨_, _, _, _, rfl, rfl, SqL.of (g8.k.kp _ _ l2p upd_same), hj, _, _, _, _, rfl, rfl, SqL.of (g8.k.kp _ _ lp hl7), hpc, ?_⟩
    have g9 := g7.trans g8
    have hra9 := ((GS.new g5.d nl (o := .lst [.int a, .int 0, .int b])).trans ((GS.new g6.d nl2 (o := .lst [.int 0, .int 0, .int 0, .int 1, .int 2])).trans g8)).k.tp _ _ (g4.k.tp _ _ (g3.k.tp _ _ hra))
    clear g8 g7 hl7 g6 lp l2p nl nl2 g5 hra hj hpc
    -- br
    refine ⟨_, rfl, p, 4, rfl, g9.d, by decide, by decide, fun c H6 c0 c1 g10 => ⟨_, rfl, p, 32, rfl, g10.d, by decide, fun e H7 e0 e1 g11 => ⟨(by show 5 ≤ sizeLine; decide), fun l nl => ?_⟩⟩⟩
    have g12 := (g9.trans g10).trans g11
    have g13 := g12.trans (GS.new g12.d nl (o := .lst [.int 0, .int 0, .int c, .int 4294967295, .int e]))
    have lp : l ∉ [p] := by rw [List.mem_singleton]; exact ne_new g12.d nl
    refine ⟨_, rfl, p, 5, rfl, g13.d, by decide, by decide, fun k H8 k0 k1 g14 => ?_⟩
    have hk : ∃ v : Int, atI [V.int 0, V.int 0, V.int c, V.int 4294967295, V.int e] k = some (.int v) ∧ W32 v := by
      have : k = 0 ∨ k = 1 ∨ k = 2 ∨ k = 3 ∨ k = 4 := by omega
      rcases this with rfl | rfl | rfl | rfl | rfl
      · exact ⟨0, rfl, by decide, by decide⟩
      · exact ⟨0, rfl, by decide, by decide⟩
      · exact ⟨c, rfl, c0, Int.lt_trans c1 (by decide)⟩
      · exact ⟨4294967295, rfl, by decide, by decide⟩
      · exact ⟨e, rfl, e0, e1⟩
    obtain ⟨br, hbr, wbr⟩ := hk
    refine ⟨_, _, _, _, rfl, rfl, SqL.of (g14.k.kp _ _ lp upd_same), hbr, ?_⟩
    have g15 := g13.trans g14
    have hra15 := g14.k.tp _ _ ((GS.new g12.d nl (o := .lst [.int 0, .int 0, .int c, .int 4294967295, .int e])).k.tp _ _ (g11.k.tp _ _ (g10.k.tp _ _ hra9)))
    clear g14 g13 g12 lp nl hbr hra9 g9 g10 g11
    -- memory
    refine ⟨_, rfl, p, 6, rfl, g15.d, by decide, by decide, fun u H9 u0 u1 g16 => ⟨_, _, rfl, rfl, 1 + u, rfl, by omega, by omega, fun D2 nD2 => ?_⟩⟩
    have g17 := g15.trans g16
    obtain ⟨nu, rfl⟩ := int_nat u0
    have eu : (1 + (nu : Int)).toNat = nu + 1 := by omega
    rw [eu]
    have D2p : D2 ∉ [p] := by rw [List.mem_singleton]; exact ne_new g17.d nD2
    have nD2H : H D2 = none := by
      cases e : H D2 with
      | none => rfl
      | some o =>
        have := g17.k.kp _ _ D2p e
        rw [this] at nD2
        cases nD2
    refine lc_range (n := nu + 1) (fun i H1 => ∃ L : List Int, GS p H H1 ∧ H1 D2 = some (.lst (L.map V.int)) ∧ L.length = i ∧ (∀ x ∈ L, W32 x) ∧ H1 ra = some (.tup (regs.map V.int))) ⟨[], g17.trans (GS.new g17.d nD2), upd_same, rfl, (fun x h => nomatch h), (KT.new [] nD2).tp _ _ (g16.k.tp _ _ hra15)⟩ ?_ ?_
    · rintro i H1 hi ⟨L, g, hD, hl, hw, hr⟩
      refine ⟨rfl, _, rfl, p, 32, rfl, g.d, by decide, fun r H2 r0 r1 g2 => ⟨_, g2.k.kp _ _ D2p hD, ?_, L ++ [r], (g.trans g2).late D nD2H, ?_, ?_, ?_, ?_⟩⟩
      · rw [List.length_map]
        exact Nat.lt_of_le_of_lt (by omega : _ ≤ 1000) (by decide)
      · rw [upd_same, List.map_append]
        rfl
      · rw [List.length_append, hl]
        rfl
      · intro x hx
        rcases List.mem_append.mp hx with hx | hx
        · exact hw x hx
        · rw [List.mem_singleton.mp hx]
          exact ⟨r0, r1⟩
      · have hr2 := g2.k.tp _ _ hr
        rw [upd_ne (ne_of hr2 (g2.k.kp _ _ D2p hD) (by intro z; cases z))]
        exact hr2
    rintro H10 ⟨mem, g18, hD2, hml, hmw, hra18⟩
    refine ⟨_, _, rfl, .inl ⟨SqL.of hD2, fun ma nma => ?_⟩⟩
    have g19 := g18.trans (GS.new g18.d nma (o := .tup (mem.map V.int)))
    have hra19 := (KT.new [] nma (o := .tup (mem.map V.int))).tp _ _ hra18
    have hma : (upd H10 ma (.tup (mem.map V.int))) ma = some (.tup (mem.map V.int)) := upd_same
    generalize upd H10 ma (.tup (mem.map V.int)) = H11 at g19 hra19 hma ⊢
    clear hD2 nma g18 hra18 hra15 g15 g16 g17
    -- the state
    refine ⟨_, rfl, _, rfl, _, rfl, _, rfl, (by show 2 ≤ sizeLine; decide), fun l nl => ?_⟩
    have g20 := g19.trans (GS.new g19.d nl (o := .lst [.int 1, .int (-1)]))
    have lp : l ∉ [p] := by rw [List.mem_singleton]; exact ne_new g19.d nl
    refine ⟨_, rfl, p, 2, rfl, g20.d, by decide, by decide, fun k H12 k0 k1 g21 => ?_⟩
    have hk : ∃ v : Int, atI [V.int 1, V.int (-1)] k = some (.int v) ∧ (v = 1 ∨ v = -1) := by
      have : k = 0 ∨ k = 1 := by omega
      rcases this with rfl | rfl
      · exact ⟨1, rfl, .inl rfl⟩
      · exact ⟨-1, rfl, .inr rfl⟩
    obtain ⟨dir, hdir, wdir⟩ := hk
    refine ⟨_, _, _, _, rfl, rfl, SqL.of (g21.k.kp _ _ lp upd_same), hdir, _, rfl, (by show 5 ≤ sizeLine; decide), fun t nt => ?_⟩
    have k1 := (KT.new [] nl (o := .lst [.int 1, .int (-1)]))
    have k2 := KT.new [] nt (o := .tup [.ref ra, .int pc, .int br, .int dir, .ref ma])
    refine q _ ⟨regs, pc, br, dir, mem⟩ _ ((g20.trans g21).trans (GS.new (g20.trans g21).d nt)) ⟨t, ra, ma, rfl, upd_same, k2.tp _ _ (g21.k.tp _ _ (k1.tp _ _ hra19)), k2.tp _ _ (g21.k.tp _ _ (k1.tp _ _ hma))⟩ ⟨hr16, hrw, wpc, wbr, wdir, ?_, ?_, hmw⟩
    · show 1 ≤ mem.length
      omega
    · show mem.length ≤ 6
      omega
end

end My

set_option Elab.async false
set_option linter.all false
set_option maxRecDepth 100000
namespace My
open PySem PySem.Spec PyProof.Rows L2
theorem str_eq {a b : Str} (e : decide (V.str a = V.str b) = true) : a = b := V.str.inj (of_decide_eq_true e)
theorem str_ne {a b : Str} (e : ¬ decide (V.str a = V.str b) = true) : ¬ a = b := fun q => e (decide_eq_true (by rw [q]))
theorem int_eq {a b : Int} (e : decide (V.int a = V.int b) = true) : a = b := V.int.inj (of_decide_eq_true e)
theorem int_ne {a b : Int} (e : ¬ decide (V.int a = V.int b) = true) : ¬ a = b := fun q => e (decide_eq_true (by rw [q]))
theorem flat_strs : ∀ xs : List Str, (xs.map V.str).all flatV = true
  | [] => rfl
  | x :: r => by rw [List.map_cons, List.all_cons, flat_strs r]; rfl
theorem inV_strs (x : Str) : ∀ xs : List Str, inV (V.str x) (xs.map V.str) = decide (x ∈ xs)
  | [] => by simp [inV]
  | y :: r => by
    have ih := inV_strs x r
    have e : inV (V.str x) ((y :: r).map V.str) = (eqV (V.str y) (V.str x) || inV (V.str x) (r.map V.str)) := rfl
    rw [e, ih]
    have : eqV (V.str y) (V.str x) = decide (x = y) := by
      show decide (y = x) = _
      by_cases h : x = y
      · rw [h]
      · rw [decide_eq_false h, decide_eq_false (fun z => h z.symm)]
    rw [this]
    by_cases h : x = y <;> simp [h]
theorem pow_ge (n : Nat) (h : 1 ≤ n) : (2 : Int) ≤ 2 ^ n := by
  obtain ⟨k, rfl⟩ : ∃ k, n = k + 1 := ⟨n - 1, by omega⟩
  have : (0 : Int) < 2 ^ k := Int.pow_pos (by decide)
  rw [Int.pow_succ]
  omega
theorem pow_le {n m : Nat} (h : n ≤ m) : (2 : Int) ^ n ≤ 2 ^ m := by
  have h2 : (2 : Nat) ^ n ≤ 2 ^ m := Nat.pow_le_pow_right (by decide) h
  exact_mod_cast h2
/-- the data word of a computing op -/
def resS (op : Str) (n : Nat) (x y : Int) : Int := if op = "rem" then (if y = 0 then 0 else x % y) else if op = "differ" then (if x = y then 0 else 1) else cmpS op n x y
def rsL : List Str := ["rem", "differ", "less", "equal", "mul", "and", "or", "shr", "shl"]
theorem flat_two (a b : Str) : [V.str a, V.str b].all flatV = true := rfl
theorem in_two (x a b : Str) : inV (V.str x) [V.str a, V.str b] = (decide (x = a) || decide (x = b)) := by
  have := inV_strs x [a, b]
  rw [List.map_cons, List.map_cons, List.map_nil] at this
  rw [this]
  by_cases h1 : x = a <;> by_cases h2 : x = b <;> simp [h1, h2]
theorem in_three (x a b c : Str) : inV (V.str x) [V.str a, V.str b, V.str c] = (decide (x = a) || decide (x = b) || decide (x = c)) := by
  have := inV_strs x [a, b, c]
  rw [List.map_cons, List.map_cons, List.map_cons, List.map_nil] at this
  rw [this]
  by_cases h1 : x = a <;> by_cases h2 : x = b <;> by_cases h3 : x = c <;> simp [h1, h2, h3]
section
variable {P : Program} {w : World} {K : PySem.W.Frag} {mg : Str → Option Value} {base : Heap}
def spRes : Sp := fun vs H Q _ => ∃ (op : Str) (n : Nat) (x y : Int), vs = [.str op, .int n, .int x, .int y] ∧ n ≤ 32 ∧ 0 ≤ x ∧ x < 2 ^ n ∧ 0 ≤ y ∧ y < 2 ^ n ∧ op ∈ rsL ∧ ∀ H', KT [] H H' → Q (.int (resS op n x y)) H'
set_option maxHeartbeats 4000000 in
theorem ok_z_result (T : Txt K mg) : FnOk P w K mg base CX0 1 T.f_z_result T.d_z_result ["op", "w", "x", "y"] spRes := by
  refine T.F_z_result.ok sc_z_result (fun vs H Q E h => ?_) (fun cdv A outer s H vs Q E hr h => ?_)
  · obtain ⟨op, n, x, y, rfl, _⟩ := h
    rfl
  · obtain ⟨op, n, x, y, rfl, hn, x0, x1, y0, y1, hop, q⟩ := h
    have hp32 := pow_le (m := 32) hn
    have xl : x < 4294967296 := Int.lt_of_lt_of_le x1 hp32
    have yl : y < 4294967296 := Int.lt_of_lt_of_le y1 hp32
    have et : (1 : Int) * 2 ^ (n : Int).toNat - 1 = 2 ^ n - 1 := by rw [Int.one_mul]; rfl
    refine ⟨_, (pss_cons (ps_if (pt_cmpR op_eq (pv 0) pe_str (nomark _))
        (pss_one (ps_ret (pe_ifExp (pt_cmpR op_eq (pv 3) pe_int (nomark _)) pe_int (pe_op op_sub (pv 2) (pe_op op_mul (pe_op op_fdivW (pv 2) (pv 3)) (pv 3))))))
        pss_nil)
      (pss_cons (ps_if (pt_cmpR op_eq (pv 0) pe_str (nomark _))
        (pss_one (ps_ret (pe_callTy call_int1 (by rfl) T.m_int (by decide +kernel) (pa_cons (pe_cmpR op_ne (pv 2) (pv 3) (nomark _)) pa_nil))))
        pss_nil)
      (pss_cons (ps_if (pt_cmpR op_in_seq (pv 0) (pe_tup (pa_cons pe_str (pa_cons pe_str pa_nil))) (by rfl))
        (pss_one (ps_ret (pe_ifExp (pt_cmpR op_eq (pv 0) pe_str (nomark _)) (pe_callTy call_int1 (by rfl) T.m_int (by decide +kernel) (pa_cons (pe_cmpR op_lt (pv 2) (pv 3) (nomark _)) pa_nil)) (pe_callTy call_int1 (by rfl) T.m_int (by decide +kernel) (pa_cons (pe_cmpR op_eq (pv 2) (pv 3) (nomark _)) pa_nil)))))
        pss_nil)
      (pss_cons (ps_if (pt_cmpR op_eq (pv 0) pe_str (nomark _))
        (pss_one (ps_ret (pe_op op_andM (pe_op op_mul (pv 2) (pv 3)) (pe_op op_sub (pe_op op_shl pe_int (pv 1)) pe_int))))
        pss_nil)
      (pss_cons (ps_if (pt_cmpR op_eq (pv 0) pe_str (nomark _))
        (pss_one (ps_ret (pe_op op_and (pv 2) (pv 3))))
        pss_nil)
      (pss_cons (ps_if (pt_cmpR op_eq (pv 0) pe_str (nomark _))
        (pss_one (ps_ret (pe_op op_or (pv 2) (pv 3))))
        pss_nil)
      (pss_cons (ps_if (pt_cmpR op_ge (pv 3) (pv 1) (nomark _))
        (pss_one (ps_ret pe_int))
        pss_nil)
      (pss_cons (ps_if (pt_cmpR op_eq (pv 0) pe_str (nomark _))
        (pss_one (ps_ret (pe_op op_fdivW (pv 2) (pe_op op_shl pe_int (pv 3)))))
        pss_nil)
      (pss_one (ps_ret (pe_op op_andM (pe_op op_mul (pv 2) (pe_op op_shl pe_int (pv 3))) (pe_op op_sub (pe_op op_shl pe_int (pv 1)) pe_int)))))))))))), ?_⟩
    -- rem
    refine ⟨_, rfl, rfl, _, rfl, ite2 (fun e => ?_) (fun e => ?_)⟩
    · have e1 := str_eq e
      subst e1
      refine ⟨_, rfl, rfl, _, rfl, ite2 (fun e => ?_) (fun e => ?_)⟩
      · have e2 := int_eq e
        have := q H (KT.refl _ _)
        unfold resS at this
        rw [if_pos rfl, if_pos e2] at this
        exact this
      · have e2 := int_ne e
        refine ⟨_, rfl, _, rfl, _, rfl, _, _, rfl, rfl, wide_div (b := 33) (by omega) (by omega) (by decide) (by decide), _, rfl, _, _, rfl, rfl, ?_, _, _, rfl, rfl, ?_⟩
        · right
          omega
        · have := q H (KT.refl _ _)
          unfold resS at this
          rw [if_pos rfl, if_neg e2] at this
          have hh : x - x / y * y = x % y := by
            have := Int.emod_add_mul_ediv x y
            rw [Int.mul_comm] at this
            omega
          dsimp only
          rw [hh]
          exact this
    have n1 := str_ne e
    clear e
    refine ⟨_, rfl, rfl, _, rfl, ite2 (fun e => ?_) (fun e => ?_)⟩
    · have e1 := str_eq e
      subst e1
      refine ⟨_, rfl, _, rfl, rfl, .inr ⟨_, rfl, ?_⟩⟩
      have := q H (KT.refl _ _)
      unfold resS at this
      rw [if_neg n1, if_pos rfl] at this
      by_cases h : x = y
      · rw [if_pos h] at this
        rw [h, decide_eq_true rfl]
        exact this
      · rw [if_neg h] at this
        rw [decide_eq_false (fun z => h (V.int.inj z))]
        exact this
    have n2 := str_ne e
    clear e
    have fin : ∀ H', KT [] H H' → Q (.int (cmpS op n x y)) H' := fun H' k => by
      have := q H' k
      unfold resS at this
      rw [if_neg n1, if_neg n2] at this
      exact this
    clear q
    -- less, equal
    refine ⟨_, rfl, (by show 2 ≤ sizeLine; decide), fun t nt => ⟨t, _, rfl, .inr (SqT.of upd_same), rfl, flat_two _ _, _, rfl, ?_⟩⟩
    have k := KT.new [] nt (o := .tup [V.str "less", V.str "equal"])
    have e9 : (if false = true then !inV (V.str op) [V.str "less", V.str "equal"] else inV (V.str op) [V.str "less", V.str "equal"]) = (decide (op = "less") || decide (op = "equal")) := by rw [if_neg (by decide), in_two]
    refine ite2 (fun e => ?_) (fun e => ?_)
    · have e : (if false = true then !inV (V.str op) [V.str "less", V.str "equal"] else inV (V.str op) [V.str "less", V.str "equal"]) = true := e
      rw [e9] at e
      refine ⟨_, rfl, rfl, _, rfl, ite2 (fun e => ?_) (fun e => ?_)⟩
      · have e1 := str_eq e
        subst e1
        refine ⟨_, rfl, _, rfl, _, _, rfl, rfl, .inr ⟨_, rfl, ?_⟩⟩
        have := fin _ k
        have ec : cmpS "less" n x y = if x < y then 1 else 0 := rfl
        rw [ec] at this
        by_cases h : x < y
        · rw [decide_eq_true h]; rw [if_pos h] at this; exact this
        · rw [decide_eq_false h]; rw [if_neg h] at this; exact this
      · have ne := str_ne e
        rename_i e'
        have e1 : op = "equal" := by
          rw [decide_eq_false ne, Bool.false_or] at e'
          exact of_decide_eq_true e'
        subst e1
        refine ⟨_, rfl, _, rfl, rfl, .inr ⟨_, rfl, ?_⟩⟩
        have := fin _ k
        have ec : cmpS "equal" n x y = if x = y then 1 else 0 := rfl
        rw [ec] at this
        by_cases h : x = y
        · rw [if_pos h] at this
          rw [h, decide_eq_true rfl]
          exact this
        · rw [if_neg h] at this
          rw [decide_eq_false (fun z => h (V.int.inj z))]
          exact this
    have e : ¬ (if false = true then !inV (V.str op) [V.str "less", V.str "equal"] else inV (V.str op) [V.str "less", V.str "equal"]) = true := e
    rw [e9] at e
    have n3 : op ≠ "less" := fun z => e (by rw [decide_eq_true z]; rfl)
    have n4 : op ≠ "equal" := fun z => e (by rw [decide_eq_true z, Bool.or_true])
    clear e e9
    have fin := fin _ k
    -- mul
    refine ⟨_, rfl, rfl, _, rfl, ite2 (fun e => ?_) (fun e => ?_)⟩
    · have e1 := str_eq e
      subst e1
      refine ⟨_, rfl, _, rfl, _, _, rfl, rfl, .inl ⟨by omega, by omega⟩, _, rfl, _, _, rfl, rfl, ⟨by omega, by omega, by decide⟩, _, _, rfl, rfl, _, n, rfl, (by dsimp only; rw [et]), ?_⟩
      exact fin
    have n5 := str_ne e
    clear e
    refine ⟨_, rfl, rfl, _, rfl, ite2 (fun e => ?_) (fun e => ?_)⟩
    · have e1 := str_eq e
      subst e1
      exact ⟨_, rfl, _, rfl, _, _, rfl, rfl, fin⟩
    have n6 := str_ne e
    clear e
    refine ⟨_, rfl, rfl, _, rfl, ite2 (fun e => ?_) (fun e => ?_)⟩
    · have e1 := str_eq e
      subst e1
      exact ⟨_, rfl, _, rfl, _, _, rfl, rfl, fin⟩
    have n7 := str_ne e
    clear e
    have hop2 : op = "shr" ∨ op = "shl" := by
      simp only [rsL, List.mem_cons, List.not_mem_nil, or_false] at hop
      rcases hop with h | h | h | h | h | h | h | h | h
      · exact absurd h n1
      · exact absurd h n2
      · exact absurd h n3
      · exact absurd h n4
      · exact absurd h n5
      · exact absurd h n6
      · exact absurd h n7
      · exact .inl h
      · exact .inr h
    refine ⟨_, rfl, _, rfl, _, _, rfl, rfl, _, rfl, ite2 (fun e => ?_) (fun e => ?_)⟩
    · have e1 : (n : Int) ≤ y := of_decide_eq_true e
      have ec : cmpS op n x y = 0 := by
        rcases hop2 with rfl | rfl
        · show (if (n : Int) ≤ y then (0 : Int) else x / 2 ^ y.toNat) = 0
          rw [if_pos e1]
        · show (if (n : Int) ≤ y then (0 : Int) else (x * 2 ^ y.toNat) % 2 ^ n) = 0
          rw [if_pos e1]
      rw [ec] at fin
      exact fin
    have e1 : ¬ (n : Int) ≤ y := fun z => e (decide_eq_true z)
    clear e
    have hy32 : y < 32 := by omega
    have hyp : (0 : Int) < 2 ^ y.toNat := Int.pow_pos (by decide)
    have hyp2 : (2 : Int) ^ y.toNat ≤ 2 ^ 32 := pow_le (by omega)
    refine ⟨_, rfl, rfl, _, rfl, ite2 (fun e => ?_) (fun e => ?_)⟩
    · have e2 := str_eq e
      subst e2
      refine ⟨_, rfl, _, rfl, _, _, rfl, rfl, ⟨y0, by omega, by decide⟩, _, _, rfl, rfl, wide_div (b := 33) (by rw [Int.one_mul]; exact hyp) (by rw [Int.one_mul]; omega) (by decide) (by decide), ?_⟩
      rw [Int.one_mul]
      have ec : cmpS "shr" n x y = if (n : Int) ≤ y then (0 : Int) else x / 2 ^ y.toNat := rfl
      rw [ec, if_neg e1] at fin
      exact fin
    · have e2 : op = "shl" := hop2.resolve_left (str_ne e)
      subst e2
      refine ⟨_, rfl, _, rfl, _, _, rfl, rfl, ⟨y0, by omega, by decide⟩, _, _, rfl, rfl, .inl ⟨by omega, by omega⟩, _, rfl, _, _, rfl, rfl, ⟨by omega, by omega, by decide⟩, _, _, rfl, rfl, _, n, rfl, (by dsimp only; rw [et]), ?_⟩
      rw [Int.one_mul]
      have ec : cmpS "shl" n x y = if (n : Int) ≤ y then (0 : Int) else (x * 2 ^ y.toNat) % 2 ^ n := rfl
      rw [ec, if_neg e1] at fin
      exact fin
end

end My

set_option Elab.async false
set_option linter.all false
set_option maxRecDepth 100000
namespace My
open PySem PySem.Spec PyProof.Rows L2
/-! ### instructions by their shapes -/
theorem ins_first {n near : Nat} {op : Str} {ps : List Int} (h : InsOk n near op ps) (hh : op ∉ (["skip", "halt", "fail", "bra", "rbra"] : List Str)) : ∃ (a : Nat) (r : List Int), ps = (a : Int) :: r ∧ a < 16 := by
  have key : ∀ k, k < 30 → wdL.getD k "" ∉ (["skip", "halt", "fail", "bra", "rbra"] : List Str) → (shapeOf (wdL.getD k "")).cps.toList[0]? = some 114 := by decide +kernel
  obtain ⟨⟨k, hk, rfl⟩, ln, a, b, c, hin, _, _, hp⟩ := h
  have h0 := key k hk hh
  cases ps with
  | nil =>
    have : (shapeOf (wdL.getD k "")).cps.toList.length = 0 := by rw [Array.length_toList, ← ln]; rfl
    rw [List.getElem?_eq_none (by omega)] at h0
    cases h0
  | cons x r =>
    have := hp 0 114 x h0 rfl
    unfold PtOk at this
    rw [if_pos rfl] at this
    cases this
    obtain ⟨a0, a1⟩ := hin a (by simp)
    exact ⟨a.toNat, r, by rw [Int.toNat_of_nonneg a0], by omega⟩
theorem pts_len {n near : Nat} {op : Str} {ps : List Int} (h : InsOk n near op ps) {cs : List Nat} (e : (shapeOf op).cps.toList = cs) : ps.length = cs.length := by
  rw [h.ln, ← e, Array.length_toList]
theorem ins_r {n near : Nat} {op : Str} {ps : List Int} (h : InsOk n near op ps) (e : (shapeOf op).cps.toList = [114]) : ∃ a : Nat, ps = [(a : Int)] ∧ a < 16 := by
  have hl := pts_len h e
  obtain ⟨_, _, a, b, c, hin, _, _, hp⟩ := h
  rw [e] at hp
  match ps, hl with
  | [x], _ =>
    have := hp 0 114 x rfl rfl
    unfold PtOk at this
    rw [if_pos rfl] at this
    cases this
    obtain ⟨a0, a1⟩ := hin a (by simp)
    exact ⟨a.toNat, by rw [Int.toNat_of_nonneg a0], by omega⟩
theorem ins_rr {n near : Nat} {op : Str} {ps : List Int} (h : InsOk n near op ps) (e : (shapeOf op).cps.toList = [114, 114]) : ∃ a b : Nat, ps = [(a : Int), (b : Int)] ∧ a < 16 ∧ b < 16 ∧ a ≠ b := by
  have hl := pts_len h e
  obtain ⟨_, _, a, b, c, hin, hab, hac, hp⟩ := h
  rw [e] at hp
  match ps, hl with
  | [x, y], _ =>
    have h0 := hp 0 114 x rfl rfl
    have h1 := hp 1 114 y rfl rfl
    unfold PtOk at h0 h1
    rw [if_pos rfl] at h0 h1
    cases h0
    cases h1
    obtain ⟨a0, a1⟩ := hin a (by simp)
    obtain ⟨b0, b1⟩ := hin b (by simp)
    exact ⟨a.toNat, b.toNat, by rw [Int.toNat_of_nonneg a0, Int.toNat_of_nonneg b0], by omega, by omega, by omega⟩
theorem ins_rrr {n near : Nat} {op : Str} {ps : List Int} (h : InsOk n near op ps) (e : (shapeOf op).cps.toList = [114, 114, 114]) : ∃ a b c : Nat, ps = [(a : Int), (b : Int), (c : Int)] ∧ a < 16 ∧ b < 16 ∧ c < 16 ∧ a ≠ b ∧ a ≠ c := by
  have hl := pts_len h e
  obtain ⟨_, _, a, b, c, hin, hab, hac, hp⟩ := h
  rw [e] at hp
  match ps, hl with
  | [x, y, z], _ =>
    have h0 := hp 0 114 x rfl rfl
    have h1 := hp 1 114 y rfl rfl
    have h2 := hp 2 114 z rfl rfl
    unfold PtOk at h0 h1 h2
    rw [if_pos rfl] at h0 h1 h2
    cases h0
    cases h1
    cases h2
    obtain ⟨a0, a1⟩ := hin a (by simp)
    obtain ⟨b0, b1⟩ := hin b (by simp)
    obtain ⟨c0, c1⟩ := hin c (by simp)
    exact ⟨a.toNat, b.toNat, c.toNat, by rw [Int.toNat_of_nonneg a0, Int.toNat_of_nonneg b0, Int.toNat_of_nonneg c0], by omega, by omega, by omega, by omega, by omega⟩
theorem ins_rn {n near : Nat} {op : Str} {ps : List Int} (h : InsOk n near op ps) (e : (shapeOf op).cps.toList = [114, 110]) : ∃ (a : Nat) (x : Int), ps = [(a : Int), x] ∧ a < 16 ∧ 0 ≤ x ∧ x < 2 ^ n := by
  have hl := pts_len h e
  obtain ⟨_, _, a, b, c, hin, hab, hac, hp⟩ := h
  rw [e] at hp
  match ps, hl with
  | [x, y], _ =>
    have h0 := hp 0 114 x rfl rfl
    have h1 := hp 1 110 y rfl rfl
    unfold PtOk at h0 h1
    rw [if_pos rfl] at h0
    rw [if_neg (by decide), if_pos rfl] at h1
    cases h0
    obtain ⟨a0, a1⟩ := hin a (by simp)
    exact ⟨a.toNat, y, by rw [Int.toNat_of_nonneg a0], by omega, h1⟩
theorem ins_rm {n near : Nat} {op : Str} {ps : List Int} (h : InsOk n near op ps) (e : (shapeOf op).cps.toList = [114, 109]) : ∃ (a : Nat) (x : Int), ps = [(a : Int), x] ∧ a < 16 ∧ 0 ≤ x ∧ x < 2 ^ 32 := by
  have hl := pts_len h e
  obtain ⟨_, _, a, b, c, hin, hab, hac, hp⟩ := h
  rw [e] at hp
  match ps, hl with
  | [x, y], _ =>
    have h0 := hp 0 114 x rfl rfl
    have h1 := hp 1 109 y rfl rfl
    unfold PtOk at h0 h1
    rw [if_pos rfl] at h0
    rw [if_neg (by decide), if_neg (by decide), if_pos rfl] at h1
    cases h0
    obtain ⟨a0, a1⟩ := hin a (by simp)
    exact ⟨a.toNat, y, by rw [Int.toNat_of_nonneg a0], by omega, h1⟩
theorem ins_rrm {n near : Nat} {op : Str} {ps : List Int} (h : InsOk n near op ps) (e : (shapeOf op).cps.toList = [114, 114, 109]) : ∃ (a b : Nat) (x : Int), ps = [(a : Int), (b : Int), x] ∧ a < 16 ∧ b < 16 ∧ a ≠ b ∧ 0 ≤ x ∧ x < 2 ^ 32 := by
  have hl := pts_len h e
  obtain ⟨_, _, a, b, c, hin, hab, hac, hp⟩ := h
  rw [e] at hp
  match ps, hl with
  | [x, y, z], _ =>
    have h0 := hp 0 114 x rfl rfl
    have h1 := hp 1 114 y rfl rfl
    have h2 := hp 2 109 z rfl rfl
    unfold PtOk at h0 h1 h2
    rw [if_pos rfl] at h0 h1
    rw [if_neg (by decide), if_neg (by decide), if_pos rfl] at h2
    cases h0
    cases h1
    obtain ⟨a0, a1⟩ := hin a (by simp)
    obtain ⟨b0, b1⟩ := hin b (by simp)
    exact ⟨a.toNat, b.toNat, z, by rw [Int.toNat_of_nonneg a0, Int.toNat_of_nonneg b0], by omega, by omega, by omega, h2⟩
theorem ins_o {n near : Nat} {op : Str} {ps : List Int} (h : InsOk n near op ps) (e : (shapeOf op).cps.toList = [111]) : ∃ x : Int, ps = [x] ∧ -(near : Int) ≤ x ∧ x ≤ near := by
  have hl := pts_len h e
  obtain ⟨_, _, a, b, c, hin, hab, hac, hp⟩ := h
  rw [e] at hp
  match ps, hl with
  | [x], _ =>
    have h1 := hp 0 111 x rfl rfl
    unfold PtOk at h1
    rw [if_neg (by decide), if_neg (by decide), if_neg (by decide), if_pos rfl] at h1
    exact ⟨x, rfl, h1⟩
theorem ins_ro {n near : Nat} {op : Str} {ps : List Int} (h : InsOk n near op ps) (e : (shapeOf op).cps.toList = [114, 111]) : ∃ (a : Nat) (x : Int), ps = [(a : Int), x] ∧ a < 16 ∧ -(near : Int) ≤ x ∧ x ≤ near := by
  have hl := pts_len h e
  obtain ⟨_, _, a, b, c, hin, hab, hac, hp⟩ := h
  rw [e] at hp
  match ps, hl with
  | [x, y], _ =>
    have h0 := hp 0 114 x rfl rfl
    have h1 := hp 1 111 y rfl rfl
    unfold PtOk at h0 h1
    rw [if_pos rfl] at h0
    rw [if_neg (by decide), if_neg (by decide), if_neg (by decide), if_pos rfl] at h1
    cases h0
    obtain ⟨a0, a1⟩ := hin a (by simp)
    exact ⟨a.toNat, y, by rw [Int.toNat_of_nonneg a0], by omega, h1⟩
/-! ### what an instruction does -/
def gR (S : Mst) (i : Int) : Int := S.regs.getD i.toNat 0
def Mst.put (S : Mst) (i : Int) (x : Int) : Mst := { S with regs := S.regs.set i.toNat x }
/-- the low part of a word into a register -/
def chg (n : Nat) (S : Mst) (i : Int) (x : Int) : Mst := S.put i (gR S i - gR S i % 2 ^ n + x % 2 ^ n)
def actS (n : Nat) (op : Str) (ps : List Int) (sg : Int) (S : Mst) : Mst :=
  let a := ps.getD 0 0
  let b := ps.getD 1 0
  let c := ps.getD 2 0
  if op = "skip" ∨ op = "halt" ∨ op = "fail" then S
  else if op = "bra" then { S with br := (S.br + sg * a) % 2 ^ 32 }
  else if op = "brz" then (if gR S a % 2 ^ n = 0 then { S with br := (S.br + sg * b) % 2 ^ 32 } else S)
  else if op = "brn" then (if gR S a % 2 ^ n = 0 then S else { S with br := (S.br + sg * b) % 2 ^ 32 })
  else if op = "add" then chg n S a (gR S a + sg * gR S b)
  else if op = "sub" then chg n S a (gR S a - sg * gR S b)
  else if op = "addi" then chg n S a (gR S a + sg * b)
  else if op = "xor" then chg n S a (Builtin.bitXor (gR S a) (gR S b))
  else if op = "xori" then chg n S a (Builtin.bitXor (gR S a) b)
  else if op = "test" then (if gR S b % 2 ^ n = 0 then S else chg n S a (Builtin.bitXor (gR S a) 1))
  else if op = "over" then (if c ≤ gR S b then chg n S a (Builtin.bitXor (gR S a) 1) else S)
  else if op = "addr" then S.put a ((gR S a + sg * gR S b) % 2 ^ 32)
  else if op = "subr" then S.put a ((gR S a - sg * gR S b) % 2 ^ 32)
  else if op = "addl" then S.put a ((gR S a + sg * b) % 2 ^ 32)
  else if op = "neg" then S.put a ((-gR S a) % 2 ^ 32)
  else if op = "swap" then (S.put a (gR S b)).put b (gR S a)
  else if op = "swapbr" then { S.put a S.br with br := gR S a }
  else if op = "exch" then { S.put a (S.mem.getD (gR S b % S.mem.length).toNat 0) with mem := S.mem.set (gR S b % S.mem.length).toNat (gR S a) }
  else chg n S a (Builtin.bitXor (gR S a) (resS op n (gR S b % 2 ^ n) (gR S c % 2 ^ n)))
theorem Mst.Ok.g {S : Mst} (h : S.Ok) {a : Nat} (ha : a < 16) : W32 (gR S a) ∧ (S.regs.map V.int)[a]? = some (.int (gR S a)) := by
  have hl : a < S.regs.length := by rw [h.r16]; exact ha
  have e : gR S a = S.regs[a] := by
    unfold gR
    rw [Int.toNat_natCast, List.getD_eq_getElem?_getD, List.getElem?_eq_getElem hl]
    rfl
  refine ⟨by rw [e]; exact h.rw _ (List.getElem_mem hl), ?_⟩
  rw [List.getElem?_map, List.getElem?_eq_getElem hl, e]
  rfl

end My

set_option Elab.async false
set_option linter.all false
set_option maxRecDepth 100000
namespace My
open PySem PySem.Spec PyProof.Rows L2
def mK (ra ma : Addr) (b : Int) : List (Key × V) := [(.inr "r", .ref ra), (.inr "br", .int b), (.inr "memory", .ref ma)]
/-- the law's own machine that changes -/
structure MV (H : Hp) (m ra ma : Addr) (S : Mst) : Prop where
  hm : H m = some (.dK (mK ra ma S.br))
  hr : H ra = some (.lst (S.regs.map V.int))
  ha : H ma = some (.lst (S.mem.map V.int))
  ne : ra ≠ ma
theorem mK_r (ra ma : Addr) (b : Int) : valV (mK ra ma b) (.inr "r") = some (.ref ra) := rfl
theorem mK_br (ra ma : Addr) (b : Int) : valV (mK ra ma b) (.inr "br") = some (.int b) := by kernel_rfl
theorem mK_mem (ra ma : Addr) (b : Int) : valV (mK ra ma b) (.inr "memory") = some (.ref ma) := by kernel_rfl
theorem mK_put (ra ma : Addr) (b c : Int) : putK (mK ra ma b) (.inr "br") (.int c) = mK ra ma c := by kernel_rfl
theorem MV.keep {H H' : Hp} {m ra ma : Addr} {S : Mst} (h : MV H m ra ma S) (k : KT [] H H') : MV H' m ra ma S := ⟨k.same _ _ h.hm, k.same _ _ h.hr, k.same _ _ h.ha, h.ne⟩
theorem MV.rm {H : Hp} {m ra ma : Addr} {S : Mst} (h : MV H m ra ma S) : m ≠ ra ∧ m ≠ ma := by
  constructor
  · intro z
    have a := h.hm
    rw [z, h.hr] at a
    cases a
  · intro z
    have a := h.hm
    rw [z, h.ha] at a
    cases a
/-- a new br -/
theorem MV.setBr {H : Hp} {m ra ma : Addr} {S : Mst} (h : MV H m ra ma S) (c : Int) : MV (upd H m (.dK (mK ra ma c))) m ra ma { S with br := c } :=
  ⟨upd_same, by rw [upd_ne (Ne.symm h.rm.1)]; exact h.hr, by rw [upd_ne (Ne.symm h.rm.2)]; exact h.ha, h.ne⟩
/-- a register changes -/
theorem MV.setR {H : Hp} {m ra ma : Addr} {S : Mst} (h : MV H m ra ma S) (a : Nat) (x : Int) : MV (upd H ra (.lst ((S.regs.map V.int).set a (.int x)))) m ra ma (S.put (a : Int) x) :=
  ⟨by rw [upd_ne h.rm.1]; exact h.hm, by rw [upd_same, ← List.map_set]; rfl, by rw [upd_ne (Ne.symm h.ne)]; exact h.ha, h.ne⟩
/-- a cell changes -/
theorem MV.setM {H : Hp} {m ra ma : Addr} {S : Mst} (h : MV H m ra ma S) (k : Nat) (x : Int) : MV (upd H ma (.lst ((S.mem.map V.int).set k (.int x)))) m ra ma { S with mem := S.mem.set k x } :=
  ⟨by rw [upd_ne h.rm.2]; exact h.hm, by rw [upd_ne h.ne]; exact h.hr, by rw [upd_same, ← List.map_set], h.ne⟩
theorem KT.setL {L : List Addr} {H : Hp} {p : Addr} {xs : List Int} {o : HO} (hp : p ∈ L) (h : H p = some (.lst (xs.map V.int))) : KT L H (upd H p o) :=
  ⟨fun b x n e => by rw [upd_ne (fun z => n (by rw [z]; exact hp))]; exact e, fun b x e => by rw [upd_ne (fun z => by rw [z, h] at e; cases e)]; exact e, fun b x u e => by rw [upd_ne (fun z => by rw [z, h] at e; cases e)]; exact e,
    fun b x e => by
    by_cases z : b = p
    · exact ⟨o, by rw [z, upd_same]⟩
    · exact ⟨x, by rw [upd_ne z]; exact e⟩,
    fun b c t e => ⟨t, by
      rw [upd_ne (fun z => by
        rw [z, h] at e
        cases xs with
        | nil => cases e
        | cons y r => cases e)]
      exact e⟩⟩
theorem low_add {g y z f N : Int} (h : y % N = z % N) : (g % N + f * y) % N = (g + f * z) % N := by
  rw [Int.add_emod, Int.emod_emod, Int.mul_emod, h, ← Int.mul_emod, ← Int.add_emod]
theorem mask (x : Int) (n : Nat) : Builtin.bitAnd x (2 ^ n - 1) = x % 2 ^ n := PySem.W.kbt_mask ..
theorem mask32 (x : Int) : Builtin.bitAnd x 4294967295 = x % 2 ^ 32 := by
  have h := mask x 32
  exact h
theorem ixn_nat {n m : Nat} (h : n < m) : ixN m (n : Int) = some n := by
  have h1 : (0 : Int) ≤ n := by omega
  have h2 : (n : Int) < m := by omega
  simp only [ixN, h1, h2, if_true, Int.toNat_natCast]
theorem Mst.put_self {S : Mst} (h : S.Ok) {a : Nat} (ha : a < 16) : S.put (a : Int) (gR S a) = S := by
  have hl : a < S.regs.length := by rw [h.r16]; exact ha
  unfold Mst.put gR
  rw [Int.toNat_natCast, List.getD_eq_getElem?_getD, List.getElem?_eq_getElem hl]
  show { S with regs := S.regs.set a S.regs[a] } = S
  rw [List.set_getElem_self]
theorem bitXor_zero {x : Int} (h : 0 ≤ x) : Builtin.bitXor x 0 = x := by
  obtain ⟨X, rfl⟩ := int_nat h
  have := bitXor_nat X 0
  rw [Nat.xor_zero] at this
  exact this
theorem xor_zero_put {S : Mst} (h : S.Ok) {a : Nat} (ha : a < 16) (n : Nat) : S.put (a : Int) (gR S a - gR S a % 2 ^ n + Builtin.bitXor (gR S a % 2 ^ n) 0) = S := by
  have hp : (0 : Int) < 2 ^ n := Int.pow_pos (by decide)
  rw [bitXor_zero (Int.emod_nonneg _ (Int.ne_of_gt hp)), Int.sub_add_cancel]
  exact S.put_self h ha
theorem xor_one_put {S : Mst} {a : Nat} (ha : a < 16) (h : S.Ok) {n : Nat} (hn : 1 ≤ n) : S.put (a : Int) (gR S a - gR S a % 2 ^ n + Builtin.bitXor (gR S a % 2 ^ n) 1) = chg n S a (Builtin.bitXor (gR S a) 1) := by
  have e1 : (1 : Int) % 2 ^ n = 1 := Int.emod_eq_of_lt (by decide) (by have := pow_ge n hn; omega)
  unfold chg
  rw [low_xor n (h.g ha).1.1, e1]
theorem atN {xs : List V} {i : Int} {v : V} (n : Nat) (h : i = n) (e : xs[n]? = some v) : atI xs i = some v := by
  rw [h]
  exact atI_nat e
def prL : List Str := ["skip", "halt", "fail", "rbra", "bra", "brz", "brn", "add", "sub", "addi", "xor", "xori", "test", "over", "addr", "subr", "addl", "neg", "swap", "swapbr", "exch"]
theorem resS_lt {op : Str} {n : Nat} {x y : Int} (h : op ∈ rsL) (hn : 1 ≤ n) (x0 : 0 ≤ x) (x1 : x < 2 ^ n) (y0 : 0 ≤ y) (y1 : y < 2 ^ n) : 0 ≤ resS op n x y ∧ resS op n x y < 2 ^ n := by
  have hp2 := pow_ge n hn
  have hp : (0 : Int) < 2 ^ n := by omega
  simp only [rsL, List.mem_cons, List.not_mem_nil, or_false] at h
  rcases h with rfl | rfl | rfl | rfl | rfl | rfl | rfl | rfl | rfl
  · show 0 ≤ (if y = 0 then 0 else x % y) ∧ (if y = 0 then 0 else x % y) < _
    split
    · omega
    · have h1 := Int.emod_nonneg x (show y ≠ 0 by assumption)
      have h2 := Int.emod_lt_of_pos x (show 0 < y by omega)
      omega
  · show 0 ≤ (if x = y then (0 : Int) else 1) ∧ (if x = y then (0 : Int) else 1) < _
    split <;> omega
  · show 0 ≤ (if x < y then (1 : Int) else 0) ∧ (if x < y then (1 : Int) else 0) < _
    split <;> omega
  · show 0 ≤ (if x = y then (1 : Int) else 0) ∧ (if x = y then (1 : Int) else 0) < _
    split <;> omega
  · exact ⟨Int.emod_nonneg _ (Int.ne_of_gt hp), Int.emod_lt_of_pos _ hp⟩
  · obtain ⟨X, rfl⟩ := int_nat x0
    obtain ⟨Y, rfl⟩ := int_nat y0
    show 0 ≤ Builtin.bitAnd (X : Int) (Y : Int) ∧ Builtin.bitAnd (X : Int) (Y : Int) < _
    rw [bitAnd_nat]
    have : X &&& Y ≤ X := Nat.and_le_left
    omega
  · obtain ⟨X, rfl⟩ := int_nat x0
    obtain ⟨Y, rfl⟩ := int_nat y0
    show 0 ≤ Builtin.bitOr (X : Int) (Y : Int) ∧ Builtin.bitOr (X : Int) (Y : Int) < _
    rw [bitOr_nat]
    have e : ((2 : Int) ^ n) = ((2 ^ n : Nat) : Int) := by exact_mod_cast rfl
    rw [e] at x1 y1 ⊢
    have : X ||| Y < 2 ^ n := Nat.or_lt_two_pow (by omega) (by omega)
    omega
  · show 0 ≤ (if (n : Int) ≤ y then (0 : Int) else x / 2 ^ y.toNat) ∧ (if (n : Int) ≤ y then (0 : Int) else x / 2 ^ y.toNat) < _
    split
    · omega
    · have hq : (0 : Int) < 2 ^ y.toNat := Int.pow_pos (by decide)
      have h1 := Int.ediv_nonneg x0 (Int.le_of_lt hq)
      have h2 := Int.ediv_le_self (2 ^ y.toNat) x0
      omega
  · show 0 ≤ (if (n : Int) ≤ y then (0 : Int) else (x * 2 ^ y.toNat) % 2 ^ n) ∧ (if (n : Int) ≤ y then (0 : Int) else (x * 2 ^ y.toNat) % 2 ^ n) < _
    split
    · omega
    · exact ⟨Int.emod_nonneg _ (Int.ne_of_gt hp), Int.emod_lt_of_pos _ hp⟩
section
variable {P : Program} {w : World} {K : PySem.W.Frag} {mg : Str → Option Value} {base : Heap}
def spAct : Sp := fun vs H Q _ => ∃ (m ra ma : Addr) (n near : Nat) (v : V) (op : Str) (ps : List Int) (sg : Int) (S : Mst), vs = [.ref m, .int n, v, .int sg] ∧ 1 ≤ n ∧ n ≤ 32 ∧ near ≤ 5 ∧ InsV H v (op, ps) ∧ InsOk n near op ps ∧ op ≠ "rbra" ∧ (sg = 1 ∨ sg = -1) ∧ MV H m ra ma S ∧ S.Ok ∧
  ∀ H', KT [m, ra, ma] H H' → MV H' m ra ma (actS n op ps sg S) → Q .non H'
set_option maxHeartbeats 8000000 in
theorem ok_z_act (T : Txt K mg) : FnOk P w K mg base CX0 2 T.f_z_act T.d_z_act ["m", "w", "ins", "sign"] spAct := by
  have G_z_result := ok_z_result (P := P) (w := w) (base := base) T
  refine T.F_z_act.ok sc_z_act (fun vs H Q E h => ?_) (fun cdv A outer s H vs Q E hr h => ?_)
  · obtain ⟨m, ra, ma, n, near, v, op, ps, sg, S, rfl, _⟩ := h
    rfl
  · obtain ⟨m, ra, ma, n, near, v, op, ps, sg, S, rfl, hn1, hn, hnear, ⟨t, rfl, ht⟩, hi, hnb, hsg, hM, hS, q⟩ := h
    have et : (1 : Int) * 2 ^ (n : Int).toNat - 1 = 2 ^ n - 1 := by rw [Int.one_mul]; rfl
    have hp : (0 : Int) < 2 ^ n := Int.pow_pos (by decide)
    refine ⟨_, (pss_cons (ps_set (i := 4) sc_z_act.nd rfl (Or.inl rfl) (pe_ix ix_tup (pv 2) pe_int (fun _ _ => rfl)))
      (pss_cons (ps_set (i := 5) sc_z_act.nd rfl (Or.inl rfl) (pe_op op_sub (pe_op op_shl pe_int (pv 1)) pe_int))
      (pss_cons (ps_set (i := 6) sc_z_act.nd rfl (Or.inl rfl) (pe_dget (hu_of hr) (pv 0) pe_str (fun _ _ => rfl)))
      (pss_cons (ps_if (pt_cmpR op_in_seq (pv 4) (pe_tup (pa_cons pe_str (pa_cons pe_str (pa_cons pe_str pa_nil)))) (by rfl))
        (pss_one ps_retN)
        pss_nil)
      (pss_cons (ps_if (pt_cmpR op_in_seq (pv 4) (pe_tup (pa_cons pe_str (pa_cons pe_str (pa_cons pe_str pa_nil)))) (by rfl))
        (pss_cons (ps_cut (ps_if (PW.pt (pw_or (pt_cmpR op_eq (pv 4) pe_str (nomark _)) (pw_or1 (pt_cmpR op_eq (pe_cmpR op_eq (pe_op op_and (pe_ix ix_list (pv 6) (pe_ix ix_tup (pv 2) pe_int (fun _ _ => rfl)) (fun _ _ => rfl)) (pv 5)) pe_int (nomark _)) (pe_cmpR op_eq (pv 4) pe_str (nomark _)) (nomark _)))))
          (pss_one (ps_dput (hu_of hr) (pv 0) pe_str (pe_op op_and (pe_op op_add (pe_dget (hu_of hr) (pv 0) pe_str (fun _ _ => rfl)) (pe_op op_mul (pv 3) (pe_ix ix_tup (pv 2) (pe_op op_sub (pe_callB call_len_seq (by rfl) T.m_len (by decide +kernel) (pa_cons (pv 2) pa_nil)) pe_int) (fun _ _ => rfl)))) pe_int) rfl))
          pss_nil))
        (pss_one ps_retN))
        pss_nil)
      (pss_cons (ps_set (i := 7) sc_z_act.nd rfl (Or.inl rfl) (pe_ix ix_tup (pv 2) pe_int (fun _ _ => rfl)))
      (pss_cons (ps_set (i := 8) sc_z_act.nd rfl (Or.inl rfl) (pe_op op_and (pe_ix ix_list (pv 6) (pv 7) (fun _ _ => rfl)) (pv 5)))
      (pss_cons (ps_set (i := 9) sc_z_act.nd rfl (Or.inl rfl) (pe_op op_sub (pe_ix ix_list (pv 6) (pv 7) (fun _ _ => rfl)) (pv 8)))
      (pss_one (ps_if (pt_cmpR op_in_seq (pv 4) (pe_tup (pa_cons pe_str (pa_cons pe_str (pa_cons pe_str pa_nil)))) (by rfl))
        (pss_cons (ps_set (i := 10) sc_z_act.nd rfl (Or.inl rfl) (pe_cut (pe_ifExp (pt_cmpR op_eq (pv 4) pe_str (nomark _)) (pe_ix ix_tup (pv 2) pe_int (fun _ _ => rfl)) (pe_op op_and (pe_ix ix_list (pv 6) (pe_ix ix_tup (pv 2) pe_int (fun _ _ => rfl)) (fun _ _ => rfl)) (pv 5)))))
        (pss_cons (ps_cut (ps_if (pt_cmpR op_eq (pe_cmpR op_eq (pv 4) pe_str (nomark _)) (pe_cmpR op_eq (pv 3) pe_int (nomark _)) (nomark _))
          (pss_one (ps_set (i := 10) sc_z_act.nd rfl (Or.inl rfl) (pe_un un_neg (pv 10))))
          pss_nil))
        (pss_one (ps_asg (pe_op op_add (pv 9) (pe_op op_and (pe_op op_add (pv 8) (pv 10)) (pv 5))) (pg_sub (pv 6) (pv 7) set_list)))))
        (pss_one (ps_if (pt_cmpR op_in_seq (pv 4) (pe_tup (pa_cons pe_str (pa_cons pe_str pa_nil))) (by rfl))
          (pss_one (ps_asg (pe_op op_add (pv 9) (pe_op op_xor (pv 8) (pe_cut (pe_ifExp (pt_cmpR op_eq (pv 4) pe_str (nomark _)) (pe_ix ix_tup (pv 2) pe_int (fun _ _ => rfl)) (pe_op op_and (pe_ix ix_list (pv 6) (pe_ix ix_tup (pv 2) pe_int (fun _ _ => rfl)) (fun _ _ => rfl)) (pv 5)))))) (pg_sub (pv 6) (pv 7) set_list)))
          (pss_one (ps_if (pt_cmpR op_eq (pv 4) pe_str (nomark _))
            (pss_one (ps_asg (pe_op op_add (pv 9) (pe_op op_xor (pv 8) (pe_callTy call_int1 (by rfl) T.m_int (by decide +kernel) (pa_cons (pe_cmpR op_ne (pe_op op_and (pe_ix ix_list (pv 6) (pe_ix ix_tup (pv 2) pe_int (fun _ _ => rfl)) (fun _ _ => rfl)) (pv 5)) pe_int (nomark _)) pa_nil)))) (pg_sub (pv 6) (pv 7) set_list)))
            (pss_one (ps_if (pt_cmpR op_eq (pv 4) pe_str (nomark _))
              (pss_one (ps_asg (pe_op op_add (pv 9) (pe_op op_xor (pv 8) (pe_callTy call_int1 (by rfl) T.m_int (by decide +kernel) (pa_cons (pe_cmpR op_ge (pe_ix ix_list (pv 6) (pe_ix ix_tup (pv 2) pe_int (fun _ _ => rfl)) (fun _ _ => rfl)) (pe_ix ix_tup (pv 2) pe_int (fun _ _ => rfl)) (nomark _)) pa_nil)))) (pg_sub (pv 6) (pv 7) set_list)))
              (pss_one (ps_if (pt_cmpR op_in_seq (pv 4) (pe_tup (pa_cons pe_str (pa_cons pe_str (pa_cons pe_str pa_nil)))) (by rfl))
                (pss_cons (ps_set (i := 10) sc_z_act.nd rfl (Or.inl rfl) (pe_cut (pe_ifExp (pt_cmpR op_eq (pv 4) pe_str (nomark _)) (pe_ix ix_tup (pv 2) pe_int (fun _ _ => rfl)) (pe_ix ix_list (pv 6) (pe_ix ix_tup (pv 2) pe_int (fun _ _ => rfl)) (fun _ _ => rfl)))))
                (pss_cons (ps_cut (ps_if (pt_cmpR op_eq (pe_cmpR op_eq (pv 4) pe_str (nomark _)) (pe_cmpR op_eq (pv 3) pe_int (nomark _)) (nomark _))
                  (pss_one (ps_set (i := 10) sc_z_act.nd rfl (Or.inl rfl) (pe_un un_neg (pv 10))))
                  pss_nil))
                (pss_one (ps_asg (pe_op op_and (pe_op op_add (pe_ix ix_list (pv 6) (pv 7) (fun _ _ => rfl)) (pv 10)) pe_int) (pg_sub (pv 6) (pv 7) set_list)))))
                (pss_one (ps_if (pt_cmpR op_eq (pv 4) pe_str (nomark _))
                  (pss_one (ps_asg (pe_op op_and (pe_op op_sub pe_int (pe_ix ix_list (pv 6) (pv 7) (fun _ _ => rfl))) pe_int) (pg_sub (pv 6) (pv 7) set_list)))
                  (pss_one (ps_if (pt_cmpR op_eq (pv 4) pe_str (nomark _))
                    (pss_one (ps_asg (pe_tup (pa_cons (pe_ix ix_list (pv 6) (pe_ix ix_tup (pv 2) pe_int (fun _ _ => rfl)) (fun _ _ => rfl)) (pa_cons (pe_ix ix_list (pv 6) (pv 7) (fun _ _ => rfl)) pa_nil))) (pg_tup (by rfl) (pgs_cons (pg_sub (pv 6) (pv 7) set_list) (pgs_cons (pg_sub (pv 6) (pe_ix ix_tup (pv 2) pe_int (fun _ _ => rfl)) set_list) pgs_nil)))))
                    (pss_one (ps_if (pt_cmpR op_eq (pv 4) pe_str (nomark _))
                      (pss_one (ps_asg (pe_tup (pa_cons (pe_dget (hu_of hr) (pv 0) pe_str (fun _ _ => rfl)) (pa_cons (pe_ix ix_list (pv 6) (pv 7) (fun _ _ => rfl)) pa_nil))) (pg_tup (by rfl) (pgs_cons (pg_sub (pv 6) (pv 7) set_list) (pgs_cons (pg_sub (pv 0) pe_str (set_dict (hu_of hr))) pgs_nil)))))
                      (pss_one (ps_if (pt_cmpR op_eq (pv 4) pe_str (nomark _))
                        (pss_cons (ps_set (i := 11) sc_z_act.nd rfl (Or.inl rfl) (pe_op op_modN (pe_callTy call_int1 (by rfl) T.m_int (by decide +kernel) (pa_cons (pe_ix ix_list (pv 6) (pe_ix ix_tup (pv 2) pe_int (fun _ _ => rfl)) (fun _ _ => rfl)) pa_nil)) (pe_callB call_len_seq (by rfl) T.m_len (by decide +kernel) (pa_cons (pe_dget (hu_of hr) (pv 0) pe_str (fun _ _ => rfl)) pa_nil))))
                        (pss_one (ps_asg (pe_tup (pa_cons (pe_ix ix_list (pe_dget (hu_of hr) (pv 0) pe_str (fun _ _ => rfl)) (pv 11) (fun _ _ => rfl)) (pa_cons (pe_ix ix_list (pv 6) (pv 7) (fun _ _ => rfl)) pa_nil))) (pg_tup (by rfl) (pgs_cons (pg_sub (pv 6) (pv 7) set_list) (pgs_cons (pg_sub (pe_dget (hu_of hr) (pv 0) pe_str (fun _ _ => rfl)) (pv 11) set_list) pgs_nil))))))
                        (pss_one (ps_asg (pe_op op_add (pv 9) (pe_op op_xor (pv 8) (pe_call G_z_result (hr.mono (by omega)) (by rfl) T.g_z_result T.F_z_result.kp T.b_z_result .nil pass0 (pa_cons (pv 4) (pa_cons (pv 1) (pa_cons (pe_op op_and (pe_ix ix_list (pv 6) (pe_ix ix_tup (pv 2) pe_int (fun _ _ => rfl)) (fun _ _ => rfl)) (pv 5)) (pa_cons (pe_op op_and (pe_ix ix_list (pv 6) (pe_ix ix_tup (pv 2) pe_int (fun _ _ => rfl)) (fun _ _ => rfl)) (pv 5)) pa_nil))))))) (pg_sub (pv 6) (pv 7) set_list))))))))))))))))))))))))))))), ?_⟩
    refine ⟨_, rfl, t, _, _, _, rfl, rfl, SqT.of ht, atN 0 rfl rfl, ?_⟩
    refine ⟨_, rfl, _, _, rfl, rfl, ⟨by omega, by omega, by decide⟩, _, _, rfl, rfl, ?_⟩
    dsimp only
    rw [et]
    refine ⟨_, rfl, _, _, rfl, dget_s hM.hm (mK_r ..), ?_⟩
    -- skip, halt, fail
    refine ⟨_, rfl, (by show 3 ≤ sizeLine; decide), fun t1 nt1 => ⟨t1, _, rfl, .inr (SqT.of upd_same), rfl, rfl, _, rfl, ?_⟩⟩
    have k1 := KT.new [] nt1 (o := .tup [V.str "skip", V.str "halt", V.str "fail"])
    have e9 : (if false = true then !inV (V.str op) [V.str "skip", V.str "halt", V.str "fail"] else inV (V.str op) [V.str "skip", V.str "halt", V.str "fail"]) = (decide (op = "skip") || decide (op = "halt") || decide (op = "fail")) := by rw [if_neg (by decide), in_three]
    refine ite2 (fun e => ?_) (fun e => ?_)
    · have e : (if false = true then !inV (V.str op) [V.str "skip", V.str "halt", V.str "fail"] else inV (V.str op) [V.str "skip", V.str "halt", V.str "fail"]) = true := e
      rw [e9] at e
      have e2 : op = "skip" ∨ op = "halt" ∨ op = "fail" := by
        simpa [or_assoc] using e
      have ea : actS n op ps sg S = S := by
        unfold actS
        rw [if_pos e2]
      have := q _ (k1.mono (fun _ h => (nomatch h))) (by rw [ea]; exact hM.keep k1)
      exact this
    have e : ¬ (if false = true then !inV (V.str op) [V.str "skip", V.str "halt", V.str "fail"] else inV (V.str op) [V.str "skip", V.str "halt", V.str "fail"]) = true := e
    rw [e9] at e
    have n3 : ¬ (op = "skip" ∨ op = "halt" ∨ op = "fail") := by
      intro z
      apply e
      simpa [or_assoc] using z
    clear e e9
    -- bra, brz, brn
    have M1 := hM.keep k1
    have ht1 := k1.tp _ _ ht
    refine ⟨_, rfl, (by show 3 ≤ sizeLine; decide), fun t2 nt2 => ⟨t2, _, rfl, .inr (SqT.of upd_same), rfl, rfl, _, rfl, ?_⟩⟩
    have k2 := KT.new [] nt2 (o := .tup [V.str "bra", V.str "brz", V.str "brn"])
    have M2 := M1.keep k2
    have ht2 := k2.tp _ _ ht1
    have kk := (k1.trans k2)
    have e9 : (if false = true then !inV (V.str op) [V.str "bra", V.str "brz", V.str "brn"] else inV (V.str op) [V.str "bra", V.str "brz", V.str "brn"]) = (decide (op = "bra") || decide (op = "brz") || decide (op = "brn")) := by rw [if_neg (by decide), in_three]
    refine ite2 (fun e => ?_) (fun e => ?_)
    · have e : (if false = true then !inV (V.str op) [V.str "bra", V.str "brz", V.str "brn"] else inV (V.str op) [V.str "bra", V.str "brz", V.str "brn"]) = true := e
      rw [e9] at e
      have e2 : op = "bra" ∨ op = "brz" ∨ op = "brn" := by
        simpa [or_assoc] using e
      clear e e9
      generalize upd (upd H t1 (HO.tup [V.str "skip", V.str "halt", V.str "fail"])) t2 (.tup [V.str "bra", V.str "brz", V.str "brn"]) = H2 at kk M2 ht2 ⊢
      have kS := kk.mono (S' := [m, ra, ma]) (fun _ h => (nomatch h))
      refine ⟨fun σ H3 => KT [m, ra, ma] H H3 ∧ MV H3 m ra ma (actS n op ps sg S), ?_, ?_⟩
      · have out : ∀ x : Int, KT [m, ra, ma] H (upd H2 m (.dK (putK (mK ra ma S.br) (.inr "br") (.int x)))) ∧ MV (upd H2 m (.dK (putK (mK ra ma S.br) (.inr "br") (.int x)))) m ra ma { S with br := x } := by
          intro x
          rw [mK_put]
          exact ⟨kS.trans (KT.put (by simp) M2.hm (fun _ z => by cases z) (fun _ _ z => by cases z) (fun _ z => by cases z)), M2.setBr x⟩
        have fin1 : ∀ x : Int, actS n op ps sg S = { S with br := x % 2 ^ 32 } → KT [m, ra, ma] H (upd H2 m (.dK (putK (mK ra ma S.br) (.inr "br") (.int (Builtin.bitAnd x 4294967295))))) ∧ MV (upd H2 m (.dK (putK (mK ra ma S.br) (.inr "br") (.int (Builtin.bitAnd x 4294967295))))) m ra ma (actS n op ps sg S) := by
          intro x ea
          rw [ea, mask32]
          exact out _
        have tst : ∀ a : Nat, a < 16 → ∀ b : Bool, decide (V.bl (decide (V.int (Builtin.bitAnd (gR S a) (2 ^ n - 1)) = V.int 0)) = V.bl b) = (decide (gR S a % 2 ^ n = 0) == b) := by
          intro a ha b
          rw [mask]
          by_cases h : gR S a % 2 ^ n = 0
          · rw [decide_eq_true (show V.int (gR S a % 2 ^ n) = V.int 0 by rw [h]), decide_eq_true h]
            cases b <;> rfl
          · rw [decide_eq_false (fun z => h (V.int.inj z)), decide_eq_false h]
            cases b <;> rfl
        rcases e2 with rfl | rfl | rfl
        · obtain ⟨x, rfl, x0, x1⟩ := ins_o hi (by decide +kernel)
          refine ⟨_, rfl, rfl, _, rfl, ite_t (dstr_eq rfl) (ite_t rfl ?_)⟩
          refine ⟨_, rfl, _, _, rfl, dget_s M2.hm (mK_br ..), _, rfl, _, rfl, _, rfl, t, _, rfl, .inr (SqT.of ht2), _, _, rfl, rfl, t, _, _, _, rfl, rfl, SqT.of ht2, atN 1 (by rfl) rfl, _, _, rfl, rfl, .inl ?_, _, _, rfl, rfl, _, _, rfl, rfl, _, rfl, m, _, rfl, DPut.k (k := Sum.inr "br") M2.hm (show 3 < sizeLine by decide), ?_⟩
          · constructor <;> rcases hsg with rfl | rfl <;> decide
          · refine fin1 _ ?_
            unfold actS
            rw [if_neg (by decide), if_pos rfl]
            rfl
        · obtain ⟨a, x, rfl, ha, x0, x1⟩ := ins_ro hi (by decide +kernel)
          obtain ⟨wa, hga⟩ := hS.g ha
          refine ⟨_, rfl, rfl, _, rfl, ite_f (dstr_ne (by decide)) ?_⟩
          refine ⟨_, rfl, _, rfl, t, _, _, _, rfl, rfl, SqT.of ht2, atN 1 rfl rfl, ra, _, _, _, rfl, rfl, SqL.of M2.hr, atN a rfl hga, _, rfl, _, _, rfl, rfl, rfl, _, rfl, rfl, rfl, _, rfl, ?_⟩
          have dz : decide (V.str ("brz" : Str) = V.str "brz") = true := by exact dstr_eq rfl
          refine ite2 (fun e => ?_) (fun e => ?_)
          · have e : decide (V.bl (decide (V.int (Builtin.bitAnd (gR S a) (2 ^ n - 1)) = V.int 0)) = V.bl (decide (V.str ("brz" : Str) = V.str "brz"))) = true := e
            rw [tst a ha, dz] at e
            have h : gR S a % 2 ^ n = 0 := by simpa using e
            refine ⟨_, rfl, _, _, rfl, dget_s M2.hm (mK_br ..), _, rfl, _, rfl, _, rfl, t, _, rfl, .inr (SqT.of ht2), _, _, rfl, rfl, t, _, _, _, rfl, rfl, SqT.of ht2, atN 2 (by rfl) rfl, _, _, rfl, rfl, .inl ?_, _, _, rfl, rfl, _, _, rfl, rfl, _, rfl, m, _, rfl, DPut.k (k := Sum.inr "br") M2.hm (show 3 < sizeLine by decide), ?_⟩
            · constructor <;> rcases hsg with rfl | rfl <;> decide
            · refine fin1 _ ?_
              unfold actS
              rw [if_neg (by decide), if_neg (by decide), if_pos rfl]
              exact if_pos h
          · have e : ¬ decide (V.bl (decide (V.int (Builtin.bitAnd (gR S a) (2 ^ n - 1)) = V.int 0)) = V.bl (decide (V.str ("brz" : Str) = V.str "brz"))) = true := e
            rw [tst a ha, dz] at e
            have h : ¬ gR S a % 2 ^ n = 0 := by simpa using e
            have ea : actS n "brz" [(a : Int), x] sg S = S := by
              unfold actS
              rw [if_neg (by decide), if_neg (by decide), if_pos rfl]
              exact if_neg h
            refine ⟨kS, ?_⟩
            rw [ea]
            exact M2
        · obtain ⟨a, x, rfl, ha, x0, x1⟩ := ins_ro hi (by decide +kernel)
          obtain ⟨wa, hga⟩ := hS.g ha
          refine ⟨_, rfl, rfl, _, rfl, ite_f (dstr_ne (by decide)) ?_⟩
          refine ⟨_, rfl, _, rfl, t, _, _, _, rfl, rfl, SqT.of ht2, atN 1 rfl rfl, ra, _, _, _, rfl, rfl, SqL.of M2.hr, atN a rfl hga, _, rfl, _, _, rfl, rfl, rfl, _, rfl, rfl, rfl, _, rfl, ?_⟩
          have dz : decide (V.str ("brn" : Str) = V.str "brz") = false := by exact Bool.eq_false_iff.mpr (dstr_ne (by decide))
          refine ite2 (fun e => ?_) (fun e => ?_)
          · have e : decide (V.bl (decide (V.int (Builtin.bitAnd (gR S a) (2 ^ n - 1)) = V.int 0)) = V.bl (decide (V.str ("brn" : Str) = V.str "brz"))) = true := e
            rw [tst a ha, dz] at e
            have h : ¬ gR S a % 2 ^ n = 0 := by simpa using e
            refine ⟨_, rfl, _, _, rfl, dget_s M2.hm (mK_br ..), _, rfl, _, rfl, _, rfl, t, _, rfl, .inr (SqT.of ht2), _, _, rfl, rfl, t, _, _, _, rfl, rfl, SqT.of ht2, atN 2 (by rfl) rfl, _, _, rfl, rfl, .inl ?_, _, _, rfl, rfl, _, _, rfl, rfl, _, rfl, m, _, rfl, DPut.k (k := Sum.inr "br") M2.hm (show 3 < sizeLine by decide), ?_⟩
            · constructor <;> rcases hsg with rfl | rfl <;> decide
            · refine fin1 _ ?_
              unfold actS
              rw [if_neg (by decide), if_neg (by decide), if_neg (by decide), if_pos rfl]
              exact if_neg h
          · have e : ¬ decide (V.bl (decide (V.int (Builtin.bitAnd (gR S a) (2 ^ n - 1)) = V.int 0)) = V.bl (decide (V.str ("brn" : Str) = V.str "brz"))) = true := e
            rw [tst a ha, dz] at e
            have h : gR S a % 2 ^ n = 0 := by simpa using e
            have ea : actS n "brn" [(a : Int), x] sg S = S := by
              unfold actS
              rw [if_neg (by decide), if_neg (by decide), if_neg (by decide), if_pos rfl]
              exact if_pos h
            refine ⟨kS, ?_⟩
            rw [ea]
            exact M2
      · rintro σ H3 ⟨k3, M3⟩
        exact q H3 k3 M3
    have e : ¬ (if false = true then !inV (V.str op) [V.str "bra", V.str "brz", V.str "brn"] else inV (V.str op) [V.str "bra", V.str "brz", V.str "brn"]) = true := e
    rw [e9] at e
    have n4 : ¬ (op = "bra" ∨ op = "brz" ∨ op = "brn") := by
      intro z
      apply e
      simpa [or_assoc] using z
    clear e e9
    have hfst : op ∉ (["skip", "halt", "fail", "bra", "rbra"] : List Str) := by
      intro z
      simp only [List.mem_cons, List.not_mem_nil, or_false] at z
      rcases z with z | z | z | z | z
      · exact n3 (.inl z)
      · exact n3 (.inr (.inl z))
      · exact n3 (.inr (.inr z))
      · exact n4 (.inl z)
      · exact hnb z
    obtain ⟨a, r, rfl, ha⟩ := ins_first hi hfst
    obtain ⟨wa, hga⟩ := hS.g ha
    generalize upd (upd H t1 (HO.tup [V.str "skip", V.str "halt", V.str "fail"])) t2 (.tup [V.str "bra", V.str "brz", V.str "brn"]) = H2 at kk M2 ht2 ⊢
    clear hM k1 k2 M1 ht1 ht nt1 nt2
    refine ⟨_, rfl, t, _, _, _, rfl, rfl, SqT.of ht2, atN 1 rfl rfl, ?_⟩
    refine ⟨_, rfl, _, rfl, ra, _, _, _, rfl, rfl, SqL.of M2.hr, atN a rfl hga, _, rfl, _, _, rfl, rfl, ?_⟩
    dsimp only
    rw [mask]
    refine ⟨_, rfl, _, rfl, ra, _, _, _, rfl, rfl, SqL.of M2.hr, atN a rfl hga, _, rfl, _, _, rfl, rfl, ?_⟩
    dsimp only
    have hln : (S.regs.map V.int).length = 16 := by rw [List.length_map]; exact hS.r16
    have hix : ixN (S.regs.map V.int).length (a : Int) = some a := by rw [hln]; exact ixn_nat ha
    have put : ∀ (x : Int) (H3 : Hp), KT [] H H3 → MV H3 m ra ma S → actS n op ((a : Int) :: r) sg S = S.put (a : Int) x → Q .non (upd H3 ra (.lst ((S.regs.map V.int).set a (.int x)))) := by
      intro x H3 k3 M3 ea
      refine q _ ((k3.mono (fun _ h => (nomatch h))).trans (KT.setL (by simp) M3.hr)) ?_
      rw [ea]
      exact M3.setR a x
    -- add, sub, addi
    refine ⟨_, rfl, (by show 3 ≤ sizeLine; decide), fun t3 nt3 => ⟨t3, _, rfl, .inr (SqT.of upd_same), rfl, rfl, _, rfl, ?_⟩⟩
    have k3 := KT.new [] nt3 (o := .tup [V.str "add", V.str "sub", V.str "addi"])
    have M3 := M2.keep k3
    have ht3 := k3.tp _ _ ht2
    have kk3 := kk.trans k3
    have e9 : (if false = true then !inV (V.str op) [V.str "add", V.str "sub", V.str "addi"] else inV (V.str op) [V.str "add", V.str "sub", V.str "addi"]) = (decide (op = "add") || decide (op = "sub") || decide (op = "addi")) := by rw [if_neg (by decide), in_three]
    clear M2 ht2 kk
    generalize upd H2 t3 (HO.tup [V.str "add", V.str "sub", V.str "addi"]) = H3 at k3 M3 ht3 kk3 ⊢
    refine ite2 (fun e => ?_) (fun e => ?_)
    · have e : (if false = true then !inV (V.str op) [V.str "add", V.str "sub", V.str "addi"] else inV (V.str op) [V.str "add", V.str "sub", V.str "addi"]) = true := e
      rw [e9] at e
      have e2 : op = "add" ∨ op = "sub" ∨ op = "addi" := by
        simpa [or_assoc] using e
      clear e e9
      refine ⟨fun v H4 => H4 = H3 ∧ ∃ y z : Int, v = .int y ∧ y % 2 ^ n = z % 2 ^ n ∧ actS n op ((a : Int) :: r) sg S = chg n S (a : Int) (gR S a + (if op = "sub" then -sg else sg) * z), ?_, ?_⟩
      · rcases e2 with rfl | rfl | rfl
        · obtain ⟨a', b, hps, ha', hb, hab⟩ := ins_rr hi (by decide +kernel)
          obtain ⟨h1, h2⟩ := List.cons.inj hps
          subst h2
          have h1 : a = a' := by exact_mod_cast h1
          subst h1
          obtain ⟨wb, hgb⟩ := hS.g hb
          refine ⟨_, rfl, rfl, _, rfl, ite_f (dstr_ne (by decide)) ?_⟩
          refine ⟨_, rfl, _, rfl, t, _, _, _, rfl, rfl, SqT.of ht3, atN 2 rfl rfl, ra, _, _, _, rfl, rfl, SqL.of M3.hr, atN b rfl hgb, _, rfl, _, _, rfl, rfl, rfl, _, gR S b, rfl, ?_, ?_⟩
          · rw [mask, Int.emod_emod]
          · rfl
        · obtain ⟨a', b, hps, ha', hb, hab⟩ := ins_rr hi (by decide +kernel)
          obtain ⟨h1, h2⟩ := List.cons.inj hps
          subst h2
          have h1 : a = a' := by exact_mod_cast h1
          subst h1
          obtain ⟨wb, hgb⟩ := hS.g hb
          refine ⟨_, rfl, rfl, _, rfl, ite_f (dstr_ne (by decide)) ?_⟩
          refine ⟨_, rfl, _, rfl, t, _, _, _, rfl, rfl, SqT.of ht3, atN 2 rfl rfl, ra, _, _, _, rfl, rfl, SqL.of M3.hr, atN b rfl hgb, _, rfl, _, _, rfl, rfl, rfl, _, gR S b, rfl, ?_, ?_⟩
          · rw [mask, Int.emod_emod]
          · rw [if_pos rfl, Int.neg_mul, ← Int.sub_eq_add_neg]
            rfl
        · obtain ⟨a', x, hps, ha', x0, x1⟩ := ins_rn hi (by decide +kernel)
          obtain ⟨h1, h2⟩ := List.cons.inj hps
          subst h2
          have h1 : a = a' := by exact_mod_cast h1
          subst h1
          refine ⟨_, rfl, rfl, _, rfl, ite_t (dstr_eq rfl) ?_⟩
          refine ⟨_, rfl, t, _, _, _, rfl, rfl, SqT.of ht3, atN 2 rfl rfl, rfl, x, x, rfl, rfl, rfl⟩
      rintro v H4 ⟨rfl, y, z, rfl, hy, ea⟩
      refine ⟨fun σ H5 => ∃ f : Int, f = (if op = "sub" then -sg else sg) ∧ H5 = H4 ∧ σ = [some (.ref m), some (.int n), some (.ref t), some (.int sg), some (.str op), some (.int (2 ^ n - 1)), some (.ref ra), some (.int a), some (.int (gR S a % 2 ^ n)), some (.int (gR S a - gR S a % 2 ^ n)), some (.int (f * y)), none], ?_, ?_⟩
      · refine ⟨_, rfl, rfl, _, rfl, rfl, rfl, _, rfl, ite2 (fun e => ?_) (fun e => ?_)⟩
        · have e : decide (V.bl (decide (V.str op = V.str "sub")) = V.bl (decide (V.int sg = V.int 1))) = true := e
          refine ⟨_, rfl, _, rfl, ?_⟩
          refine ⟨-1, ?_, rfl, ?_⟩
          · have e := of_decide_eq_true e
            by_cases h : op = "sub"
            · rw [if_pos h]
              rw [dstr_eq h] at e
              have := V.bl.inj e
              have := int_eq this.symm
              omega
            · rw [if_neg h]
              rw [decide_eq_false (fun z => h (V.str.inj z))] at e
              have := V.bl.inj e
              have h2 : ¬ sg = 1 := fun z => by rw [z] at this; simp at this
              omega
          · rw [Int.neg_mul, Int.one_mul]
            rfl
        · have e : ¬ decide (V.bl (decide (V.str op = V.str "sub")) = V.bl (decide (V.int sg = V.int 1))) = true := e
          refine ⟨1, ?_, rfl, ?_⟩
          · have e : ¬ V.bl (decide (V.str op = V.str "sub")) = V.bl (decide (V.int sg = V.int 1)) := fun z => e (decide_eq_true z)
            by_cases h : op = "sub"
            · rw [if_pos h]
              rw [dstr_eq h] at e
              have h2 : ¬ sg = 1 := fun z => e (by rw [z]; rfl)
              omega
            · rw [if_neg h]
              rw [decide_eq_false (fun z => h (V.str.inj z))] at e
              have h2 : sg = 1 := Decidable.byContradiction fun z => e (by rw [decide_eq_false (fun q => z (V.int.inj q))])
              omega
          · rw [Int.one_mul]
            rfl
      · rintro σ H5 ⟨f, hf, rfl, rfl⟩
        refine ⟨_, rfl, _, rfl, _, rfl, _, _, rfl, rfl, _, rfl, _, _, rfl, rfl, _, _, rfl, rfl, _, rfl, _, rfl, ra, _, _, a, rfl, rfl, M3.hr, hix, ?_⟩
        refine put _ _ kk3 M3 ?_
        rw [ea, mask, low_add hy, hf]
        rfl
    have e : ¬ (if false = true then !inV (V.str op) [V.str "add", V.str "sub", V.str "addi"] else inV (V.str op) [V.str "add", V.str "sub", V.str "addi"]) = true := e
    rw [e9] at e
    have n5 : ¬ (op = "add" ∨ op = "sub" ∨ op = "addi") := by
      intro z
      apply e
      simpa [or_assoc] using z
    clear e e9
    -- xor, xori
    refine ⟨_, rfl, (by show 2 ≤ sizeLine; decide), fun t4 nt4 => ⟨t4, _, rfl, .inr (SqT.of upd_same), rfl, rfl, _, rfl, ?_⟩⟩
    have k4 := KT.new [] nt4 (o := .tup [V.str "xor", V.str "xori"])
    have M4 := M3.keep k4
    have ht4 := k4.tp _ _ ht3
    have kk4 := kk3.trans k4
    have e9 : (if false = true then !inV (V.str op) [V.str "xor", V.str "xori"] else inV (V.str op) [V.str "xor", V.str "xori"]) = (decide (op = "xor") || decide (op = "xori")) := by rw [if_neg (by decide), in_two]
    clear M3 ht3 kk3 k3
    generalize upd H3 t4 (HO.tup [V.str "xor", V.str "xori"]) = H4 at k4 M4 ht4 kk4 ⊢
    refine ite2 (fun e => ?_) (fun e => ?_)
    · have e : (if false = true then !inV (V.str op) [V.str "xor", V.str "xori"] else inV (V.str op) [V.str "xor", V.str "xori"]) = true := e
      rw [e9] at e
      have e2 : op = "xor" ∨ op = "xori" := by
        simpa [or_assoc] using e
      clear e e9
      refine ⟨_, rfl, _, rfl, fun v H5 => H5 = H4 ∧ ∃ y z : Int, v = .int y ∧ y = z % 2 ^ n ∧ actS n op ((a : Int) :: r) sg S = chg n S (a : Int) (Builtin.bitXor (gR S a) z), ?_, ?_⟩
      · rcases e2 with rfl | rfl
        · obtain ⟨a', b, hps, ha', hb, hab⟩ := ins_rr hi (by decide +kernel)
          obtain ⟨h1, h2⟩ := List.cons.inj hps
          subst h2
          have h1 : a = a' := by exact_mod_cast h1
          subst h1
          obtain ⟨wb, hgb⟩ := hS.g hb
          refine ⟨_, rfl, rfl, _, rfl, ite_f (dstr_ne (by decide)) ?_⟩
          refine ⟨_, rfl, _, rfl, t, _, _, _, rfl, rfl, SqT.of ht4, atN 2 rfl rfl, ra, _, _, _, rfl, rfl, SqL.of M4.hr, atN b rfl hgb, _, rfl, _, _, rfl, rfl, rfl, _, gR S b, rfl, ?_, ?_⟩
          · rw [mask]
          · rfl
        · obtain ⟨a', x, hps, ha', x0, x1⟩ := ins_rn hi (by decide +kernel)
          obtain ⟨h1, h2⟩ := List.cons.inj hps
          subst h2
          have h1 : a = a' := by exact_mod_cast h1
          subst h1
          refine ⟨_, rfl, rfl, _, rfl, ite_t (dstr_eq rfl) ?_⟩
          refine ⟨_, rfl, t, _, _, _, rfl, rfl, SqT.of ht4, atN 2 rfl rfl, rfl, x, x, rfl, ?_, rfl⟩
          rw [Int.emod_eq_of_lt x0 x1]
      rintro v H5 ⟨rfl, y, z, rfl, hy, ea⟩
      refine ⟨_, _, rfl, rfl, _, _, rfl, rfl, _, rfl, _, rfl, ra, _, _, a, rfl, rfl, M4.hr, hix, ?_⟩
      refine put _ _ kk4 M4 ?_
      rw [ea, hy, ← low_xor n wa.1]
      rfl
    have e : ¬ (if false = true then !inV (V.str op) [V.str "xor", V.str "xori"] else inV (V.str op) [V.str "xor", V.str "xori"]) = true := e
    rw [e9] at e
    have n6 : ¬ (op = "xor" ∨ op = "xori") := by
      intro z
      apply e
      simpa [or_assoc] using z
    clear e e9
    -- test
    refine ⟨_, rfl, rfl, _, rfl, ite2 (fun e => ?_) (fun e => ?_)⟩
    · have e1 := str_eq e
      subst e1
      obtain ⟨a', b, hps, ha', hb, hab⟩ := ins_rr hi (by decide +kernel)
      obtain ⟨h1, h2⟩ := List.cons.inj hps
      subst h2
      have h1 : a = a' := by exact_mod_cast h1
      subst h1
      obtain ⟨wb, hgb⟩ := hS.g hb
      refine ⟨_, rfl, _, rfl, _, rfl, _, rfl, t, _, _, _, rfl, rfl, SqT.of ht4, atN 2 rfl rfl, ra, _, _, _, rfl, rfl, SqL.of M4.hr, atN b rfl hgb, _, rfl, _, _, rfl, rfl, rfl, .inr ⟨_, rfl, ?_⟩⟩
      refine ⟨_, _, rfl, rfl, _, _, rfl, rfl, _, rfl, _, rfl, ra, _, _, a, rfl, rfl, M4.hr, hix, ?_⟩
      refine put _ _ kk4 M4 ?_
      dsimp only
      have ea : actS n "test" [(a : Int), (b : Int)] sg S = if gR S b % 2 ^ n = 0 then S else chg n S a (Builtin.bitXor (gR S a) 1) := rfl
      rw [ea]
      by_cases h : gR S b % 2 ^ n = 0
      · have hd : decide (V.int (Builtin.bitAnd (gR S b) (2 ^ n - 1)) = V.int 0) = true := decide_eq_true (by rw [mask, h])
        rw [if_pos h, hd]
        exact (xor_zero_put hS ha n).symm
      · have hd : decide (V.int (Builtin.bitAnd (gR S b) (2 ^ n - 1)) = V.int 0) = false := decide_eq_false (fun z => h (by rw [mask] at z; exact V.int.inj z))
        rw [if_neg h, hd]
        exact (xor_one_put ha hS hn1).symm
    have n7 := str_ne e
    clear e
    -- over
    refine ⟨_, rfl, rfl, _, rfl, ite2 (fun e => ?_) (fun e => ?_)⟩
    · have e1 := str_eq e
      subst e1
      obtain ⟨a', b, x, hps, ha', hb, hab, x0, x1⟩ := ins_rrm hi (by decide +kernel)
      obtain ⟨h1, h2⟩ := List.cons.inj hps
      subst h2
      have h1 : a = a' := by exact_mod_cast h1
      subst h1
      obtain ⟨wb, hgb⟩ := hS.g hb
      refine ⟨_, rfl, _, rfl, _, rfl, _, rfl, t, _, _, _, rfl, rfl, SqT.of ht4, atN 2 rfl rfl, ra, _, _, _, rfl, rfl, SqL.of M4.hr, atN b rfl hgb, _, rfl, t, _, _, _, rfl, rfl, SqT.of ht4, atN 3 rfl rfl, _, _, rfl, rfl, .inr ⟨_, rfl, ?_⟩⟩
      refine ⟨_, _, rfl, rfl, _, _, rfl, rfl, _, rfl, _, rfl, ra, _, _, a, rfl, rfl, M4.hr, hix, ?_⟩
      refine put _ _ kk4 M4 ?_
      have ea : actS n "over" [(a : Int), (b : Int), x] sg S = if x ≤ gR S b then chg n S a (Builtin.bitXor (gR S a) 1) else S := rfl
      rw [ea]
      by_cases h : x ≤ gR S b
      · rw [if_pos h, decide_eq_true h]
        exact (xor_one_put ha hS hn1).symm
      · rw [if_neg h, decide_eq_false h]
        exact (xor_zero_put hS ha n).symm
    have n8 := str_ne e
    clear e
    -- addr, subr, addl
    refine ⟨_, rfl, (by show 3 ≤ sizeLine; decide), fun t5 nt5 => ⟨t5, _, rfl, .inr (SqT.of upd_same), rfl, rfl, _, rfl, ?_⟩⟩
    have k5 := KT.new [] nt5 (o := .tup [V.str "addr", V.str "subr", V.str "addl"])
    have M5 := M4.keep k5
    have ht5 := k5.tp _ _ ht4
    have kk5 := kk4.trans k5
    have e9 : (if false = true then !inV (V.str op) [V.str "addr", V.str "subr", V.str "addl"] else inV (V.str op) [V.str "addr", V.str "subr", V.str "addl"]) = (decide (op = "addr") || decide (op = "subr") || decide (op = "addl")) := by rw [if_neg (by decide), in_three]
    clear M4 ht4 kk4 k4
    generalize upd H4 t5 (HO.tup [V.str "addr", V.str "subr", V.str "addl"]) = H5 at k5 M5 ht5 kk5 ⊢
    refine ite2 (fun e => ?_) (fun e => ?_)
    · have e : (if false = true then !inV (V.str op) [V.str "addr", V.str "subr", V.str "addl"] else inV (V.str op) [V.str "addr", V.str "subr", V.str "addl"]) = true := e
      rw [e9] at e
      have e2 : op = "addr" ∨ op = "subr" ∨ op = "addl" := by
        simpa [or_assoc] using e
      clear e e9
      refine ⟨fun v H6 => H6 = H5 ∧ ∃ y : Int, v = .int y ∧ actS n op ((a : Int) :: r) sg S = S.put (a : Int) ((gR S a + (if op = "subr" then -sg else sg) * y) % 2 ^ 32), ?_, ?_⟩
      · rcases e2 with rfl | rfl | rfl
        · obtain ⟨a', b, hps, ha', hb, hab⟩ := ins_rr hi (by decide +kernel)
          obtain ⟨h1, h2⟩ := List.cons.inj hps
          subst h2
          have h1 : a = a' := by exact_mod_cast h1
          subst h1
          obtain ⟨wb, hgb⟩ := hS.g hb
          refine ⟨_, rfl, rfl, _, rfl, ite_f (dstr_ne (by decide)) ?_⟩
          exact ⟨_, rfl, _, rfl, t, _, _, _, rfl, rfl, SqT.of ht5, atN 2 rfl rfl, ra, _, _, _, rfl, rfl, SqL.of M5.hr, atN b rfl hgb, rfl, _, rfl, rfl⟩
        · obtain ⟨a', b, hps, ha', hb, hab⟩ := ins_rr hi (by decide +kernel)
          obtain ⟨h1, h2⟩ := List.cons.inj hps
          subst h2
          have h1 : a = a' := by exact_mod_cast h1
          subst h1
          obtain ⟨wb, hgb⟩ := hS.g hb
          refine ⟨_, rfl, rfl, _, rfl, ite_f (dstr_ne (by decide)) ?_⟩
          refine ⟨_, rfl, _, rfl, t, _, _, _, rfl, rfl, SqT.of ht5, atN 2 rfl rfl, ra, _, _, _, rfl, rfl, SqL.of M5.hr, atN b rfl hgb, rfl, _, rfl, ?_⟩
          rw [if_pos rfl, Int.neg_mul, ← Int.sub_eq_add_neg]
          rfl
        · obtain ⟨a', x, hps, ha', x0, x1⟩ := ins_rm hi (by decide +kernel)
          obtain ⟨h1, h2⟩ := List.cons.inj hps
          subst h2
          have h1 : a = a' := by exact_mod_cast h1
          subst h1
          refine ⟨_, rfl, rfl, _, rfl, ite_t (dstr_eq rfl) ?_⟩
          exact ⟨_, rfl, t, _, _, _, rfl, rfl, SqT.of ht5, atN 2 rfl rfl, rfl, x, rfl, rfl⟩
      rintro v H6 ⟨rfl, y, rfl, ea⟩
      refine ⟨fun σ H5 => ∃ f : Int, f = (if op = "subr" then -sg else sg) ∧ H5 = H6 ∧ σ = [some (.ref m), some (.int n), some (.ref t), some (.int sg), some (.str op), some (.int (2 ^ n - 1)), some (.ref ra), some (.int a), some (.int (gR S a % 2 ^ n)), some (.int (gR S a - gR S a % 2 ^ n)), some (.int (f * y)), none], ?_, ?_⟩
      · refine ⟨_, rfl, rfl, _, rfl, rfl, rfl, _, rfl, ite2 (fun e => ?_) (fun e => ?_)⟩
        · have e : decide (V.bl (decide (V.str op = V.str "subr")) = V.bl (decide (V.int sg = V.int 1))) = true := e
          refine ⟨_, rfl, _, rfl, ?_⟩
          refine ⟨-1, ?_, rfl, ?_⟩
          · have e := of_decide_eq_true e
            by_cases h : op = "subr"
            · rw [if_pos h]
              rw [dstr_eq h] at e
              have := V.bl.inj e
              have := int_eq this.symm
              omega
            · rw [if_neg h]
              rw [decide_eq_false (fun z => h (V.str.inj z))] at e
              have := V.bl.inj e
              have h2 : ¬ sg = 1 := fun z => by rw [z] at this; simp at this
              omega
          · rw [Int.neg_mul, Int.one_mul]
            rfl
        · have e : ¬ decide (V.bl (decide (V.str op = V.str "subr")) = V.bl (decide (V.int sg = V.int 1))) = true := e
          refine ⟨1, ?_, rfl, ?_⟩
          · have e : ¬ V.bl (decide (V.str op = V.str "subr")) = V.bl (decide (V.int sg = V.int 1)) := fun z => e (decide_eq_true z)
            by_cases h : op = "subr"
            · rw [if_pos h]
              rw [dstr_eq h] at e
              have h2 : ¬ sg = 1 := fun z => e (by rw [z]; rfl)
              omega
            · rw [if_neg h]
              rw [decide_eq_false (fun z => h (V.str.inj z))] at e
              have h2 : sg = 1 := Decidable.byContradiction fun z => e (by rw [decide_eq_false (fun q => z (V.int.inj q))])
              omega
          · rw [Int.one_mul]
            rfl
      · rintro σ H5 ⟨f, hf, rfl, rfl⟩
        refine ⟨_, rfl, _, rfl, ra, _, _, _, rfl, rfl, SqL.of M5.hr, atN a rfl hga, _, rfl, _, _, rfl, rfl, _, _, rfl, rfl, _, rfl, _, rfl, ra, _, _, a, rfl, rfl, M5.hr, hix, ?_⟩
        refine put _ _ kk5 M5 ?_
        rw [ea, mask32, hf]
    have e : ¬ (if false = true then !inV (V.str op) [V.str "addr", V.str "subr", V.str "addl"] else inV (V.str op) [V.str "addr", V.str "subr", V.str "addl"]) = true := e
    rw [e9] at e
    have n9 : ¬ (op = "addr" ∨ op = "subr" ∨ op = "addl") := by
      intro z
      apply e
      simpa [or_assoc] using z
    clear e e9
    -- neg
    refine ⟨_, rfl, rfl, _, rfl, ite2 (fun e => ?_) (fun e => ?_)⟩
    · have e1 := str_eq e
      subst e1
      refine ⟨_, rfl, _, rfl, ra, _, _, _, rfl, rfl, SqL.of M5.hr, atN a rfl hga, _, _, rfl, rfl, _, _, rfl, rfl, _, rfl, _, rfl, ra, _, _, a, rfl, rfl, M5.hr, hix, ?_⟩
      refine put _ _ kk5 M5 ?_
      rw [mask32]
      have ea : actS n "neg" ((a : Int) :: r) sg S = S.put a ((-gR S a) % 2 ^ 32) := rfl
      have eb : (4294967296 - gR S a) % 2 ^ 32 = (-gR S a) % 2 ^ 32 := by omega
      rw [ea, eb]
    have n10 := str_ne e
    clear e
    -- swap
    refine ⟨_, rfl, rfl, _, rfl, ite2 (fun e => ?_) (fun e => ?_)⟩
    · have e1 := str_eq e
      subst e1
      obtain ⟨a', b, hps, ha', hb, hab⟩ := ins_rr hi (by decide +kernel)
      obtain ⟨h1, h2⟩ := List.cons.inj hps
      subst h2
      have h1 : a = a' := by exact_mod_cast h1
      subst h1
      obtain ⟨wb, hgb⟩ := hS.g hb
      refine ⟨_, rfl, _, rfl, t, _, _, _, rfl, rfl, SqT.of ht5, atN 2 rfl rfl, ra, _, _, _, rfl, rfl, SqL.of M5.hr, atN b rfl hgb, _, rfl, _, rfl, ra, _, _, _, rfl, rfl, SqL.of M5.hr, atN a rfl hga, (by show 2 ≤ sizeLine; decide), fun t6 nt6 => ?_⟩
      have k6 := KT.new [] nt6 (o := .tup [V.int (gR S b), V.int (gR S a)])
      have M6 := M5.keep k6
      have M7 := M6.setR a (gR S b)
      have kS6 := (kk5.trans k6).mono (S' := [m, ra, ma]) (fun _ h => (nomatch h))
      have k7 := KT.setL (L := [m, ra, ma]) (o := .lst ((S.regs.map V.int).set a (.int (gR S b)))) (by simp) M6.hr
      have ht7 := k7.tp _ _ (k6.tp _ _ ht5)
      have hib : ixN ((S.put (a : Int) (gR S b)).regs.map V.int).length (b : Int) = some b := by
        rw [List.length_map]
        show ixN ((S.regs.set _ _).length) _ = _
        rw [List.length_set, hS.r16]
        exact ixn_nat hb
      refine ⟨t6, _, rfl, SqT.of upd_same, rfl, _, _, rfl, _, rfl, _, rfl, ra, _, _, a, rfl, rfl, M6.hr, hix, _, _, rfl, _, rfl, _, rfl, t, _, _, _, rfl, rfl, SqT.of ht7, atN 2 rfl rfl, ra, _, _, b, rfl, rfl, M7.hr, hib, rfl, ?_⟩
      refine q _ ((kS6.trans k7).trans (KT.setL (by simp) M7.hr)) ?_
      exact M7.setR b (gR S a)
    have n11 := str_ne e
    clear e
    -- swapbr
    refine ⟨_, rfl, rfl, _, rfl, ite2 (fun e => ?_) (fun e => ?_)⟩
    · have e1 := str_eq e
      subst e1
      obtain ⟨a', hps, ha'⟩ := ins_r hi (by decide +kernel)
      obtain ⟨h1, h2⟩ := List.cons.inj hps
      subst h2
      have h1 : a = a' := by exact_mod_cast h1
      subst h1
      refine ⟨_, rfl, _, _, rfl, dget_s M5.hm (mK_br ..), _, rfl, _, rfl, ra, _, _, _, rfl, rfl, SqL.of M5.hr, atN a rfl hga, (by show 2 ≤ sizeLine; decide), fun t6 nt6 => ?_⟩
      have k6 := KT.new [] nt6 (o := .tup [V.int S.br, V.int (gR S a)])
      have M6 := M5.keep k6
      have M7 := M6.setR a S.br
      have kS6 := (kk5.trans k6).mono (S' := [m, ra, ma]) (fun _ h => (nomatch h))
      have k7 := KT.setL (L := [m, ra, ma]) (o := .lst ((S.regs.map V.int).set a (.int S.br))) (by simp) M6.hr
      refine ⟨t6, _, rfl, SqT.of upd_same, rfl, _, _, rfl, _, rfl, _, rfl, ra, _, _, a, rfl, rfl, M6.hr, hix, _, _, rfl, _, rfl, m, _, rfl, DPut.k (k := Sum.inr "br") M7.hm (show 3 < sizeLine by decide), rfl, ?_⟩
      rw [mK_put]
      refine q _ ((kS6.trans k7).trans (KT.put (by simp) M7.hm (fun _ z => by cases z) (fun _ _ z => by cases z) (fun _ z => by cases z))) ?_
      exact M7.setBr (gR S a)
    have n12 := str_ne e
    clear e
    -- exch
    refine ⟨_, rfl, rfl, _, rfl, ite2 (fun e => ?_) (fun e => ?_)⟩
    · have e1 := str_eq e
      subst e1
      obtain ⟨a', b, hps, ha', hb, hab⟩ := ins_rr hi (by decide +kernel)
      obtain ⟨h1, h2⟩ := List.cons.inj hps
      subst h2
      have h1 : a = a' := by exact_mod_cast h1
      subst h1
      obtain ⟨wb, hgb⟩ := hS.g hb
      have hm1 := hS.m1
      have hml : ((S.mem.map V.int).length : Int) = S.mem.length := by rw [List.length_map]
      refine ⟨_, rfl, _, rfl, t, _, _, _, rfl, rfl, SqT.of ht5, atN 2 rfl rfl, ra, _, _, _, rfl, rfl, SqL.of M5.hr, atN b rfl hgb, .inl ⟨_, rfl, _, rfl, _, _, rfl, dget_s M5.hm (mK_mem ..), _, _, rfl, .inl (SqL.of M5.ha), _, _, rfl, rfl, (by rw [hml]; omega), ?_⟩⟩
      dsimp only
      rw [hml, fmod_e (by omega)]
      obtain ⟨k, hk⟩ : ∃ k : Nat, gR S b % (S.mem.length : Int) = k := int_nat (Int.emod_nonneg _ (by omega))
      have hk1 : k < S.mem.length := by
        have := Int.emod_lt_of_pos (gR S b) (show (0 : Int) < S.mem.length by omega)
        omega
      rw [hk]
      have hmk : (S.mem.map V.int)[k]? = some (.int (S.mem.getD k 0)) := by
        rw [List.getElem?_map, List.getD_eq_getElem?_getD, List.getElem?_eq_getElem hk1]
        rfl
      refine ⟨_, rfl, _, _, rfl, dget_s M5.hm (mK_mem ..), _, rfl, ma, _, _, _, rfl, rfl, SqL.of M5.ha, atN k rfl hmk, _, rfl, _, rfl, ra, _, _, _, rfl, rfl, SqL.of M5.hr, atN a rfl hga, (by show 2 ≤ sizeLine; decide), fun t6 nt6 => ?_⟩
      have k6 := KT.new [] nt6 (o := .tup [V.int (S.mem.getD k 0), V.int (gR S a)])
      have M6 := M5.keep k6
      have M7 := M6.setR a (S.mem.getD k 0)
      have kS6 := (kk5.trans k6).mono (S' := [m, ra, ma]) (fun _ h => (nomatch h))
      have k7 := KT.setL (L := [m, ra, ma]) (o := .lst ((S.regs.map V.int).set a (.int (S.mem.getD k 0)))) (by simp) M6.hr
      have hik : ixN (S.mem.map V.int).length (k : Int) = some k := by
        rw [List.length_map]
        exact ixn_nat hk1
      refine ⟨t6, _, rfl, SqT.of upd_same, rfl, _, _, rfl, _, rfl, _, rfl, ra, _, _, a, rfl, rfl, M6.hr, hix, _, _, rfl, _, rfl, _, _, rfl, dget_s M7.hm (mK_mem ..), _, rfl, ma, _, _, k, rfl, rfl, M7.ha, hik, rfl, ?_⟩
      refine q _ ((kS6.trans k7).trans (KT.setL (by simp) M7.ha)) ?_
      have ea : actS n "exch" [(a : Int), (b : Int)] sg S = { S.put (a : Int) (S.mem.getD (gR S b % S.mem.length).toNat 0) with mem := S.mem.set (gR S b % S.mem.length).toNat (gR S a) } := rfl
      rw [ea, hk, Int.toNat_natCast]
      exact M7.setM k (gR S a)
    have n13 := str_ne e
    clear e
    -- the computing ops
    obtain ⟨hop, hsh⟩ : op ∈ rsL ∧ (shapeOf op).cps.toList = [114, 114, 114] := by
      obtain ⟨k, hk, ek⟩ := hi.wd
      have key : ∀ k, k < 30 → wdL.getD k "" ∈ prL ∨ (wdL.getD k "" ∈ rsL ∧ (shapeOf (wdL.getD k "")).cps.toList = [114, 114, 114]) := by decide +kernel
      have key := key k hk
      rw [← ek] at key
      refine key.resolve_left fun z => ?_
      simp only [prL, List.mem_cons, List.not_mem_nil, or_false] at z
      rcases z with z | z | z | z | z | z | z | z | z | z | z | z | z | z | z | z | z | z | z | z | z
      · exact n3 (.inl z)
      · exact n3 (.inr (.inl z))
      · exact n3 (.inr (.inr z))
      · exact hnb z
      · exact n4 (.inl z)
      · exact n4 (.inr (.inl z))
      · exact n4 (.inr (.inr z))
      · exact n5 (.inl z)
      · exact n5 (.inr (.inl z))
      · exact n5 (.inr (.inr z))
      · exact n6 (.inl z)
      · exact n6 (.inr z)
      · exact n7 z
      · exact n8 z
      · exact n9 (.inl z)
      · exact n9 (.inr (.inl z))
      · exact n9 (.inr (.inr z))
      · exact n10 z
      · exact n11 z
      · exact n12 z
      · exact n13 z
    obtain ⟨a', b, c, hps, ha', hb, hc, hab, hac⟩ := ins_rrr hi hsh
    obtain ⟨h1, h2⟩ := List.cons.inj hps
    subst h2
    have h1 : a = a' := by exact_mod_cast h1
    subst h1
    obtain ⟨wb, hgb⟩ := hS.g hb
    obtain ⟨wc, hgc⟩ := hS.g hc
    have b0 := Int.emod_nonneg (gR S b) (Int.ne_of_gt hp)
    have b1 := Int.emod_lt_of_pos (gR S b) hp
    have c0 := Int.emod_nonneg (gR S c) (Int.ne_of_gt hp)
    have c1 := Int.emod_lt_of_pos (gR S c) hp
    refine ⟨_, rfl, _, rfl, _, rfl, _, rfl, _, rfl, _, rfl, t, _, _, _, rfl, rfl, SqT.of ht5, atN 2 rfl rfl, ra, _, _, _, rfl, rfl, SqL.of M5.hr, atN b rfl hgb, _, rfl, _, _, rfl, rfl, _, rfl, _, rfl, t, _, _, _, rfl, rfl, SqT.of ht5, atN 3 rfl rfl, ra, _, _, _, rfl, rfl, SqL.of M5.hr, atN c rfl hgc, _, rfl, _, _, rfl, rfl, ?_⟩
    refine ⟨op, n, gR S b % 2 ^ n, gR S c % 2 ^ n, (by dsimp only; rw [mask, mask]; rfl), hn, b0, b1, c0, c1, hop, fun H6 k6 => ?_⟩
    have M6 := M5.keep k6
    refine ⟨_, _, rfl, rfl, _, _, rfl, rfl, _, rfl, _, rfl, ra, _, _, a, rfl, rfl, M6.hr, hix, ?_⟩
    refine put _ _ (kk5.trans k6) M6 ?_
    have ea : actS n op [(a : Int), (b : Int), (c : Int)] sg S = chg n S a (Builtin.bitXor (gR S a) (resS op n (gR S b % 2 ^ n) (gR S c % 2 ^ n))) := by
      unfold actS
      rw [if_neg n3, if_neg (fun z => n4 (.inl z)), if_neg (fun z => n4 (.inr (.inl z))), if_neg (fun z => n4 (.inr (.inr z))), if_neg (fun z => n5 (.inl z)), if_neg (fun z => n5 (.inr (.inl z))), if_neg (fun z => n5 (.inr (.inr z))),
        if_neg (fun z => n6 (.inl z)), if_neg (fun z => n6 (.inr z)), if_neg n7, if_neg n8, if_neg (fun z => n9 (.inl z)), if_neg (fun z => n9 (.inr (.inl z))), if_neg (fun z => n9 (.inr (.inr z))), if_neg n10, if_neg n11, if_neg n12, if_neg n13]
      rfl
    obtain ⟨r0, r1⟩ := resS_lt hop hn1 b0 b1 c0 c1
    rw [ea]
    unfold chg
    rw [low_xor n wa.1, Int.emod_eq_of_lt r0 r1]
end

end My

set_option Elab.async false
set_option linter.all false
set_option maxRecDepth 100000
namespace My
open PySem PySem.Spec PyProof.Rows L2
inductive P2 {α : Type} (R : V → α → Prop) : List V → List α → Prop
  | nil : P2 R [] []
  | cons {v : V} {vs : List V} {d : α} {ds : List α} : R v d → P2 R vs ds → P2 R (v :: vs) (d :: ds)
theorem P2.mono {α : Type} {R S : V → α → Prop} (f : ∀ v d, R v d → S v d) : ∀ {vs : List V} {ds : List α}, P2 R vs ds → P2 S vs ds
  | _, _, .nil => .nil
  | _, _, .cons h g => .cons (f _ _ h) (g.mono f)
theorem P2.len {α : Type} {R : V → α → Prop} : ∀ {vs : List V} {ds : List α}, P2 R vs ds → vs.length = ds.length
  | _, _, .nil => rfl
  | _, _, .cons h g => congrArg (· + 1) g.len
theorem P2.app {α : Type} {R : V → α → Prop} : ∀ {vs us : List V} {ds es : List α}, P2 R vs ds → P2 R us es → P2 R (vs ++ us) (ds ++ es)
  | _, _, _, _, .nil, h => h
  | _, _, _, _, .cons h g, k => .cons h (g.app k)
theorem P2.snoc {α : Type} {R : V → α → Prop} {vs : List V} {ds : List α} {v : V} {d : α} (h : P2 R vs ds) (g : R v d) : P2 R (vs ++ [v]) (ds ++ [d]) := h.app (.cons g .nil)
theorem P2.get {α : Type} {R : V → α → Prop} : ∀ {vs : List V} {ds : List α} {i : Nat} {v : V}, P2 R vs ds → vs[i]? = some v → ∃ d, ds[i]? = some d ∧ R v d
  | _, _, i, v, .nil, e => by simp at e
  | _, _, 0, v, .cons h g, e => by simp at e; subst e; exact ⟨_, rfl, h⟩
  | _, _, i + 1, v, .cons h g, e => by
    obtain ⟨d, h1, h2⟩ := g.get (i := i) (by simpa using e)
    exact ⟨d, by simpa using h1, h2⟩
theorem P2.drop {α : Type} {R : V → α → Prop} : ∀ {vs : List V} {ds : List α} (n : Nat), P2 R vs ds → P2 R (vs.drop n) (ds.drop n)
  | _, _, _, .nil => by simp; exact .nil
  | _, _, 0, .cons h g => .cons h g
  | _, _, n + 1, .cons h g => by simpa using g.drop n
theorem P2.mem {α : Type} {R : V → α → Prop} {vs : List V} {ds : List α} {v : V} (h : P2 R vs ds) (m : v ∈ vs) : ∃ d ∈ ds, R v d := by
  obtain ⟨i, hi, e⟩ := List.getElem_of_mem m
  obtain ⟨d, h1, h2⟩ := h.get (List.getElem?_eq_some_iff.mpr ⟨hi, e⟩)
  exact ⟨d, List.mem_of_getElem? h1, h2⟩

/-! ### a machine -/
def MaV (H : Hp) (v : V) (n : Nat) (code : List (Str × List Int)) : Prop := ∃ t u vs, v = .ref t ∧ H t = some (.tup [.int n, .ref u]) ∧ H u = some (.tup vs) ∧ P2 (InsV H) vs code
theorem MaV.keep {L : List Addr} {H H' : Hp} (k : KT L H H') {v : V} {n : Nat} {code : List (Str × List Int)} : MaV H v n code → MaV H' v n code := fun ⟨t, u, vs, h1, h2, h3, h4⟩ => ⟨t, u, vs, h1, k.tp _ _ h2, k.tp _ _ h3, h4.mono fun _ _ => InsV.keep k⟩
def CodeOk (n : Nat) (code : List (Str × List Int)) : Prop := ∀ d ∈ code, InsOk n 5 d.1 d.2
/-- the instruction at pc -/
def insAt (code : List (Str × List Int)) (pc : Int) : Str × List Int := if pc < code.length then code.getD pc.toNat ("skip", []) else ("skip", [])
def endS (code : List (Str × List Int)) (S : Mst) : Str × List Int := if S.br = 0 ∧ ((insAt code S.pc).1 = "halt" ∨ (insAt code S.pc).1 = "fail") then insAt code S.pc else ("none", [])
def stepS (n : Nat) (code : List (Str × List Int)) (S : Mst) : Mst :=
  let d := insAt code S.pc
  let S1 : Mst := if d.1 = "rbra" then { S with br := (if S.dir = 1 then -(S.br + d.2.getD 0 0) else d.2.getD 0 0 - S.br) % 2 ^ 32, dir := -S.dir } else actS n d.1 d.2 S.dir S
  { S1 with pc := (S.pc + S1.dir * (if S1.br = 0 then 1 else S1.br)) % 2 ^ 32 }

end My

set_option Elab.async false
set_option linter.all false
set_option maxRecDepth 100000
namespace My
open PySem PySem.Spec PyProof.Rows L2
/-! ### what an instruction leaves -/
theorem ite_p {p : Mst → Prop} {c : Prop} [Decidable c] {A B : Mst} (hA : p A) (hB : p B) : p (if c then A else B) := by
  by_cases h : c
  · rw [if_pos h]; exact hA
  · rw [if_neg h]; exact hB
theorem actS_pc (n : Nat) (op : Str) (ps : List Int) (sg : Int) (S : Mst) : (actS n op ps sg S).pc = S.pc ∧ (actS n op ps sg S).dir = S.dir := by
  let p : Mst → Prop := fun R => R.pc = S.pc ∧ R.dir = S.dir
  show p (actS n op ps sg S)
  unfold actS
  dsimp only
  repeat' first
    | exact (⟨rfl, rfl⟩ : p _)
    | refine ite_p ?_ ?_
theorem high_put {n : Nat} {g y : Int} (hn : n ≤ 32) (g0 : 0 ≤ g) (g1 : g < 2 ^ 32) (y0 : 0 ≤ y) (y1 : y < 2 ^ n) : W32 (g - g % 2 ^ n + y) := by
  have hp : (0 : Int) < 2 ^ n := Int.pow_pos (by decide)
  have e : (2 : Int) ^ 32 = 2 ^ n * 2 ^ (32 - n) := by
    rw [← Int.pow_add]
    congr 1
    omega
  have h1 := Int.emod_nonneg g (Int.ne_of_gt hp)
  have h2 := Int.emod_add_mul_ediv g (2 ^ n)
  have h3 : g / 2 ^ n < 2 ^ (32 - n) := by
    refine Int.ediv_lt_of_lt_mul hp ?_
    rw [Int.mul_comm, ← e]
    exact g1
  have h4 : 0 ≤ g / 2 ^ n := Int.ediv_nonneg g0 (Int.le_of_lt hp)
  have h5 : 2 ^ n * (g / 2 ^ n) + 2 ^ n ≤ (2 : Int) ^ 32 := by
    have h7 : 2 ^ n * (g / 2 ^ n) + 2 ^ n = (2 : Int) ^ n * (g / 2 ^ n + 1) := by rw [Int.mul_add, Int.mul_one]
    rw [e, h7]
    exact Int.mul_le_mul_of_nonneg_left (by omega) (Int.le_of_lt hp)
  have h6 : 0 ≤ 2 ^ n * (g / 2 ^ n) := Int.mul_nonneg (Int.le_of_lt hp) h4
  unfold W32
  omega
theorem Mst.Ok.put {S : Mst} (h : S.Ok) (i : Int) {x : Int} (hx : W32 x) : (S.put i x).Ok := by
  refine ⟨?_, ?_, h.pc, h.br, h.dir, h.m1, h.m6, h.mw⟩
  · show (S.regs.set _ _).length = 16
    rw [List.length_set]
    exact h.r16
  · intro y hy
    rcases List.mem_or_eq_of_mem_set hy with hy | rfl
    · exact h.rw y hy
    · exact hx
theorem Mst.Ok.setBr {S : Mst} (h : S.Ok) {x : Int} (hx : W32 x) : ({ S with br := x } : Mst).Ok := ⟨h.r16, h.rw, h.pc, hx, h.dir, h.m1, h.m6, h.mw⟩
theorem w32_mod (x : Int) : W32 (x % 2 ^ 32) := ⟨Int.emod_nonneg _ (by decide), Int.emod_lt_of_pos _ (by decide)⟩
theorem Mst.Ok.gw {S : Mst} (h : S.Ok) (i : Int) : W32 (gR S i) := by
  unfold gR
  rw [List.getD_eq_getElem?_getD]
  cases e : S.regs[i.toNat]? with
  | none => exact ⟨by decide, by decide⟩
  | some x => exact h.rw x (List.mem_of_getElem? e)
theorem Mst.Ok.chg {S : Mst} (h : S.Ok) {n : Nat} (hn : n ≤ 32) (i x : Int) : (chg n S i x).Ok := by
  have hp : (0 : Int) < 2 ^ n := Int.pow_pos (by decide)
  exact h.put _ (high_put hn (h.gw i).1 (h.gw i).2 (Int.emod_nonneg _ (Int.ne_of_gt hp)) (Int.emod_lt_of_pos _ hp))
theorem actS_ok {n : Nat} (hn : n ≤ 32) (op : Str) (ps : List Int) (sg : Int) {S : Mst} (h : S.Ok) : (actS n op ps sg S).Ok := by
  unfold actS
  dsimp only
  repeat' first
    | exact h
    | exact h.chg hn _ _
    | exact h.setBr (w32_mod _)
    | exact h.put _ (w32_mod _)
    | refine ite_p ?_ ?_
  · exact (h.put _ (h.gw _)).put _ (h.gw _)
  · exact (h.put _ h.br).setBr (h.gw _)
  · have hm : W32 (S.mem.getD (gR S (ps.getD 1 0) % S.mem.length).toNat 0) := by
      rw [List.getD_eq_getElem?_getD]
      cases e : S.mem[(gR S (ps.getD 1 0) % S.mem.length).toNat]? with
      | none => exact ⟨by decide, by decide⟩
      | some x => exact h.mw x (List.mem_of_getElem? e)
    have h2 := h.put (ps.getD 0 0) hm
    refine ⟨h2.r16, h2.rw, h2.pc, h2.br, h2.dir, ?_, ?_, ?_⟩
    · show 1 ≤ (S.mem.set _ _).length
      rw [List.length_set]
      exact h.m1
    · show (S.mem.set _ _).length ≤ 6
      rw [List.length_set]
      exact h.m6
    · intro y hy
      rcases List.mem_or_eq_of_mem_set hy with hy | rfl
      · exact h.mw y hy
      · exact h.gw _
/-- what a step leaves is a state -/
theorem stepS_ok {n : Nat} (hn : n ≤ 32) (code : List (Str × List Int)) {S : Mst} (h : S.Ok) : (stepS n code S).Ok := by
  have key : ∀ S1 : Mst, S1.Ok → ({ S1 with pc := (S.pc + S1.dir * (if S1.br = 0 then 1 else S1.br)) % 2 ^ 32 } : Mst).Ok := fun S1 h1 => ⟨h1.r16, h1.rw, w32_mod _, h1.br, h1.dir, h1.m1, h1.m6, h1.mw⟩
  unfold stepS
  refine key _ ?_
  split
  · refine ⟨h.r16, h.rw, h.pc, w32_mod _, ?_, h.m1, h.m6, h.mw⟩
    show -S.dir = 1 ∨ -S.dir = -1
    rcases h.dir with e | e <;> rw [e]
    · exact .inr rfl
    · exact .inl rfl
  · exact actS_ok hn _ _ _ h
/-- what changes did not stand at the start -/
theorem KT.over {L : List Addr} {H H1 H2 : Hp} (a : KT [] H H1) (b : KT L H1 H2) (h : ∀ p ∈ L, H p = none) : KT [] H H2 :=
  ⟨fun c o _ e => b.kp c o (fun z => by rw [h c z] at e; cases e) (a.kp c o (by simp) e), fun c xs e => b.tp c xs (a.tp c xs e), fun c o u e => b.fz c o u (a.fz c o u e), fun c o e => let ⟨o', e'⟩ := a.th c o e; b.th c o' e', fun c d t e => let ⟨t', e'⟩ := a.hd c d t e; b.hd c d t' e'⟩

end My

set_option Elab.async false
set_option linter.all false
set_option maxRecDepth 100000
namespace My
open PySem PySem.Spec PyProof.Rows L2
section
variable {P : Program} {w : World} {K : PySem.W.Frag} {mg : Str → Option Value} {base : Heap}
theorem mK_new (ra ma : Addr) (b : Int) : mergeK [] (mK ra ma b) = mK ra ma b := by kernel_rfl
def midS (n : Nat) (code : List (Str × List Int)) (S : Mst) : Mst :=
  if (insAt code S.pc).1 = "rbra" then { S with br := (if S.dir = 1 then -(S.br + (insAt code S.pc).2.getD 0 0) else (insAt code S.pc).2.getD 0 0 - S.br) % 2 ^ 32, dir := -S.dir } else actS n (insAt code S.pc).1 (insAt code S.pc).2 S.dir S
theorem stepS_mid (n : Nat) (code : List (Str × List Int)) (S : Mst) : stepS n code S = { midS n code S with pc := (S.pc + (midS n code S).dir * (if (midS n code S).br = 0 then 1 else (midS n code S).br)) % 2 ^ 32 } := rfl
theorem skip_ok (n : Nat) : InsOk n 5 "skip" [] := by
  refine ⟨⟨27, by decide, by decide⟩, by decide, 0, 1, 2, ?_, by decide, by decide, fun j ch p _ h => by simp at h⟩
  intro x hx
  simp only [List.mem_cons, List.not_mem_nil, or_false] at hx
  omega
theorem insAt_ok {n : Nat} {code : List (Str × List Int)} (h : CodeOk n code) (pc : Int) : InsOk n 5 (insAt code pc).1 (insAt code pc).2 := by
  unfold insAt
  by_cases hp : pc < code.length
  · rw [if_pos hp, List.getD_eq_getElem?_getD]
    cases e : code[pc.toNat]? with
    | none => exact skip_ok n
    | some d => exact h d (List.mem_of_getElem? e)
  · rw [if_neg hp]
    exact skip_ok n
def spStep : Sp := fun vs H Q _ => ∃ (mv sv : V) (n : Nat) (code : List (Str × List Int)) (S : Mst), vs = [mv, sv] ∧ MaV H mv n code ∧ CodeOk n code ∧ 1 ≤ n ∧ n ≤ 32 ∧ code.length ≤ 100 ∧ StV H sv S ∧ S.Ok ∧ ∀ v H', KT [] H H' → StV H' v (stepS n code S) → Q v H'
set_option maxHeartbeats 4000000 in
theorem ok_z_step (T : Txt K mg) : FnOk P w K mg base CX0 3 T.f_z_step T.d_z_step ["machine", "state"] spStep := by
  have G_z_act := ok_z_act (P := P) (w := w) (base := base) T
  refine T.F_z_step.ok sc_z_step (fun vs H Q E h => ?_) (fun cdv A outer s H vs Q E hr h => ?_)
  · obtain ⟨mv, sv, n, code, S, rfl, _⟩ := h
    rfl
  · obtain ⟨mv, sv, n, code, S, rfl, ⟨mt, u, cvs, rfl, hmt, hu, hP⟩, hC, hn1, hn, hcl, ⟨t, ra, ma, rfl, hst, hra, hma⟩, hS, q⟩ := h
    obtain ⟨p0, p1⟩ := hS.pc
    have hcv : (cvs.length : Int) = code.length := by rw [hP.len]
    refine ⟨_, (pss_cons (ps_set (i := 2) sc_z_step.nd rfl (Or.inl rfl) (pe_disp (pps_cons pe_str (pe_callTy call_list_of (by rfl) T.m_list (by decide +kernel) (pa_cons (pe_ix ix_tup (pv 1) pe_int (fun _ _ => rfl)) pa_nil)) (pps_cons pe_str (pe_ix ix_tup (pv 1) pe_int (fun _ _ => rfl)) (pps_cons pe_str (pe_callTy call_list_of (by rfl) T.m_list (by decide +kernel) (pa_cons (pe_ix ix_tup (pv 1) pe_int (fun _ _ => rfl)) pa_nil)) pps_nil))) (by rfl) (by rfl) (fun z => by cases z) (by decide)))
      (pss_cons (ps_par (i := 3) (j := 4) (by rfl) sc_z_step.nd rfl rfl (by decide) rfl rfl (pa_cons (pe_ix ix_tup (pv 1) pe_int (fun _ _ => rfl)) (pa_cons (pe_ix ix_tup (pv 1) pe_int (fun _ _ => rfl)) pa_nil)) (by rfl))
      (pss_cons (ps_set (i := 5) sc_z_step.nd rfl (Or.inl rfl) (pe_tup (pa_cons pe_str pa_nil)))
      (pss_cons (ps_cut (ps_if (pt_cmpR op_lt (pv 3) (pe_callB call_len_seq (by rfl) T.m_len (by decide +kernel) (pa_cons (pe_ix ix_tup (pv 0) pe_int (fun _ _ => rfl)) pa_nil)) (nomark _))
        (pss_one (ps_set (i := 5) sc_z_step.nd rfl (Or.inl rfl) (pe_ix ix_tup (pe_ix ix_tup (pv 0) pe_int (fun _ _ => rfl)) (pv 3) (fun _ _ => rfl))))
        pss_nil))
      (pss_cons (ps_cut (ps_if (pt_cmpR op_eq (pe_ix ix_tup (pv 5) pe_int (fun _ _ => rfl)) pe_str (nomark _))
        (pss_cons (ps_dput (hu_of hr) (pv 2) pe_str (pe_op op_and (pe_ix ix_list (pe_lst (pa_cons (pe_op op_sub (pe_ix ix_tup (pv 5) pe_int (fun _ _ => rfl)) (pe_dget (hu_of hr) (pv 2) pe_str (fun _ _ => rfl))) (pa_cons (pe_un un_neg (pe_op op_add (pe_dget (hu_of hr) (pv 2) pe_str (fun _ _ => rfl)) (pe_ix ix_tup (pv 5) pe_int (fun _ _ => rfl)))) pa_nil))) (pe_callTy call_int1 (by rfl) T.m_int (by decide +kernel) (pa_cons (pe_cmpR op_eq (pv 4) pe_int (nomark _)) pa_nil)) (fun _ _ => rfl)) pe_int) rfl)
        (pss_one (ps_set (i := 4) sc_z_step.nd rfl (Or.inl rfl) (pe_un un_neg (pv 4)))))
        (pss_one (ps_expr (pe_call G_z_act (hr.mono (by omega)) (by rfl) T.g_z_act T.F_z_act.kp T.b_z_act .nil pass0 (pa_cons (pv 2) (pa_cons (pe_ix ix_tup (pv 0) pe_int (fun _ _ => rfl)) (pa_cons (pv 5) (pa_cons (pv 4) pa_nil)))))))))
      (pss_cons (ps_set (i := 3) sc_z_step.nd rfl (Or.inl rfl) (pe_op op_and (pe_op op_add (pv 3) (pe_op op_mul (pv 4) (pe_ix ix_list (pe_lst (pa_cons pe_int (pa_cons (pe_dget (hu_of hr) (pv 2) pe_str (fun _ _ => rfl)) pa_nil))) (pe_callTy call_int1 (by rfl) T.m_int (by decide +kernel) (pa_cons (pe_cmpR op_ne (pe_dget (hu_of hr) (pv 2) pe_str (fun _ _ => rfl)) pe_int (nomark _)) pa_nil)) (fun _ _ => rfl)))) pe_int))
      (pss_one (ps_ret (pe_tup (pa_cons (pe_callTy call_tuple_of (by rfl) T.m_tuple (by decide +kernel) (pa_cons (pe_dget (hu_of hr) (pv 2) pe_str (fun _ _ => rfl)) pa_nil)) (pa_cons (pv 3) (pa_cons (pe_dget (hu_of hr) (pv 2) pe_str (fun _ _ => rfl)) (pa_cons (pv 4) (pa_cons (pe_callTy call_tuple_of (by rfl) T.m_tuple (by decide +kernel) (pa_cons (pe_dget (hu_of hr) (pv 2) pe_str (fun _ _ => rfl)) pa_nil)) pa_nil)))))))))))))), ?_⟩
    -- m
    refine fun m nm => ?_
    have k0 := KT.new [] nm (o := .dK [])
    refine ⟨_, rfl, t, _, _, _, rfl, rfl, SqT.of (k0.tp _ _ hst), atN 0 rfl rfl, ra, _, rfl, .inr (SqT.of (k0.tp _ _ hra)), fun rl nrl => ?_⟩
    have k1 := k0.trans (KT.new [] nrl (o := .lst (S.regs.map V.int)))
    refine ⟨_, rfl, t, _, _, _, rfl, rfl, SqT.of (k1.tp _ _ hst), atN 2 rfl rfl, ?_⟩
    refine ⟨_, rfl, t, _, _, _, rfl, rfl, SqT.of (k1.tp _ _ hst), atN 4 rfl rfl, ma, _, rfl, .inr (SqT.of (k1.tp _ _ hma)), fun ml nml => ?_⟩
    have k2 := k1.trans (KT.new [] nml (o := .lst (S.mem.map V.int)))
    have hm2 : (upd (upd (upd H m (.dK [])) rl (.lst (S.regs.map V.int))) ml (.lst (S.mem.map V.int))) m = some (.dK []) := (KT.new [] nml).same _ _ ((KT.new [] nrl).same _ _ upd_same)
    have hr2 : (upd (upd (upd H m (.dK [])) rl (.lst (S.regs.map V.int))) ml (.lst (S.mem.map V.int))) rl = some (.lst (S.regs.map V.int)) := (KT.new [] nml).same _ _ upd_same
    have ha2 : (upd (upd (upd H m (.dK [])) rl (.lst (S.regs.map V.int))) ml (.lst (S.mem.map V.int))) ml = some (.lst (S.mem.map V.int)) := upd_same
    have nrlH : H rl = none := k0.free nrl
    have nmlH : H ml = none := k1.free nml
    have hne : rl ≠ ml := fun z => by
      rw [z] at nml
      rw [← z, upd_same] at nml
      cases nml
    generalize upd (upd (upd H m (.dK [])) rl (.lst (S.regs.map V.int))) ml (.lst (S.mem.map V.int)) = H2 at k2 hm2 hr2 ha2 ⊢
    refine ⟨hm2, mK rl ml S.br, rfl, (by show 3 ≤ 15; decide), ?_⟩
    rw [mK_new]
    have k3 : KT [] H (upd H2 m (.dK (mK rl ml S.br))) := k2.late nm
    have M3 : MV (upd H2 m (.dK (mK rl ml S.br))) m rl ml S := by
      refine ⟨upd_same, ?_, ?_, hne⟩
      · rw [upd_ne (fun z => by rw [z, hm2] at hr2; cases hr2)]
        exact hr2
      · rw [upd_ne (fun z => by rw [z, hm2] at ha2; cases ha2)]
        exact ha2
    generalize upd H2 m (.dK (mK rl ml S.br)) = H3 at k3 M3 ⊢
    clear k0 k1 k2 hm2 hr2 ha2 nrl nml
    -- pc, direction
    refine ⟨_, rfl, t, _, _, _, rfl, rfl, SqT.of (k3.tp _ _ hst), atN 1 rfl rfl, _, rfl, t, _, _, _, rfl, rfl, SqT.of (k3.tp _ _ hst), atN 3 rfl rfl, ?_⟩
    refine ⟨_, _, rfl, (by show 1 ≤ sizeLine; decide), fun t2 nt2 => ?_⟩
    have k4 := k3.trans (KT.new [] nt2 (o := .tup [.str "skip"]))
    have M4 := M3.keep (KT.new [] nt2 (o := .tup [.str "skip"]))
    have ht2 : (upd H3 t2 (.tup [.str "skip"])) t2 = some (.tup [.str "skip"]) := upd_same
    generalize upd H3 t2 (.tup [.str "skip"]) = H4 at k4 M4 ht2 ⊢
    clear k3 M3 nt2
    refine ⟨fun σ H5 => ∃ iv, σ = [some (.ref mt), some (.ref t), some (.ref m), some (.int S.pc), some (.int S.dir), some iv] ∧ KT [] H H5 ∧ MV H5 m rl ml S ∧ InsV H5 iv (insAt code S.pc), ?_, ?_⟩
    · refine ⟨_, rfl, _, rfl, mt, _, _, _, rfl, rfl, SqT.of (k4.tp _ _ hmt), atN 1 rfl rfl, _, _, rfl, .inr (SqT.of (k4.tp _ _ hu)), _, _, rfl, rfl, _, rfl, ite2 (fun e => ?_) (fun e => ?_)⟩
      · have hlt : S.pc < (cvs.length : Int) := of_decide_eq_true e
        obtain ⟨k, hk⟩ := int_nat p0
        have hkl : k < cvs.length := by omega
        obtain ⟨d, hd1, it, hit, hit2⟩ := hP.get (List.getElem?_eq_getElem hkl)
        have hins : insAt code S.pc = d := by
          unfold insAt
          rw [if_pos (by omega), hk, Int.toNat_natCast, List.getD_eq_getElem?_getD, hd1]
          rfl
        have hat : atI cvs S.pc = some (.ref it) := atN k hk (by rw [List.getElem?_eq_getElem hkl, hit])
        refine ⟨_, rfl, mt, _, _, _, rfl, rfl, SqT.of (k4.tp _ _ hmt), atN 1 rfl rfl, _, rfl, u, _, _, _, rfl, rfl, SqT.of (k4.tp _ _ hu), hat, ?_⟩
        rw [hins]
        exact ⟨_, rfl, k4, M4, it, rfl, k4.tp _ _ hit2⟩
      · have hlt : ¬ S.pc < (cvs.length : Int) := fun z => e (decide_eq_true z)
        have hins : insAt code S.pc = (("skip", []) : Str × List Int) := by
          unfold insAt
          rw [if_neg (by omega)]
        rw [hins]
        exact ⟨_, rfl, k4, M4, t2, rfl, ht2⟩
    clear k4 M4 ht2
    rintro σ H5 ⟨iv, rfl, k5, M5, it, rfl, hit⟩
    have hok := insAt_ok hC S.pc
    have hmid : (insAt code S.pc).1 = "rbra" → ∃ x, (insAt code S.pc).2 = [x] ∧ -5 ≤ x ∧ x ≤ 5 := fun e => by
      have h2 := hok
      rw [e] at h2
      obtain ⟨x, h3, h4, h5⟩ := ins_o h2 (by decide +kernel)
      exact ⟨x, h3, h4, h5⟩
    refine ⟨fun σ H6 => σ = [some (.ref mt), some (.ref t), some (.ref m), some (.int S.pc), some (.int (midS n code S).dir), some (.ref it)] ∧ KT [] H H6 ∧ MV H6 m rl ml (midS n code S), ?_, ?_⟩
    · refine ⟨_, rfl, it, _, _, _, rfl, rfl, SqT.of hit, atN 0 rfl rfl, rfl, _, rfl, ite2 (fun e => ?_) (fun e => ?_)⟩
      · have e1 := str_eq e
        obtain ⟨x, hx, x0, x1⟩ := hmid e1
        rw [e1, hx] at hit
        refine ⟨_, rfl, it, _, _, _, rfl, rfl, SqT.of hit, atN 1 rfl rfl, _, rfl, _, _, rfl, dget_s M5.hm (mK_br ..), _, _, rfl, rfl, _, rfl, _, _, rfl, dget_s M5.hm (mK_br ..), _, rfl, it, _, _, _, rfl, rfl, SqT.of hit, atN 1 rfl rfl, _, _, rfl, rfl, _, rfl, (by show 2 ≤ sizeLine; decide), fun l nl => ?_⟩
        have M6 := M5.keep (KT.new [] nl (o := .lst [.int (x - S.br), .int (-(S.br + x))]))
        have k6 := k5.trans (KT.new [] nl (o := .lst [.int (x - S.br), .int (-(S.br + x))]))
        refine ⟨_, rfl, rfl, .inr ⟨_, rfl, l, _, _, .int (if S.dir = 1 then -(S.br + x) else x - S.br), rfl, rfl, SqL.of upd_same, ?_, _, _, rfl, rfl, _, rfl, m, _, rfl, DPut.k (k := Sum.inr "br") M6.hm (show 3 < sizeLine by decide), _, rfl, _, rfl, ?_⟩⟩
        · by_cases h : S.dir = 1
          · rw [if_pos h, decide_eq_true (show V.int S.dir = V.int 1 by rw [h])]
            rfl
          · rw [if_neg h, decide_eq_false (fun z => h (V.int.inj z))]
            rfl
        · have em : midS n code S = { S with br := (if S.dir = 1 then -(S.br + x) else x - S.br) % 2 ^ 32, dir := -S.dir } := by
            unfold midS
            rw [if_pos e1, hx]
            rfl
          rw [em, mK_put, mask32]
          refine ⟨rfl, k6.over (KT.put (S := [m]) (by simp) M6.hm (fun _ z => by cases z) (fun _ _ z => by cases z) (fun _ z => by cases z)) ?_, ?_⟩
          · intro p hp
            rw [List.mem_singleton.mp hp]
            exact nm
          · have M7 := M6.setBr ((if S.dir = 1 then -(S.br + x) else x - S.br) % 2 ^ 32)
            exact ⟨M7.hm, M7.hr, M7.ha, M7.ne⟩
      · have e1 := str_ne e
        have em : midS n code S = actS n (insAt code S.pc).1 (insAt code S.pc).2 S.dir S := by
          unfold midS
          rw [if_neg e1]
        refine ⟨_, rfl, _, rfl, mt, _, _, _, rfl, rfl, SqT.of (k5.tp _ _ hmt), atN 0 rfl rfl, _, rfl, _, rfl, ?_⟩
        refine ⟨m, rl, ml, n, 5, .ref it, (insAt code S.pc).1, (insAt code S.pc).2, S.dir, S, rfl, hn1, hn, by decide, ⟨it, rfl, hit⟩, hok, e1, hS.dir, M5, hS, fun H6 k6 M6 => ?_⟩
        rw [em, (actS_pc ..).2]
        refine ⟨rfl, k5.over k6 ?_, M6⟩
        intro p hp
        simp only [List.mem_cons, List.not_mem_nil, or_false] at hp
        rcases hp with rfl | rfl | rfl
        · exact nm
        · exact nrlH
        · exact nmlH
    clear k5 M5 hit
    rintro σ H6 ⟨rfl, k6, M6⟩
    have hSo := stepS_ok hn code hS
    rw [stepS_mid] at q
    have hmo : W32 (midS n code S).br ∧ ((midS n code S).dir = 1 ∨ (midS n code S).dir = -1) := by
      rw [stepS_mid] at hSo
      exact ⟨hSo.br, hSo.dir⟩
    generalize midS n code S = S1 at q M6 hmo ⊢
    obtain ⟨⟨b0, b1⟩, hd⟩ := hmo
    refine ⟨_, rfl, _, rfl, _, rfl, _, _, rfl, dget_s M6.hm (mK_br ..), (by show 2 ≤ sizeLine; decide), fun l nl => ?_⟩
    have M7 := M6.keep (KT.new [] nl (o := .lst [.int 1, .int S1.br]))
    have k7 := k6.trans (KT.new [] nl (o := .lst [.int 1, .int S1.br]))
    refine ⟨_, rfl, _, _, rfl, dget_s M7.hm (mK_br ..), rfl, .inr ⟨_, rfl, l, _, _, .int (if S1.br = 0 then 1 else S1.br), rfl, rfl, SqL.of upd_same, ?_, _, _, rfl, rfl, .inl ?_, _, _, rfl, rfl, _, _, rfl, rfl, ?_⟩⟩
    · by_cases h : S1.br = 0
      · rw [if_pos h, decide_eq_true (show V.int S1.br = V.int 0 by rw [h])]
        rfl
      · rw [if_neg h, decide_eq_false (fun z => h (V.int.inj z))]
        rfl
    · rcases hd with e | e <;> rw [e] <;> decide
    dsimp only
    rw [mask32]
    refine ⟨_, rfl, _, _, rfl, dget_s M7.hm (mK_r ..), _, _, rfl, .inl ⟨SqL.of M7.hr, fun ra' nra' => ?_⟩⟩
    have M8 := M7.keep (KT.new [] nra' (o := .tup (S1.regs.map V.int)))
    have k8 := k7.trans (KT.new [] nra' (o := .tup (S1.regs.map V.int)))
    refine ⟨_, rfl, _, rfl, _, _, rfl, dget_s M8.hm (mK_br ..), _, rfl, _, rfl, _, _, rfl, dget_s M8.hm (mK_mem ..), _, _, rfl, .inl ⟨SqL.of M8.ha, fun ma' nma' => ⟨(by show 5 ≤ sizeLine; decide), fun t' nt' => ?_⟩⟩⟩
    have k9 := KT.new [] nma' (o := .tup (S1.mem.map V.int))
    have k10 := KT.new [] nt' (o := .tup [.ref ra', .int ((S.pc + S1.dir * (if S1.br = 0 then 1 else S1.br)) % 2 ^ 32), .int S1.br, .int S1.dir, .ref ma'])
    refine q _ _ ((k8.trans k9).trans k10) ⟨t', ra', ma', rfl, upd_same, k10.tp _ _ (k9.tp _ _ upd_same), k10.tp _ _ upd_same⟩
end

end My

set_option Elab.async false
set_option linter.all false
set_option maxRecDepth 100000
namespace My
open PySem PySem.Spec PyProof.Rows L2
/-! ### the program's machine that changes: an object of class Core -/
structure TxC (K : PySem.W.Frag) (C : Addr) : Prop where
  cl : Cls K C
  nW : NoAttr K C "width"
  nP : NoAttr K C "program_code"
  nL : NoAttr K C "low"
  nPc : NoAttr K C "pc"
  nB : NoAttr K C "br"
  nD : NoAttr K C "direction"
  nR : NoAttr K C "registers"
  nM : NoAttr K C "memory"
def flds (n : Nat) (u ra ma : Addr) (S : Mst) : List (Str × V) := [("width", .int n), ("program_code", .ref u), ("low", .int (2 ^ n - 1)), ("pc", .int S.pc), ("br", .int S.br), ("direction", .int S.dir), ("registers", .ref ra), ("memory", .ref ma)]
section
variable (n : Nat) (u ra ma : Addr) (S : Mst)
theorem fl_width : (flds n u ra ma S).lookup ("width" : Str) = some (.int n) := by kernel_rfl
theorem fl_code : (flds n u ra ma S).lookup ("program_code" : Str) = some (.ref u) := by kernel_rfl
theorem fl_low : (flds n u ra ma S).lookup ("low" : Str) = some (.int (2 ^ n - 1)) := by kernel_rfl
theorem fl_pc : (flds n u ra ma S).lookup ("pc" : Str) = some (.int S.pc) := by kernel_rfl
theorem fl_br : (flds n u ra ma S).lookup ("br" : Str) = some (.int S.br) := by kernel_rfl
theorem fl_dir : (flds n u ra ma S).lookup ("direction" : Str) = some (.int S.dir) := by kernel_rfl
theorem fl_regs : (flds n u ra ma S).lookup ("registers" : Str) = some (.ref ra) := by kernel_rfl
theorem fl_mem : (flds n u ra ma S).lookup ("memory" : Str) = some (.ref ma) := by kernel_rfl
theorem fl_put_br (x : Int) : putF "br" (.int x) (flds n u ra ma S) = flds n u ra ma { S with br := x } := by kernel_rfl
theorem fl_put_pc (x : Int) : putF "pc" (.int x) (flds n u ra ma S) = flds n u ra ma { S with pc := x } := by kernel_rfl
theorem fl_put_dir (x : Int) : putF "direction" (.int x) (flds n u ra ma S) = flds n u ra ma { S with dir := x } := by kernel_rfl
end
structure CoV (C : Addr) (H : Hp) (p ra ma u : Addr) (n : Nat) (S : Mst) : Prop where
  ho : ∃ dx, H p = some (.ins C dx (flds n u ra ma S))
  hr : H ra = some (.lst (S.regs.map V.int))
  ha : H ma = some (.lst (S.mem.map V.int))
  ne : ra ≠ ma
section
variable {C : Addr} {H H' : Hp} {p ra ma u : Addr} {n : Nat} {S : Mst}
theorem CoV.keep (h : CoV C H p ra ma u n S) (k : KT [] H H') : CoV C H' p ra ma u n S := ⟨let ⟨dx, e⟩ := h.ho; ⟨dx, k.same _ _ e⟩, k.same _ _ h.hr, k.same _ _ h.ha, h.ne⟩
theorem CoV.pm (h : CoV C H p ra ma u n S) : p ≠ ra ∧ p ≠ ma := by
  obtain ⟨dx, e⟩ := h.ho
  exact ⟨(fun z => by rw [z, h.hr] at e; cases e), (fun z => by rw [z, h.ha] at e; cases e)⟩
theorem CoV.setR (h : CoV C H p ra ma u n S) (a : Nat) (x : Int) : CoV C (upd H ra (.lst ((S.regs.map V.int).set a (.int x)))) p ra ma u n (S.put (a : Int) x) :=
  ⟨let ⟨dx, e⟩ := h.ho; ⟨dx, by rw [upd_ne h.pm.1]; exact e⟩, by rw [upd_same, ← List.map_set]; rfl, by rw [upd_ne (Ne.symm h.ne)]; exact h.ha, h.ne⟩
theorem CoV.setM (h : CoV C H p ra ma u n S) (k : Nat) (x : Int) : CoV C (upd H ma (.lst ((S.mem.map V.int).set k (.int x)))) p ra ma u n { S with mem := S.mem.set k x } :=
  ⟨let ⟨dx, e⟩ := h.ho; ⟨dx, by rw [upd_ne h.pm.2]; exact e⟩, by rw [upd_ne h.ne]; exact h.hr, by rw [upd_same, ← List.map_set], h.ne⟩
theorem CoV.setO (h : CoV C H p ra ma u n S) {S' : Mst} {dx : Addr} (e1 : S'.regs = S.regs) (e2 : S'.mem = S.mem) : CoV C (upd H p (.ins C dx (flds n u ra ma S'))) p ra ma u n S' :=
  ⟨⟨dx, upd_same⟩, by rw [upd_ne (Ne.symm h.pm.1), e1]; exact h.hr, by rw [upd_ne (Ne.symm h.pm.2), e2]; exact h.ha, h.ne⟩
end
/-- what an instruction does, rbra too -/
def actX (n : Nat) (op : Str) (ps : List Int) (sg : Int) (S : Mst) : Mst :=
  if op = "rbra" then { S with br := (if sg = 1 then -(S.br + ps.getD 0 0) else ps.getD 0 0 - S.br) % 2 ^ 32, dir := -S.dir } else actS n op ps sg S
section
variable {P : Program} {w : World} {K : PySem.W.Frag} {mg : Str → Option Value} {base : Heap} {C : Addr}
def spChange (C : Addr) : Sp := fun vs H Q _ => ∃ (p ra ma u : Addr) (n : Nat) (S : Mst) (a : Nat) (x : Int), vs = [.ref p, .int a, .int x] ∧ a < 16 ∧ CoV C H p ra ma u n S ∧ S.Ok ∧ ∀ H', KT [p, ra, ma] H H' → CoV C H' p ra ma u n (chg n S a x) → Q .non H'
theorem ok_change_low (T : Txt K mg) (TC : TxC K C) : FnOk P w K mg base CX0 1 T.f_change_low T.d_change_low ["core", "at", "word"] (spChange C) := by
  refine T.F_change_low.ok sc_change_low (fun vs H Q E h => ?_) (fun cdv A outer s H vs Q E hr h => ?_)
  · obtain ⟨p, ra, ma, u, n, S, a, x, rfl, _⟩ := h
    rfl
  · obtain ⟨p, ra, ma, u, n, S, a, x, rfl, ha, hC, hS, q⟩ := h
    obtain ⟨wa, hga⟩ := hS.g ha
    obtain ⟨dx, hp⟩ := hC.ho
    have hix : ixN (S.regs.map V.int).length (a : Int) = some a := by
      rw [List.length_map, hS.r16]
      exact ixn_nat ha
    refine ⟨_, (pss_cons (ps_set (i := 3) sc_change_low.nd rfl (Or.inl rfl) (pe_ix ix_list (pe_fld (pv 0) rfl) (pv 1) (fun _ _ => rfl)))
      (pss_one (ps_asg (pe_op op_xor (pv 3) (pe_op op_andM (pe_op op_xor (pv 3) (pv 2)) (pe_fld (pv 0) rfl))) (pg_sub (pe_fld (pv 0) rfl) (pv 1) set_list)))), ?_⟩
    refine ⟨_, rfl, p, C, dx, _, _, rfl, hp, TC.cl, TC.nR, fl_regs .., _, rfl, ra, _, _, _, rfl, rfl, SqL.of hC.hr, atN a rfl hga, ?_⟩
    refine ⟨_, rfl, _, rfl, _, rfl, _, _, rfl, rfl, _, rfl, p, C, dx, _, _, rfl, hp, TC.cl, TC.nL, fl_low .., _, n, rfl, rfl, _, _, rfl, rfl, ?_⟩
    refine ⟨_, rfl, p, C, dx, _, _, rfl, hp, TC.cl, TC.nR, fl_regs .., _, rfl, ra, _, _, a, rfl, rfl, hC.hr, hix, ?_⟩
    dsimp only
    rw [low_put n wa.1]
    exact q _ (KT.setL (by simp) hC.hr) (hC.setR a _)
/-- an instruction, a constant of the top too -/
def InsW (K : PySem.W.Frag) (H : Hp) (v : V) (d : Str × List Int) : Prop := ∃ t, v = .ref t ∧ SqT K H t (.str d.1 :: d.2.map V.int)
theorem InsV.weak {K : PySem.W.Frag} {H : Hp} {v : V} {d : Str × List Int} (h : InsV H v d) : InsW K H v d := let ⟨t, e, h⟩ := h; ⟨t, e, SqT.of h⟩
def spDo (K : PySem.W.Frag) (C : Addr) (ops : List Str) : Sp := fun vs H Q _ => ∃ (p ra ma u : Addr) (n : Nat) (S : Mst) (v : V) (op : Str) (ps : List Int) (sg : Int), vs = [.ref p, v, .int sg] ∧ op ∈ ops ∧ InsW K H v (op, ps) ∧ InsOk n 5 op ps ∧ 1 ≤ n ∧ n ≤ 32 ∧ (sg = 1 ∨ sg = -1) ∧ CoV C H p ra ma u n S ∧ S.Ok ∧
  ∀ H', KT [p, ra, ma] H H' → CoV C H' p ra ma u n (actX n op ps sg S) → Q .non H'
theorem ok_do_add (T : Txt K mg) (TC : TxC K C) : FnOk P w K mg base CX0 2 T.f_do_add T.d_do_add ["core", "instruction", "sign"] (spDo K C ["add"]) := by
  have G_change_low := ok_change_low (P := P) (w := w) (base := base) T TC
  refine T.F_do_add.ok sc_do_add (fun vs H Q E h => ?_) (fun cdv A outer s H vs Q E hr h => ?_)
  · obtain ⟨p, ra, ma, u, n, S, v, op, ps, sg, rfl, _⟩ := h
    rfl
  · obtain ⟨p, ra, ma, u, n, S, v, op, ps, sg, rfl, hop, ⟨t, rfl, ht⟩, hi, hn1, hn, hsg, hC, hS, q⟩ := h
    have hop := List.mem_singleton.mp hop
    subst hop
    obtain ⟨a, b, rfl, ha, hb, hab⟩ := ins_rr hi (by decide +kernel)
    obtain ⟨wa, hga⟩ := hS.g ha
    obtain ⟨wb, hgb⟩ := hS.g hb
    obtain ⟨dx, hp⟩ := hC.ho
    refine ⟨_, (pss_cons (ps_asg (pv 1) (pg_tup (by rfl) (pgs_cons (pg_name (i := 3) sc_do_add.nd rfl (Or.inl rfl)) (pgs_cons (pg_name (i := 4) sc_do_add.nd rfl (Or.inl rfl)) (pgs_cons (pg_name (i := 5) sc_do_add.nd rfl (Or.inl rfl)) pgs_nil)))))
      (pss_one (ps_expr (pe_call G_change_low (hr.mono (by omega)) (by rfl) T.g_change_low T.F_change_low.kp T.b_change_low .nil pass0 (pa_cons (pv 0) (pa_cons (pv 4) (pa_cons (pe_op op_add (pe_ix ix_list (pe_fld (pv 0) rfl) (pv 4) (fun _ _ => rfl)) (pe_op op_mul (pv 2) (pe_ix ix_list (pe_fld (pv 0) rfl) (pv 5) (fun _ _ => rfl)))) pa_nil))))))), ?_⟩
    refine ⟨_, rfl, t, _, rfl, ht, rfl, _, _, rfl, _, _, rfl, _, _, rfl, rfl, ?_⟩
    refine ⟨_, rfl, _, rfl, _, rfl, p, C, dx, _, _, rfl, hp, TC.cl, TC.nR, fl_regs .., _, rfl, ra, _, _, _, rfl, rfl, SqL.of hC.hr, atN a rfl hga, _, rfl, _, rfl, p, C, dx, _, _, rfl, hp, TC.cl, TC.nR, fl_regs .., _, rfl, ra, _, _, _, rfl, rfl, SqL.of hC.hr, atN b rfl hgb, _, _, rfl, rfl, .inl ?_, _, _, rfl, rfl, ?_⟩
    · rcases hsg with rfl | rfl <;> decide
    · refine ⟨p, ra, ma, u, n, S, a, _, rfl, ha, hC, hS, fun H' k hC' => ?_⟩
      exact q H' k hC'
end

end My

set_option Elab.async false
set_option linter.all false
set_option maxRecDepth 100000
namespace My
open PySem PySem.Spec PyProof.Rows L2
section
variable {P : Program} {w : World} {K : PySem.W.Frag} {mg : Str → Option Value} {base : Heap} {C : Addr}
set_option maxHeartbeats 2000000 in
theorem ok_do_sub (T : Txt K mg) (TC : TxC K C) : FnOk P w K mg base CX0 2 T.f_do_sub T.d_do_sub ["core", "instruction", "sign"] (spDo K C ["sub"]) := by
  have G_change_low := ok_change_low (P := P) (w := w) (base := base) T TC
  refine T.F_do_sub.ok sc_do_sub (fun vs H Q E h => ?_) (fun cdv A outer s H vs Q E hr h => ?_)
  · obtain ⟨p, ra, ma, u, n, S, v, op, ps, sg, rfl, _⟩ := h
    rfl
  · obtain ⟨p, ra, ma, u, n, S, v, op, ps, sg, rfl, hop, ⟨t, rfl, ht⟩, hi, hn1, hn, hsg, hC, hS, q⟩ := h
    have hop := List.mem_singleton.mp hop
    subst hop
    obtain ⟨a, b, rfl, ha, hb, hab⟩ := ins_rr hi (by decide +kernel)
    obtain ⟨wa, hga⟩ := hS.g ha
    obtain ⟨wb, hgb⟩ := hS.g hb
    obtain ⟨dx, hp⟩ := hC.ho
    have hix : ixN (S.regs.map V.int).length (a : Int) = some a := by
      rw [List.length_map, hS.r16]
      exact ixn_nat ha
    refine ⟨_, (pss_cons (ps_asg (pv 1) (pg_tup (by rfl) (pgs_cons (pg_name (i := 3) sc_do_sub.nd rfl (Or.inl rfl)) (pgs_cons (pg_name (i := 4) sc_do_sub.nd rfl (Or.inl rfl)) (pgs_cons (pg_name (i := 5) sc_do_sub.nd rfl (Or.inl rfl)) pgs_nil)))))
      (pss_one (ps_expr (pe_call G_change_low (hr.mono (by omega)) (by rfl) T.g_change_low T.F_change_low.kp T.b_change_low .nil pass0 (pa_cons (pv 0) (pa_cons (pv 4) (pa_cons (pe_op op_sub (pe_ix ix_list (pe_fld (pv 0) rfl) (pv 4) (fun _ _ => rfl)) (pe_op op_mul (pv 2) (pe_ix ix_list (pe_fld (pv 0) rfl) (pv 5) (fun _ _ => rfl)))) pa_nil))))))), ?_⟩
    refine ⟨_, rfl, t, _, rfl, ht, rfl, _, _, rfl, _, _, rfl, _, _, rfl, rfl, ?_⟩
    refine ⟨_, rfl, _, rfl, _, rfl, p, C, dx, _, _, rfl, hp, TC.cl, TC.nR, fl_regs .., _, rfl, ra, _, _, _, rfl, rfl, SqL.of hC.hr, atN a rfl hga, _, rfl, _, rfl, p, C, dx, _, _, rfl, hp, TC.cl, TC.nR, fl_regs .., _, rfl, ra, _, _, _, rfl, rfl, SqL.of hC.hr, atN b rfl hgb, _, _, rfl, rfl, .inl ?_, _, _, rfl, rfl, ⟨p, ra, ma, u, n, S, a, _, rfl, ha, hC, hS, fun H' k hC' => q H' k hC'⟩⟩
    · rcases hsg with rfl | rfl <;> decide
set_option maxHeartbeats 2000000 in
theorem ok_do_xor (T : Txt K mg) (TC : TxC K C) : FnOk P w K mg base CX0 2 T.f_do_xor T.d_do_xor ["core", "instruction", "sign"] (spDo K C ["xor"]) := by
  have G_change_low := ok_change_low (P := P) (w := w) (base := base) T TC
  refine T.F_do_xor.ok sc_do_xor (fun vs H Q E h => ?_) (fun cdv A outer s H vs Q E hr h => ?_)
  · obtain ⟨p, ra, ma, u, n, S, v, op, ps, sg, rfl, _⟩ := h
    rfl
  · obtain ⟨p, ra, ma, u, n, S, v, op, ps, sg, rfl, hop, ⟨t, rfl, ht⟩, hi, hn1, hn, hsg, hC, hS, q⟩ := h
    have hop := List.mem_singleton.mp hop
    subst hop
    obtain ⟨a, b, rfl, ha, hb, hab⟩ := ins_rr hi (by decide +kernel)
    obtain ⟨wa, hga⟩ := hS.g ha
    obtain ⟨wb, hgb⟩ := hS.g hb
    obtain ⟨dx, hp⟩ := hC.ho
    have hix : ixN (S.regs.map V.int).length (a : Int) = some a := by
      rw [List.length_map, hS.r16]
      exact ixn_nat ha
    refine ⟨_, (pss_cons (ps_asg (pv 1) (pg_tup (by rfl) (pgs_cons (pg_name (i := 3) sc_do_xor.nd rfl (Or.inl rfl)) (pgs_cons (pg_name (i := 4) sc_do_xor.nd rfl (Or.inl rfl)) (pgs_cons (pg_name (i := 5) sc_do_xor.nd rfl (Or.inl rfl)) pgs_nil)))))
      (pss_one (ps_expr (pe_call G_change_low (hr.mono (by omega)) (by rfl) T.g_change_low T.F_change_low.kp T.b_change_low .nil pass0 (pa_cons (pv 0) (pa_cons (pv 4) (pa_cons (pe_op op_xor (pe_ix ix_list (pe_fld (pv 0) rfl) (pv 4) (fun _ _ => rfl)) (pe_ix ix_list (pe_fld (pv 0) rfl) (pv 5) (fun _ _ => rfl))) pa_nil))))))), ?_⟩
    refine ⟨_, rfl, t, _, rfl, ht, rfl, _, _, rfl, _, _, rfl, _, _, rfl, rfl, ?_⟩
    exact ⟨_, rfl, _, rfl, _, rfl, p, C, dx, _, _, rfl, hp, TC.cl, TC.nR, fl_regs .., _, rfl, ra, _, _, _, rfl, rfl, SqL.of hC.hr, atN a rfl hga, _, rfl, p, C, dx, _, _, rfl, hp, TC.cl, TC.nR, fl_regs .., _, rfl, ra, _, _, _, rfl, rfl, SqL.of hC.hr, atN b rfl hgb, _, _, rfl, rfl, ⟨p, ra, ma, u, n, S, a, _, rfl, ha, hC, hS, fun H' k hC' => q H' k hC'⟩⟩
set_option maxHeartbeats 2000000 in
theorem ok_do_addi (T : Txt K mg) (TC : TxC K C) : FnOk P w K mg base CX0 2 T.f_do_addi T.d_do_addi ["core", "instruction", "sign"] (spDo K C ["addi"]) := by
  have G_change_low := ok_change_low (P := P) (w := w) (base := base) T TC
  refine T.F_do_addi.ok sc_do_addi (fun vs H Q E h => ?_) (fun cdv A outer s H vs Q E hr h => ?_)
  · obtain ⟨p, ra, ma, u, n, S, v, op, ps, sg, rfl, _⟩ := h
    rfl
  · obtain ⟨p, ra, ma, u, n, S, v, op, ps, sg, rfl, hop, ⟨t, rfl, ht⟩, hi, hn1, hn, hsg, hC, hS, q⟩ := h
    have hop := List.mem_singleton.mp hop
    subst hop
    obtain ⟨a, x, rfl, ha, x0, x1⟩ := ins_rn hi (by decide +kernel)
    obtain ⟨wa, hga⟩ := hS.g ha
    obtain ⟨dx, hp⟩ := hC.ho
    have hix : ixN (S.regs.map V.int).length (a : Int) = some a := by
      rw [List.length_map, hS.r16]
      exact ixn_nat ha
    refine ⟨_, (pss_cons (ps_asg (pv 1) (pg_tup (by rfl) (pgs_cons (pg_name (i := 3) sc_do_addi.nd rfl (Or.inl rfl)) (pgs_cons (pg_name (i := 4) sc_do_addi.nd rfl (Or.inl rfl)) (pgs_cons (pg_name (i := 5) sc_do_addi.nd rfl (Or.inl rfl)) pgs_nil)))))
      (pss_one (ps_expr (pe_call G_change_low (hr.mono (by omega)) (by rfl) T.g_change_low T.F_change_low.kp T.b_change_low .nil pass0 (pa_cons (pv 0) (pa_cons (pv 4) (pa_cons (pe_op op_add (pe_ix ix_list (pe_fld (pv 0) rfl) (pv 4) (fun _ _ => rfl)) (pe_op op_mul (pv 2) (pv 5))) pa_nil))))))), ?_⟩
    refine ⟨_, rfl, t, _, rfl, ht, rfl, _, _, rfl, _, _, rfl, _, _, rfl, rfl, ?_⟩
    refine ⟨_, rfl, _, rfl, _, rfl, p, C, dx, _, _, rfl, hp, TC.cl, TC.nR, fl_regs .., _, rfl, ra, _, _, _, rfl, rfl, SqL.of hC.hr, atN a rfl hga, _, rfl, _, rfl, _, _, rfl, rfl, .inl ?_, _, _, rfl, rfl, ⟨p, ra, ma, u, n, S, a, _, rfl, ha, hC, hS, fun H' k hC' => q H' k hC'⟩⟩
    · rcases hsg with rfl | rfl <;> decide
set_option maxHeartbeats 2000000 in
theorem ok_do_xori (T : Txt K mg) (TC : TxC K C) : FnOk P w K mg base CX0 2 T.f_do_xori T.d_do_xori ["core", "instruction", "sign"] (spDo K C ["xori"]) := by
  have G_change_low := ok_change_low (P := P) (w := w) (base := base) T TC
  refine T.F_do_xori.ok sc_do_xori (fun vs H Q E h => ?_) (fun cdv A outer s H vs Q E hr h => ?_)
  · obtain ⟨p, ra, ma, u, n, S, v, op, ps, sg, rfl, _⟩ := h
    rfl
  · obtain ⟨p, ra, ma, u, n, S, v, op, ps, sg, rfl, hop, ⟨t, rfl, ht⟩, hi, hn1, hn, hsg, hC, hS, q⟩ := h
    have hop := List.mem_singleton.mp hop
    subst hop
    obtain ⟨a, x, rfl, ha, x0, x1⟩ := ins_rn hi (by decide +kernel)
    obtain ⟨wa, hga⟩ := hS.g ha
    obtain ⟨dx, hp⟩ := hC.ho
    have hix : ixN (S.regs.map V.int).length (a : Int) = some a := by
      rw [List.length_map, hS.r16]
      exact ixn_nat ha
    refine ⟨_, (pss_cons (ps_asg (pv 1) (pg_tup (by rfl) (pgs_cons (pg_name (i := 3) sc_do_xori.nd rfl (Or.inl rfl)) (pgs_cons (pg_name (i := 4) sc_do_xori.nd rfl (Or.inl rfl)) (pgs_cons (pg_name (i := 5) sc_do_xori.nd rfl (Or.inl rfl)) pgs_nil)))))
      (pss_one (ps_expr (pe_call G_change_low (hr.mono (by omega)) (by rfl) T.g_change_low T.F_change_low.kp T.b_change_low .nil pass0 (pa_cons (pv 0) (pa_cons (pv 4) (pa_cons (pe_op op_xor (pe_ix ix_list (pe_fld (pv 0) rfl) (pv 4) (fun _ _ => rfl)) (pv 5)) pa_nil))))))), ?_⟩
    refine ⟨_, rfl, t, _, rfl, ht, rfl, _, _, rfl, _, _, rfl, _, _, rfl, rfl, ?_⟩
    exact ⟨_, rfl, _, rfl, _, rfl, p, C, dx, _, _, rfl, hp, TC.cl, TC.nR, fl_regs .., _, rfl, ra, _, _, _, rfl, rfl, SqL.of hC.hr, atN a rfl hga, _, rfl, _, _, rfl, rfl, ⟨p, ra, ma, u, n, S, a, _, rfl, ha, hC, hS, fun H' k hC' => q H' k hC'⟩⟩
set_option maxHeartbeats 2000000 in
theorem ok_do_test (T : Txt K mg) (TC : TxC K C) : FnOk P w K mg base CX0 2 T.f_do_test T.d_do_test ["core", "instruction", "sign"] (spDo K C ["test"]) := by
  have G_change_low := ok_change_low (P := P) (w := w) (base := base) T TC
  refine T.F_do_test.ok sc_do_test (fun vs H Q E h => ?_) (fun cdv A outer s H vs Q E hr h => ?_)
  · obtain ⟨p, ra, ma, u, n, S, v, op, ps, sg, rfl, _⟩ := h
    rfl
  · obtain ⟨p, ra, ma, u, n, S, v, op, ps, sg, rfl, hop, ⟨t, rfl, ht⟩, hi, hn1, hn, hsg, hC, hS, q⟩ := h
    have hop := List.mem_singleton.mp hop
    subst hop
    obtain ⟨a, b, rfl, ha, hb, hab⟩ := ins_rr hi (by decide +kernel)
    obtain ⟨wa, hga⟩ := hS.g ha
    obtain ⟨wb, hgb⟩ := hS.g hb
    obtain ⟨dx, hp⟩ := hC.ho
    have hix : ixN (S.regs.map V.int).length (a : Int) = some a := by
      rw [List.length_map, hS.r16]
      exact ixn_nat ha
    refine ⟨_, (pss_cons (ps_asg (pv 1) (pg_tup (by rfl) (pgs_cons (pg_name (i := 3) sc_do_test.nd rfl (Or.inl rfl)) (pgs_cons (pg_name (i := 4) sc_do_test.nd rfl (Or.inl rfl)) (pgs_cons (pg_name (i := 5) sc_do_test.nd rfl (Or.inl rfl)) pgs_nil)))))
      (pss_one (ps_if (pt_cmpR op_ne (pe_op op_andM (pe_ix ix_list (pe_fld (pv 0) rfl) (pv 5) (fun _ _ => rfl)) (pe_fld (pv 0) rfl)) pe_int (nomark _))
        (pss_one (ps_expr (pe_call G_change_low (hr.mono (by omega)) (by rfl) T.g_change_low T.F_change_low.kp T.b_change_low .nil pass0 (pa_cons (pv 0) (pa_cons (pv 4) (pa_cons (pe_op op_xor (pe_ix ix_list (pe_fld (pv 0) rfl) (pv 4) (fun _ _ => rfl)) pe_int) pa_nil))))))
        pss_nil))), ?_⟩
    refine ⟨_, rfl, t, _, rfl, ht, rfl, _, _, rfl, _, _, rfl, _, _, rfl, rfl, ?_⟩
    refine ⟨_, rfl, p, C, dx, _, _, rfl, hp, TC.cl, TC.nR, fl_regs .., _, rfl, ra, _, _, _, rfl, rfl, SqL.of hC.hr, atN b rfl hgb, _, rfl, p, C, dx, _, _, rfl, hp, TC.cl, TC.nL, fl_low .., _, n, rfl, rfl, rfl, _, rfl, ite2 (fun e => ?_) (fun e => ?_)⟩
    · have e : (!decide (V.int (gR S b % 2 ^ n) = V.int 0)) = true := e
      have h : ¬ gR S b % 2 ^ n = 0 := fun z => by rw [decide_eq_true (show V.int (gR S b % 2 ^ n) = V.int 0 by rw [z])] at e; cases e
      refine ⟨_, rfl, _, rfl, _, rfl, p, C, dx, _, _, rfl, hp, TC.cl, TC.nR, fl_regs .., _, rfl, ra, _, _, _, rfl, rfl, SqL.of hC.hr, atN a rfl hga, _, _, rfl, rfl, ⟨p, ra, ma, u, n, S, a, _, rfl, ha, hC, hS, fun H' k hC' => q H' k ?_⟩⟩
      have ea : actX n "test" [(a : Int), (b : Int)] sg S = if gR S b % 2 ^ n = 0 then S else chg n S a (Builtin.bitXor (gR S a) 1) := rfl
      rw [ea, if_neg h]
      exact hC'
    · have e : ¬ (!decide (V.int (gR S b % 2 ^ n) = V.int 0)) = true := e
      have h : gR S b % 2 ^ n = 0 := Decidable.byContradiction fun z => e (by rw [decide_eq_false (fun y => z (V.int.inj y))]; rfl)
      refine q H (KT.refl _ _) ?_
      have ea : actX n "test" [(a : Int), (b : Int)] sg S = if gR S b % 2 ^ n = 0 then S else chg n S a (Builtin.bitXor (gR S a) 1) := rfl
      rw [ea, if_pos h]
      exact hC
set_option maxHeartbeats 2000000 in
theorem ok_do_over (T : Txt K mg) (TC : TxC K C) : FnOk P w K mg base CX0 2 T.f_do_over T.d_do_over ["core", "instruction", "sign"] (spDo K C ["over"]) := by
  have G_change_low := ok_change_low (P := P) (w := w) (base := base) T TC
  refine T.F_do_over.ok sc_do_over (fun vs H Q E h => ?_) (fun cdv A outer s H vs Q E hr h => ?_)
  · obtain ⟨p, ra, ma, u, n, S, v, op, ps, sg, rfl, _⟩ := h
    rfl
  · obtain ⟨p, ra, ma, u, n, S, v, op, ps, sg, rfl, hop, ⟨t, rfl, ht⟩, hi, hn1, hn, hsg, hC, hS, q⟩ := h
    have hop := List.mem_singleton.mp hop
    subst hop
    obtain ⟨a, b, x, rfl, ha, hb, hab, x0, x1⟩ := ins_rrm hi (by decide +kernel)
    obtain ⟨wa, hga⟩ := hS.g ha
    obtain ⟨wb, hgb⟩ := hS.g hb
    obtain ⟨dx, hp⟩ := hC.ho
    have hix : ixN (S.regs.map V.int).length (a : Int) = some a := by
      rw [List.length_map, hS.r16]
      exact ixn_nat ha
    refine ⟨_, (pss_cons (ps_asg (pv 1) (pg_tup (by rfl) (pgs_cons (pg_name (i := 3) sc_do_over.nd rfl (Or.inl rfl)) (pgs_cons (pg_name (i := 4) sc_do_over.nd rfl (Or.inl rfl)) (pgs_cons (pg_name (i := 5) sc_do_over.nd rfl (Or.inl rfl)) (pgs_cons (pg_name (i := 6) sc_do_over.nd rfl (Or.inl rfl)) pgs_nil))))))
      (pss_one (ps_if (pt_cmpR op_ge (pe_ix ix_list (pe_fld (pv 0) rfl) (pv 5) (fun _ _ => rfl)) (pv 6) (nomark _))
        (pss_one (ps_expr (pe_call G_change_low (hr.mono (by omega)) (by rfl) T.g_change_low T.F_change_low.kp T.b_change_low .nil pass0 (pa_cons (pv 0) (pa_cons (pv 4) (pa_cons (pe_op op_xor (pe_ix ix_list (pe_fld (pv 0) rfl) (pv 4) (fun _ _ => rfl)) pe_int) pa_nil))))))
        pss_nil))), ?_⟩
    refine ⟨_, rfl, t, _, rfl, ht, rfl, _, _, rfl, _, _, rfl, _, _, rfl, _, _, rfl, rfl, ?_⟩
    have ea : actX n "over" [(a : Int), (b : Int), x] sg S = if x ≤ gR S b then chg n S a (Builtin.bitXor (gR S a) 1) else S := rfl
    rw [ea] at q
    refine ⟨_, rfl, p, C, dx, _, _, rfl, hp, TC.cl, TC.nR, fl_regs .., _, rfl, ra, _, _, _, rfl, rfl, SqL.of hC.hr, atN b rfl hgb, _, rfl, _, _, rfl, rfl, _, rfl, ite2 (fun e => ?_) (fun e => ?_)⟩
    · have h : x ≤ gR S b := of_decide_eq_true e
      rw [if_pos h] at q
      exact ⟨_, rfl, _, rfl, _, rfl, p, C, dx, _, _, rfl, hp, TC.cl, TC.nR, fl_regs .., _, rfl, ra, _, _, _, rfl, rfl, SqL.of hC.hr, atN a rfl hga, _, _, rfl, rfl, ⟨p, ra, ma, u, n, S, a, _, rfl, ha, hC, hS, fun H' k hC' => q H' k hC'⟩⟩
    · have h : ¬ x ≤ gR S b := fun z => e (decide_eq_true z)
      rw [if_neg h] at q
      exact q H (KT.refl _ _) hC
set_option maxHeartbeats 2000000 in
theorem ok_do_addr (T : Txt K mg) (TC : TxC K C) : FnOk P w K mg base CX0 1 T.f_do_addr T.d_do_addr ["core", "instruction", "sign"] (spDo K C ["addr"]) := by
  refine T.F_do_addr.ok sc_do_addr (fun vs H Q E h => ?_) (fun cdv A outer s H vs Q E hr h => ?_)
  · obtain ⟨p, ra, ma, u, n, S, v, op, ps, sg, rfl, _⟩ := h
    rfl
  · obtain ⟨p, ra, ma, u, n, S, v, op, ps, sg, rfl, hop, ⟨t, rfl, ht⟩, hi, hn1, hn, hsg, hC, hS, q⟩ := h
    have hop := List.mem_singleton.mp hop
    subst hop
    obtain ⟨a, b, rfl, ha, hb, hab⟩ := ins_rr hi (by decide +kernel)
    obtain ⟨wa, hga⟩ := hS.g ha
    obtain ⟨wb, hgb⟩ := hS.g hb
    obtain ⟨dx, hp⟩ := hC.ho
    have hix : ixN (S.regs.map V.int).length (a : Int) = some a := by
      rw [List.length_map, hS.r16]
      exact ixn_nat ha
    refine ⟨_, (pss_cons (ps_asg (pv 1) (pg_tup (by rfl) (pgs_cons (pg_name (i := 3) sc_do_addr.nd rfl (Or.inl rfl)) (pgs_cons (pg_name (i := 4) sc_do_addr.nd rfl (Or.inl rfl)) (pgs_cons (pg_name (i := 5) sc_do_addr.nd rfl (Or.inl rfl)) pgs_nil)))))
      (pss_one (ps_asg (pe_op op_and (pe_op op_add (pe_ix ix_list (pe_fld (pv 0) rfl) (pv 4) (fun _ _ => rfl)) (pe_op op_mul (pv 2) (pe_ix ix_list (pe_fld (pv 0) rfl) (pv 5) (fun _ _ => rfl)))) (pe_glob (v := .int 4294967295) (by rfl) T.m_WHOLE ⟨_, rfl⟩)) (pg_sub (pe_fld (pv 0) rfl) (pv 4) set_list)))), ?_⟩
    refine ⟨_, rfl, t, _, rfl, ht, rfl, _, _, rfl, _, _, rfl, _, _, rfl, rfl, ?_⟩
    refine ⟨_, rfl, p, C, dx, _, _, rfl, hp, TC.cl, TC.nR, fl_regs .., _, rfl, ra, _, _, _, rfl, rfl, SqL.of hC.hr, atN a rfl hga, _, rfl, _, rfl, p, C, dx, _, _, rfl, hp, TC.cl, TC.nR, fl_regs .., _, rfl, ra, _, _, _, rfl, rfl, SqL.of hC.hr, atN b rfl hgb, _, _, rfl, rfl, .inl ?_, _, _, rfl, rfl, _, _, rfl, rfl, _, rfl, p, C, dx, _, _, rfl, hp, TC.cl, TC.nR, fl_regs .., _, rfl, ra, _, _, a, rfl, rfl, hC.hr, hix, ?_⟩
    · rcases hsg with rfl | rfl <;> decide
    · dsimp only
      rw [mask32]
      exact q _ (KT.setL (by simp) hC.hr) (hC.setR a _)
set_option maxHeartbeats 2000000 in
theorem ok_do_subr (T : Txt K mg) (TC : TxC K C) : FnOk P w K mg base CX0 1 T.f_do_subr T.d_do_subr ["core", "instruction", "sign"] (spDo K C ["subr"]) := by
  refine T.F_do_subr.ok sc_do_subr (fun vs H Q E h => ?_) (fun cdv A outer s H vs Q E hr h => ?_)
  · obtain ⟨p, ra, ma, u, n, S, v, op, ps, sg, rfl, _⟩ := h
    rfl
  · obtain ⟨p, ra, ma, u, n, S, v, op, ps, sg, rfl, hop, ⟨t, rfl, ht⟩, hi, hn1, hn, hsg, hC, hS, q⟩ := h
    have hop := List.mem_singleton.mp hop
    subst hop
    obtain ⟨a, b, rfl, ha, hb, hab⟩ := ins_rr hi (by decide +kernel)
    obtain ⟨wa, hga⟩ := hS.g ha
    obtain ⟨wb, hgb⟩ := hS.g hb
    obtain ⟨dx, hp⟩ := hC.ho
    have hix : ixN (S.regs.map V.int).length (a : Int) = some a := by
      rw [List.length_map, hS.r16]
      exact ixn_nat ha
    refine ⟨_, (pss_cons (ps_asg (pv 1) (pg_tup (by rfl) (pgs_cons (pg_name (i := 3) sc_do_subr.nd rfl (Or.inl rfl)) (pgs_cons (pg_name (i := 4) sc_do_subr.nd rfl (Or.inl rfl)) (pgs_cons (pg_name (i := 5) sc_do_subr.nd rfl (Or.inl rfl)) pgs_nil)))))
      (pss_one (ps_asg (pe_op op_and (pe_op op_sub (pe_ix ix_list (pe_fld (pv 0) rfl) (pv 4) (fun _ _ => rfl)) (pe_op op_mul (pv 2) (pe_ix ix_list (pe_fld (pv 0) rfl) (pv 5) (fun _ _ => rfl)))) (pe_glob (v := .int 4294967295) (by rfl) T.m_WHOLE ⟨_, rfl⟩)) (pg_sub (pe_fld (pv 0) rfl) (pv 4) set_list)))), ?_⟩
    refine ⟨_, rfl, t, _, rfl, ht, rfl, _, _, rfl, _, _, rfl, _, _, rfl, rfl, ?_⟩
    refine ⟨_, rfl, p, C, dx, _, _, rfl, hp, TC.cl, TC.nR, fl_regs .., _, rfl, ra, _, _, _, rfl, rfl, SqL.of hC.hr, atN a rfl hga, _, rfl, _, rfl, p, C, dx, _, _, rfl, hp, TC.cl, TC.nR, fl_regs .., _, rfl, ra, _, _, _, rfl, rfl, SqL.of hC.hr, atN b rfl hgb, _, _, rfl, rfl, .inl ?_, _, _, rfl, rfl, _, _, rfl, rfl, _, rfl, p, C, dx, _, _, rfl, hp, TC.cl, TC.nR, fl_regs .., _, rfl, ra, _, _, a, rfl, rfl, hC.hr, hix, ?_⟩
    · rcases hsg with rfl | rfl <;> decide
    · dsimp only
      rw [mask32]
      exact q _ (KT.setL (by simp) hC.hr) (hC.setR a _)
set_option maxHeartbeats 2000000 in
theorem ok_do_addl (T : Txt K mg) (TC : TxC K C) : FnOk P w K mg base CX0 1 T.f_do_addl T.d_do_addl ["core", "instruction", "sign"] (spDo K C ["addl"]) := by
  refine T.F_do_addl.ok sc_do_addl (fun vs H Q E h => ?_) (fun cdv A outer s H vs Q E hr h => ?_)
  · obtain ⟨p, ra, ma, u, n, S, v, op, ps, sg, rfl, _⟩ := h
    rfl
  · obtain ⟨p, ra, ma, u, n, S, v, op, ps, sg, rfl, hop, ⟨t, rfl, ht⟩, hi, hn1, hn, hsg, hC, hS, q⟩ := h
    have hop := List.mem_singleton.mp hop
    subst hop
    obtain ⟨a, x, rfl, ha, x0, x1⟩ := ins_rm hi (by decide +kernel)
    obtain ⟨wa, hga⟩ := hS.g ha
    obtain ⟨dx, hp⟩ := hC.ho
    have hix : ixN (S.regs.map V.int).length (a : Int) = some a := by
      rw [List.length_map, hS.r16]
      exact ixn_nat ha
    refine ⟨_, (pss_cons (ps_asg (pv 1) (pg_tup (by rfl) (pgs_cons (pg_name (i := 3) sc_do_addl.nd rfl (Or.inl rfl)) (pgs_cons (pg_name (i := 4) sc_do_addl.nd rfl (Or.inl rfl)) (pgs_cons (pg_name (i := 5) sc_do_addl.nd rfl (Or.inl rfl)) pgs_nil)))))
      (pss_one (ps_asg (pe_op op_and (pe_op op_add (pe_ix ix_list (pe_fld (pv 0) rfl) (pv 4) (fun _ _ => rfl)) (pe_op op_mul (pv 2) (pv 5))) (pe_glob (v := .int 4294967295) (by rfl) T.m_WHOLE ⟨_, rfl⟩)) (pg_sub (pe_fld (pv 0) rfl) (pv 4) set_list)))), ?_⟩
    refine ⟨_, rfl, t, _, rfl, ht, rfl, _, _, rfl, _, _, rfl, _, _, rfl, rfl, ?_⟩
    refine ⟨_, rfl, p, C, dx, _, _, rfl, hp, TC.cl, TC.nR, fl_regs .., _, rfl, ra, _, _, _, rfl, rfl, SqL.of hC.hr, atN a rfl hga, _, rfl, _, rfl, _, _, rfl, rfl, .inl ?_, _, _, rfl, rfl, _, _, rfl, rfl, _, rfl, p, C, dx, _, _, rfl, hp, TC.cl, TC.nR, fl_regs .., _, rfl, ra, _, _, a, rfl, rfl, hC.hr, hix, ?_⟩
    · rcases hsg with rfl | rfl <;> decide
    · dsimp only
      rw [mask32]
      exact q _ (KT.setL (by simp) hC.hr) (hC.setR a _)
set_option maxHeartbeats 2000000 in
theorem ok_do_neg (T : Txt K mg) (TC : TxC K C) : FnOk P w K mg base CX0 1 T.f_do_neg T.d_do_neg ["core", "instruction", "sign"] (spDo K C ["neg"]) := by
  refine T.F_do_neg.ok sc_do_neg (fun vs H Q E h => ?_) (fun cdv A outer s H vs Q E hr h => ?_)
  · obtain ⟨p, ra, ma, u, n, S, v, op, ps, sg, rfl, _⟩ := h
    rfl
  · obtain ⟨p, ra, ma, u, n, S, v, op, ps, sg, rfl, hop, ⟨t, rfl, ht⟩, hi, hn1, hn, hsg, hC, hS, q⟩ := h
    have hop := List.mem_singleton.mp hop
    subst hop
    obtain ⟨a, rfl, ha⟩ := ins_r hi (by decide +kernel)
    obtain ⟨wa, hga⟩ := hS.g ha
    obtain ⟨dx, hp⟩ := hC.ho
    have hix : ixN (S.regs.map V.int).length (a : Int) = some a := by
      rw [List.length_map, hS.r16]
      exact ixn_nat ha
    refine ⟨_, (pss_cons (ps_asg (pv 1) (pg_tup (by rfl) (pgs_cons (pg_name (i := 3) sc_do_neg.nd rfl (Or.inl rfl)) (pgs_cons (pg_name (i := 4) sc_do_neg.nd rfl (Or.inl rfl)) pgs_nil))))
      (pss_one (ps_asg (pe_op op_and (pe_un un_neg (pe_ix ix_list (pe_fld (pv 0) rfl) (pv 4) (fun _ _ => rfl))) (pe_glob (v := .int 4294967295) (by rfl) T.m_WHOLE ⟨_, rfl⟩)) (pg_sub (pe_fld (pv 0) rfl) (pv 4) set_list)))), ?_⟩
    refine ⟨_, rfl, t, _, rfl, ht, rfl, _, _, rfl, _, _, rfl, rfl, ?_⟩
    refine ⟨_, rfl, p, C, dx, _, _, rfl, hp, TC.cl, TC.nR, fl_regs .., _, rfl, ra, _, _, _, rfl, rfl, SqL.of hC.hr, atN a rfl hga, _, rfl, _, _, rfl, rfl, _, rfl, p, C, dx, _, _, rfl, hp, TC.cl, TC.nR, fl_regs .., _, rfl, ra, _, _, a, rfl, rfl, hC.hr, hix, ?_⟩
    · dsimp only
      rw [mask32]
      exact q _ (KT.setL (by simp) hC.hr) (hC.setR a _)
set_option maxHeartbeats 2000000 in
theorem ok_do_swap (T : Txt K mg) (TC : TxC K C) : FnOk P w K mg base CX0 1 T.f_do_swap T.d_do_swap ["core", "instruction", "sign"] (spDo K C ["swap"]) := by
  refine T.F_do_swap.ok sc_do_swap (fun vs H Q E h => ?_) (fun cdv A outer s H vs Q E hr h => ?_)
  · obtain ⟨p, ra, ma, u, n, S, v, op, ps, sg, rfl, _⟩ := h
    rfl
  · obtain ⟨p, ra, ma, u, n, S, v, op, ps, sg, rfl, hop, ⟨t, rfl, ht⟩, hi, hn1, hn, hsg, hC, hS, q⟩ := h
    have hop := List.mem_singleton.mp hop
    subst hop
    obtain ⟨a, b, rfl, ha, hb, hab⟩ := ins_rr hi (by decide +kernel)
    obtain ⟨wa, hga⟩ := hS.g ha
    obtain ⟨wb, hgb⟩ := hS.g hb
    obtain ⟨dx, hp⟩ := hC.ho
    have hix : ixN (S.regs.map V.int).length (a : Int) = some a := by
      rw [List.length_map, hS.r16]
      exact ixn_nat ha
    refine ⟨_, (pss_cons (ps_asg (pv 1) (pg_tup (by rfl) (pgs_cons (pg_name (i := 3) sc_do_swap.nd rfl (Or.inl rfl)) (pgs_cons (pg_name (i := 4) sc_do_swap.nd rfl (Or.inl rfl)) (pgs_cons (pg_name (i := 5) sc_do_swap.nd rfl (Or.inl rfl)) pgs_nil)))))
      (pss_cons (ps_set (i := 6) sc_do_swap.nd rfl (Or.inl rfl) (pe_ix ix_list (pe_fld (pv 0) rfl) (pv 4) (fun _ _ => rfl)))
      (pss_cons (ps_asg (pe_ix ix_list (pe_fld (pv 0) rfl) (pv 5) (fun _ _ => rfl)) (pg_sub (pe_fld (pv 0) rfl) (pv 4) set_list))
      (pss_one (ps_asg (pv 6) (pg_sub (pe_fld (pv 0) rfl) (pv 5) set_list)))))), ?_⟩
    refine ⟨_, rfl, t, _, rfl, ht, rfl, _, _, rfl, _, _, rfl, _, _, rfl, rfl, ?_⟩
    have hC2 := hC.setR a (gR S b)
    obtain ⟨dx2, hp2⟩ := hC2.ho
    have hib : ixN ((S.put (a : Int) (gR S b)).regs.map V.int).length (b : Int) = some b := by
      rw [List.length_map]
      show ixN ((S.regs.set _ _).length) _ = _
      rw [List.length_set, hS.r16]
      exact ixn_nat hb
    refine ⟨_, rfl, p, C, dx, _, _, rfl, hp, TC.cl, TC.nR, fl_regs .., _, rfl, ra, _, _, _, rfl, rfl, SqL.of hC.hr, atN a rfl hga, _, rfl, p, C, dx, _, _, rfl, hp, TC.cl, TC.nR, fl_regs .., _, rfl, ra, _, _, _, rfl, rfl, SqL.of hC.hr, atN b rfl hgb, _, rfl, p, C, dx, _, _, rfl, hp, TC.cl, TC.nR, fl_regs .., _, rfl, ra, _, _, a, rfl, rfl, hC.hr, hix, ?_⟩
    refine ⟨_, rfl, _, rfl, p, C, dx2, _, _, rfl, hp2, TC.cl, TC.nR, fl_regs .., _, rfl, ra, _, _, b, rfl, rfl, hC2.hr, hib, ?_⟩
    exact q _ ((KT.setL (by simp) hC.hr).trans (KT.setL (by simp) hC2.hr)) (hC2.setR b (gR S a))
set_option maxHeartbeats 2000000 in
theorem ok_do_exch (T : Txt K mg) (TC : TxC K C) : FnOk P w K mg base CX0 1 T.f_do_exch T.d_do_exch ["core", "instruction", "sign"] (spDo K C ["exch"]) := by
  refine T.F_do_exch.ok sc_do_exch (fun vs H Q E h => ?_) (fun cdv A outer s H vs Q E hr h => ?_)
  · obtain ⟨p, ra, ma, u, n, S, v, op, ps, sg, rfl, _⟩ := h
    rfl
  · obtain ⟨p, ra, ma, u, n, S, v, op, ps, sg, rfl, hop, ⟨t, rfl, ht⟩, hi, hn1, hn, hsg, hC, hS, q⟩ := h
    have hop := List.mem_singleton.mp hop
    subst hop
    obtain ⟨a, b, rfl, ha, hb, hab⟩ := ins_rr hi (by decide +kernel)
    obtain ⟨wa, hga⟩ := hS.g ha
    obtain ⟨wb, hgb⟩ := hS.g hb
    obtain ⟨dx, hp⟩ := hC.ho
    have hix : ixN (S.regs.map V.int).length (a : Int) = some a := by
      rw [List.length_map, hS.r16]
      exact ixn_nat ha
    refine ⟨_, (pss_cons (ps_asg (pv 1) (pg_tup (by rfl) (pgs_cons (pg_name (i := 3) sc_do_exch.nd rfl (Or.inl rfl)) (pgs_cons (pg_name (i := 4) sc_do_exch.nd rfl (Or.inl rfl)) (pgs_cons (pg_name (i := 5) sc_do_exch.nd rfl (Or.inl rfl)) pgs_nil)))))
      (pss_cons (ps_set (i := 6) sc_do_exch.nd rfl (Or.inl rfl) (pe_op op_modN (pe_ix ix_list (pe_fld (pv 0) rfl) (pv 5) (fun _ _ => rfl)) (pe_callB call_len_seq (by rfl) T.m_len (by decide +kernel) (pa_cons (pe_fld (pv 0) rfl) pa_nil))))
      (pss_cons (ps_set (i := 7) sc_do_exch.nd rfl (Or.inl rfl) (pe_ix ix_list (pe_fld (pv 0) rfl) (pv 4) (fun _ _ => rfl)))
      (pss_cons (ps_asg (pe_ix ix_list (pe_fld (pv 0) rfl) (pv 6) (fun _ _ => rfl)) (pg_sub (pe_fld (pv 0) rfl) (pv 4) set_list))
      (pss_one (ps_asg (pv 7) (pg_sub (pe_fld (pv 0) rfl) (pv 6) set_list))))))), ?_⟩
    refine ⟨_, rfl, t, _, rfl, ht, rfl, _, _, rfl, _, _, rfl, _, _, rfl, rfl, ?_⟩
    have hm1 := hS.m1
    have hml : ((S.mem.map V.int).length : Int) = S.mem.length := by rw [List.length_map]
    refine ⟨_, rfl, p, C, dx, _, _, rfl, hp, TC.cl, TC.nR, fl_regs .., _, rfl, ra, _, _, _, rfl, rfl, SqL.of hC.hr, atN b rfl hgb, _, rfl, p, C, dx, _, _, rfl, hp, TC.cl, TC.nM, fl_mem .., _, _, rfl, .inl (SqL.of hC.ha), _, _, rfl, rfl, (by rw [hml]; omega), ?_⟩
    dsimp only
    rw [hml, fmod_e (by omega)]
    obtain ⟨k, hk⟩ : ∃ k : Nat, gR S b % (S.mem.length : Int) = k := int_nat (Int.emod_nonneg _ (by omega))
    have hk1 : k < S.mem.length := by
      have := Int.emod_lt_of_pos (gR S b) (show (0 : Int) < S.mem.length by omega)
      omega
    have ea : actX n "exch" [(a : Int), (b : Int)] sg S = { S.put (a : Int) (S.mem.getD (gR S b % S.mem.length).toNat 0) with mem := S.mem.set (gR S b % S.mem.length).toNat (gR S a) } := rfl
    rw [ea, hk, Int.toNat_natCast] at q
    rw [hk]
    have hmk : (S.mem.map V.int)[k]? = some (.int (S.mem.getD k 0)) := by
      rw [List.getElem?_map, List.getD_eq_getElem?_getD, List.getElem?_eq_getElem hk1]
      rfl
    have hik : ixN (S.mem.map V.int).length (k : Int) = some k := by
      rw [List.length_map]
      exact ixn_nat hk1
    have hC2 := hC.setR a (S.mem.getD k 0)
    obtain ⟨dx2, hp2⟩ := hC2.ho
    refine ⟨_, rfl, p, C, dx, _, _, rfl, hp, TC.cl, TC.nR, fl_regs .., _, rfl, ra, _, _, _, rfl, rfl, SqL.of hC.hr, atN a rfl hga, _, rfl, p, C, dx, _, _, rfl, hp, TC.cl, TC.nM, fl_mem .., _, rfl, ma, _, _, _, rfl, rfl, SqL.of hC.ha, atN k rfl hmk, _, rfl, p, C, dx, _, _, rfl, hp, TC.cl, TC.nR, fl_regs .., _, rfl, ra, _, _, a, rfl, rfl, hC.hr, hix, ?_⟩
    refine ⟨_, rfl, _, rfl, p, C, dx2, _, _, rfl, hp2, TC.cl, TC.nM, fl_mem .., _, rfl, ma, _, _, k, rfl, rfl, hC2.ha, hik, ?_⟩
    exact q _ ((KT.setL (by simp) hC.hr).trans (KT.setL (by simp) hC2.ha)) (hC2.setM k (gR S a))
set_option maxHeartbeats 2000000 in
theorem ok_do_swapbr (T : Txt K mg) (TC : TxC K C) : FnOk P w K mg base CX0 1 T.f_do_swapbr T.d_do_swapbr ["core", "instruction", "sign"] (spDo K C ["swapbr"]) := by
  refine T.F_do_swapbr.ok sc_do_swapbr (fun vs H Q E h => ?_) (fun cdv A outer s H vs Q E hr h => ?_)
  · obtain ⟨p, ra, ma, u, n, S, v, op, ps, sg, rfl, _⟩ := h
    rfl
  · obtain ⟨p, ra, ma, u, n, S, v, op, ps, sg, rfl, hop, ⟨t, rfl, ht⟩, hi, hn1, hn, hsg, hC, hS, q⟩ := h
    have hop := List.mem_singleton.mp hop
    subst hop
    obtain ⟨a, rfl, ha⟩ := ins_r hi (by decide +kernel)
    obtain ⟨wa, hga⟩ := hS.g ha
    obtain ⟨dx, hp⟩ := hC.ho
    have hix : ixN (S.regs.map V.int).length (a : Int) = some a := by
      rw [List.length_map, hS.r16]
      exact ixn_nat ha
    refine ⟨_, (pss_cons (ps_asg (pv 1) (pg_tup (by rfl) (pgs_cons (pg_name (i := 3) sc_do_swapbr.nd rfl (Or.inl rfl)) (pgs_cons (pg_name (i := 4) sc_do_swapbr.nd rfl (Or.inl rfl)) pgs_nil))))
      (pss_cons (ps_set (i := 5) sc_do_swapbr.nd rfl (Or.inl rfl) (pe_ix ix_list (pe_fld (pv 0) rfl) (pv 4) (fun _ _ => rfl)))
      (pss_cons (ps_asg (pe_fld (pv 0) rfl) (pg_sub (pe_fld (pv 0) rfl) (pv 4) set_list))
      (pss_one (ps_fld (pv 0) (pv 5) rfl))))), ?_⟩
    refine ⟨_, rfl, t, _, rfl, ht, rfl, _, _, rfl, _, _, rfl, rfl, ?_⟩
    have hC2 := hC.setR a S.br
    obtain ⟨dx2, hp2⟩ := hC2.ho
    refine ⟨_, rfl, p, C, dx, _, _, rfl, hp, TC.cl, TC.nR, fl_regs .., _, rfl, ra, _, _, _, rfl, rfl, SqL.of hC.hr, atN a rfl hga, _, rfl, p, C, dx, _, _, rfl, hp, TC.cl, TC.nB, fl_br .., _, rfl, p, C, dx, _, _, rfl, hp, TC.cl, TC.nR, fl_regs .., _, rfl, ra, _, _, a, rfl, rfl, hC.hr, hix, ?_⟩
    refine ⟨_, rfl, _, rfl, p, C, dx2, _, rfl, hp2, TC.cl, TC.nB, (by show 8 < 1000; decide), ?_⟩
    rw [fl_put_br]
    exact q _ ((KT.setL (by simp) hC.hr).trans (KT.put (by simp) hp2 (fun _ z => by cases z) (fun _ _ z => by cases z) (fun _ z => by cases z))) (hC2.setO rfl rfl)
set_option maxHeartbeats 2000000 in
theorem ok_do_bra (T : Txt K mg) (TC : TxC K C) : FnOk P w K mg base CX0 1 T.f_do_bra T.d_do_bra ["core", "instruction", "sign"] (spDo K C ["bra"]) := by
  refine T.F_do_bra.ok sc_do_bra (fun vs H Q E h => ?_) (fun cdv A outer s H vs Q E hr h => ?_)
  · obtain ⟨p, ra, ma, u, n, S, v, op, ps, sg, rfl, _⟩ := h
    rfl
  · obtain ⟨p, ra, ma, u, n, S, v, op, ps, sg, rfl, hop, ⟨t, rfl, ht⟩, hi, hn1, hn, hsg, hC, hS, q⟩ := h
    have hop := List.mem_singleton.mp hop
    subst hop
    obtain ⟨x, rfl, x0, x1⟩ := ins_o hi (by decide +kernel)
    obtain ⟨dx, hp⟩ := hC.ho
    refine ⟨_, (pss_cons (ps_asg (pv 1) (pg_tup (by rfl) (pgs_cons (pg_name (i := 3) sc_do_bra.nd rfl (Or.inl rfl)) (pgs_cons (pg_name (i := 4) sc_do_bra.nd rfl (Or.inl rfl)) pgs_nil))))
      (pss_one (ps_fld (pv 0) (pe_op op_and (pe_op op_add (pe_fld (pv 0) rfl) (pe_op op_mul (pv 2) (pv 4))) (pe_glob (v := .int 4294967295) (by rfl) T.m_WHOLE ⟨_, rfl⟩)) rfl))), ?_⟩
    refine ⟨_, rfl, t, _, rfl, ht, rfl, _, _, rfl, _, _, rfl, rfl, ?_⟩
    refine ⟨_, rfl, p, C, dx, _, _, rfl, hp, TC.cl, TC.nB, fl_br .., _, rfl, _, rfl, _, _, rfl, rfl, .inl ?_, _, _, rfl, rfl, _, _, rfl, rfl, _, rfl, p, C, dx, _, rfl, hp, TC.cl, TC.nB, (by show 8 < 1000; decide), ?_⟩
    · rcases hsg with rfl | rfl <;> decide
    · dsimp only
      rw [mask32, fl_put_br]
      exact q _ (KT.put (by simp) hp (fun _ z => by cases z) (fun _ _ z => by cases z) (fun _ z => by cases z)) (hC.setO rfl rfl)
set_option maxHeartbeats 2000000 in
theorem ok_do_brz (T : Txt K mg) (TC : TxC K C) : FnOk P w K mg base CX0 1 T.f_do_brz T.d_do_brz ["core", "instruction", "sign"] (spDo K C ["brz"]) := by
  refine T.F_do_brz.ok sc_do_brz (fun vs H Q E h => ?_) (fun cdv A outer s H vs Q E hr h => ?_)
  · obtain ⟨p, ra, ma, u, n, S, v, op, ps, sg, rfl, _⟩ := h
    rfl
  · obtain ⟨p, ra, ma, u, n, S, v, op, ps, sg, rfl, hop, ⟨t, rfl, ht⟩, hi, hn1, hn, hsg, hC, hS, q⟩ := h
    have hop := List.mem_singleton.mp hop
    subst hop
    obtain ⟨a, x, rfl, ha, x0, x1⟩ := ins_ro hi (by decide +kernel)
    obtain ⟨wa, hga⟩ := hS.g ha
    obtain ⟨dx, hp⟩ := hC.ho
    have hix : ixN (S.regs.map V.int).length (a : Int) = some a := by
      rw [List.length_map, hS.r16]
      exact ixn_nat ha
    refine ⟨_, (pss_cons (ps_asg (pv 1) (pg_tup (by rfl) (pgs_cons (pg_name (i := 3) sc_do_brz.nd rfl (Or.inl rfl)) (pgs_cons (pg_name (i := 4) sc_do_brz.nd rfl (Or.inl rfl)) (pgs_cons (pg_name (i := 5) sc_do_brz.nd rfl (Or.inl rfl)) pgs_nil)))))
      (pss_one (ps_if (pt_cmpR op_eq (pe_op op_andM (pe_ix ix_list (pe_fld (pv 0) rfl) (pv 4) (fun _ _ => rfl)) (pe_fld (pv 0) rfl)) pe_int (nomark _))
        (pss_one (ps_fld (pv 0) (pe_op op_and (pe_op op_add (pe_fld (pv 0) rfl) (pe_op op_mul (pv 2) (pv 5))) (pe_glob (v := .int 4294967295) (by rfl) T.m_WHOLE ⟨_, rfl⟩)) rfl))
        pss_nil))), ?_⟩
    refine ⟨_, rfl, t, _, rfl, ht, rfl, _, _, rfl, _, _, rfl, _, _, rfl, rfl, ?_⟩
    have ea : actX n "brz" [(a : Int), x] sg S = (if gR S a % 2 ^ n = 0 then { S with br := (S.br + sg * x) % 2 ^ 32 } else S) := rfl
    rw [ea] at q
    have dz : decide (V.int (gR S a % 2 ^ n) = V.int 0) = decide (gR S a % 2 ^ n = 0) := by
      by_cases h : gR S a % 2 ^ n = 0
      · rw [decide_eq_true h, decide_eq_true (by rw [h])]
      · rw [decide_eq_false h, decide_eq_false (fun z => h (V.int.inj z))]
    refine ⟨_, rfl, p, C, dx, _, _, rfl, hp, TC.cl, TC.nR, fl_regs .., _, rfl, ra, _, _, _, rfl, rfl, SqL.of hC.hr, atN a rfl hga, _, rfl, p, C, dx, _, _, rfl, hp, TC.cl, TC.nL, fl_low .., _, n, rfl, rfl, rfl, _, rfl, ite2 (fun e => ?_) (fun e => ?_)⟩
    · have e : decide (V.int (gR S a % 2 ^ n) = V.int 0) = true := e
      rw [dz] at e
      have h : gR S a % 2 ^ n = 0 := by simpa using e
      rw [if_pos h] at q
      refine ⟨_, rfl, p, C, dx, _, _, rfl, hp, TC.cl, TC.nB, fl_br .., _, rfl, _, rfl, _, _, rfl, rfl, .inl ?_, _, _, rfl, rfl, _, _, rfl, rfl, _, rfl, p, C, dx, _, rfl, hp, TC.cl, TC.nB, (by show 8 < 1000; decide), ?_⟩
      · rcases hsg with rfl | rfl <;> decide
      · dsimp only
        rw [mask32, fl_put_br]
        exact q _ (KT.put (by simp) hp (fun _ z => by cases z) (fun _ _ z => by cases z) (fun _ z => by cases z)) (hC.setO rfl rfl)
    · have e : ¬ decide (V.int (gR S a % 2 ^ n) = V.int 0) = true := e
      rw [dz] at e
      have h : ¬ gR S a % 2 ^ n = 0 := by simpa using e
      rw [if_neg h] at q
      exact q H (KT.refl _ _) hC
set_option maxHeartbeats 2000000 in
theorem ok_do_brn (T : Txt K mg) (TC : TxC K C) : FnOk P w K mg base CX0 1 T.f_do_brn T.d_do_brn ["core", "instruction", "sign"] (spDo K C ["brn"]) := by
  refine T.F_do_brn.ok sc_do_brn (fun vs H Q E h => ?_) (fun cdv A outer s H vs Q E hr h => ?_)
  · obtain ⟨p, ra, ma, u, n, S, v, op, ps, sg, rfl, _⟩ := h
    rfl
  · obtain ⟨p, ra, ma, u, n, S, v, op, ps, sg, rfl, hop, ⟨t, rfl, ht⟩, hi, hn1, hn, hsg, hC, hS, q⟩ := h
    have hop := List.mem_singleton.mp hop
    subst hop
    obtain ⟨a, x, rfl, ha, x0, x1⟩ := ins_ro hi (by decide +kernel)
    obtain ⟨wa, hga⟩ := hS.g ha
    obtain ⟨dx, hp⟩ := hC.ho
    have hix : ixN (S.regs.map V.int).length (a : Int) = some a := by
      rw [List.length_map, hS.r16]
      exact ixn_nat ha
    refine ⟨_, (pss_cons (ps_asg (pv 1) (pg_tup (by rfl) (pgs_cons (pg_name (i := 3) sc_do_brn.nd rfl (Or.inl rfl)) (pgs_cons (pg_name (i := 4) sc_do_brn.nd rfl (Or.inl rfl)) (pgs_cons (pg_name (i := 5) sc_do_brn.nd rfl (Or.inl rfl)) pgs_nil)))))
      (pss_one (ps_if (pt_cmpR op_ne (pe_op op_andM (pe_ix ix_list (pe_fld (pv 0) rfl) (pv 4) (fun _ _ => rfl)) (pe_fld (pv 0) rfl)) pe_int (nomark _))
        (pss_one (ps_fld (pv 0) (pe_op op_and (pe_op op_add (pe_fld (pv 0) rfl) (pe_op op_mul (pv 2) (pv 5))) (pe_glob (v := .int 4294967295) (by rfl) T.m_WHOLE ⟨_, rfl⟩)) rfl))
        pss_nil))), ?_⟩
    refine ⟨_, rfl, t, _, rfl, ht, rfl, _, _, rfl, _, _, rfl, _, _, rfl, rfl, ?_⟩
    have ea : actX n "brn" [(a : Int), x] sg S = (if gR S a % 2 ^ n = 0 then S else { S with br := (S.br + sg * x) % 2 ^ 32 }) := rfl
    rw [ea] at q
    have dz : decide (V.int (gR S a % 2 ^ n) = V.int 0) = decide (gR S a % 2 ^ n = 0) := by
      by_cases h : gR S a % 2 ^ n = 0
      · rw [decide_eq_true h, decide_eq_true (by rw [h])]
      · rw [decide_eq_false h, decide_eq_false (fun z => h (V.int.inj z))]
    refine ⟨_, rfl, p, C, dx, _, _, rfl, hp, TC.cl, TC.nR, fl_regs .., _, rfl, ra, _, _, _, rfl, rfl, SqL.of hC.hr, atN a rfl hga, _, rfl, p, C, dx, _, _, rfl, hp, TC.cl, TC.nL, fl_low .., _, n, rfl, rfl, rfl, _, rfl, ite2 (fun e => ?_) (fun e => ?_)⟩
    · have e : (!decide (V.int (gR S a % 2 ^ n) = V.int 0)) = true := e
      rw [dz] at e
      have h : ¬ gR S a % 2 ^ n = 0 := by simpa using e
      rw [if_neg h] at q
      refine ⟨_, rfl, p, C, dx, _, _, rfl, hp, TC.cl, TC.nB, fl_br .., _, rfl, _, rfl, _, _, rfl, rfl, .inl ?_, _, _, rfl, rfl, _, _, rfl, rfl, _, rfl, p, C, dx, _, rfl, hp, TC.cl, TC.nB, (by show 8 < 1000; decide), ?_⟩
      · rcases hsg with rfl | rfl <;> decide
      · dsimp only
        rw [mask32, fl_put_br]
        exact q _ (KT.put (by simp) hp (fun _ z => by cases z) (fun _ _ z => by cases z) (fun _ z => by cases z)) (hC.setO rfl rfl)
    · have e : ¬ (!decide (V.int (gR S a % 2 ^ n) = V.int 0)) = true := e
      rw [dz] at e
      have h : gR S a % 2 ^ n = 0 := by simpa using e
      rw [if_pos h] at q
      exact q H (KT.refl _ _) hC
set_option maxHeartbeats 2000000 in
theorem ok_do_rbra (T : Txt K mg) (TC : TxC K C) : FnOk P w K mg base CX0 1 T.f_do_rbra T.d_do_rbra ["core", "instruction", "sign"] (spDo K C ["rbra"]) := by
  refine T.F_do_rbra.ok sc_do_rbra (fun vs H Q E h => ?_) (fun cdv A outer s H vs Q E hr h => ?_)
  · obtain ⟨p, ra, ma, u, n, S, v, op, ps, sg, rfl, _⟩ := h
    rfl
  · obtain ⟨p, ra, ma, u, n, S, v, op, ps, sg, rfl, hop, ⟨t, rfl, ht⟩, hi, hn1, hn, hsg, hC, hS, q⟩ := h
    have hop := List.mem_singleton.mp hop
    subst hop
    obtain ⟨x, rfl, x0, x1⟩ := ins_o hi (by decide +kernel)
    obtain ⟨dx, hp⟩ := hC.ho
    refine ⟨_, (pss_cons (ps_asg (pv 1) (pg_tup (by rfl) (pgs_cons (pg_name (i := 3) sc_do_rbra.nd rfl (Or.inl rfl)) (pgs_cons (pg_name (i := 4) sc_do_rbra.nd rfl (Or.inl rfl)) pgs_nil))))
      (pss_cons (ps_fld (pv 0) (pe_op op_and (pe_ifExp (pt_cmpR op_eq (pv 2) pe_int (nomark _)) (pe_un un_neg (pe_op op_add (pe_fld (pv 0) rfl) (pv 4))) (pe_op op_sub (pv 4) (pe_fld (pv 0) rfl))) (pe_glob (v := .int 4294967295) (by rfl) T.m_WHOLE ⟨_, rfl⟩)) rfl)
      (pss_one (ps_fld (pv 0) (pe_un un_neg (pe_fld (pv 0) rfl)) rfl)))), ?_⟩
    refine ⟨_, rfl, t, _, rfl, ht, rfl, _, _, rfl, _, _, rfl, rfl, ?_⟩
    refine ⟨_, rfl, rfl, _, rfl, ite2 (fun e => ?_) (fun e => ?_)⟩
    · have h := int_eq e
      refine ⟨_, rfl, p, C, dx, _, _, rfl, hp, TC.cl, TC.nB, fl_br .., _, rfl, _, _, rfl, rfl, _, rfl, _, _, rfl, rfl, _, rfl, p, C, dx, _, rfl, hp, TC.cl, TC.nB, (by show 8 < 1000; decide), ?_⟩
      dsimp only
      rw [mask32, fl_put_br]
      have hC2 : CoV C (upd H p (.ins C dx (flds n u ra ma { S with br := (-(S.br + x)) % 2 ^ 32 }))) p ra ma u n { S with br := (-(S.br + x)) % 2 ^ 32 } := hC.setO rfl rfl
      have hp2 : (upd H p (.ins C dx (flds n u ra ma { S with br := (-(S.br + x)) % 2 ^ 32 }))) p = some (.ins C dx (flds n u ra ma { S with br := (-(S.br + x)) % 2 ^ 32 })) := upd_same
      refine ⟨_, rfl, p, C, dx, _, _, rfl, hp2, TC.cl, TC.nD, fl_dir .., _, rfl, _, rfl, p, C, dx, _, rfl, hp2, TC.cl, TC.nD, (by show 8 < 1000; decide), ?_⟩
      rw [fl_put_dir]
      refine q _ ((KT.put (by simp) hp (fun _ z => by cases z) (fun _ _ z => by cases z) (fun _ z => by cases z)).trans (KT.put (by simp) hp2 (fun _ z => by cases z) (fun _ _ z => by cases z) (fun _ z => by cases z))) ?_
      have ea : actX n "rbra" [x] sg S = { S with br := (if sg = 1 then -(S.br + x) else x - S.br) % 2 ^ 32, dir := -S.dir } := rfl
      rw [ea, if_pos h]
      exact hC2.setO rfl rfl
    · have h := int_ne e
      refine ⟨_, rfl, _, rfl, p, C, dx, _, _, rfl, hp, TC.cl, TC.nB, fl_br .., _, _, rfl, rfl, _, _, rfl, rfl, _, rfl, p, C, dx, _, rfl, hp, TC.cl, TC.nB, (by show 8 < 1000; decide), ?_⟩
      dsimp only
      rw [mask32, fl_put_br]
      have hC2 : CoV C (upd H p (.ins C dx (flds n u ra ma { S with br := (x - S.br) % 2 ^ 32 }))) p ra ma u n { S with br := (x - S.br) % 2 ^ 32 } := hC.setO rfl rfl
      have hp2 : (upd H p (.ins C dx (flds n u ra ma { S with br := (x - S.br) % 2 ^ 32 }))) p = some (.ins C dx (flds n u ra ma { S with br := (x - S.br) % 2 ^ 32 })) := upd_same
      refine ⟨_, rfl, p, C, dx, _, _, rfl, hp2, TC.cl, TC.nD, fl_dir .., _, rfl, _, rfl, p, C, dx, _, rfl, hp2, TC.cl, TC.nD, (by show 8 < 1000; decide), ?_⟩
      rw [fl_put_dir]
      refine q _ ((KT.put (by simp) hp (fun _ z => by cases z) (fun _ _ z => by cases z) (fun _ z => by cases z)).trans (KT.put (by simp) hp2 (fun _ z => by cases z) (fun _ _ z => by cases z) (fun _ z => by cases z))) ?_
      have ea : actX n "rbra" [x] sg S = { S with br := (if sg = 1 then -(S.br + x) else x - S.br) % 2 ^ 32, dir := -S.dir } := rfl
      rw [ea, if_neg h]
      exact hC2.setO rfl rfl
theorem ok_do_nothing (T : Txt K mg) : FnOk P w K mg base CX0 1 T.f_do_nothing T.d_do_nothing ["core", "instruction", "sign"] (spDo K C ["skip", "halt", "fail"]) := by
  refine T.F_do_nothing.ok sc_do_nothing (fun vs H Q E h => ?_) (fun cdv A outer s H vs Q E hr h => ?_)
  · obtain ⟨p, ra, ma, u, n, S, v, op, ps, sg, rfl, _⟩ := h
    rfl
  · obtain ⟨p, ra, ma, u, n, S, v, op, ps, sg, rfl, hop, ⟨t, rfl, ht⟩, hi, hn1, hn, hsg, hC, hS, q⟩ := h
    refine ⟨_, (pss_one ps_pass), ?_⟩
    refine q H (KT.refl _ _) ?_
    simp only [List.mem_cons, List.not_mem_nil, or_false] at hop
    have ea : actX n op ps sg S = S := by
      rcases hop with rfl | rfl | rfl <;> rfl
    rw [ea]
    exact hC
end

end My

set_option Elab.async false
set_option linter.all false
set_option maxRecDepth 100000
namespace My
open PySem PySem.Spec PyProof.Rows L2
section
variable {P : Program} {w : World} {K : PySem.W.Frag} {mg : Str → Option Value} {base : Heap} {C : Addr}
def spTop : Sp := fun vs H Q _ => ∃ n : Nat, vs = [.int n] ∧ n ≤ 32 ∧ Q (.int (2 ^ n - 1)) H
theorem ok_top (T : Txt K mg) : FnOk P w K mg base CX0 1 T.f_top T.d_top ["w"] spTop := by
  refine T.F_top.ok sc_top (fun vs H Q E h => ?_) (fun cdv A outer s H vs Q E hr h => ?_)
  · obtain ⟨n, rfl, _⟩ := h
    rfl
  · obtain ⟨n, rfl, hn, q⟩ := h
    refine ⟨_, (pss_one (ps_ret (pe_op op_sub (pe_op op_shl pe_int (pv 0)) pe_int))), ?_⟩
    refine ⟨_, rfl, _, _, rfl, rfl, ⟨by omega, by omega, by decide⟩, _, _, rfl, rfl, ?_⟩
    rw [Int.one_mul]
    exact q
def spCmp : Sp := fun vs H Q _ => ∃ (op : Str) (n : Nat) (x y : Int), vs = [.str op, .int n, .int x, .int y] ∧ n ≤ 32 ∧ 0 ≤ x ∧ x < 2 ^ n ∧ 0 ≤ y ∧ y < 2 ^ n ∧ Q (.int (cmpS op n x y)) H
/-- shl and shr alone -/
def spShift : Sp := fun vs H Q _ => ∃ (op : Str) (n : Nat) (x y : Int), vs = [.str op, .int n, .int x, .int y] ∧ n ≤ 32 ∧ 0 ≤ x ∧ x < 2 ^ n ∧ 0 ≤ y ∧ y < 2 ^ n ∧ Q (.int (if (n : Int) ≤ y then 0 else if op = "shl" then (x * 2 ^ y.toNat) % 2 ^ n else x / 2 ^ y.toNat)) H
theorem lt64 {n : Nat} {x : Int} (hn : n ≤ 32) (h0 : 0 ≤ x) (h : x < 2 ^ n) : x < 4294967296 := Int.lt_of_lt_of_le h (pow_le (m := 32) hn)
theorem bit_top {Q : VK} {H : Hp} {x : Int} {n : Nat} (q : Q (.int (x % 2 ^ n)) H) : Q (.int (Builtin.bitAnd x (2 ^ n - 1))) H := by
  rw [PySem.W.kbt_mask]
  exact q
theorem ok_shift (T : Txt K mg) : FnOk P w K mg base CX0 2 T.f_shift T.d_shift ["op", "w", "x", "y"] spShift := by
  have G_top := ok_top (P := P) (w := w) (base := base) T
  refine T.F_shift.ok sc_shift (fun vs H Q E h => ?_) (fun cdv A outer s H vs Q E hr h => ?_)
  · obtain ⟨op, n, x, y, rfl, _⟩ := h
    rfl
  · obtain ⟨op, n, x, y, rfl, hn, x0, x1, y0, y1, q⟩ := h
    have xl := lt64 hn x0 x1
    refine ⟨_, (pss_cons (ps_if (pt_cmpR op_ge (pv 3) (pv 1) (nomark _))
        (pss_one (ps_ret pe_int))
        pss_nil)
      (pss_cons (ps_if (pt_cmpR op_eq (pv 0) pe_str (nomark _))
        (pss_one (ps_ret (pe_op op_and (pe_op op_shl (pv 2) (pv 3)) (pe_call G_top (hr.mono (by omega)) (by rfl) T.g_top T.F_top.kp T.b_top .nil pass0 (pa_cons (pv 1) pa_nil)))))
        pss_nil)
      (pss_one (ps_ret (pe_op op_shr (pv 2) (pv 3)))))), ?_⟩
    refine ⟨_, rfl, _, rfl, _, _, rfl, rfl, _, rfl, ite2 (fun e => ?_) (fun e => ?_)⟩
    · have e1 : (n : Int) ≤ y := of_decide_eq_true e
      rw [if_pos e1] at q
      exact q
    · have e1 : ¬ (n : Int) ≤ y := fun z => e (decide_eq_true z)
      rw [if_neg e1] at q
      refine ⟨_, rfl, rfl, _, rfl, ite2 (fun e => ?_) (fun e => ?_)⟩
      · rw [if_pos (str_eq e)] at q
        exact ⟨_, rfl, _, rfl, _, _, rfl, rfl, ⟨y0, by omega, by omega⟩, _, rfl, n, rfl, hn, _, _, rfl, rfl, bit_top q⟩
      · rw [if_neg (str_ne e)] at q
        exact ⟨_, rfl, _, rfl, _, _, rfl, rfl, y0, q⟩
theorem ok_compute (T : Txt K mg) : FnOk P w K mg base CX0 3 T.f_compute T.d_compute ["op", "w", "x", "y"] spCmp := by
  have G_top := ok_top (P := P) (w := w) (base := base) T
  have G_shift := ok_shift (P := P) (w := w) (base := base) T
  refine T.F_compute.ok sc_compute (fun vs H Q E h => ?_) (fun cdv A outer s H vs Q E hr h => ?_)
  · obtain ⟨op, n, x, y, rfl, _⟩ := h
    rfl
  · obtain ⟨op, n, x, y, rfl, hn, x0, x1, y0, y1, q⟩ := h
    have xl := lt64 hn x0 x1
    unfold cmpS at q
    refine ⟨_, (pss_cons (ps_if (pt_cmpR op_eq (pv 0) pe_str (nomark _))
        (pss_one (ps_ret (pe_op op_and (pe_op op_add (pv 2) (pv 3)) (pe_call G_top (hr.mono (by omega)) (by rfl) T.g_top T.F_top.kp T.b_top .nil pass0 (pa_cons (pv 1) pa_nil)))))
        pss_nil)
      (pss_cons (ps_if (pt_cmpR op_eq (pv 0) pe_str (nomark _))
        (pss_one (ps_ret (pe_op op_and (pe_op op_sub (pv 2) (pv 3)) (pe_call G_top (hr.mono (by omega)) (by rfl) T.g_top T.F_top.kp T.b_top .nil pass0 (pa_cons (pv 1) pa_nil)))))
        pss_nil)
      (pss_cons (ps_if (pt_cmpR op_eq (pv 0) pe_str (nomark _))
        (pss_one (ps_ret (pe_op op_and (pe_op op_mul (pv 2) (pv 3)) (pe_call G_top (hr.mono (by omega)) (by rfl) T.g_top T.F_top.kp T.b_top .nil pass0 (pa_cons (pv 1) pa_nil)))))
        pss_nil)
      (pss_cons (ps_if (pt_cmpR op_eq (pv 0) pe_str (nomark _))
        (pss_one (ps_ret (pe_op op_and (pv 2) (pv 3))))
        pss_nil)
      (pss_cons (ps_if (pt_cmpR op_eq (pv 0) pe_str (nomark _))
        (pss_one (ps_ret (pe_op op_or (pv 2) (pv 3))))
        pss_nil)
      (pss_cons (ps_if (pt_cmpR op_eq (pv 0) pe_str (nomark _))
        (pss_one (ps_ret (pe_op op_xor (pv 2) (pv 3))))
        pss_nil)
      (pss_cons (ps_if (pt_cmpR op_eq (pv 0) pe_str (nomark _))
        (pss_one (ps_ret (pe_ifExp (pt_cmpR op_lt (pv 2) (pv 3) (nomark _)) pe_int pe_int)))
        pss_nil)
      (pss_cons (ps_if (pt_cmpR op_eq (pv 0) pe_str (nomark _))
        (pss_one (ps_ret (pe_ifExp (pt_cmpR op_eq (pv 2) (pv 3) (nomark _)) pe_int pe_int)))
        pss_nil)
      (pss_one (ps_ret (pe_call G_shift (hr.mono (by omega)) (by rfl) T.g_shift T.F_shift.kp T.b_shift .nil pass0 (pa_cons (pv 0) (pa_cons (pv 1) (pa_cons (pv 2) (pa_cons (pv 3) pa_nil))))))))))))))), ?_⟩
    refine ⟨_, rfl, rfl, _, rfl, ite2 (fun e => ?_) (fun e => ?_)⟩
    · rw [if_pos (str_eq e)] at q
      refine ⟨_, rfl, _, rfl, _, _, rfl, rfl, _, rfl, n, rfl, hn, _, _, rfl, rfl, bit_top q⟩
    rw [if_neg (str_ne e)] at q
    clear e
    refine ⟨_, rfl, rfl, _, rfl, ite2 (fun e => ?_) (fun e => ?_)⟩
    · rw [if_pos (str_eq e)] at q
      refine ⟨_, rfl, _, rfl, _, _, rfl, rfl, _, rfl, n, rfl, hn, _, _, rfl, rfl, bit_top q⟩
    rw [if_neg (str_ne e)] at q
    clear e
    refine ⟨_, rfl, rfl, _, rfl, ite2 (fun e => ?_) (fun e => ?_)⟩
    · rw [if_pos (str_eq e)] at q
      refine ⟨_, rfl, _, rfl, _, _, rfl, rfl, .inl ⟨by omega, by omega⟩, _, rfl, n, rfl, hn, _, _, rfl, rfl, bit_top q⟩
    rw [if_neg (str_ne e)] at q
    clear e
    refine ⟨_, rfl, rfl, _, rfl, ite2 (fun e => ?_) (fun e => ?_)⟩
    · rw [if_pos (str_eq e)] at q
      exact ⟨_, rfl, _, rfl, _, _, rfl, rfl, q⟩
    rw [if_neg (str_ne e)] at q
    clear e
    refine ⟨_, rfl, rfl, _, rfl, ite2 (fun e => ?_) (fun e => ?_)⟩
    · rw [if_pos (str_eq e)] at q
      exact ⟨_, rfl, _, rfl, _, _, rfl, rfl, q⟩
    rw [if_neg (str_ne e)] at q
    clear e
    refine ⟨_, rfl, rfl, _, rfl, ite2 (fun e => ?_) (fun e => ?_)⟩
    · rw [if_pos (str_eq e)] at q
      exact ⟨_, rfl, _, rfl, _, _, rfl, rfl, q⟩
    rw [if_neg (str_ne e)] at q
    clear e
    refine ⟨_, rfl, rfl, _, rfl, ite2 (fun e => ?_) (fun e => ?_)⟩
    · rw [if_pos (str_eq e)] at q
      refine ⟨_, rfl, _, rfl, _, _, rfl, rfl, _, rfl, ite2 (fun e => ?_) (fun e => ?_)⟩
      · rw [if_pos (of_decide_eq_true e)] at q
        exact q
      · rw [if_neg (fun z => e (decide_eq_true z))] at q
        exact q
    rw [if_neg (str_ne e)] at q
    clear e
    refine ⟨_, rfl, rfl, _, rfl, ite2 (fun e => ?_) (fun e => ?_)⟩
    · rw [if_pos (str_eq e)] at q
      refine ⟨_, rfl, _, rfl, rfl, _, rfl, ite2 (fun e => ?_) (fun e => ?_)⟩
      · rw [if_pos (int_eq e)] at q
        exact q
      · rw [if_neg (int_ne e)] at q
        exact q
    rw [if_neg (str_ne e)] at q
    clear e
    exact ⟨_, rfl, _, rfl, _, rfl, _, rfl, op, n, x, y, rfl, hn, x0, x1, y0, y1, q⟩

def spLow : Sp := fun vs H Q _ => ∃ (op : Str) (n : Nat) (x y : Int), vs = [.str op, .int n, .int x, .int y] ∧ n ≤ 32 ∧ Q (.int (resS op n (x % 2 ^ n) (y % 2 ^ n))) H
theorem ok_compute_low (T : Txt K mg) : FnOk P w K mg base CX0 4 T.f_compute_low T.d_compute_low ["op", "width", "x", "y"] spLow := by
  have G_top := ok_top (P := P) (w := w) (base := base) T
  have G_compute := ok_compute (P := P) (w := w) (base := base) T
  refine T.F_compute_low.ok sc_compute_low (fun vs H Q E h => ?_) (fun cdv A outer s H vs Q E hr h => ?_)
  · obtain ⟨op, n, x, y, rfl, _⟩ := h
    rfl
  · obtain ⟨op, n, x, y, rfl, hn, q⟩ := h
    have hp : (0 : Int) < 2 ^ n := Int.pow_pos (by decide)
    have x0 := Int.emod_nonneg x (Int.ne_of_gt hp)
    have x1 := Int.emod_lt_of_pos x hp
    have y0 := Int.emod_nonneg y (Int.ne_of_gt hp)
    have y1 := Int.emod_lt_of_pos y hp
    refine ⟨_, (pss_cons (ps_set (i := 4) sc_compute_low.nd rfl (Or.inl rfl) (pe_call G_top (hr.mono (by omega)) (by rfl) T.g_top T.F_top.kp T.b_top .nil pass0 (pa_cons (pv 1) pa_nil)))
      (pss_cons (ps_par (i := 5) (j := 6) (by rfl) sc_compute_low.nd rfl rfl (by decide) rfl rfl (pa_cons (pe_op op_andM (pv 2) (pv 4)) (pa_cons (pe_op op_andM (pv 3) (pv 4)) pa_nil)) (by rfl))
      (pss_cons (ps_if (pt_cmpR op_eq (pv 0) pe_str (nomark _))
        (pss_one (ps_ret (pe_ifExp (pt_truthK (K := K) rfl 6) (pe_op op_modN (pv 5) (pv 6)) pe_int)))
        pss_nil)
      (pss_cons (ps_if (pt_cmpR op_eq (pv 0) pe_str (nomark _))
        (pss_one (ps_ret (pe_ifExp (pt_cmpR op_eq (pv 5) (pv 6) (nomark _)) pe_int pe_int)))
        pss_nil)
      (pss_one (ps_ret (pe_call G_compute (hr.mono (by omega)) (by rfl) T.g_compute T.F_compute.kp T.b_compute .nil pass0 (pa_cons (pv 0) (pa_cons (pv 1) (pa_cons (pv 5) (pa_cons (pv 6) pa_nil))))))))))), ?_⟩
    refine ⟨_, rfl, n, rfl, hn, ?_⟩
    refine ⟨_, rfl, _, rfl, _, n, rfl, rfl, _, rfl, _, rfl, _, n, rfl, rfl, _, _, rfl, ?_⟩
    generalize x % 2 ^ n = X at q x0 x1 ⊢
    generalize y % 2 ^ n = Y at q y0 y1 ⊢
    refine ⟨_, rfl, rfl, _, rfl, ite2 (fun e => ?_) (fun e => ?_)⟩
    · have e1 := str_eq e
      subst e1
      have ec : resS "rem" n X Y = if Y = 0 then 0 else X % Y := rfl
      rw [ec] at q
      refine ⟨_, rfl, _, rfl, ?_⟩
      by_cases h : Y = 0
      · rw [if_pos h] at q
        refine ite_f (by simp [h]) ?_
        exact q
      · rw [if_neg h] at q
        refine ite_t (by simpa using h) ?_
        refine ⟨_, rfl, _, rfl, _, _, rfl, rfl, h, ?_⟩
        dsimp only
        rw [fmod_e (by omega)]
        exact q
    have n1 := str_ne e
    clear e
    refine ⟨_, rfl, rfl, _, rfl, ite2 (fun e => ?_) (fun e => ?_)⟩
    · have e1 := str_eq e
      subst e1
      have ec : resS "differ" n X Y = if X = Y then 0 else 1 := rfl
      rw [ec] at q
      refine ⟨_, rfl, _, rfl, rfl, _, rfl, ite2 (fun e => ?_) (fun e => ?_)⟩
      · rw [if_pos (int_eq e)] at q
        exact q
      · rw [if_neg (int_ne e)] at q
        exact q
    have n2 := str_ne e
    clear e
    have ec : resS op n X Y = cmpS op n X Y := by
      unfold resS
      rw [if_neg n1, if_neg n2]
    rw [ec] at q
    exact ⟨_, rfl, _, rfl, _, rfl, _, rfl, op, n, X, Y, rfl, hn, x0, x1, y0, y1, q⟩
set_option maxHeartbeats 2000000 in
theorem ok_do_op (T : Txt K mg) (TC : TxC K C) : FnOk P w K mg base CX0 5 T.f_do_op T.d_do_op ["core", "instruction", "sign"] (spDo K C rsL) := by
  have G_change_low := ok_change_low (P := P) (w := w) (base := base) T TC
  have G_compute_low := ok_compute_low (P := P) (w := w) (base := base) T
  refine T.F_do_op.ok sc_do_op (fun vs H Q E h => ?_) (fun cdv A outer s H vs Q E hr h => ?_)
  · obtain ⟨p, ra, ma, u, n, S, v, op, ps, sg, rfl, _⟩ := h
    rfl
  · obtain ⟨p, ra, ma, u, n, S, v, op, ps, sg, rfl, hop, ⟨t, rfl, ht⟩, hi, hn1, hn, hsg, hC, hS, q⟩ := h
    have hsh : (shapeOf op).cps.toList = [114, 114, 114] := by
      have key : ∀ o ∈ rsL, (shapeOf o).cps.toList = [114, 114, 114] := by decide +kernel
      exact key op hop
    have hne : op ∉ prL := by
      have key : ∀ o ∈ rsL, o ∉ prL := by decide +kernel
      exact key op hop
    obtain ⟨a, b, c, rfl, ha, hb, hc, hab, hac⟩ := ins_rrr hi hsh
    obtain ⟨wa, hga⟩ := hS.g ha
    obtain ⟨wb, hgb⟩ := hS.g hb
    obtain ⟨wc, hgc⟩ := hS.g hc
    obtain ⟨dx, hp⟩ := hC.ho
    have ea : actX n op [(a : Int), (b : Int), (c : Int)] sg S = chg n S a (Builtin.bitXor (gR S a) (resS op n (gR S b % 2 ^ n) (gR S c % 2 ^ n))) := by
      simp only [prL, List.mem_cons, List.not_mem_nil, or_false, not_or] at hne
      obtain ⟨m1, m2, m3, m4, m5, m6, m7, m8, m9, m10, m11, m12, m13, m14, m15, m16, m17, m18, m19, m20, m21⟩ := hne
      unfold actX actS
      rw [if_neg m4, if_neg (by simp [m1, m2, m3]), if_neg m5, if_neg m6, if_neg m7, if_neg m8, if_neg m9, if_neg m10, if_neg m11, if_neg m12, if_neg m13, if_neg m14, if_neg m15, if_neg m16, if_neg m17, if_neg m18, if_neg m19, if_neg m20, if_neg m21]
      rfl
    rw [ea] at q
    refine ⟨_, (pss_cons (ps_asg (pv 1) (pg_tup (by rfl) (pgs_cons (pg_name (i := 3) sc_do_op.nd rfl (Or.inl rfl)) (pgs_cons (pg_name (i := 4) sc_do_op.nd rfl (Or.inl rfl)) (pgs_cons (pg_name (i := 5) sc_do_op.nd rfl (Or.inl rfl)) (pgs_cons (pg_name (i := 6) sc_do_op.nd rfl (Or.inl rfl)) pgs_nil))))))
      (pss_cons (ps_set (i := 7) sc_do_op.nd rfl (Or.inl rfl) (pe_call G_compute_low (hr.mono (by omega)) (by rfl) T.g_compute_low T.F_compute_low.kp T.b_compute_low .nil pass0 (pa_cons (pv 3) (pa_cons (pe_fld (pv 0) rfl) (pa_cons (pe_ix ix_list (pe_fld (pv 0) rfl) (pv 5) (fun _ _ => rfl)) (pa_cons (pe_ix ix_list (pe_fld (pv 0) rfl) (pv 6) (fun _ _ => rfl)) pa_nil))))))
      (pss_one (ps_expr (pe_call G_change_low (hr.mono (by omega)) (by rfl) T.g_change_low T.F_change_low.kp T.b_change_low .nil pass0 (pa_cons (pv 0) (pa_cons (pv 4) (pa_cons (pe_op op_xor (pe_ix ix_list (pe_fld (pv 0) rfl) (pv 4) (fun _ _ => rfl)) (pv 7)) pa_nil)))))))), ?_⟩
    refine ⟨_, rfl, t, _, rfl, ht, rfl, _, _, rfl, _, _, rfl, _, _, rfl, _, _, rfl, rfl, ?_⟩
    refine ⟨_, rfl, _, rfl, p, C, dx, _, _, rfl, hp, TC.cl, TC.nW, fl_width .., _, rfl, p, C, dx, _, _, rfl, hp, TC.cl, TC.nR, fl_regs .., _, rfl, ra, _, _, _, rfl, rfl, SqL.of hC.hr, atN b rfl hgb, _, rfl, p, C, dx, _, _, rfl, hp, TC.cl, TC.nR, fl_regs .., _, rfl, ra, _, _, _, rfl, rfl, SqL.of hC.hr, atN c rfl hgc, op, n, _, _, rfl, hn, ?_⟩
    exact ⟨_, rfl, _, rfl, _, rfl, p, C, dx, _, _, rfl, hp, TC.cl, TC.nR, fl_regs .., _, rfl, ra, _, _, _, rfl, rfl, SqL.of hC.hr, atN a rfl hga, _, rfl, _, _, rfl, rfl, p, ra, ma, u, n, S, a, _, rfl, ha, hC, hS, fun H' k hC' => q H' k hC'⟩
end

end My

set_option Elab.async false
set_option linter.all false
set_option maxRecDepth 100000
namespace My
open PySem PySem.Spec PyProof.Rows L2
theorem fl_no_here (n : Nat) (u ra ma : Addr) (S : Mst) : (flds n u ra ma S).lookup ("here" : Str) = none := by kernel_rfl
theorem fl_no_state (n : Nat) (u ra ma : Addr) (S : Mst) : (flds n u ra ma S).lookup ("state" : Str) = none := by kernel_rfl
theorem fl_no_outcome (n : Nat) (u ra ma : Addr) (S : Mst) : (flds n u ra ma S).lookup ("outcome" : Str) = none := by kernel_rfl
theorem fl_no_act (n : Nat) (u ra ma : Addr) (S : Mst) : (flds n u ra ma S).lookup ("act" : Str) = none := by kernel_rfl
theorem fl_no_forth (n : Nat) (u ra ma : Addr) (S : Mst) : (flds n u ra ma S).lookup ("forth" : Str) = none := by kernel_rfl
theorem fl_no_retrace (n : Nat) (u ra ma : Addr) (S : Mst) : (flds n u ra ma S).lookup ("retrace" : Str) = none := by kernel_rfl
section
variable {P : Program} {w : World} {K : PySem.W.Frag} {mg : Str → Option Value} {base : Heap} {C : Addr}
theorem KT.ins {L : List Addr} {H : Hp} {p C dx : Addr} {fs : List (Str × V)} {o : HO} (hp : p ∈ L) (h : H p = some (.ins C dx fs)) : KT L H (upd H p o) := KT.put hp h (fun _ z => by cases z) (fun _ _ z => by cases z) (fun _ z => by cases z)
def spHere (K : PySem.W.Frag) (C : Addr) : Sp := fun vs H Q _ => ∃ (p ra ma u : Addr) (n : Nat) (S : Mst) (cvs : List V) (code : List (Str × List Int)), vs = [.ref p] ∧ CoV C H p ra ma u n S ∧ S.Ok ∧ H u = some (.tup cvs) ∧ P2 (InsV H) cvs code ∧ code.length ≤ 100 ∧ ∀ v, InsW K H v (insAt code S.pc) → Q v H
theorem ok_Core_here (T : Txt K mg) (TC : TxC K C) (TM : TxM K mg C) : FnOk P w K mg base CX0 1 TM.f_Core_here TM.d_Core_here ["self"] (spHere K C) := by
  refine TM.F_Core_here.ok sc_Core_here (fun vs H Q E h => ?_) (fun cdv A outer s H vs Q E hr h => ?_)
  · obtain ⟨p, ra, ma, u, n, S, cvs, code, rfl, _⟩ := h
    rfl
  · obtain ⟨p, ra, ma, u, n, S, cvs, code, rfl, hC, hS, hu, hP, hcl, q⟩ := h
    obtain ⟨dx, hp⟩ := hC.ho
    obtain ⟨p0, p1⟩ := hS.pc
    have hcv : (cvs.length : Int) = code.length := by rw [hP.len]
    refine ⟨_, (pss_one (ps_ret (pe_ifExp (pt_cmpR op_lt (pe_fld (pv 0) rfl) (pe_callB call_len_seq (by rfl) T.m_len (by decide +kernel) (pa_cons (pe_fld (pv 0) rfl) pa_nil)) (nomark _)) (pe_ix ix_tup (pe_fld (pv 0) rfl) (pe_fld (pv 0) rfl) (fun _ _ => rfl)) (pe_glob (v := .ref T.a_SKIP) (by rfl) T.m_SKIP rfl)))), ?_⟩
    refine ⟨_, rfl, p, C, dx, _, _, rfl, hp, TC.cl, TC.nPc, fl_pc .., _, rfl, p, C, dx, _, _, rfl, hp, TC.cl, TC.nP, fl_code .., _, _, rfl, .inr (SqT.of hu), _, _, rfl, rfl, _, rfl, ite2 (fun e => ?_) (fun e => ?_)⟩
    · have hlt : S.pc < (cvs.length : Int) := of_decide_eq_true e
      obtain ⟨k, hk⟩ := int_nat p0
      have hkl : k < cvs.length := by omega
      obtain ⟨d, hd1, it, hit, hit2⟩ := hP.get (List.getElem?_eq_getElem hkl)
      have hins : insAt code S.pc = d := by
        unfold insAt
        rw [if_pos (by omega), hk, Int.toNat_natCast, List.getD_eq_getElem?_getD, hd1]
        rfl
      have hat : atI cvs S.pc = some (.ref it) := atN k hk (by rw [List.getElem?_eq_getElem hkl, hit])
      refine ⟨_, rfl, p, C, dx, _, _, rfl, hp, TC.cl, TC.nP, fl_code .., _, rfl, p, C, dx, _, _, rfl, hp, TC.cl, TC.nPc, fl_pc .., u, _, _, _, rfl, rfl, SqT.of hu, hat, q _ ?_⟩
      rw [hins]
      exact ⟨it, rfl, SqT.of hit2⟩
    · have hlt : ¬ S.pc < (cvs.length : Int) := fun z => e (decide_eq_true z)
      have hins : insAt code S.pc = (("skip", []) : Str × List Int) := by
        unfold insAt
        rw [if_neg (by omega)]
      rw [hins] at q
      exact q _ ⟨T.a_SKIP, rfl, T.t_SKIP _⟩
def spState2 (C : Addr) : Sp := fun vs H Q _ => ∃ (p ra ma u : Addr) (n : Nat) (S : Mst), vs = [.ref p] ∧ CoV C H p ra ma u n S ∧ ∀ v H', KT [] H H' → StV H' v S → Q v H'
theorem ok_Core_state (T : Txt K mg) (TC : TxC K C) (TM : TxM K mg C) : FnOk P w K mg base CX0 1 TM.f_Core_state TM.d_Core_state ["self"] (spState2 C) := by
  refine TM.F_Core_state.ok sc_Core_state (fun vs H Q E h => ?_) (fun cdv A outer s H vs Q E hr h => ?_)
  · obtain ⟨p, ra, ma, u, n, S, rfl, _⟩ := h
    rfl
  · obtain ⟨p, ra, ma, u, n, S, rfl, hC, q⟩ := h
    obtain ⟨dx, hp⟩ := hC.ho
    refine ⟨_, (pss_one (ps_ret (pe_tup (pa_cons (pe_callTy call_tuple_of (by rfl) T.m_tuple (by decide +kernel) (pa_cons (pe_fld (pv 0) rfl) pa_nil)) (pa_cons (pe_fld (pv 0) rfl) (pa_cons (pe_fld (pv 0) rfl) (pa_cons (pe_fld (pv 0) rfl) (pa_cons (pe_callTy call_tuple_of (by rfl) T.m_tuple (by decide +kernel) (pa_cons (pe_fld (pv 0) rfl) pa_nil)) pa_nil)))))))), ?_⟩
    refine ⟨_, rfl, p, C, dx, _, _, rfl, hp, TC.cl, TC.nR, fl_regs .., _, _, rfl, .inl ⟨SqL.of hC.hr, fun ra' nra' => ?_⟩⟩
    have k1 := KT.new [] nra' (o := .tup (S.regs.map V.int))
    have hC1 := hC.keep k1
    have hp1 := k1.same _ _ hp
    refine ⟨_, rfl, p, C, dx, _, _, rfl, hp1, TC.cl, TC.nPc, fl_pc .., _, rfl, p, C, dx, _, _, rfl, hp1, TC.cl, TC.nB, fl_br .., _, rfl, p, C, dx, _, _, rfl, hp1, TC.cl, TC.nD, fl_dir .., _, rfl, p, C, dx, _, _, rfl, hp1, TC.cl, TC.nM, fl_mem .., _, _, rfl, .inl ⟨SqL.of hC1.ha, fun ma' nma' => ⟨(by show 5 ≤ sizeLine; decide), fun t' nt' => ?_⟩⟩⟩
    have k2 := KT.new [] nma' (o := .tup (S.mem.map V.int))
    have k3 := KT.new [] nt' (o := .tup [.ref ra', .int S.pc, .int S.br, .int S.dir, .ref ma'])
    exact q _ _ ((k1.trans k2).trans k3) ⟨t', ra', ma', rfl, upd_same, k3.tp _ _ (k2.tp _ _ upd_same), k3.tp _ _ upd_same⟩
end

end My

set_option Elab.async false
set_option linter.all false
set_option maxRecDepth 100000
namespace My
open PySem PySem.Spec PyProof.Rows L2
/-! ### a step taken back -/
theorem last_all : ∀ k, k < 30 → wdL.getD k "" ∉ (["skip", "halt", "fail", "rbra", "bra", "brz", "brn", "add", "sub", "addi", "xor", "xori", "test", "over", "addr", "subr", "addl", "neg", "swap", "swapbr", "exch"] : List Str) → (shapeOf (wdL.getD k "")).cps.toList = [114, 114, 114] ∧ wdL.getD k "" ∈ rsL := by decide +kernel
theorem last_shape' {n near : Nat} {op : Str} {ps : List Int} (h : InsOk n near op ps) (hr : op ≠ "rbra") (n0 : ¬ (op = "skip" ∨ op = "halt" ∨ op = "fail")) (n1 : op ≠ "bra") (n2 : op ≠ "brz") (n3 : op ≠ "brn") (n4 : op ≠ "add") (n5 : op ≠ "sub") (n6 : op ≠ "addi") (n7 : op ≠ "xor") (n8 : op ≠ "xori") (n9 : op ≠ "test") (n10 : op ≠ "over") (n11 : op ≠ "addr") (n12 : op ≠ "subr") (n13 : op ≠ "addl") (n14 : op ≠ "neg") (n15 : op ≠ "swap") (n16 : op ≠ "swapbr") (n17 : op ≠ "exch") : (shapeOf op).cps.toList = [114, 114, 114] ∧ op ∈ rsL := by
  obtain ⟨k, hk, rfl⟩ := h.wd
  refine last_all k hk ?_
  intro z
  simp only [List.mem_cons, List.not_mem_nil, or_false] at z
  rcases z with z | z | z | z | z | z | z | z | z | z | z | z | z | z | z | z | z | z | z | z | z
  · exact n0 (.inl z)
  · exact n0 (.inr (.inl z))
  · exact n0 (.inr (.inr z))
  · exact hr z
  · exact n1 z
  · exact n2 z
  · exact n3 z
  · exact n4 z
  · exact n5 z
  · exact n6 z
  · exact n7 z
  · exact n8 z
  · exact n9 z
  · exact n10 z
  · exact n11 z
  · exact n12 z
  · exact n13 z
  · exact n14 z
  · exact n15 z
  · exact n16 z
  · exact n17 z
theorem ite_nn {c : Prop} [Decidable c] {A B : Int} (hA : 0 ≤ A) (hB : 0 ≤ B) : 0 ≤ (if c then A else B) := by
  by_cases h : c
  · rw [if_pos h]; exact hA
  · rw [if_neg h]; exact hB
theorem res_nonneg {op : Str} (_ : op ∈ rsL) {n : Nat} {x y : Int} (x0 : 0 ≤ x) (y0 : 0 ≤ y) : 0 ≤ resS op n x y := by
  obtain ⟨X, rfl⟩ : ∃ X : Nat, x = X := ⟨x.toNat, by omega⟩
  obtain ⟨Y, rfl⟩ : ∃ X : Nat, y = X := ⟨y.toNat, by omega⟩
  have hp : ((2 : Int) ^ n) ≠ 0 := Int.ne_of_gt (Int.pow_pos (by decide))
  have hq : (0 : Int) ≤ 2 ^ (Y : Int).toNat := Int.le_of_lt (Int.pow_pos (by decide))
  unfold resS cmpS
  rw [bitAnd_nat, bitOr_nat, bitXor_nat]
  repeat' first
    | refine ite_nn ?_ ?_
    | exact Int.emod_nonneg _ hp
    | exact Int.natCast_nonneg _
    | decide
    | exact Int.ediv_nonneg (Int.natCast_nonneg _) hq
    | exact (Int.natCast_emod X Y) ▸ Int.natCast_nonneg _
section
variable {S : Mst} {n : Nat}
theorem gR_put_same {a : Nat} (ha : a < S.regs.length) (x : Int) : gR (S.put (a : Int) x) (a : Int) = x := by
  unfold gR Mst.put
  simp only [Int.toNat_natCast]
  rw [List.getD_eq_getElem?_getD, List.getElem?_set_self ha]
  rfl
theorem gR_put_ne {a b : Nat} (h : a ≠ b) (x : Int) : gR (S.put (a : Int) x) (b : Int) = gR S (b : Int) := by
  unfold gR Mst.put
  simp only [Int.toNat_natCast]
  rw [List.getD_eq_getElem?_getD, List.getElem?_set_ne h, ← List.getD_eq_getElem?_getD]
theorem put_put (a : Int) (x y : Int) : (S.put a x).put a y = S.put a y := by
  unfold Mst.put
  simp only [List.set_set]
theorem put_self (a : Nat) : S.put (a : Int) (gR S (a : Int)) = S := by
  unfold gR Mst.put
  simp only [Int.toNat_natCast]
  have e : S.regs.set a (S.regs.getD a 0) = S.regs := by
    by_cases h : a < S.regs.length
    · rw [List.getD_eq_getElem?_getD, List.getElem?_eq_getElem h]
      exact List.set_getElem_self h
    · exact List.set_eq_of_length_le (by omega)
  rw [e]
theorem put_comm {a b : Nat} (h : a ≠ b) (x y : Int) : (S.put (a : Int) x).put (b : Int) y = (S.put (b : Int) y).put (a : Int) x := by
  unfold Mst.put
  simp only [Int.toNat_natCast]
  rw [List.set_comm _ _ h]
theorem low_sub (g N : Int) : (g - g % N) % N = 0 := by
  have h := Int.emod_add_mul_ediv g N
  have : g - g % N = N * (g / N) := by
    generalize N * (g / N) = z at h ⊢
    omega
  rw [this, Int.mul_emod_right]
theorem low_new (g x N : Int) : (g - g % N + x % N) % N = x % N := by
  rw [Int.add_emod, low_sub, Int.zero_add, Int.emod_emod, Int.emod_emod]
theorem gR_chg_same {a : Nat} (ha : a < S.regs.length) (x : Int) : gR (chg n S (a : Int) x) (a : Int) = gR S (a : Int) - gR S (a : Int) % 2 ^ n + x % 2 ^ n := gR_put_same ha _
theorem low_chg {a : Nat} (ha : a < S.regs.length) (x : Int) : gR (chg n S (a : Int) x) (a : Int) % 2 ^ n = x % 2 ^ n := by rw [gR_chg_same ha, low_new]
theorem gR_chg_ne {a b : Nat} (h : a ≠ b) (x : Int) : gR (chg n S (a : Int) x) (b : Int) = gR S (b : Int) := gR_put_ne h _
theorem chg_undo {a : Nat} (ha : a < S.regs.length) {x y : Int} (hy : y % 2 ^ n = gR S (a : Int) % 2 ^ n) : chg n (chg n S (a : Int) x) (a : Int) y = S := by
  have e : chg n (chg n S (a : Int) x) (a : Int) y = (chg n S (a : Int) x).put (a : Int) (gR (chg n S (a : Int) x) (a : Int) - gR (chg n S (a : Int) x) (a : Int) % 2 ^ n + y % 2 ^ n) := rfl
  rw [e, low_chg ha, gR_chg_same ha, hy]
  have e2 : gR S (a : Int) - gR S (a : Int) % 2 ^ n + x % 2 ^ n - x % 2 ^ n + gR S (a : Int) % 2 ^ n = gR S (a : Int) := by omega
  rw [e2]
  show (S.put _ _).put _ _ = _
  rw [put_put, put_self]
theorem mod_add_l {x y : Int} (N t : Int) (h : x % N = y % N) : (x + t) % N = (y + t) % N := by rw [Int.add_emod, h, ← Int.add_emod]
theorem chg_undo_add {a : Nat} (ha : a < S.regs.length) {t u : Int} (hu : u = -t) : chg n (chg n S (a : Int) (gR S (a : Int) + t)) (a : Int) (gR (chg n S (a : Int) (gR S (a : Int) + t)) (a : Int) + u) = S := by
  refine chg_undo ha ?_
  rw [mod_add_l _ _ (low_chg ha _), hu]
  congr 1
  omega
theorem bitXor_xor {x y : Int} (hx : 0 ≤ x) (hy : 0 ≤ y) : Builtin.bitXor (Builtin.bitXor x y) y = x := by
  obtain ⟨X, rfl⟩ : ∃ X : Nat, x = X := ⟨x.toNat, by omega⟩
  obtain ⟨Y, rfl⟩ : ∃ X : Nat, y = X := ⟨y.toNat, by omega⟩
  rw [bitXor_nat, bitXor_nat, Nat.xor_assoc, Nat.xor_self, Nat.xor_zero]
theorem chg_undo_xor {a : Nat} (hS : S.Ok) (ha : a < 16) {t : Int} (ht : 0 ≤ t) : chg n (chg n S (a : Int) (Builtin.bitXor (gR S (a : Int)) t)) (a : Int) (Builtin.bitXor (gR (chg n S (a : Int) (Builtin.bitXor (gR S (a : Int)) t)) (a : Int)) t) = S := by
  have hl : a < S.regs.length := by rw [hS.r16]; exact ha
  have hp : (0 : Int) < 2 ^ n := Int.pow_pos (by decide)
  have g0 := (hS.gw (a : Int)).1
  refine chg_undo hl ?_
  have e1 := gR_chg_same (n := n) (S := S) hl (Builtin.bitXor (gR S (a : Int)) t)
  have hx0 := Int.emod_nonneg (Builtin.bitXor (gR S (a : Int)) t) (Int.ne_of_gt hp)
  have hg : 0 ≤ gR S (a : Int) - gR S (a : Int) % 2 ^ n := by
    have h1 := Int.emod_add_mul_ediv (gR S (a : Int)) (2 ^ n)
    have h2 := Int.mul_nonneg (Int.le_of_lt hp) (Int.ediv_nonneg g0 (Int.le_of_lt hp))
    generalize (2 : Int) ^ n * (gR S (a : Int) / 2 ^ n) = z at h1 h2
    omega
  rw [low_xor n (by rw [e1]; omega), low_chg hl, low_xor n g0]
  exact bitXor_xor (Int.emod_nonneg _ (Int.ne_of_gt hp)) (Int.emod_nonneg _ (Int.ne_of_gt hp))
theorem put_undo {a : Nat} (ha : a < S.regs.length) {x y : Int} (hy : y = gR S (a : Int)) : (S.put (a : Int) x).put (a : Int) y = S := by
  rw [put_put, hy, put_self]
theorem mod32 {g : Int} (h : W32 g) (t : Int) : ((g + t) % 2 ^ 32 + -t) % 2 ^ 32 = g := by
  unfold W32 at h
  omega
theorem act_undo {near : Nat} {op : Str} {ps : List Int} (h : InsOk n near op ps) (hr : op ≠ "rbra") (hS : S.Ok) {sg : Int} (hsg : sg = 1 ∨ sg = -1) : actS n op ps (-sg) (actS n op ps sg S) = S := by
  have hlen : ∀ {a : Nat}, a < 16 → a < S.regs.length := fun ha => by rw [hS.r16]; exact ha
  unfold actS
  dsimp only
  by_cases e : op = "skip" ∨ op = "halt" ∨ op = "fail"
  · simp only [if_pos e]
  simp only [if_neg e]
  have n0 := e
  clear e
  by_cases e : op = "bra"
  · simp only [if_pos e]
    obtain ⟨x, rfl, _⟩ := ins_o (e ▸ h) (by decide +kernel)
    have := mod32 hS.br (sg * x)
    show ({ S with br := ((S.br + sg * x) % 2 ^ 32 + -sg * x) % 2 ^ 32 } : Mst) = S
    rw [Int.neg_mul, this]
  simp only [if_neg e]
  have n1 := e
  clear e
  by_cases e : op = "brz"
  · simp only [if_pos e]
    obtain ⟨a, x, rfl, ha, _⟩ := ins_ro (e ▸ h) (by decide +kernel)
    have := mod32 hS.br (sg * x)
    show (if gR (if gR S (a : Int) % 2 ^ n = 0 then ({ S with br := (S.br + sg * x) % 2 ^ 32 } : Mst) else S) (a : Int) % 2 ^ n = 0 then ({ (if gR S (a : Int) % 2 ^ n = 0 then ({ S with br := (S.br + sg * x) % 2 ^ 32 } : Mst) else S) with br := ((if gR S (a : Int) % 2 ^ n = 0 then ({ S with br := (S.br + sg * x) % 2 ^ 32 } : Mst) else S).br + -sg * x) % 2 ^ 32 } : Mst) else (if gR S (a : Int) % 2 ^ n = 0 then ({ S with br := (S.br + sg * x) % 2 ^ 32 } : Mst) else S)) = S
    by_cases g : gR S (a : Int) % 2 ^ n = 0
    · simp only [if_pos g]
      rw [if_pos (show gR ({ S with br := (S.br + sg * x) % 2 ^ 32 } : Mst) (a : Int) % 2 ^ n = 0 from g), Int.neg_mul, this]
    · simp only [if_neg g]
  simp only [if_neg e]
  have n2 := e
  clear e
  by_cases e : op = "brn"
  · simp only [if_pos e]
    obtain ⟨a, x, rfl, ha, _⟩ := ins_ro (e ▸ h) (by decide +kernel)
    have := mod32 hS.br (sg * x)
    show (if gR (if gR S (a : Int) % 2 ^ n = 0 then S else ({ S with br := (S.br + sg * x) % 2 ^ 32 } : Mst)) (a : Int) % 2 ^ n = 0 then (if gR S (a : Int) % 2 ^ n = 0 then S else ({ S with br := (S.br + sg * x) % 2 ^ 32 } : Mst)) else ({ (if gR S (a : Int) % 2 ^ n = 0 then S else ({ S with br := (S.br + sg * x) % 2 ^ 32 } : Mst)) with br := ((if gR S (a : Int) % 2 ^ n = 0 then S else ({ S with br := (S.br + sg * x) % 2 ^ 32 } : Mst)).br + -sg * x) % 2 ^ 32 } : Mst)) = S
    by_cases g : gR S (a : Int) % 2 ^ n = 0
    · simp only [if_pos g]
    · simp only [if_neg g]
      rw [if_neg (show ¬ gR ({ S with br := (S.br + sg * x) % 2 ^ 32 } : Mst) (a : Int) % 2 ^ n = 0 from g), Int.neg_mul, this]
  simp only [if_neg e]
  have n3 := e
  clear e
  by_cases e : op = "add"
  · simp only [if_pos e]
    obtain ⟨a, b, rfl, ha, hb, hab⟩ := ins_rr (e ▸ h) (by decide +kernel)
    show chg n (chg n S (a : Int) (gR S (a : Int) + sg * gR S (b : Int))) (a : Int) (gR (chg n S (a : Int) (gR S (a : Int) + sg * gR S (b : Int))) (a : Int) + -sg * gR (chg n S (a : Int) (gR S (a : Int) + sg * gR S (b : Int))) (b : Int)) = S
    rw [gR_chg_ne hab]
    exact chg_undo_add (hlen ha) (Int.neg_mul ..)
  simp only [if_neg e]
  have n4 := e
  clear e
  by_cases e : op = "sub"
  · simp only [if_pos e]
    obtain ⟨a, b, rfl, ha, hb, hab⟩ := ins_rr (e ▸ h) (by decide +kernel)
    show chg n (chg n S (a : Int) (gR S (a : Int) + -(sg * gR S (b : Int)))) (a : Int) (gR (chg n S (a : Int) (gR S (a : Int) + -(sg * gR S (b : Int)))) (a : Int) + -(-sg * gR (chg n S (a : Int) (gR S (a : Int) + -(sg * gR S (b : Int)))) (b : Int))) = S
    rw [gR_chg_ne hab]
    exact chg_undo_add (hlen ha) (by rw [Int.neg_mul])
  simp only [if_neg e]
  have n5 := e
  clear e
  by_cases e : op = "addi"
  · simp only [if_pos e]
    obtain ⟨a, x, rfl, ha, _⟩ := ins_rn (e ▸ h) (by decide +kernel)
    show chg n (chg n S (a : Int) (gR S (a : Int) + sg * x)) (a : Int) (gR (chg n S (a : Int) (gR S (a : Int) + sg * x)) (a : Int) + -sg * x) = S
    exact chg_undo_add (hlen ha) (Int.neg_mul ..)
  simp only [if_neg e]
  have n6 := e
  clear e
  by_cases e : op = "xor"
  · simp only [if_pos e]
    obtain ⟨a, b, rfl, ha, hb, hab⟩ := ins_rr (e ▸ h) (by decide +kernel)
    show chg n (chg n S (a : Int) (Builtin.bitXor (gR S (a : Int)) (gR S (b : Int)))) (a : Int) (Builtin.bitXor (gR (chg n S (a : Int) (Builtin.bitXor (gR S (a : Int)) (gR S (b : Int)))) (a : Int)) (gR (chg n S (a : Int) (Builtin.bitXor (gR S (a : Int)) (gR S (b : Int)))) (b : Int))) = S
    rw [gR_chg_ne hab]
    exact chg_undo_xor hS ha (hS.gw _).1
  simp only [if_neg e]
  have n7 := e
  clear e
  by_cases e : op = "xori"
  · simp only [if_pos e]
    obtain ⟨a, x, rfl, ha, x0, _⟩ := ins_rn (e ▸ h) (by decide +kernel)
    exact chg_undo_xor hS ha x0
  simp only [if_neg e]
  have n8 := e
  clear e
  by_cases e : op = "test"
  · simp only [if_pos e]
    obtain ⟨a, b, rfl, ha, hb, hab⟩ := ins_rr (e ▸ h) (by decide +kernel)
    show (if gR (if gR S (b : Int) % 2 ^ n = 0 then S else chg n S (a : Int) (Builtin.bitXor (gR S (a : Int)) 1)) (b : Int) % 2 ^ n = 0 then (if gR S (b : Int) % 2 ^ n = 0 then S else chg n S (a : Int) (Builtin.bitXor (gR S (a : Int)) 1)) else chg n (if gR S (b : Int) % 2 ^ n = 0 then S else chg n S (a : Int) (Builtin.bitXor (gR S (a : Int)) 1)) (a : Int) (Builtin.bitXor (gR (if gR S (b : Int) % 2 ^ n = 0 then S else chg n S (a : Int) (Builtin.bitXor (gR S (a : Int)) 1)) (a : Int)) 1)) = S
    by_cases g : gR S (b : Int) % 2 ^ n = 0
    · simp only [if_pos g]
    · simp only [if_neg g]
      rw [gR_chg_ne hab, if_neg g]
      exact chg_undo_xor hS ha (by decide)
  simp only [if_neg e]
  have n9 := e
  clear e
  by_cases e : op = "over"
  · simp only [if_pos e]
    obtain ⟨a, b, x, rfl, ha, hb, hab, _⟩ := ins_rrm (e ▸ h) (by decide +kernel)
    show (if x ≤ gR (if x ≤ gR S (b : Int) then chg n S (a : Int) (Builtin.bitXor (gR S (a : Int)) 1) else S) (b : Int) then chg n (if x ≤ gR S (b : Int) then chg n S (a : Int) (Builtin.bitXor (gR S (a : Int)) 1) else S) (a : Int) (Builtin.bitXor (gR (if x ≤ gR S (b : Int) then chg n S (a : Int) (Builtin.bitXor (gR S (a : Int)) 1) else S) (a : Int)) 1) else (if x ≤ gR S (b : Int) then chg n S (a : Int) (Builtin.bitXor (gR S (a : Int)) 1) else S)) = S
    by_cases g : x ≤ gR S (b : Int)
    · simp only [if_pos g]
      rw [gR_chg_ne hab, if_pos g]
      exact chg_undo_xor hS ha (by decide)
    · simp only [if_neg g]
  simp only [if_neg e]
  have n10 := e
  clear e
  by_cases e : op = "addr"
  · simp only [if_pos e]
    obtain ⟨a, b, rfl, ha, hb, hab⟩ := ins_rr (e ▸ h) (by decide +kernel)
    show (S.put (a : Int) ((gR S (a : Int) + sg * gR S (b : Int)) % 2 ^ 32)).put (a : Int) ((gR (S.put (a : Int) ((gR S (a : Int) + sg * gR S (b : Int)) % 2 ^ 32)) (a : Int) + -sg * gR (S.put (a : Int) ((gR S (a : Int) + sg * gR S (b : Int)) % 2 ^ 32)) (b : Int)) % 2 ^ 32) = S
    rw [gR_put_ne hab, gR_put_same (hlen ha)]
    exact put_undo (hlen ha) (by rw [Int.neg_mul]; exact mod32 (hS.gw _) _)
  simp only [if_neg e]
  have n11 := e
  clear e
  by_cases e : op = "subr"
  · simp only [if_pos e]
    obtain ⟨a, b, rfl, ha, hb, hab⟩ := ins_rr (e ▸ h) (by decide +kernel)
    show (S.put (a : Int) ((gR S (a : Int) + -(sg * gR S (b : Int))) % 2 ^ 32)).put (a : Int) ((gR (S.put (a : Int) ((gR S (a : Int) + -(sg * gR S (b : Int))) % 2 ^ 32)) (a : Int) + -(-sg * gR (S.put (a : Int) ((gR S (a : Int) + -(sg * gR S (b : Int))) % 2 ^ 32)) (b : Int))) % 2 ^ 32) = S
    rw [gR_put_ne hab, gR_put_same (hlen ha)]
    exact put_undo (hlen ha) (by rw [Int.neg_mul]; exact mod32 (hS.gw _) _)
  simp only [if_neg e]
  have n12 := e
  clear e
  by_cases e : op = "addl"
  · simp only [if_pos e]
    obtain ⟨a, x, rfl, ha, _⟩ := ins_rm (e ▸ h) (by decide +kernel)
    show (S.put (a : Int) ((gR S (a : Int) + sg * x) % 2 ^ 32)).put (a : Int) ((gR (S.put (a : Int) ((gR S (a : Int) + sg * x) % 2 ^ 32)) (a : Int) + -sg * x) % 2 ^ 32) = S
    rw [gR_put_same (hlen ha)]
    exact put_undo (hlen ha) (by rw [Int.neg_mul]; exact mod32 (hS.gw _) _)
  simp only [if_neg e]
  have n13 := e
  clear e
  by_cases e : op = "neg"
  · simp only [if_pos e]
    obtain ⟨a, rfl, ha⟩ := ins_r (e ▸ h) (by decide +kernel)
    show (S.put (a : Int) (-gR S (a : Int) % 2 ^ 32)).put (a : Int) (-gR (S.put (a : Int) (-gR S (a : Int) % 2 ^ 32)) (a : Int) % 2 ^ 32) = S
    rw [gR_put_same (hlen ha)]
    refine put_undo (hlen ha) ?_
    have := hS.gw (a : Int)
    unfold W32 at this
    omega
  simp only [if_neg e]
  have n14 := e
  clear e
  by_cases e : op = "swap"
  · simp only [if_pos e]
    obtain ⟨a, b, rfl, ha, hb, hab⟩ := ins_rr (e ▸ h) (by decide +kernel)
    show (((S.put (a : Int) (gR S (b : Int))).put (b : Int) (gR S (a : Int))).put (a : Int) (gR ((S.put (a : Int) (gR S (b : Int))).put (b : Int) (gR S (a : Int))) (b : Int))).put (b : Int) (gR ((S.put (a : Int) (gR S (b : Int))).put (b : Int) (gR S (a : Int))) (a : Int)) = S
    rw [gR_put_same (S := S.put (a : Int) (gR S (b : Int))) (by show b < (S.regs.set _ _).length; rw [List.length_set]; exact hlen hb), gR_put_ne (Ne.symm hab), gR_put_same (hlen ha)]
    rw [put_comm (S := S.put (a : Int) (gR S (b : Int))) (Ne.symm hab), put_put, put_put, put_self, put_self]
  simp only [if_neg e]
  have n15 := e
  clear e
  by_cases e : op = "swapbr"
  · simp only [if_pos e]
    obtain ⟨a, rfl, ha⟩ := ins_r (e ▸ h) (by decide +kernel)
    show ({ (S.put (a : Int) S.br).put (a : Int) (gR S (a : Int)) with br := gR (S.put (a : Int) S.br) (a : Int) } : Mst) = S
    rw [gR_put_same (hlen ha), put_put, put_self]
  simp only [if_neg e]
  have n16 := e
  clear e
  by_cases e : op = "exch"
  · simp only [if_pos e]
    obtain ⟨a, b, rfl, ha, hb, hab⟩ := ins_rr (e ▸ h) (by decide +kernel)
    obtain ⟨k, hk⟩ : ∃ k, (gR S (b : Int) % S.mem.length).toNat = k := ⟨_, rfl⟩
    have hkl : k < S.mem.length := by
      have := Int.emod_lt_of_pos (gR S (b : Int)) (show (0 : Int) < S.mem.length from by have := hS.m1; omega)
      have := Int.emod_nonneg (gR S (b : Int)) (show (S.mem.length : Int) ≠ 0 from by have := hS.m1; omega)
      omega
    obtain ⟨m, hm⟩ : ∃ m, S.mem.getD k 0 = m := ⟨_, rfl⟩
    have key : ∀ T : Mst, T = { S.put (a : Int) m with mem := S.mem.set k (gR S (a : Int)) } → ({ T.put (a : Int) (T.mem.getD (gR T (b : Int) % T.mem.length).toNat 0) with mem := T.mem.set (gR T (b : Int) % T.mem.length).toNat (gR T (a : Int)) } : Mst) = S := by
      intro T hT
      have hb2 : gR T (b : Int) = gR S (b : Int) := by rw [hT]; exact gR_put_ne hab m
      have ha2 : gR T (a : Int) = m := by rw [hT]; exact gR_put_same (hlen ha) m
      have hm2 : T.mem = S.mem.set k (gR S (a : Int)) := by rw [hT]
      rw [hb2, ha2, hm2, List.length_set, hk, List.getD_eq_getElem?_getD, List.getElem?_set_self hkl, List.set_set]
      have e3 : S.mem.set k m = S.mem := by
        rw [← hm, List.getD_eq_getElem?_getD, List.getElem?_eq_getElem hkl]
        exact List.set_getElem_self hkl
      rw [e3, hT]
      show ({ (S.put (a : Int) m).put (a : Int) (gR S (a : Int)) with mem := S.mem } : Mst) = S
      rw [put_put, put_self]
    refine key _ ?_
    show ({ S.put (a : Int) (S.mem.getD (gR S (b : Int) % S.mem.length).toNat 0) with mem := S.mem.set (gR S (b : Int) % S.mem.length).toNat (gR S (a : Int)) } : Mst) = _
    rw [hk, hm]
  simp only [if_neg e]
  have n17 := e
  clear e
  have hlast := last_shape' h hr n0 n1 n2 n3 n4 n5 n6 n7 n8 n9 n10 n11 n12 n13 n14 n15 n16 n17
  obtain ⟨a, b, c, rfl, ha, hb, hc, hab, hac⟩ := ins_rrr h hlast.1
  have hp : (0 : Int) < 2 ^ n := Int.pow_pos (by decide)
  obtain ⟨r, hr⟩ : ∃ r, resS op n (gR S (b : Int) % 2 ^ n) (gR S (c : Int) % 2 ^ n) = r := ⟨_, rfl⟩
  have hr0 : 0 ≤ r := by
    rw [← hr]
    exact res_nonneg hlast.2 (Int.emod_nonneg _ (Int.ne_of_gt hp)) (Int.emod_nonneg _ (Int.ne_of_gt hp))
  show chg n (chg n S (a : Int) (Builtin.bitXor (gR S (a : Int)) (resS op n (gR S (b : Int) % 2 ^ n) (gR S (c : Int) % 2 ^ n)))) (a : Int) (Builtin.bitXor (gR (chg n S (a : Int) (Builtin.bitXor (gR S (a : Int)) (resS op n (gR S (b : Int) % 2 ^ n) (gR S (c : Int) % 2 ^ n)))) (a : Int)) (resS op n (gR (chg n S (a : Int) (Builtin.bitXor (gR S (a : Int)) (resS op n (gR S (b : Int) % 2 ^ n) (gR S (c : Int) % 2 ^ n)))) (b : Int) % 2 ^ n) (gR (chg n S (a : Int) (Builtin.bitXor (gR S (a : Int)) (resS op n (gR S (b : Int) % 2 ^ n) (gR S (c : Int) % 2 ^ n)))) (c : Int) % 2 ^ n))) = S
  rw [gR_chg_ne hab, gR_chg_ne hac, hr]
  exact chg_undo_xor hS ha hr0
end
/-- a step back -/
def bckS (n : Nat) (code : List (Str × List Int)) (S : Mst) : Mst :=
  actX n (insAt code ((S.pc - S.dir * (if S.br = 0 then 1 else S.br)) % 2 ^ 32)).1 (insAt code ((S.pc - S.dir * (if S.br = 0 then 1 else S.br)) % 2 ^ 32)).2 (-S.dir) { S with pc := (S.pc - S.dir * (if S.br = 0 then 1 else S.br)) % 2 ^ 32 }
theorem bck_step {n : Nat} {code : List (Str × List Int)} (hC : CodeOk n code) {S : Mst} (hS : S.Ok) : bckS n code (stepS n code S) = S := by
  have hok := insAt_ok hC S.pc
  rw [stepS_mid]
  have hm : midS n code S = actX n (insAt code S.pc).1 (insAt code S.pc).2 S.dir S := by
    unfold midS actX
    by_cases e : (insAt code S.pc).1 = "rbra"
    · rw [if_pos e]
    · rw [if_neg e]
  have hpc : (midS n code S).pc = S.pc := by
    unfold midS
    by_cases e : (insAt code S.pc).1 = "rbra"
    · rw [if_pos e]
    · rw [if_neg e]
      exact (actS_pc ..).1
  obtain ⟨S1, h1⟩ : ∃ S1, midS n code S = S1 := ⟨_, rfl⟩
  rw [h1] at hm hpc ⊢
  have e1 : ∀ k : Int, ((S.pc + k) % 2 ^ 32 - k) % 2 ^ 32 = S.pc := fun k => by
    have := hS.pc
    unfold W32 at this
    omega
  unfold bckS
  dsimp only
  rw [e1]
  have e2 : ({ S1 with pc := S.pc } : Mst) = S1 := by rw [← hpc]
  rw [e2, hm]
  by_cases e : (insAt code S.pc).1 = "rbra"
  · have h2 := hok
    rw [e] at h2
    obtain ⟨x, h3, h4, h5⟩ := ins_o h2 (by decide +kernel)
    unfold actX
    rw [if_pos e, if_pos e, h3]
    dsimp only
    rw [Int.neg_neg]
    have hb := hS.br
    unfold W32 at hb
    have e3 : (if S.dir = 1 then -((if S.dir = 1 then -(S.br + [x].getD 0 0) else [x].getD 0 0 - S.br) % 2 ^ 32 + [x].getD 0 0) else [x].getD 0 0 - (if S.dir = 1 then -(S.br + [x].getD 0 0) else [x].getD 0 0 - S.br) % 2 ^ 32) % 2 ^ 32 = S.br := by
      rw [show ([x] : List Int).getD 0 0 = x from rfl]
      by_cases g : S.dir = 1
      · simp only [if_pos g]
        omega
      · simp only [if_neg g]
        omega
    rw [e3]
  · have hd : (actX n (insAt code S.pc).1 (insAt code S.pc).2 S.dir S).dir = S.dir := by
      unfold actX
      rw [if_neg e]
      exact (actS_pc ..).2
    rw [hd]
    unfold actX
    rw [if_neg e, if_neg e]
    exact act_undo hok e hS hS.dir
theorem bckS_eq {n : Nat} {code : List (Str × List Int)} {S : Mst} {p : Int} (hp : (S.pc - S.dir * (if S.br = 0 then 1 else S.br)) % 2 ^ 32 = p) : bckS n code S = actX n (insAt code p).1 (insAt code p).2 (-S.dir) { S with pc := p } := by
  unfold bckS
  rw [hp]
theorem actX_pc (n : Nat) (op : Str) (ps : List Int) (sg : Int) (S : Mst) : (actX n op ps sg S).pc = S.pc := by
  unfold actX
  by_cases e : op = "rbra"
  · rw [if_pos e]
  · rw [if_neg e]
    exact (actS_pc ..).1
theorem actX_ok {n : Nat} (hn : n ≤ 32) (op : Str) (ps : List Int) (sg : Int) {S : Mst} (h : S.Ok) : (actX n op ps sg S).Ok := by
  unfold actX
  by_cases e : op = "rbra"
  · rw [if_pos e]
    refine ⟨h.r16, h.rw, h.pc, w32_mod _, ?_, h.m1, h.m6, h.mw⟩
    show -S.dir = 1 ∨ -S.dir = -1
    rcases h.dir with e | e <;> rw [e]
    · exact .inr rfl
    · exact .inl rfl
  · rw [if_neg e]
    exact actS_ok hn _ _ _ h
theorem Mst.Ok.setPc {S : Mst} (h : S.Ok) {x : Int} (hx : W32 x) : ({ S with pc := x } : Mst).Ok := ⟨h.r16, h.rw, hx, h.br, h.dir, h.m1, h.m6, h.mw⟩
theorem bckS_ok {n : Nat} (hn : n ≤ 32) (code : List (Str × List Int)) {S : Mst} (h : S.Ok) : (bckS n code S).Ok := actX_ok hn _ _ _ (h.setPc (w32_mod _))
theorem midS_actX (n : Nat) (code : List (Str × List Int)) (S : Mst) : midS n code S = actX n (insAt code S.pc).1 (insAt code S.pc).2 S.dir S := by
  unfold midS actX
  by_cases e : (insAt code S.pc).1 = "rbra"
  · rw [if_pos e]
  · rw [if_neg e]
/-- a step behind a step back -/
theorem step_bck {n : Nat} {code : List (Str × List Int)} (hC : CodeOk n code) {S : Mst} (hS : S.Ok) : stepS n code (bckS n code S) = S := by
  obtain ⟨p, hp⟩ : ∃ p, (S.pc - S.dir * (if S.br = 0 then 1 else S.br)) % 2 ^ 32 = p := ⟨_, rfl⟩
  have wp : W32 p := by rw [← hp]; exact w32_mod _
  rw [bckS_eq hp]
  have hok := insAt_ok hC p
  have hS0 := hS.setPc wp
  have hpc : (actX n (insAt code p).1 (insAt code p).2 (-S.dir) { S with pc := p }).pc = p := actX_pc ..
  rw [stepS_mid, midS_actX, hpc]
  have key : actX n (insAt code p).1 (insAt code p).2 (actX n (insAt code p).1 (insAt code p).2 (-S.dir) { S with pc := p }).dir (actX n (insAt code p).1 (insAt code p).2 (-S.dir) { S with pc := p }) = { S with pc := p } := by
    by_cases e : (insAt code p).1 = "rbra"
    · have h2 := hok
      rw [e] at h2
      obtain ⟨x, h3, h4, h5⟩ := ins_o h2 (by decide +kernel)
      unfold actX
      rw [if_pos e, if_pos e, h3]
      dsimp only
      rw [Int.neg_neg]
      have hb := hS.br
      unfold W32 at hb
      have e3 : (if -S.dir = 1 then -((if -S.dir = 1 then -(S.br + [x].getD 0 0) else [x].getD 0 0 - S.br) % 2 ^ 32 + [x].getD 0 0) else [x].getD 0 0 - (if -S.dir = 1 then -(S.br + [x].getD 0 0) else [x].getD 0 0 - S.br) % 2 ^ 32) % 2 ^ 32 = S.br := by
        rw [show ([x] : List Int).getD 0 0 = x from rfl]
        by_cases g : -S.dir = 1
        · simp only [if_pos g]
          omega
        · simp only [if_neg g]
          omega
      rw [e3]
    · have hd : (actX n (insAt code p).1 (insAt code p).2 (-S.dir) { S with pc := p }).dir = S.dir := by
        unfold actX
        rw [if_neg e]
        exact (actS_pc ..).2
      rw [hd]
      unfold actX
      rw [if_neg e, if_neg e]
      have hsg : -S.dir = 1 ∨ -S.dir = -1 := by
        rcases hS.dir with e | e <;> rw [e]
        · exact .inr rfl
        · exact .inl rfl
      have := act_undo hok e hS0 hsg
      rw [Int.neg_neg] at this
      exact this
  rw [key]
  dsimp only
  have hw := hS.pc
  unfold W32 at hw
  have e4 : (p + S.dir * (if S.br = 0 then 1 else S.br)) % 2 ^ 32 = S.pc := by
    rw [← hp]
    generalize S.dir * (if S.br = 0 then 1 else S.br) = k
    omega
  rw [e4]

end My

set_option Elab.async false
set_option linter.all false
set_option maxRecDepth 100000
namespace My
open PySem PySem.Spec PyProof.Rows L2
/-! ### the methods that act -/
/-- the dict of the instructions' defs -/
structure TxA (K : PySem.W.Frag) (mg : Str → Option Value) (w : World) (T : Txt K mg) where
  a_ACTIONS : Addr
  m_ACTIONS : mg "ACTIONS" = some (.ref a_ACTIONS)
  k_add : KDct K w a_ACTIONS "add" (.ref T.f_do_add)
  k_sub : KDct K w a_ACTIONS "sub" (.ref T.f_do_sub)
  k_xor : KDct K w a_ACTIONS "xor" (.ref T.f_do_xor)
  k_addi : KDct K w a_ACTIONS "addi" (.ref T.f_do_addi)
  k_xori : KDct K w a_ACTIONS "xori" (.ref T.f_do_xori)
  k_and : KDct K w a_ACTIONS "and" (.ref T.f_do_op)
  k_or : KDct K w a_ACTIONS "or" (.ref T.f_do_op)
  k_mul : KDct K w a_ACTIONS "mul" (.ref T.f_do_op)
  k_less : KDct K w a_ACTIONS "less" (.ref T.f_do_op)
  k_equal : KDct K w a_ACTIONS "equal" (.ref T.f_do_op)
  k_shl : KDct K w a_ACTIONS "shl" (.ref T.f_do_op)
  k_shr : KDct K w a_ACTIONS "shr" (.ref T.f_do_op)
  k_rem : KDct K w a_ACTIONS "rem" (.ref T.f_do_op)
  k_differ : KDct K w a_ACTIONS "differ" (.ref T.f_do_op)
  k_test : KDct K w a_ACTIONS "test" (.ref T.f_do_test)
  k_swap : KDct K w a_ACTIONS "swap" (.ref T.f_do_swap)
  k_exch : KDct K w a_ACTIONS "exch" (.ref T.f_do_exch)
  k_addr : KDct K w a_ACTIONS "addr" (.ref T.f_do_addr)
  k_subr : KDct K w a_ACTIONS "subr" (.ref T.f_do_subr)
  k_addl : KDct K w a_ACTIONS "addl" (.ref T.f_do_addl)
  k_neg : KDct K w a_ACTIONS "neg" (.ref T.f_do_neg)
  k_over : KDct K w a_ACTIONS "over" (.ref T.f_do_over)
  k_swapbr : KDct K w a_ACTIONS "swapbr" (.ref T.f_do_swapbr)
  k_bra : KDct K w a_ACTIONS "bra" (.ref T.f_do_bra)
  k_brz : KDct K w a_ACTIONS "brz" (.ref T.f_do_brz)
  k_brn : KDct K w a_ACTIONS "brn" (.ref T.f_do_brn)
  k_rbra : KDct K w a_ACTIONS "rbra" (.ref T.f_do_rbra)
  k_skip : KDct K w a_ACTIONS "skip" (.ref T.f_do_nothing)
  k_halt : KDct K w a_ACTIONS "halt" (.ref T.f_do_nothing)
  k_fail : KDct K w a_ACTIONS "fail" (.ref T.f_do_nothing)
section
variable {P : Program} {w : World} {K : PySem.W.Frag} {mg : Str → Option Value} {base : Heap} {C : Addr}
theorem act_held (T : Txt K mg) (TC : TxC K C) (TA : TxA K mg w T) {op : Str} (h : ∃ k, k < 30 ∧ op = wdL.getD k "") : ∃ f ops, KDct K w TA.a_ACTIONS op (.ref f) ∧ op ∈ ops ∧ Held P w K mg base 5 f (spDo K C ops) := by
  obtain ⟨k, hk, rfl⟩ := h
  have G_do_add := Held.of (k' := 5) (ok_do_add (P := P) (w := w) (base := base) (C := C) T TC) T.F_do_add.kp T.b_do_add (by omega)
  have G_do_sub := Held.of (k' := 5) (ok_do_sub (P := P) (w := w) (base := base) (C := C) T TC) T.F_do_sub.kp T.b_do_sub (by omega)
  have G_do_xor := Held.of (k' := 5) (ok_do_xor (P := P) (w := w) (base := base) (C := C) T TC) T.F_do_xor.kp T.b_do_xor (by omega)
  have G_do_addi := Held.of (k' := 5) (ok_do_addi (P := P) (w := w) (base := base) (C := C) T TC) T.F_do_addi.kp T.b_do_addi (by omega)
  have G_do_xori := Held.of (k' := 5) (ok_do_xori (P := P) (w := w) (base := base) (C := C) T TC) T.F_do_xori.kp T.b_do_xori (by omega)
  have G_do_op := Held.of (k' := 5) (ok_do_op (P := P) (w := w) (base := base) (C := C) T TC) T.F_do_op.kp T.b_do_op (by omega)
  have G_do_test := Held.of (k' := 5) (ok_do_test (P := P) (w := w) (base := base) (C := C) T TC) T.F_do_test.kp T.b_do_test (by omega)
  have G_do_swap := Held.of (k' := 5) (ok_do_swap (P := P) (w := w) (base := base) (C := C) T TC) T.F_do_swap.kp T.b_do_swap (by omega)
  have G_do_exch := Held.of (k' := 5) (ok_do_exch (P := P) (w := w) (base := base) (C := C) T TC) T.F_do_exch.kp T.b_do_exch (by omega)
  have G_do_addr := Held.of (k' := 5) (ok_do_addr (P := P) (w := w) (base := base) (C := C) T TC) T.F_do_addr.kp T.b_do_addr (by omega)
  have G_do_subr := Held.of (k' := 5) (ok_do_subr (P := P) (w := w) (base := base) (C := C) T TC) T.F_do_subr.kp T.b_do_subr (by omega)
  have G_do_addl := Held.of (k' := 5) (ok_do_addl (P := P) (w := w) (base := base) (C := C) T TC) T.F_do_addl.kp T.b_do_addl (by omega)
  have G_do_neg := Held.of (k' := 5) (ok_do_neg (P := P) (w := w) (base := base) (C := C) T TC) T.F_do_neg.kp T.b_do_neg (by omega)
  have G_do_over := Held.of (k' := 5) (ok_do_over (P := P) (w := w) (base := base) (C := C) T TC) T.F_do_over.kp T.b_do_over (by omega)
  have G_do_swapbr := Held.of (k' := 5) (ok_do_swapbr (P := P) (w := w) (base := base) (C := C) T TC) T.F_do_swapbr.kp T.b_do_swapbr (by omega)
  have G_do_bra := Held.of (k' := 5) (ok_do_bra (P := P) (w := w) (base := base) (C := C) T TC) T.F_do_bra.kp T.b_do_bra (by omega)
  have G_do_brz := Held.of (k' := 5) (ok_do_brz (P := P) (w := w) (base := base) (C := C) T TC) T.F_do_brz.kp T.b_do_brz (by omega)
  have G_do_brn := Held.of (k' := 5) (ok_do_brn (P := P) (w := w) (base := base) (C := C) T TC) T.F_do_brn.kp T.b_do_brn (by omega)
  have G_do_rbra := Held.of (k' := 5) (ok_do_rbra (P := P) (w := w) (base := base) (C := C) T TC) T.F_do_rbra.kp T.b_do_rbra (by omega)
  have G_do_nothing := Held.of (k' := 5) (ok_do_nothing (P := P) (w := w) (base := base) (C := C) T) T.F_do_nothing.kp T.b_do_nothing (by omega)
  match k, hk with
  | 0, _ => exact ⟨T.f_do_add, _, TA.k_add, by decide, G_do_add⟩
  | 1, _ => exact ⟨T.f_do_sub, _, TA.k_sub, by decide, G_do_sub⟩
  | 2, _ => exact ⟨T.f_do_xor, _, TA.k_xor, by decide, G_do_xor⟩
  | 3, _ => exact ⟨T.f_do_addi, _, TA.k_addi, by decide, G_do_addi⟩
  | 4, _ => exact ⟨T.f_do_xori, _, TA.k_xori, by decide, G_do_xori⟩
  | 5, _ => exact ⟨T.f_do_op, _, TA.k_and, by decide, G_do_op⟩
  | 6, _ => exact ⟨T.f_do_op, _, TA.k_or, by decide, G_do_op⟩
  | 7, _ => exact ⟨T.f_do_op, _, TA.k_mul, by decide, G_do_op⟩
  | 8, _ => exact ⟨T.f_do_op, _, TA.k_less, by decide, G_do_op⟩
  | 9, _ => exact ⟨T.f_do_op, _, TA.k_equal, by decide, G_do_op⟩
  | 10, _ => exact ⟨T.f_do_op, _, TA.k_shl, by decide, G_do_op⟩
  | 11, _ => exact ⟨T.f_do_op, _, TA.k_shr, by decide, G_do_op⟩
  | 12, _ => exact ⟨T.f_do_op, _, TA.k_rem, by decide, G_do_op⟩
  | 13, _ => exact ⟨T.f_do_op, _, TA.k_differ, by decide, G_do_op⟩
  | 14, _ => exact ⟨T.f_do_test, _, TA.k_test, by decide, G_do_test⟩
  | 15, _ => exact ⟨T.f_do_swap, _, TA.k_swap, by decide, G_do_swap⟩
  | 16, _ => exact ⟨T.f_do_exch, _, TA.k_exch, by decide, G_do_exch⟩
  | 17, _ => exact ⟨T.f_do_addr, _, TA.k_addr, by decide, G_do_addr⟩
  | 18, _ => exact ⟨T.f_do_subr, _, TA.k_subr, by decide, G_do_subr⟩
  | 19, _ => exact ⟨T.f_do_addl, _, TA.k_addl, by decide, G_do_addl⟩
  | 20, _ => exact ⟨T.f_do_neg, _, TA.k_neg, by decide, G_do_neg⟩
  | 21, _ => exact ⟨T.f_do_over, _, TA.k_over, by decide, G_do_over⟩
  | 22, _ => exact ⟨T.f_do_swapbr, _, TA.k_swapbr, by decide, G_do_swapbr⟩
  | 23, _ => exact ⟨T.f_do_bra, _, TA.k_bra, by decide, G_do_bra⟩
  | 24, _ => exact ⟨T.f_do_brz, _, TA.k_brz, by decide, G_do_brz⟩
  | 25, _ => exact ⟨T.f_do_brn, _, TA.k_brn, by decide, G_do_brn⟩
  | 26, _ => exact ⟨T.f_do_rbra, _, TA.k_rbra, by decide, G_do_rbra⟩
  | 27, _ => exact ⟨T.f_do_nothing, _, TA.k_skip, by decide, G_do_nothing⟩
  | 28, _ => exact ⟨T.f_do_nothing, _, TA.k_halt, by decide, G_do_nothing⟩
  | 29, _ => exact ⟨T.f_do_nothing, _, TA.k_fail, by decide, G_do_nothing⟩
  | k + 30, h => omega
def spInit (C : Addr) : Sp := fun vs H Q _ => ∃ (p dx mt u : Addr) (sv : V) (n : Nat) (S : Mst), vs = [.ref p, .ref mt, sv] ∧ H p = some (.ins C dx []) ∧ H mt = some (.tup [.int n, .ref u]) ∧ n ≤ 32 ∧ StV H sv S ∧
  ∀ (H' : Hp) (ra ma : Addr), H ra = none → H ma = none → KT [p] H H' → CoV C H' p ra ma u n S → Q .non H'
set_option maxHeartbeats 4000000 in
theorem ok_Core___init__ (T : Txt K mg) (TC : TxC K C) (TM : TxM K mg C) : FnOk P w K mg base CX0 2 TM.f_Core___init__ TM.d_Core___init__ ["self", "machine", "state"] (spInit C) := by
  have G_top := ok_top (P := P) (w := w) (base := base) T
  refine TM.F_Core___init__.ok sc_Core___init__ (fun vs H Q E h => ?_) (fun cdv A outer s H vs Q E hr h => ?_)
  · obtain ⟨p, dx, mt, u, sv, n, S, rfl, _⟩ := h
    rfl
  · obtain ⟨p, dx, mt, u, sv, n, S, rfl, hp, hmt, hn, ⟨t, ra0, ma0, rfl, hst, hra0, hma0⟩, q⟩ := h
    refine ⟨_, (pss_cons (ps_asg (pv 1) (pg_tup (by rfl) (pgs_cons (pg_fld (pv 0)) (pgs_cons (pg_fld (pv 0)) pgs_nil))))
      (pss_cons (ps_fld (pv 0) (pe_call G_top (hr.mono (by omega)) (by rfl) T.g_top T.F_top.kp T.b_top .nil pass0 (pa_cons (pe_fld (pv 0) rfl) pa_nil)) rfl)
      (pss_cons (ps_asg (pv 2) (pg_tup (by rfl) (pgs_cons (pg_name (i := 3) sc_Core___init__.nd rfl (Or.inl rfl)) (pgs_cons (pg_fld (pv 0)) (pgs_cons (pg_fld (pv 0)) (pgs_cons (pg_fld (pv 0)) (pgs_cons (pg_name (i := 4) sc_Core___init__.nd rfl (Or.inl rfl)) pgs_nil)))))))
      (pss_cons (ps_fld (pv 0) (pe_callTy call_list_of (by rfl) T.m_list (by decide +kernel) (pa_cons (pv 3) pa_nil)) rfl)
      (pss_one (ps_fld (pv 0) (pe_callTy call_list_of (by rfl) T.m_list (by decide +kernel) (pa_cons (pv 4) pa_nil)) rfl)))))), ?_⟩
    have step : ∀ (H1 : Hp) (fs fs' : List (Str × V)), KT [p] H H1 → H1 p = some (.ins C dx fs) → KT [p] H (upd H1 p (.ins C dx fs')) := fun H1 fs fs' k h => k.trans (KT.ins (by simp) h)
    -- width, program_code
    refine ⟨_, rfl, mt, _, rfl, SqT.of hmt, rfl, _, _, rfl, _, rfl, p, C, dx, _, rfl, hp, TC.cl, TC.nW, (by decide), ?_⟩
    refine ⟨_, _, rfl, _, rfl, p, C, dx, _, rfl, upd_same, TC.cl, TC.nP, (by show 1 < 1000; decide), rfl, ?_⟩
    have k1 := step _ _ (putF "program_code" (.ref u) (putF "width" (.int n) [])) (step H [] (putF "width" (.int n) []) (KT.refl _ _) hp) upd_same
    have h1 : (upd (upd H p (.ins C dx (putF "width" (.int n) []))) p (.ins C dx (putF "program_code" (.ref u) (putF "width" (.int n) [])))) p = some (.ins C dx [("width", .int n), ("program_code", .ref u)]) := upd_same
    generalize upd (upd H p (.ins C dx (putF "width" (.int n) []))) p (.ins C dx (putF "program_code" (.ref u) (putF "width" (.int n) []))) = H1 at k1 h1 ⊢
    -- low
    refine ⟨_, rfl, p, C, dx, _, _, rfl, h1, TC.cl, TC.nW, rfl, n, rfl, hn, ?_⟩
    refine ⟨_, rfl, p, C, dx, _, rfl, h1, TC.cl, TC.nL, (by show 2 < 1000; decide), ?_⟩
    have k2 := step _ _ (putF "low" (.int (2 ^ n - 1)) [("width", .int n), ("program_code", .ref u)]) k1 h1
    have h2 : (upd H1 p (.ins C dx (putF "low" (.int (2 ^ n - 1)) [("width", .int n), ("program_code", .ref u)]))) p = some (.ins C dx [("width", .int n), ("program_code", .ref u), ("low", .int (2 ^ n - 1))]) := upd_same
    generalize upd H1 p (.ins C dx (putF "low" (.int (2 ^ n - 1)) [("width", .int n), ("program_code", .ref u)])) = H2 at k2 h2 ⊢
    clear k1 h1
    -- the state
    refine ⟨_, rfl, t, _, rfl, SqT.of (k2.tp _ _ hst), rfl, _, _, rfl, _, _, rfl, _, rfl, p, C, dx, _, rfl, h2, TC.cl, TC.nPc, (by show 3 < 1000; decide), ?_⟩
    have k3 := step _ _ (putF "pc" (.int S.pc) [("width", .int n), ("program_code", .ref u), ("low", .int (2 ^ n - 1))]) k2 h2
    have h3 : (upd H2 p (.ins C dx (putF "pc" (.int S.pc) [("width", .int n), ("program_code", .ref u), ("low", .int (2 ^ n - 1))]))) p = some (.ins C dx [("width", .int n), ("program_code", .ref u), ("low", .int (2 ^ n - 1)), ("pc", .int S.pc)]) := upd_same
    refine ⟨_, _, rfl, _, rfl, p, C, dx, _, rfl, h3, TC.cl, TC.nB, (by show 4 < 1000; decide), ?_⟩
    generalize upd H2 p (.ins C dx (putF "pc" (.int S.pc) [("width", .int n), ("program_code", .ref u), ("low", .int (2 ^ n - 1))])) = H3 at k3 h3 ⊢
    clear k2 h2
    have k4 := step _ _ (putF "br" (.int S.br) [("width", .int n), ("program_code", .ref u), ("low", .int (2 ^ n - 1)), ("pc", .int S.pc)]) k3 h3
    have h4 : (upd H3 p (.ins C dx (putF "br" (.int S.br) [("width", .int n), ("program_code", .ref u), ("low", .int (2 ^ n - 1)), ("pc", .int S.pc)]))) p = some (.ins C dx [("width", .int n), ("program_code", .ref u), ("low", .int (2 ^ n - 1)), ("pc", .int S.pc), ("br", .int S.br)]) := upd_same
    refine ⟨_, _, rfl, _, rfl, p, C, dx, _, rfl, h4, TC.cl, TC.nD, (by show 5 < 1000; decide), ?_⟩
    generalize upd H3 p (.ins C dx (putF "br" (.int S.br) [("width", .int n), ("program_code", .ref u), ("low", .int (2 ^ n - 1)), ("pc", .int S.pc)])) = H4 at k4 h4 ⊢
    clear k3 h3
    have k5 := step _ _ (putF "direction" (.int S.dir) [("width", .int n), ("program_code", .ref u), ("low", .int (2 ^ n - 1)), ("pc", .int S.pc), ("br", .int S.br)]) k4 h4
    have h5 : (upd H4 p (.ins C dx (putF "direction" (.int S.dir) [("width", .int n), ("program_code", .ref u), ("low", .int (2 ^ n - 1)), ("pc", .int S.pc), ("br", .int S.br)]))) p = some (.ins C dx [("width", .int n), ("program_code", .ref u), ("low", .int (2 ^ n - 1)), ("pc", .int S.pc), ("br", .int S.br), ("direction", .int S.dir)]) := upd_same
    refine ⟨_, _, rfl, rfl, ?_⟩
    generalize upd H4 p (.ins C dx (putF "direction" (.int S.dir) [("width", .int n), ("program_code", .ref u), ("low", .int (2 ^ n - 1)), ("pc", .int S.pc), ("br", .int S.br)])) = H5 at k5 h5 ⊢
    clear k4 h4
    -- registers
    refine ⟨_, rfl, ra0, _, rfl, .inr (SqT.of (k5.tp _ _ hra0)), fun ra nra => ?_⟩
    have kra := KT.new [] nra (o := .lst (S.regs.map V.int))
    have k6 := k5.trans (kra.mono fun _ h => nomatch h)
    have h6 := kra.same _ _ h5
    have r6 : (upd H5 ra (.lst (S.regs.map V.int))) ra = some (.lst (S.regs.map V.int)) := upd_same
    have nra0 : H ra = none := k5.free nra
    generalize upd H5 ra (.lst (S.regs.map V.int)) = H6 at k6 h6 r6 ⊢
    refine ⟨_, rfl, p, C, dx, _, rfl, h6, TC.cl, TC.nR, (by show 6 < 1000; decide), ?_⟩
    have pr : ra ≠ p := fun z => by rw [z, h6] at r6; cases r6
    have k7 := step _ _ (putF "registers" (.ref ra) [("width", .int n), ("program_code", .ref u), ("low", .int (2 ^ n - 1)), ("pc", .int S.pc), ("br", .int S.br), ("direction", .int S.dir)]) k6 h6
    have h7 : (upd H6 p (.ins C dx (putF "registers" (.ref ra) [("width", .int n), ("program_code", .ref u), ("low", .int (2 ^ n - 1)), ("pc", .int S.pc), ("br", .int S.br), ("direction", .int S.dir)]))) p = some (.ins C dx [("width", .int n), ("program_code", .ref u), ("low", .int (2 ^ n - 1)), ("pc", .int S.pc), ("br", .int S.br), ("direction", .int S.dir), ("registers", .ref ra)]) := upd_same
    have r7 : (upd H6 p (.ins C dx (putF "registers" (.ref ra) [("width", .int n), ("program_code", .ref u), ("low", .int (2 ^ n - 1)), ("pc", .int S.pc), ("br", .int S.br), ("direction", .int S.dir)]))) ra = some (.lst (S.regs.map V.int)) := by rw [upd_ne pr]; exact r6
    generalize upd H6 p (.ins C dx (putF "registers" (.ref ra) [("width", .int n), ("program_code", .ref u), ("low", .int (2 ^ n - 1)), ("pc", .int S.pc), ("br", .int S.br), ("direction", .int S.dir)])) = H7 at k7 h7 r7 ⊢
    clear k5 h5 k6 h6 r6 nra kra
    -- memory
    refine ⟨_, rfl, ma0, _, rfl, .inr (SqT.of (k7.tp _ _ hma0)), fun ma nma => ?_⟩
    have kma := KT.new [] nma (o := .lst (S.mem.map V.int))
    have k8 := k7.trans (kma.mono fun _ h => nomatch h)
    have h8 := kma.same _ _ h7
    have r8 := kma.same _ _ r7
    have m8 : (upd H7 ma (.lst (S.mem.map V.int))) ma = some (.lst (S.mem.map V.int)) := upd_same
    have nma0 : H ma = none := k7.free nma
    have rm : ra ≠ ma := fun z => by rw [z, nma] at r7; cases r7
    generalize upd H7 ma (.lst (S.mem.map V.int)) = H8 at k8 h8 r8 m8 ⊢
    have pm : ma ≠ p := fun z => by rw [z, h8] at m8; cases m8
    refine ⟨_, rfl, p, C, dx, _, rfl, h8, TC.cl, TC.nM, (by show 7 < 1000; decide), ?_⟩
    refine q _ ra ma nra0 nma0 (step _ _ _ k8 h8) ⟨⟨dx, upd_same⟩, ?_, ?_, rm⟩
    · rw [upd_ne pr]
      exact r8
    · rw [upd_ne pm]
      exact m8
theorem stepS_actX (n : Nat) (code : List (Str × List Int)) (S : Mst) : stepS n code S = { actX n (insAt code S.pc).1 (insAt code S.pc).2 S.dir S with pc := ((actX n (insAt code S.pc).1 (insAt code S.pc).2 S.dir S).pc + (actX n (insAt code S.pc).1 (insAt code S.pc).2 S.dir S).dir * (if (actX n (insAt code S.pc).1 (insAt code S.pc).2 S.dir S).br = 0 then 1 else (actX n (insAt code S.pc).1 (insAt code S.pc).2 S.dir S).br)) % 2 ^ 32 } := by
  rw [stepS_mid, midS_actX, actX_pc]
def spAct2 (C : Addr) : Sp := fun vs H Q _ => ∃ (p ra ma u : Addr) (n : Nat) (S : Mst) (cvs : List V) (code : List (Str × List Int)) (sg : Int), vs = [.ref p, .int sg] ∧ CoV C H p ra ma u n S ∧ S.Ok ∧ H u = some (.tup cvs) ∧ P2 (InsV H) cvs code ∧ code.length ≤ 100 ∧ CodeOk n code ∧ 1 ≤ n ∧ n ≤ 32 ∧ (sg = 1 ∨ sg = -1) ∧
  ∀ H', KT [p, ra, ma] H H' → CoV C H' p ra ma u n (actX n (insAt code S.pc).1 (insAt code S.pc).2 sg S) → Q .non H'
theorem ok_Core_act (T : Txt K mg) (TC : TxC K C) (TM : TxM K mg C) (TA : TxA K mg w T) : FnOk P w K mg base CX0 6 TM.f_Core_act TM.d_Core_act ["self", "sign"] (spAct2 C) := by
  have G_Core_here := ok_Core_here (P := P) (w := w) (base := base) T TC TM
  refine TM.F_Core_act.ok sc_Core_act (fun vs H Q E h => ?_) (fun cdv A outer s H vs Q E hr h => ?_)
  · obtain ⟨p, ra, ma, u, n, S, cvs, code, sg, rfl, _⟩ := h
    rfl
  · obtain ⟨p, ra, ma, u, n, S, cvs, code, sg, rfl, hC, hS, hu, hP, hcl, hco, hn1, hn, hsg, q⟩ := h
    obtain ⟨dx, hp⟩ := hC.ho
    have hok := insAt_ok hco S.pc
    obtain ⟨f, ops, hK, hop, hH⟩ := act_held (P := P) (base := base) (C := C) T TC TA hok.wd
    refine ⟨_, (pss_cons (ps_set (i := 2) sc_Core_act.nd rfl (Or.inl rfl) (pe_meth0 (pv 0) TC.cl TM.m_Core_here G_Core_here (hr.mono (by omega)) TM.b_Core_here .nil pass0))
      (pss_cons (ps_set (i := 3) sc_Core_act.nd rfl (Or.inl rfl) (pe_ix ix_kdict (pe_glob (v := .ref TA.a_ACTIONS) (by rfl) TA.m_ACTIONS rfl) (pe_ix ix_tup (pv 2) pe_int (fun _ _ => rfl)) (fun _ _ => rfl)))
      (pss_one (ps_expr (pe_callH (k := 5) (i := 3) (hr.mono (by omega)) rfl (Or.inl rfl) (pa_cons (pv 0) (pa_cons (pv 2) (pa_cons (pv 1) pa_nil)))))))), ?_⟩
    refine ⟨_, rfl, p, dx, _, rfl, hp, fl_no_here .., p, ra, ma, u, n, S, cvs, code, rfl, hC, hS, hu, hP, hcl, fun v hv => ?_⟩
    have hv0 := hv
    obtain ⟨it, rfl, hit⟩ := hv
    refine ⟨_, rfl, it, _, _, _, rfl, rfl, hit, atN 0 rfl rfl, TA.a_ACTIONS, _, .ref f, rfl, rfl, hK, ?_⟩
    refine ⟨f, _, rfl, hH, _, rfl, _, rfl, _, rfl, ?_⟩
    refine ⟨p, ra, ma, u, n, S, _, _, (insAt code S.pc).2, sg, rfl, hop, hv0, hok, hn1, hn, hsg, hC, hS, fun H' k hC' => ?_⟩
    exact q H' k hC'
def spForth (C : Addr) : Sp := fun vs H Q _ => ∃ (p ra ma u : Addr) (n : Nat) (S : Mst) (cvs : List V) (code : List (Str × List Int)), vs = [.ref p] ∧ CoV C H p ra ma u n S ∧ S.Ok ∧ H u = some (.tup cvs) ∧ P2 (InsV H) cvs code ∧ code.length ≤ 100 ∧ CodeOk n code ∧ 1 ≤ n ∧ n ≤ 32 ∧
  ∀ H', KT [p, ra, ma] H H' → CoV C H' p ra ma u n (stepS n code S) → Q .non H'
theorem ok_Core_forth (T : Txt K mg) (TC : TxC K C) (TM : TxM K mg C) (TA : TxA K mg w T) : FnOk P w K mg base CX0 7 TM.f_Core_forth TM.d_Core_forth ["self"] (spForth C) := by
  have G_Core_act := ok_Core_act (P := P) (w := w) (base := base) T TC TM TA
  refine TM.F_Core_forth.ok sc_Core_forth (fun vs H Q E h => ?_) (fun cdv A outer s H vs Q E hr h => ?_)
  · obtain ⟨p, ra, ma, u, n, S, cvs, code, rfl, _⟩ := h
    rfl
  · obtain ⟨p, ra, ma, u, n, S, cvs, code, rfl, hC, hS, hu, hP, hcl, hco, hn1, hn, q⟩ := h
    obtain ⟨dx, hp⟩ := hC.ho
    refine ⟨_, (pss_cons (ps_expr (pe_meth (pv 0) TC.cl TM.m_Core_act G_Core_act (hr.mono (by omega)) TM.b_Core_act .nil pass0 (pa_cons (pe_fld (pv 0) rfl) pa_nil)))
      (pss_one (ps_fld (pv 0) (pe_op op_and (pe_op op_add (pe_fld (pv 0) rfl) (pe_op op_mul (pe_fld (pv 0) rfl) (pe_orT (pe_fld (pv 0) rfl) (pe_one pe_int)))) (pe_glob (v := .int 4294967295) (by rfl) T.m_WHOLE ⟨_, rfl⟩)) rfl))), ?_⟩
    refine ⟨_, rfl, p, dx, _, rfl, hp, fl_no_act .., _, rfl, p, C, dx, _, _, rfl, hp, TC.cl, TC.nD, fl_dir .., ?_⟩
    refine ⟨p, ra, ma, u, n, S, cvs, code, S.dir, rfl, hC, hS, hu, hP, hcl, hco, hn1, hn, hS.dir, fun H1 k1 hC1 => ?_⟩
    have hS1 := actX_ok hn (insAt code S.pc).1 (insAt code S.pc).2 S.dir hS
    rw [stepS_actX] at q
    generalize actX n (insAt code S.pc).1 (insAt code S.pc).2 S.dir S = S1 at hC1 hS1 q
    obtain ⟨dx1, hp1⟩ := hC1.ho
    have hd : S1.dir.natAbs = 1 := by rcases hS1.dir with e | e <;> rw [e] <;> rfl
    refine ⟨_, rfl, p, C, dx1, _, _, rfl, hp1, TC.cl, TC.nPc, fl_pc .., _, rfl, p, C, dx1, _, _, rfl, hp1, TC.cl, TC.nD, fl_dir .., _, rfl, p, C, dx1, _, _, rfl, hp1, TC.cl, TC.nB, fl_br .., _, rfl, ?_⟩
    have fin : ∀ x : Int, x = (if S1.br = 0 then 1 else S1.br) → Q .non (upd H1 p (.ins C dx1 (flds n u ra ma { S1 with pc := (S1.pc + S1.dir * x) % 2 ^ 32 }))) := fun x hx => by
      rw [hx]
      exact q _ (k1.trans (KT.ins (by simp) hp1)) (hC1.setO rfl rfl)
    by_cases hb : S1.br = 0
    · have e : ¬ ((S1.br != 0) = true) := by rw [hb]; decide
      refine (if_neg e).mpr ?_
      refine ⟨_, _, rfl, rfl, .inl ?_, _, _, rfl, rfl, _, _, rfl, rfl, _, rfl, p, C, dx1, _, rfl, hp1, TC.cl, TC.nPc, (by show 8 < 1000; decide), ?_⟩
      · rcases hS1.dir with e | e <;> rw [e] <;> decide
      · dsimp only
        rw [mask32, fl_put_pc]
        exact fin 1 (by rw [if_pos hb])
    · have e : (S1.br != 0) = true := by simpa using hb
      refine (if_pos e).mpr ?_
      refine ⟨_, _, rfl, rfl, .inl ?_, _, _, rfl, rfl, _, _, rfl, rfl, _, rfl, p, C, dx1, _, rfl, hp1, TC.cl, TC.nPc, (by show 8 < 1000; decide), ?_⟩
      · rcases hS1.dir with e | e <;> rw [e] <;> decide
      · dsimp only
        rw [mask32, fl_put_pc]
        exact fin S1.br (by rw [if_neg hb])
def spRetr (C : Addr) : Sp := fun vs H Q _ => ∃ (p ra ma u : Addr) (n : Nat) (S : Mst) (cvs : List V) (code : List (Str × List Int)), vs = [.ref p] ∧ CoV C H p ra ma u n S ∧ S.Ok ∧ H u = some (.tup cvs) ∧ P2 (InsV H) cvs code ∧ code.length ≤ 100 ∧ CodeOk n code ∧ 1 ≤ n ∧ n ≤ 32 ∧
  ∀ H', KT [p, ra, ma] H H' → CoV C H' p ra ma u n (bckS n code S) → Q .non H'
theorem ok_Core_retrace (T : Txt K mg) (TC : TxC K C) (TM : TxM K mg C) (TA : TxA K mg w T) : FnOk P w K mg base CX0 7 TM.f_Core_retrace TM.d_Core_retrace ["self"] (spRetr C) := by
  have G_Core_act := ok_Core_act (P := P) (w := w) (base := base) T TC TM TA
  refine TM.F_Core_retrace.ok sc_Core_retrace (fun vs H Q E h => ?_) (fun cdv A outer s H vs Q E hr h => ?_)
  · obtain ⟨p, ra, ma, u, n, S, cvs, code, rfl, _⟩ := h
    rfl
  · obtain ⟨p, ra, ma, u, n, S, cvs, code, rfl, hC, hS, hu, hP, hcl, hco, hn1, hn, q⟩ := h
    obtain ⟨dx1, hp1⟩ := hC.ho
    refine ⟨_, (pss_cons (ps_fld (pv 0) (pe_op op_and (pe_op op_sub (pe_fld (pv 0) rfl) (pe_op op_mul (pe_fld (pv 0) rfl) (pe_orT (pe_fld (pv 0) rfl) (pe_one pe_int)))) (pe_glob (v := .int 4294967295) (by rfl) T.m_WHOLE ⟨_, rfl⟩)) rfl)
      (pss_one (ps_expr (pe_meth (pv 0) TC.cl TM.m_Core_act G_Core_act (hr.mono (by omega)) TM.b_Core_act .nil pass0 (pa_cons (pe_un un_neg (pe_fld (pv 0) rfl)) pa_nil))))), ?_⟩
    refine ⟨_, rfl, p, C, dx1, _, _, rfl, hp1, TC.cl, TC.nPc, fl_pc .., _, rfl, p, C, dx1, _, _, rfl, hp1, TC.cl, TC.nD, fl_dir .., _, rfl, p, C, dx1, _, _, rfl, hp1, TC.cl, TC.nB, fl_br .., _, rfl, ?_⟩
    have fin : ∀ (x : Int) (D : Ends) (σ : L2.St), x = (if S.br = 0 then 1 else S.br) → True := fun _ _ _ _ => trivial
    clear fin
    have key : ∀ x : Int, x = (if S.br = 0 then 1 else S.br) → bckS n code S = actX n (insAt code ((S.pc - S.dir * x) % 2 ^ 32)).1 (insAt code ((S.pc - S.dir * x) % 2 ^ 32)).2 (-S.dir) { S with pc := (S.pc - S.dir * x) % 2 ^ 32 } := fun x hx => by rw [hx]; rfl
    by_cases hb : S.br = 0
    · have e : ¬ ((S.br != 0) = true) := by rw [hb]; decide
      refine (if_neg e).mpr ?_
      refine ⟨_, _, rfl, rfl, .inl ?_, _, _, rfl, rfl, _, _, rfl, rfl, _, rfl, p, C, dx1, _, rfl, hp1, TC.cl, TC.nPc, (by show 8 < 1000; decide), ?_⟩
      · rcases hS.dir with e | e <;> rw [e] <;> decide
      · dsimp only
        rw [mask32, fl_put_pc]
        rw [key 1 (by rw [if_pos hb])] at q
        have hS2 := hS.setPc (w32_mod (S.pc - S.dir * 1))
        have hC2 : CoV C (upd H p (.ins C dx1 (flds n u ra ma { S with pc := (S.pc - S.dir * 1) % 2 ^ 32 }))) p ra ma u n { S with pc := (S.pc - S.dir * 1) % 2 ^ 32 } := hC.setO rfl rfl
        have k2 : KT [p, ra, ma] H (upd H p (.ins C dx1 (flds n u ra ma { S with pc := (S.pc - S.dir * 1) % 2 ^ 32 }))) := KT.ins (by simp) hp1
        generalize upd H p (.ins C dx1 (flds n u ra ma { S with pc := (S.pc - S.dir * 1) % 2 ^ 32 })) = H2 at hC2 k2 ⊢
        obtain ⟨dx2, hp2⟩ := hC2.ho
        refine ⟨_, rfl, p, dx2, _, rfl, hp2, fl_no_act .., _, rfl, p, C, dx2, _, _, rfl, hp2, TC.cl, TC.nD, fl_dir .., _, rfl, ?_⟩
        refine ⟨p, ra, ma, u, n, _, cvs, code, -S.dir, rfl, hC2, hS2, k2.tp _ _ hu, hP.mono fun _ _ => InsV.keep k2, hcl, hco, hn1, hn, ?_, fun H3 k3 hC3 => q _ (k2.trans k3) hC3⟩
        rcases hS.dir with e | e <;> rw [e]
        · exact .inr rfl
        · exact .inl rfl
    · have e : (S.br != 0) = true := by simpa using hb
      refine (if_pos e).mpr ?_
      refine ⟨_, _, rfl, rfl, .inl ?_, _, _, rfl, rfl, _, _, rfl, rfl, _, rfl, p, C, dx1, _, rfl, hp1, TC.cl, TC.nPc, (by show 8 < 1000; decide), ?_⟩
      · rcases hS.dir with e | e <;> rw [e] <;> decide
      · dsimp only
        rw [mask32, fl_put_pc]
        rw [key S.br (by rw [if_neg hb])] at q
        have hS2 := hS.setPc (w32_mod (S.pc - S.dir * S.br))
        have hC2 : CoV C (upd H p (.ins C dx1 (flds n u ra ma { S with pc := (S.pc - S.dir * S.br) % 2 ^ 32 }))) p ra ma u n { S with pc := (S.pc - S.dir * S.br) % 2 ^ 32 } := hC.setO rfl rfl
        have k2 : KT [p, ra, ma] H (upd H p (.ins C dx1 (flds n u ra ma { S with pc := (S.pc - S.dir * S.br) % 2 ^ 32 }))) := KT.ins (by simp) hp1
        generalize upd H p (.ins C dx1 (flds n u ra ma { S with pc := (S.pc - S.dir * S.br) % 2 ^ 32 })) = H2 at hC2 k2 ⊢
        obtain ⟨dx2, hp2⟩ := hC2.ho
        refine ⟨_, rfl, p, dx2, _, rfl, hp2, fl_no_act .., _, rfl, p, C, dx2, _, _, rfl, hp2, TC.cl, TC.nD, fl_dir .., _, rfl, ?_⟩
        refine ⟨p, ra, ma, u, n, _, cvs, code, -S.dir, rfl, hC2, hS2, k2.tp _ _ hu, hP.mono fun _ _ => InsV.keep k2, hcl, hco, hn1, hn, ?_, fun H3 k3 hC3 => q _ (k2.trans k3) hC3⟩
        rcases hS.dir with e | e <;> rw [e]
        · exact .inr rfl
        · exact .inl rfl
end

end My

set_option Elab.async false
set_option linter.all false
set_option maxRecDepth 100000
namespace My
open PySem PySem.Spec PyProof.Rows L2
/-! ### runs -/
theorem dp_ints {K : PySem.W.Frag} {H : Hp} : ∀ xs : List Int, DpAll K H (xs.map V.int) (xs.map PyData.int)
  | [] => .nil
  | x :: r => .cons (.int x) (dp_ints r)
theorem lay_ints : ∀ xs : List Int, PyData.canLayAll0 (xs.map PyData.int) = true
  | [] => rfl
  | x :: r => by
    show (PyData.canLay0 (.int x) && PyData.canLayAll0 (r.map PyData.int)) = true
    rw [lay_ints r]
    rfl
theorem deep_ints : ∀ xs : List Int, PyData.depthAll (xs.map PyData.int) = 0
  | [] => rfl
  | x :: r => by
    show max (PyData.depth (.int x)) (PyData.depthAll (r.map PyData.int)) = 0
    rw [deep_ints r]
    rfl
def insD (d : Str × List Int) : PyData := .tuple (.str d.1 :: d.2.map .int)
def stD (S : Mst) : PyData := .tuple [.tuple (S.regs.map .int), .int S.pc, .int S.br, .int S.dir, .tuple (S.mem.map .int)]
theorem lay_st (S : Mst) : (stD S).canLay0 = true := by
  show (PyData.canLayAll0 (S.regs.map .int) && (true && (true && (true && (PyData.canLayAll0 (S.mem.map .int) && true))))) = true
  rw [lay_ints, lay_ints]
  rfl
theorem deep_st (S : Mst) : (stD S).depth = 2 := by
  show max (PyData.depthAll (S.regs.map .int) + 1) (max 0 (max 0 (max 0 (max (PyData.depthAll (S.mem.map .int) + 1) 0)))) + 1 = 2
  rw [deep_ints, deep_ints]
  rfl
theorem lay_ins {d : Str × List Int} (h : (PyData.str d.1).canLay0 = true) : (insD d).canLay0 = true := by
  show ((PyData.str d.1).canLay0 && PyData.canLayAll0 (d.2.map .int)) = true
  rw [lay_ints, h]
  rfl
theorem deep_ins (d : Str × List Int) : (insD d).depth = 1 := by
  show max 0 (PyData.depthAll (d.2.map .int)) + 1 = 1
  rw [deep_ints]
  rfl
theorem shaped_st (S : Mst) : SeqAt.shaped (stD S) = true := by
  unfold SeqAt.shaped
  rw [Bool.and_eq_true]
  exact ⟨lay_st S, decide_eq_true (by rw [deep_st]; decide)⟩
theorem shaped_ins {d : Str × List Int} (h : (PyData.str d.1).canLay0 = true) : SeqAt.shaped (insD d) = true := by
  unfold SeqAt.shaped
  rw [Bool.and_eq_true]
  exact ⟨lay_ins h, decide_eq_true (by rw [deep_ins]; decide)⟩
theorem shaped_res (S : Mst) {d : Str × List Int} (h : (PyData.str d.1).canLay0 = true) (k : Int) : SeqAt.shaped (.tuple [stD S, insD d, .int k]) = true := by
  unfold SeqAt.shaped
  rw [Bool.and_eq_true]
  refine ⟨?_, decide_eq_true ?_⟩
  · show ((stD S).canLay0 && ((insD d).canLay0 && (true && true))) = true
    rw [lay_st, lay_ins h]
    rfl
  · show max (stD S).depth (max (insD d).depth (max 0 0)) + 1 ≤ 64
    rw [deep_st, deep_ins]
    decide
abbrev noneI : Str × List Int := ("none", [])
theorem end_cases (code : List (Str × List Int)) (S : Mst) : endS code S = noneI ∨ ((endS code S).1 = "halt" ∨ (endS code S).1 = "fail") := by
  unfold endS
  by_cases h : S.br = 0 ∧ ((insAt code S.pc).1 = "halt" ∨ (insAt code S.pc).1 = "fail")
  · rw [if_pos h]
    exact .inr h.2
  · rw [if_neg h]
    exact .inl rfl
theorem end_lay (code : List (Str × List Int)) (S : Mst) : (PyData.str (endS code S).1).canLay0 = true := by
  rcases end_cases code S with h | h | h <;> rw [h] <;> decide +kernel
/-- the test that a run goes on -/
theorem end_test (code : List (Str × List Int)) (S : Mst) : PyData.eqv (insD (endS code S)) (.tuple [.str "none"]) = decide (endS code S = noneI) := by
  rcases end_cases code S with h | h | h
  · rw [h]
    rfl
  · rw [decide_eq_false (fun z => by rw [z] at h; exact absurd h (by decide))]
    unfold insD
    rw [h]
    rfl
  · rw [decide_eq_false (fun z => by rw [z] at h; exact absurd h (by decide))]
    unfold insD
    rw [h]
    rfl
def itS (n : Nat) (code : List (Str × List Int)) (S : Mst) : Nat → Mst
  | 0 => S
  | k + 1 => stepS n code (itS n code S k)
theorem itS_ok {n : Nat} (hn : n ≤ 32) (code : List (Str × List Int)) {S : Mst} (h : S.Ok) : ∀ k, (itS n code S k).Ok
  | 0 => h
  | k + 1 => stepS_ok hn code (itS_ok hn code h k)
/-- a run ends behind k steps -/
structure Goes (n : Nat) (code : List (Str × List Int)) (S : Mst) (fuel k : Nat) : Prop where
  le : k ≤ fuel
  on : ∀ j, j < k → endS code (itS n code S j) = noneI
  ed : k = fuel ∨ endS code (itS n code S k) ≠ noneI
theorem Goes.uniq {n : Nat} {code : List (Str × List Int)} {S : Mst} {fuel k k' : Nat} (a : Goes n code S fuel k) (b : Goes n code S fuel k') : k = k' := by
  rcases Nat.lt_trichotomy k k' with h | h | h
  · rcases a.ed with e | e
    · have := b.le
      omega
    · exact absurd (b.on k h) e
  · exact h
  · rcases b.ed with e | e
    · have := a.le
      omega
    · exact absurd (a.on k' h) e
section
variable {P : Program} {w : World} {K : PySem.W.Frag} {mg : Str → Option Value} {base : Heap} {C : Addr}
theorem stD_dp {H : Hp} {v : V} {S : Mst} (h : StV H v S) : Dp K H v (stD S) := by
  obtain ⟨t, ra, ma, rfl, h1, h2, h3⟩ := h
  exact .tup (SqT.of h1) (.cons (.tup (SqT.of h2) (dp_ints _)) (.cons (.int _) (.cons (.int _) (.cons (.int _) (.cons (.tup (SqT.of h3) (dp_ints _)) .nil)))))
theorem insD_dp {H : Hp} {v : V} {d : Str × List Int} (h : InsW K H v d) : Dp K H v (insD d) := by
  obtain ⟨t, rfl, h⟩ := h
  exact .tup h (.cons (.str _) (dp_ints _))
theorem InsW.keep {H H' : Hp} {L : List Addr} (k : KT L H H') {v : V} {d : Str × List Int} (h : InsW K H v d) : InsW K H' v d := by
  obtain ⟨t, rfl, h⟩ := h
  exact ⟨t, rfl, k.sqT h⟩
def MaU (H : Hp) (mt u : Addr) (n : Nat) (cvs : List V) (code : List (Str × List Int)) : Prop := H mt = some (.tup [.int n, .ref u]) ∧ H u = some (.tup cvs) ∧ P2 (InsV H) cvs code ∧ code.length ≤ 100 ∧ CodeOk n code ∧ 1 ≤ n ∧ n ≤ 32
theorem MaU.keep {H H' : Hp} {L : List Addr} (k : KT L H H') {mt u : Addr} {n : Nat} {cvs : List V} {code : List (Str × List Int)} (h : MaU H mt u n cvs code) : MaU H' mt u n cvs code :=
  ⟨k.tp _ _ h.1, k.tp _ _ h.2.1, h.2.2.1.mono fun _ _ => InsV.keep k, h.2.2.2⟩
end

section
variable {P : Program} {w : World} {K : PySem.W.Frag} {mg : Str → Option Value} {base : Heap} {C : Addr}
def spStep2 : Sp := fun vs H Q _ => ∃ (mt u : Addr) (sv : V) (n : Nat) (S : Mst) (cvs : List V) (code : List (Str × List Int)), vs = [.ref mt, sv] ∧ MaU H mt u n cvs code ∧ StV H sv S ∧ S.Ok ∧
  ∀ (v : V) (H' : Hp), KT [] H H' → StV H' v (stepS n code S) → Q v H'
set_option maxHeartbeats 4000000 in
theorem ok_step (T : Txt K mg) (TC : TxC K C) (TM : TxM K mg C) (TA : TxA K mg w T) : FnOk P w K mg base CX0 8 T.f_step T.d_step ["machine", "state"] spStep2 := by
  have G_Core___init__ := ok_Core___init__ (P := P) (w := w) (base := base) T TC TM
  have G_Core_state := ok_Core_state (P := P) (w := w) (base := base) T TC TM
  have G_Core_forth := ok_Core_forth (P := P) (w := w) (base := base) T TC TM TA
  refine T.F_step.ok sc_step (fun vs H Q E h => ?_) (fun cdv A outer s H vs Q E hr h => ?_)
  · obtain ⟨mt, u, sv, n, S, cvs, code, rfl, _⟩ := h
    rfl
  · obtain ⟨mt, u, sv, n, S, cvs, code, rfl, hM, hst, hS, q⟩ := h
    refine ⟨_, (pss_cons (ps_set (i := 2) sc_step.nd rfl (Or.inl rfl) (pe_make TM.mkc G_Core___init__ (hr.mono (by omega)) (by rfl) TM.gC TM.b_Core___init__ .nil pass0 (pa_cons (pv 0) (pa_cons (pv 1) pa_nil))))
      (pss_cons (ps_expr (pe_meth0 (pv 2) TC.cl TM.m_Core_forth G_Core_forth (hr.mono (by omega)) TM.b_Core_forth .nil pass0))
      (pss_one (ps_ret (pe_meth0 (pv 2) TC.cl TM.m_Core_state G_Core_state (hr.mono (by omega)) TM.b_Core_state .nil pass0))))), ?_⟩
    refine ⟨_, rfl, _, rfl, fun x dx hx hdx ne => ?_⟩
    have kd := KT.new [] hdx (o := .own x)
    have hx1 : (upd H dx (.own x)) x = none := by rw [upd_ne (Ne.symm ne)]; exact hx
    have k0 : KT [] H (upd (upd H dx (.own x)) x (.ins C dx [])) := kd.trans (KT.new [] hx1)
    have h0 : (upd (upd H dx (.own x)) x (.ins C dx [])) x = some (.ins C dx []) := upd_same
    generalize upd (upd H dx (.own x)) x (.ins C dx []) = H0 at k0 h0 ⊢
    refine ⟨x, dx, mt, u, sv, n, S, rfl, h0, (hM.keep k0).1, hM.2.2.2.2.2.2, hst.keep k0, fun H1 ra ma nra nma k1 hC1 => ⟨rfl, ?_⟩⟩
    have nl : ∀ p ∈ [x, ra, ma], H p = none := fun p hp => by
      simp only [List.mem_cons, List.not_mem_nil, or_false] at hp
      rcases hp with rfl | rfl | rfl
      · exact hx
      · exact k0.free nra
      · exact k0.free nma
    have k01 : KT [] H H1 := k0.over k1 fun p hp => nl p (by rw [List.mem_singleton.mp hp]; simp)
    clear kd hx1 h0 k1 nra nma k0
    obtain ⟨hmt, hu, hP, hcl, hco, hn1, hn⟩ := hM
    obtain ⟨dx2, hp2⟩ := hC1.ho
    refine ⟨_, rfl, x, dx2, _, rfl, hp2, fl_no_forth .., x, ra, ma, u, n, _, cvs, code, rfl, hC1, hS, k01.tp _ _ hu, hP.mono fun _ _ => InsV.keep k01, hcl, hco, hn1, hn, fun H4 k4 hC4 => ?_⟩
    have k04 := k01.over k4 nl
    obtain ⟨dx4, hp4⟩ := hC4.ho
    exact ⟨_, rfl, x, dx4, _, rfl, hp4, fl_no_state .., x, ra, ma, u, n, _, rfl, hC4, fun v H3 k3 hv => q v H3 (k04.trans k3) hv⟩
def spBack2 : Sp := fun vs H Q _ => ∃ (mt u : Addr) (sv : V) (n : Nat) (S : Mst) (cvs : List V) (code : List (Str × List Int)), vs = [.ref mt, sv] ∧ MaU H mt u n cvs code ∧ StV H sv S ∧ S.Ok ∧
  ∀ (v : V) (H' : Hp), KT [] H H' → StV H' v (bckS n code S) → Q v H'
set_option maxHeartbeats 4000000 in
theorem ok_back (T : Txt K mg) (TC : TxC K C) (TM : TxM K mg C) (TA : TxA K mg w T) : FnOk P w K mg base CX0 8 T.f_back T.d_back ["machine", "state"] spBack2 := by
  have G_Core___init__ := ok_Core___init__ (P := P) (w := w) (base := base) T TC TM
  have G_Core_state := ok_Core_state (P := P) (w := w) (base := base) T TC TM
  have G_Core_retrace := ok_Core_retrace (P := P) (w := w) (base := base) T TC TM TA
  refine T.F_back.ok sc_back (fun vs H Q E h => ?_) (fun cdv A outer s H vs Q E hr h => ?_)
  · obtain ⟨mt, u, sv, n, S, cvs, code, rfl, _⟩ := h
    rfl
  · obtain ⟨mt, u, sv, n, S, cvs, code, rfl, hM, hst, hS, q⟩ := h
    refine ⟨_, (pss_cons (ps_set (i := 2) sc_back.nd rfl (Or.inl rfl) (pe_make TM.mkc G_Core___init__ (hr.mono (by omega)) (by rfl) TM.gC TM.b_Core___init__ .nil pass0 (pa_cons (pv 0) (pa_cons (pv 1) pa_nil))))
      (pss_cons (ps_expr (pe_meth0 (pv 2) TC.cl TM.m_Core_retrace G_Core_retrace (hr.mono (by omega)) TM.b_Core_retrace .nil pass0))
      (pss_one (ps_ret (pe_meth0 (pv 2) TC.cl TM.m_Core_state G_Core_state (hr.mono (by omega)) TM.b_Core_state .nil pass0))))), ?_⟩
    refine ⟨_, rfl, _, rfl, fun x dx hx hdx ne => ?_⟩
    have kd := KT.new [] hdx (o := .own x)
    have hx1 : (upd H dx (.own x)) x = none := by rw [upd_ne (Ne.symm ne)]; exact hx
    have k0 : KT [] H (upd (upd H dx (.own x)) x (.ins C dx [])) := kd.trans (KT.new [] hx1)
    have h0 : (upd (upd H dx (.own x)) x (.ins C dx [])) x = some (.ins C dx []) := upd_same
    generalize upd (upd H dx (.own x)) x (.ins C dx []) = H0 at k0 h0 ⊢
    refine ⟨x, dx, mt, u, sv, n, S, rfl, h0, (hM.keep k0).1, hM.2.2.2.2.2.2, hst.keep k0, fun H1 ra ma nra nma k1 hC1 => ⟨rfl, ?_⟩⟩
    have nl : ∀ p ∈ [x, ra, ma], H p = none := fun p hp => by
      simp only [List.mem_cons, List.not_mem_nil, or_false] at hp
      rcases hp with rfl | rfl | rfl
      · exact hx
      · exact k0.free nra
      · exact k0.free nma
    have k01 : KT [] H H1 := k0.over k1 fun p hp => nl p (by rw [List.mem_singleton.mp hp]; simp)
    clear kd hx1 h0 k1 nra nma k0
    obtain ⟨hmt, hu, hP, hcl, hco, hn1, hn⟩ := hM
    obtain ⟨dx2, hp2⟩ := hC1.ho
    refine ⟨_, rfl, x, dx2, _, rfl, hp2, fl_no_retrace .., x, ra, ma, u, n, _, cvs, code, rfl, hC1, hS, k01.tp _ _ hu, hP.mono fun _ _ => InsV.keep k01, hcl, hco, hn1, hn, fun H4 k4 hC4 => ?_⟩
    have k04 := k01.over k4 nl
    obtain ⟨dx4, hp4⟩ := hC4.ho
    exact ⟨_, rfl, x, dx4, _, rfl, hp4, fl_no_state .., x, ra, ma, u, n, _, rfl, hC4, fun v H3 k3 hv => q v H3 (k04.trans k3) hv⟩
end

end My

set_option Elab.async false
set_option linter.all false
set_option maxRecDepth 100000
namespace My
open PySem PySem.Spec PyProof.Rows L2
/-! ### what is shown -/
theorem show_len {i : Int} (h0 : -100 ≤ i) (h1 : i < 2 ^ 32) : (PyData.int i).shown.length ≤ 13 := by
  rw [PyData.shown_int]
  by_cases h : 0 ≤ i
  · have h1 : i < 4294967296 := h1
    exact Nat.le_trans (toString_length_le h (k := 10) (by decide) (Int.lt_trans h1 (by decide))) (by decide)
  · have : i ∈ (List.range 100).map (fun (n : Nat) => -((n : Int) + 1)) := by
      refine List.mem_map.mpr ⟨(-i - 1).toNat, List.mem_range.mpr (by omega), by omega⟩
    revert i
    intro i _ _ _ hm
    obtain ⟨n, hn, rfl⟩ := List.mem_map.mp hm
    have key : ∀ n : Nat, n < 100 → (Str.ofString (toString (-((n : Int) + 1)))).length ≤ 13 := by decide +kernel
    exact key n (List.mem_range.mp hn)
theorem short_ints : ∀ {xs : List Int}, (∀ x ∈ xs, -100 ≤ x ∧ x < 2 ^ 32) → PyData.leavesShortAll 13 (xs.map PyData.int) = true
  | [], _ => rfl
  | x :: r, h => by
    show (decide ((PyData.int x).shown.length ≤ 13) && PyData.leavesShortAll 13 (r.map PyData.int)) = true
    rw [short_ints fun y hy => h y (List.mem_cons_of_mem _ hy), decide_eq_true (show_len (h x List.mem_cons_self).1 (h x List.mem_cons_self).2)]
    rfl
theorem show_ints : ∀ {xs : List Int}, (∀ x ∈ xs, -100 ≤ x ∧ x < 2 ^ 32) → PyData.showableAll (xs.map PyData.int) = true
  | [], _ => rfl
  | x :: r, h => by
    show (decide (x.natAbs.log2 < 1920) && PyData.showableAll (r.map PyData.int)) = true
    have hx := h x List.mem_cons_self
    have : x.natAbs < 2 ^ 33 := by omega
    have : x.natAbs.log2 < 1920 := by
      by_cases z : x.natAbs = 0
      · rw [z]
        decide
      · exact Nat.lt_trans ((Nat.log2_lt z).mpr this) (by decide)
    rw [show_ints fun y hy => h y (List.mem_cons_of_mem _ hy), decide_eq_true this]
    rfl
theorem bulk_ints : ∀ xs : List Int, PyData.bulkAll (xs.map PyData.int) = xs.length
  | [] => rfl
  | x :: r => by
    show 0 + 1 + PyData.bulkAll (r.map PyData.int) = _
    rw [bulk_ints r, List.length_cons]
    omega
theorem nodict_ints : ∀ xs : List Int, PyData.hasDictAll (xs.map PyData.int) = false
  | [] => rfl
  | x :: r => by
    show (false || PyData.hasDictAll (r.map PyData.int)) = false
    rw [nodict_ints r]
    rfl
theorem ins_ints {n near : Nat} (hn : n ≤ 32) (hnear : near ≤ 50) {op : Str} {ps : List Int} (h : InsOk n near op ps) : ∀ x ∈ ps, -100 ≤ x ∧ x < 2 ^ 32 := by
  obtain ⟨_, ln, a, b, c, hin, _, _, hp⟩ := h
  have e32 := pow_le (m := 32) hn
  intro x hx
  obtain ⟨j, hj, rfl⟩ := List.mem_iff_getElem.mp hx
  have hjl : j < (shapeOf op).cps.toList.length := by rw [Array.length_toList, ← ln]; exact hj
  have h0 := hp j _ _ (List.getElem?_eq_getElem hjl) (List.getElem?_eq_getElem hj)
  generalize ps[j] = x at h0
  generalize (shapeOf op).cps.toList[j] = ch at h0
  unfold PtOk at h0
  split at h0
  · have : x ∈ [a, b, c] := List.mem_of_getElem? h0
    have := hin x this
    omega
  · split at h0
    · omega
    · split at h0
      · omega
      · split at h0 <;> omega
theorem ins_len {n near : Nat} {op : Str} {ps : List Int} (h : InsOk n near op ps) : op.cps.size ≤ 10 ∧ ps.length ≤ 3 ∧ (op.cps.toList.all fun c => decide (c < 16 ^ 8)) = true := by
  obtain ⟨⟨k, hk, rfl⟩, ln, _⟩ := h
  have key : ∀ k, k < 30 → (wdL.getD k "").cps.size ≤ 10 ∧ (shapeOf (wdL.getD k "")).cps.size ≤ 3 ∧ ((wdL.getD k "").cps.toList.all fun c => decide (c < 16 ^ 8)) = true := by decide +kernel
  obtain ⟨h1, h2, h3⟩ := key k hk
  exact ⟨h1, by rw [ln]; exact h2, h3⟩
structure Shows (d : PyData) (dp bk : Nat) : Prop where
  sh : d.showable = true
  nd : d.hasDict = false
  dp : d.depth ≤ dp
  sl : PyData.leavesShort 13 d = true
  bk : d.bulk ≤ bk
structure ShowsAll (ds : List PyData) (dp bk : Nat) : Prop where
  sh : PyData.showableAll ds = true
  nd : PyData.hasDictAll ds = false
  dp : PyData.depthAll ds ≤ dp
  sl : PyData.leavesShortAll 13 ds = true
  bk : PyData.bulkAll ds ≤ bk
theorem ShowsAll.tup {ds : List PyData} {dp bk : Nat} (h : ShowsAll ds dp bk) : Shows (.tuple ds) (dp + 1) bk :=
  ⟨h.sh, h.nd, Nat.succ_le_succ h.dp, h.sl, h.bk⟩
theorem ShowsAll.nil {dp : Nat} : ShowsAll [] dp 0 := ⟨rfl, rfl, Nat.zero_le _, rfl, Nat.le_refl _⟩
theorem ShowsAll.cons {d : PyData} {ds : List PyData} {dp b c : Nat} (h : Shows d dp b) (g : ShowsAll ds dp c) : ShowsAll (d :: ds) dp (b + 1 + c) where
  sh := by show (d.showable && PyData.showableAll ds) = true; rw [h.sh, g.sh]; rfl
  nd := by show (d.hasDict || PyData.hasDictAll ds) = false; rw [h.nd, g.nd]; rfl
  dp := by show max d.depth (PyData.depthAll ds) ≤ dp; have := h.dp; have := g.dp; omega
  sl := by show (PyData.leavesShort 13 d && PyData.leavesShortAll 13 ds) = true; rw [h.sl, g.sl]; rfl
  bk := by show d.bulk + 1 + PyData.bulkAll ds ≤ _; have := h.bk; have := g.bk; omega
theorem ShowsAll.ints {xs : List Int} {dp k : Nat} (h : ∀ x ∈ xs, -100 ≤ x ∧ x < 2 ^ 32) (hk : xs.length ≤ k) : ShowsAll (xs.map PyData.int) dp k :=
  ⟨show_ints h, nodict_ints xs, by rw [deep_ints]; exact Nat.zero_le _, short_ints h, by rw [bulk_ints]; exact hk⟩
theorem Shows.int {x : Int} {dp : Nat} (h : -100 ≤ x ∧ x < 2 ^ 32) : Shows (.int x) dp 0 := by
  have := ShowsAll.ints (xs := [x]) (dp := 0) (k := 1) (fun y hy => by rw [List.mem_singleton.mp hy]; exact h) (Nat.le_refl _)
  refine ⟨?_, rfl, Nat.zero_le _, decide_eq_true (show_len h.1 h.2), Nat.le_refl _⟩
  have h1 : ((PyData.int x).showable && true) = true := this.sh
  rw [Bool.and_true] at h1
  exact h1
theorem Shows.str {x : Str} {dp k : Nat} (h : (x.cps.toList.all fun c => decide (c < 16 ^ 8)) = true) (hk : x.cps.size ≤ k) : Shows (.str x) dp k := ⟨rfl, rfl, Nat.zero_le _, h, hk⟩
theorem Shows.mono {d : PyData} {a b a' b' : Nat} (h : Shows d a b) (h1 : a ≤ a') (h2 : b ≤ b') : Shows d a' b' := ⟨h.sh, h.nd, Nat.le_trans h.dp h1, h.sl, Nat.le_trans h.bk h2⟩
theorem ShowsAll.mono {d : List PyData} {a b a' b' : Nat} (h : ShowsAll d a b) (h1 : a ≤ a') (h2 : b ≤ b') : ShowsAll d a' b' := ⟨h.sh, h.nd, Nat.le_trans h.dp h1, h.sl, Nat.le_trans h.bk h2⟩
theorem Shows.fits {d : PyData} {dp bk : Nat} (h : Shows d dp bk) (h1 : dp ≤ 64) (h2 : bk ≤ 2 ^ 20) : d.showable = true ∧ d.hasDict = false ∧ d.depth ≤ 64 ∧ d.shown.length ≤ sizeLine :=
  ⟨h.sh, h.nd, Nat.le_trans h.dp h1, PyData.shown_fits_bulk (B := 13) (by decide) (by decide) h.sl (Nat.le_trans h.bk h2)⟩
theorem shows_ins {n near : Nat} (hn : n ≤ 32) (hnear : near ≤ 50) {d : Str × List Int} (h : InsOk n near d.1 d.2) : Shows (insD d) 1 14 := by
  obtain ⟨h1, h2, h3⟩ := ins_len h
  exact ((ShowsAll.cons (Shows.str (dp := 0) h3 h1) (ShowsAll.ints (k := 3) (ins_ints hn hnear h) h2)).mono (Nat.le_refl _) (by decide)).tup
theorem shows_code {n near : Nat} (hn : n ≤ 32) (hnear : near ≤ 50) : ∀ {code : List (Str × List Int)}, (∀ d ∈ code, InsOk n near d.1 d.2) → ShowsAll (code.map insD) 1 (15 * code.length)
  | [], _ => ShowsAll.nil
  | d :: r, h => (ShowsAll.cons (shows_ins hn hnear (h d List.mem_cons_self)) (shows_code hn hnear fun x hx => h x (List.mem_cons_of_mem _ hx))).mono (Nat.le_refl _) (by rw [List.length_cons]; omega)
theorem w32_show {x : Int} (h : W32 x) : -100 ≤ x ∧ x < 2 ^ 32 := ⟨by have := h.1; omega, h.2⟩
theorem shows_st {S : Mst} (h : S.Ok) : Shows (stD S) 2 100 := by
  have hd : -100 ≤ S.dir ∧ S.dir < 2 ^ 32 := by rcases h.dir with e | e <;> rw [e] <;> decide
  exact ((ShowsAll.cons (ShowsAll.ints (dp := 0) (k := 16) (fun x hx => w32_show (h.rw x hx)) (Nat.le_of_eq h.r16)).tup (ShowsAll.cons (Shows.int (w32_show h.pc)) (ShowsAll.cons (Shows.int (w32_show h.br)) (ShowsAll.cons (Shows.int hd) (ShowsAll.cons (ShowsAll.ints (dp := 0) (k := 6) (fun x hx => w32_show (h.mw x hx)) h.m6).tup ShowsAll.nil))))).mono (Nat.le_refl _) (by decide)).tup
def maD (n : Nat) (code : List (Str × List Int)) : PyData := .tuple [.int n, .tuple (code.map insD)]
theorem shows_all {n near : Nat} (hn : n ≤ 32) (hnear : near ≤ 50) {code : List (Str × List Int)} (hc : ∀ d ∈ code, InsOk n near d.1 d.2) (hl : code.length ≤ 100) {S : Mst} (h : S.Ok) : Shows (.tuple [maD n code, stD S]) 4 2000 := by
  have hi : -100 ≤ (n : Int) ∧ (n : Int) < 2 ^ 32 := by omega
  exact ((ShowsAll.cons (((ShowsAll.cons (Shows.int hi) (ShowsAll.cons ((shows_code hn hnear hc).mono (Nat.le_refl _) (by omega : _ ≤ 1500)).tup ShowsAll.nil)).mono (Nat.le_refl _) (by decide : _ ≤ 1600)).tup) (ShowsAll.cons ((shows_st h).mono (by decide) (Nat.le_refl _)) ShowsAll.nil)).mono (Nat.le_refl _) (by decide)).tup
theorem code_dp {K : PySem.W.Frag} {H : Hp} : ∀ {cvs : List V} {code : List (Str × List Int)}, P2 (InsV H) cvs code → DpAll K H cvs (code.map insD)
  | _, _, .nil => .nil
  | _, _, .cons h t => .cons (insD_dp h.weak) (code_dp t)
theorem ma_dp {K : PySem.W.Frag} {H : Hp} {mt u : Addr} {n : Nat} {cvs : List V} {code : List (Str × List Int)} (h : MaU H mt u n cvs code) : Dp K H (.ref mt) (maD n code) :=
  .tup (SqT.of h.1) (.cons (.int _) (.cons (.tup (SqT.of h.2.1) (code_dp h.2.2.1)) .nil))
def spLaw (K : PySem.W.Frag) : Sp := fun vs H Q _ => ∃ (a : Addr) (ns : List Int), vs = [.ref a] ∧ SqL K H a (ns.map V.int) ∧ ns.length ≤ 63 ∧ ∀ H', Q (.bl true) H'
section
variable {P : Program} {w : World} {K : PySem.W.Frag} {mg : Str → Option Value} {base : Heap} {C : Addr}
theorem st_refl (S : Mst) : PyData.eqv (stD S) (stD S) = true := SeqAt.eqv_refl _ (SeqAt.canLay_of_shaped (shaped_st S))
set_option maxHeartbeats 1000000 in
theorem ok_law (T : Txt K mg) (TC : TxC K C) (TM : TxM K mg C) (TA : TxA K mg w T) : FnTop P w K mg base T.f_law T.d_law ["script"] (spLaw K) := by
  have G_z_draw := ok_z_draw (P := P) (w := w) (base := base) T
  have G_z_take := okG_z_take (P := P) (w := w) (base := base) T
  have G_z_instruction := ok_z_instruction (P := P) (w := w) (base := base) T
  have G_z_state := ok_z_state (P := P) (w := w) (base := base) T
  have G_z_step := ok_z_step (P := P) (w := w) (base := base) T
  have G_step := ok_step (P := P) (w := w) (base := base) T TC TM TA
  have G_back := ok_back (P := P) (w := w) (base := base) T TC TM TA
  refine fun_top T.F_law sc_law (k := 8) ⟨rfl, by decide, by decide⟩ (fun vs H Q E h => ?_) (fun cdv s H vs Q E hr h => ?_)
  · obtain ⟨a, ns, rfl, _⟩ := h
    rfl
  · obtain ⟨a, ns, rfl, hS0, hlen, q⟩ := h
    refine ⟨_, (pss_cons (ps_set (i := 1) sc_law.nd rfl (Or.inr rfl) (pe_call G_z_draw (hr.mono (by omega)) (by rfl) T.g_z_draw T.F_z_draw.kp T.b_z_draw .nil pass0 (pa_cons (pv 0) pa_nil)))
      (pss_cons (ps_set (i := 2) sc_law.nd rfl (Or.inr rfl) (pe_ix ix_list (pe_lst (pa_cons pe_int (pa_cons pe_int (pa_cons pe_int (pa_cons pe_int (pa_cons pe_int (pa_cons pe_int (pa_cons pe_int pa_nil)))))))) (pe_call G_z_take (hr.mono (by omega)) (by rfl) T.g_z_take T.F_z_take.kp T.b_z_take .nil pass0 (pa_cons (pv 1) (pa_cons pe_int pa_nil))) (fun _ _ => rfl)))
      (pss_cons (ps_set (i := 3) sc_law.nd rfl (Or.inl rfl) (pe_callTy call_tuple_of (by rfl) T.m_tuple (by decide +kernel) (pa_cons (pe_lc (own := [("k", 10)]) (g := gName 10) (by rfl) sc_law.nd (pi_range1 (by rfl) T.m_range (pa_cons (pe_call G_z_take (hr.mono (by omega)) (by rfl) T.g_z_take T.F_z_take.kp T.b_z_take .nil pass0 (pa_cons (pv 1) (pa_cons pe_int pa_nil))) pa_nil)) (blkOk_by (own := [("k", 10)]) (N := N_law) (sc := defScope s_law) (by decide +kernel)) (fun _ _ _ _ _ => (pg_name (i := 10) sc_law.nd rfl (Or.inl rfl))) (fun _ _ _ _ _ => pts_nil) (fun _ _ _ _ _ => (pe_call G_z_instruction (hr.mono (by omega)) (by rfl) T.g_z_instruction T.F_z_instruction.kp T.b_z_instruction .nil pass0 (pa_cons (pv 1) (pa_cons (pv 2) (pa_cons pe_int pa_nil)))))) pa_nil)))
      (pss_cons (ps_set (i := 4) sc_law.nd rfl (Or.inl rfl) (pe_tup (pa_cons (pv 2) (pa_cons (pv 3) pa_nil))))
      (pss_cons (ps_for PassesOwn.never rfl (pi_range1 (by rfl) T.m_range (pa_cons pe_int pa_nil)) (pg_name (i := 5) sc_law.nd rfl (Or.inl rfl))
        (pss_cons (ps_set (i := 6) sc_law.nd rfl (Or.inl rfl) (pe_call G_z_state (hr.mono (by omega)) (by rfl) T.g_z_state T.F_z_state.kp T.b_z_state .nil pass0 (pa_cons (pv 1) (pa_cons (pe_callB call_len_seq (by rfl) T.m_len (by decide +kernel) (pa_cons (pv 3) pa_nil)) pa_nil))))
        (pss_cons (ps_set (i := 7) sc_law.nd rfl (Or.inl rfl) (pe_callB (call_reprD (by rfl) (u70 hr)) (by rfl) T.m_repr (by decide +kernel) (pa_cons (pe_tup (pa_cons (pv 4) (pa_cons (pv 6) pa_nil))) pa_nil)))
        (pss_cons (ps_set (i := 8) sc_law.nd rfl (Or.inl rfl) (pe_call G_step (hr.mono (by omega)) (by rfl) T.g_step T.F_step.kp T.b_step .nil pass0 (pa_cons (pv 4) (pa_cons (pv 6) pa_nil))))
        (pss_cons (ps_if (PW.pt (pw_or (pt_cmpR (op_neD hr.units) (pv 8) (pe_call G_z_step (hr.mono (by omega)) (by rfl) T.g_z_step T.F_z_step.kp T.b_z_step .nil pass0 (pa_cons (pv 4) (pa_cons (pv 6) pa_nil))) (nomark _)) (pw_or1 (pt_cmpR (op_neD hr.units) (pe_call G_back (hr.mono (by omega)) (by rfl) T.g_back T.F_back.kp T.b_back .nil pass0 (pa_cons (pv 4) (pa_cons (pv 8) pa_nil))) (pv 6) (nomark _)))))
          (pss_one (ps_ret pe_bl))
          pss_nil)
        (pss_cons (ps_set (i := 9) sc_law.nd rfl (Or.inl rfl) (pe_call G_back (hr.mono (by omega)) (by rfl) T.g_back T.F_back.kp T.b_back .nil pass0 (pa_cons (pv 4) (pa_cons (pv 6) pa_nil))))
        (pss_one (ps_if (PW.pt (pw_or (pt_cmpR (op_neD hr.units) (pe_call G_z_step (hr.mono (by omega)) (by rfl) T.g_z_step T.F_z_step.kp T.b_z_step .nil pass0 (pa_cons (pv 4) (pa_cons (pv 9) pa_nil))) (pv 6) (nomark _)) (pw_or (pt_cmpR (op_neD hr.units) (pe_call G_step (hr.mono (by omega)) (by rfl) T.g_step T.F_step.kp T.b_step .nil pass0 (pa_cons (pv 4) (pa_cons (pv 9) pa_nil))) (pv 6) (nomark _)) (pw_or1 (pt_cmpR op_ne (pe_callB (call_reprD (by rfl) (u70 hr)) (by rfl) T.m_repr (by decide +kernel) (pa_cons (pe_tup (pa_cons (pv 4) (pa_cons (pv 6) pa_nil))) pa_nil)) (pv 7) (nomark _))))))
          (pss_one (ps_ret pe_bl))
          pss_nil))))))))
      (pss_one (ps_ret pe_bl))))))), ?_⟩
    refine ⟨_, rfl, a, ns, rfl, hS0, hlen, fun H1 dr sm ndr D => ?_⟩
    -- width
    refine ⟨(by show 7 ≤ sizeLine; decide), fun l nl => ?_⟩
    have g1 := GS.new D nl (o := .lst [.int 1, .int 2, .int 3, .int 8, .int 16, .int 31, .int 32])
    have lp : l ∉ [dr] := by rw [List.mem_singleton]; exact ne_new D nl
    refine ⟨_, rfl, dr, 7, rfl, g1.d, by decide, by decide, fun k H2 k0 k1 g2 => ?_⟩
    have hk : ∃ n : Nat, atI [V.int 1, V.int 2, V.int 3, V.int 8, V.int 16, V.int 31, V.int 32] k = some (.int (n : Int)) ∧ 1 ≤ n ∧ n ≤ 32 := by
      have : k = 0 ∨ k = 1 ∨ k = 2 ∨ k = 3 ∨ k = 4 ∨ k = 5 ∨ k = 6 := by omega
      rcases this with rfl | rfl | rfl | rfl | rfl | rfl | rfl
      · exact ⟨1, rfl, by decide, by decide⟩
      · exact ⟨2, rfl, by decide, by decide⟩
      · exact ⟨3, rfl, by decide, by decide⟩
      · exact ⟨8, rfl, by decide, by decide⟩
      · exact ⟨16, rfl, by decide, by decide⟩
      · exact ⟨31, rfl, by decide, by decide⟩
      · exact ⟨32, rfl, by decide, by decide⟩
    obtain ⟨n, hkn, hn1, hn⟩ := hk
    refine ⟨_, _, _, _, rfl, rfl, SqL.of (g2.k.kp _ _ lp upd_same), hkn, ?_⟩
    have g3 := g1.trans g2
    have D2 := g3.d
    clear g1 g2 g3 lp nl hkn k0 k1 D
    -- code
    refine ⟨_, rfl, dr, 9, rfl, D2, by decide, by decide, fun m H3 m0 m1 g4 => ?_⟩
    obtain ⟨um, rfl⟩ := int_nat m0
    refine ⟨(um : Int), rfl, by omega, by omega, fun Dc nDc => ?_⟩
    rw [Int.toNat_natCast]
    have Dp : Dc ∉ [dr] := by rw [List.mem_singleton]; exact ne_new g4.d nDc
    refine lc_range (n := um) (fun i H5 => ∃ (cvs : List V) (code : List (Str × List Int)), GS dr H3 H5 ∧ H5 Dc = some (.lst cvs) ∧ P2 (InsV H5) cvs code ∧ code.length = i ∧ CodeOk n code) ⟨[], [], GS.new g4.d nDc, upd_same, .nil, rfl, fun d h => nomatch h⟩ ?_ ?_
    · rintro i H5 hi ⟨cvs, code, g, hD, hP, hl, hco⟩
      refine ⟨rfl, _, rfl, _, rfl, dr, n, 5, rfl, g.d, hn, by decide, fun v op ps H6 g6 hv hiok => ⟨_, g6.k.kp _ _ Dp hD, ?_, cvs ++ [v], code ++ [(op, ps)], (g.trans g6).late g4.d nDc, upd_same, ?_, ?_, ?_⟩⟩
      · rw [hP.len]
        exact Nat.lt_of_le_of_lt (by omega : _ ≤ 1000) (by decide)
      · have hD6 := g6.k.kp _ _ Dp hD
        refine ((hP.mono fun _ _ => InsV.keep g6.k).snoc hv).mono fun _ _ ⟨t, e, h⟩ => ⟨t, e, ?_⟩
        rw [upd_ne (fun z => by rw [z, hD6] at h; cases h)]
        exact h
      · rw [List.length_append, hl]
        rfl
      · intro d hd
        rcases List.mem_append.mp hd with hd | hd
        · exact hco d hd
        · rw [List.mem_singleton.mp hd]
          exact hiok
    rintro H5 ⟨cvs, code, g5, hD, hP, hl, hco⟩
    refine ⟨_, _, rfl, .inl ⟨SqL.of hD, fun u nu => ?_⟩⟩
    -- machine
    have g6 := g5.trans (GS.new g5.d nu (o := .tup cvs))
    refine ⟨_, rfl, _, rfl, (by show 2 ≤ sizeLine; decide), fun mt nmt => ?_⟩
    have g7 := g6.trans (GS.new g6.d nmt (o := .tup [.int n, .ref u]))
    have ku := KT.new [] nu (o := .tup cvs)
    have km := KT.new [] nmt (o := .tup [.int n, .ref u])
    have hl9 : code.length ≤ 100 := by omega
    have hM : MaU (upd (upd H5 u (.tup cvs)) mt (.tup [.int n, .ref u])) mt u n cvs code := ⟨upd_same, km.tp _ _ upd_same, (hP.mono fun _ _ => InsV.keep ku).mono fun _ _ => InsV.keep km, hl9, hco, hn1, hn⟩
    generalize upd (upd H5 u (.tup cvs)) mt (.tup [.int n, .ref u]) = H7 at g7 hM ⊢
    clear ku km g6 nu nmt hP hD g5
    have hlv : cvs.length = code.length := hM.2.2.1.len
    -- the turns
    refine ⟨4, rfl, by decide, by decide, ?_⟩
    refine for_range (n := 4) (fun i σ H8 => ∃ (x5 x6 x7 x8 x9 : Option V), σ = [some (.ref a), some (.ref dr), some (.int n), some (.ref u), some (.ref mt), x5, x6, x7, x8, x9, none] ∧ GS dr H7 H8) ⟨none, none, none, none, none, rfl, GS.refl g7.d⟩ ?_ ?_
    · rintro i σ H8 hi ⟨x5, x6, x7, x8, x9, rfl, g8⟩
      have hM8 := hM.keep g8.k
      refine ⟨_, rfl, _, rfl, _, _, rfl, .inr (SqT.of hM8.2.1), dr, cvs.length, rfl, g8.d, by omega, fun sv S H9 g9 hst hS => ?_⟩
      have hM9 := hM8.keep g9.k
      have gg := g8.trans g9
      obtain ⟨fsh, fnd, fdp, fln⟩ := (shows_all (near := 5) hn (by decide) hco hl9 hS).fits (by decide) (by decide)
      have hMv : ∀ H', KT [] H9 H' → MaV H' (.ref mt) n code := fun H' k' => ⟨mt, u, cvs, rfl, (hM9.keep k').1, (hM9.keep k').2.1, (hM9.keep k').2.2.1⟩
      -- before
      refine ⟨_, rfl, _, rfl, (by show 2 ≤ sizeLine; decide), fun t1 nt1 => ?_⟩
      have k1 : KT [] H9 (upd H9 t1 (.tup [.ref mt, sv])) := KT.new [] nt1
      have d1 : L2.Dp K (upd H9 t1 (.tup [.ref mt, sv])) (.ref t1) (.tuple [maD n code, stD S]) := .tup (SqT.of upd_same) (.cons (ma_dp (hM9.keep k1)) (.cons (stD_dp (hst.keep k1)) .nil))
      obtain ⟨txt, htx⟩ : ∃ txt, (PyData.tuple [maD n code, stD S]).shown = txt := ⟨_, rfl⟩
      refine ⟨t1, _, rfl, d1, fsh, fnd, fdp, fln, ?_⟩
      rw [htx]
      generalize upd H9 t1 (.tup [.ref mt, sv]) = H10 at k1 ⊢
      clear d1 nt1
      -- after
      refine ⟨_, rfl, _, rfl, mt, u, sv, n, S, cvs, code, rfl, hM9.keep k1, hst.keep k1, hS, fun av H11 k2 hav => ?_⟩
      have hS1 := stepS_ok hn code hS
      have k12 := k1.trans k2
      refine ⟨_, rfl, _, rfl, _, rfl, .ref mt, sv, n, code, S, rfl, hMv _ k12, hco, hn1, hn, hl9, hst.keep k12, hS, fun lv H12 k3 hlv => ?_⟩
      have k13 := k12.trans k3
      refine ⟨_, _, stD_dp (hav.keep k3), stD_dp hlv, shaped_st _, shaped_st _, _, rfl, ?_⟩
      rw [st_refl]
      refine (if_neg (by decide)).mpr ?_
      refine ⟨_, rfl, _, rfl, mt, u, av, n, stepS n code S, cvs, code, rfl, hM9.keep k13, hav.keep k3, hS1, fun bv H13 k4 hbv => ?_⟩
      rw [bck_step hco hS] at hbv
      have k14 := k13.trans k4
      refine ⟨_, rfl, _, _, stD_dp hbv, stD_dp (hst.keep k14), shaped_st _, shaped_st _, _, rfl, ?_⟩
      rw [st_refl]
      refine (if_neg (by decide)).mpr ?_
      -- earlier
      refine ⟨_, rfl, _, rfl, mt, u, sv, n, S, cvs, code, rfl, hM9.keep k14, hst.keep k14, hS, fun ev H14 k5 hev => ?_⟩
      have hSb := bckS_ok hn code hS
      have k15 := k14.trans k5
      refine ⟨_, rfl, _, rfl, .ref mt, ev, n, code, _, rfl, hMv _ k15, hco, hn1, hn, hl9, hev, hSb, fun lv2 H15 k6 hlv2 => ?_⟩
      rw [step_bck hco hS] at hlv2
      have k16 := k15.trans k6
      refine ⟨_, rfl, _, _, stD_dp hlv2, stD_dp (hst.keep k16), shaped_st _, shaped_st _, _, rfl, ?_⟩
      rw [st_refl]
      refine (if_neg (by decide)).mpr ?_
      refine ⟨_, rfl, _, rfl, mt, u, ev, n, _, cvs, code, rfl, hM9.keep k16, hev.keep k6, hSb, fun sv2 H16 k7 hsv2 => ?_⟩
      rw [step_bck hco hS] at hsv2
      have k17 := k16.trans k7
      refine ⟨_, rfl, _, _, stD_dp hsv2, stD_dp (hst.keep k17), shaped_st _, shaped_st _, _, rfl, ?_⟩
      rw [st_refl]
      refine (if_neg (by decide)).mpr ?_
      -- shown again
      refine ⟨_, rfl, _, rfl, (by show 2 ≤ sizeLine; decide), fun t2 nt2 => ?_⟩
      have k8 : KT [] H16 (upd H16 t2 (.tup [.ref mt, sv])) := KT.new [] nt2
      have k18 := k17.trans k8
      have d2 : L2.Dp K (upd H16 t2 (.tup [.ref mt, sv])) (.ref t2) (.tuple [maD n code, stD S]) := .tup (SqT.of upd_same) (.cons (ma_dp (hM9.keep k18)) (.cons (stD_dp (hst.keep k18)) .nil))
      refine ⟨t2, _, rfl, d2, fsh, fnd, fdp, fln, ?_⟩
      rw [htx]
      refine ⟨_, rfl, rfl, _, rfl, ?_⟩
      refine (if_neg (by rw [decide_eq_true (rfl : V.str txt = V.str txt)]; decide)).mpr ?_
      exact ⟨_, _, _, _, _, rfl, gg.trans (GS.of gg.d k18)⟩
    · rintro σ H8 ⟨x5, x6, x7, x8, x9, rfl, g8⟩
      exact q _
end

end My

set_option Elab.async false
set_option linter.all false
set_option maxRecDepth 100000
namespace My
open PySem PySem.Spec PyProof.Rows L2
set_option maxHeartbeats 8000000 in
theorem all_mk {l : PySem.W.OpenLaw} {w : World} {K : PySem.W.Frag} {h : Heap} {mg : Str → Option Value} {fa : Addr} (X : K.In h) (G : h.Ns mainGlobals mg) (hfa : mg "law" = some (.ref fa))
    {f0 : Addr} {od0 an0 : Option Addr} {sl0 : Array (Option Value)} {oc0 kV0 dc0 pm0 cd0 ct0 : Value}
    {f1 : Addr} {od1 an1 : Option Addr} {sl1 : Array (Option Value)} {oc1 kV1 dc1 pm1 cd1 ct1 : Value}
    {f2 : Addr} {od2 an2 : Option Addr} {sl2 : Array (Option Value)} {oc2 kV2 dc2 pm2 cd2 ct2 : Value}
    {f3 : Addr} {od3 an3 : Option Addr} {sl3 : Array (Option Value)} {oc3 kV3 dc3 pm3 cd3 ct3 : Value}
    {f4 : Addr} {od4 an4 : Option Addr} {sl4 : Array (Option Value)} {oc4 kV4 dc4 pm4 cd4 ct4 : Value}
    {f5 : Addr} {od5 an5 : Option Addr} {sl5 : Array (Option Value)} {oc5 kV5 dc5 pm5 cd5 ct5 : Value}
    {f6 : Addr} {od6 an6 : Option Addr} {sl6 : Array (Option Value)} {oc6 kV6 dc6 pm6 cd6 ct6 : Value}
    {f7 : Addr} {od7 an7 : Option Addr} {sl7 : Array (Option Value)} {oc7 kV7 dc7 pm7 cd7 ct7 : Value}
    {f8 : Addr} {od8 an8 : Option Addr} {sl8 : Array (Option Value)} {oc8 kV8 dc8 pm8 cd8 ct8 : Value}
    {f9 : Addr} {od9 an9 : Option Addr} {sl9 : Array (Option Value)} {oc9 kV9 dc9 pm9 cd9 ct9 : Value}
    {f10 : Addr} {od10 an10 : Option Addr} {sl10 : Array (Option Value)} {oc10 kV10 dc10 pm10 cd10 ct10 : Value}
    {f11 : Addr} {od11 an11 : Option Addr} {sl11 : Array (Option Value)} {oc11 kV11 dc11 pm11 cd11 ct11 : Value}
    {f12 : Addr} {od12 an12 : Option Addr} {sl12 : Array (Option Value)} {oc12 kV12 dc12 pm12 cd12 ct12 : Value}
    {f13 : Addr} {od13 an13 : Option Addr} {sl13 : Array (Option Value)} {oc13 kV13 dc13 pm13 cd13 ct13 : Value}
    {f14 : Addr} {od14 an14 : Option Addr} {sl14 : Array (Option Value)} {oc14 kV14 dc14 pm14 cd14 ct14 : Value}
    {f15 : Addr} {od15 an15 : Option Addr} {sl15 : Array (Option Value)} {oc15 kV15 dc15 pm15 cd15 ct15 : Value}
    {f16 : Addr} {od16 an16 : Option Addr} {sl16 : Array (Option Value)} {oc16 kV16 dc16 pm16 cd16 ct16 : Value}
    {f17 : Addr} {od17 an17 : Option Addr} {sl17 : Array (Option Value)} {oc17 kV17 dc17 pm17 cd17 ct17 : Value}
    {f18 : Addr} {od18 an18 : Option Addr} {sl18 : Array (Option Value)} {oc18 kV18 dc18 pm18 cd18 ct18 : Value}
    {f19 : Addr} {od19 an19 : Option Addr} {sl19 : Array (Option Value)} {oc19 kV19 dc19 pm19 cd19 ct19 : Value}
    {f20 : Addr} {od20 an20 : Option Addr} {sl20 : Array (Option Value)} {oc20 kV20 dc20 pm20 cd20 ct20 : Value}
    {f21 : Addr} {od21 an21 : Option Addr} {sl21 : Array (Option Value)} {oc21 kV21 dc21 pm21 cd21 ct21 : Value}
    {f22 : Addr} {od22 an22 : Option Addr} {sl22 : Array (Option Value)} {oc22 kV22 dc22 pm22 cd22 ct22 : Value}
    {f23 : Addr} {od23 an23 : Option Addr} {sl23 : Array (Option Value)} {oc23 kV23 dc23 pm23 cd23 ct23 : Value}
    {f24 : Addr} {od24 an24 : Option Addr} {sl24 : Array (Option Value)} {oc24 kV24 dc24 pm24 cd24 ct24 : Value}
    {f25 : Addr} {od25 an25 : Option Addr} {sl25 : Array (Option Value)} {oc25 kV25 dc25 pm25 cd25 ct25 : Value}
    {f26 : Addr} {od26 an26 : Option Addr} {sl26 : Array (Option Value)} {oc26 kV26 dc26 pm26 cd26 ct26 : Value}
    {f27 : Addr} {od27 an27 : Option Addr} {sl27 : Array (Option Value)} {oc27 kV27 dc27 pm27 cd27 ct27 : Value}
    {f28 : Addr} {od28 an28 : Option Addr} {sl28 : Array (Option Value)} {oc28 kV28 dc28 pm28 cd28 ct28 : Value}
    {f29 : Addr} {od29 an29 : Option Addr} {sl29 : Array (Option Value)} {oc29 kV29 dc29 pm29 cd29 ct29 : Value}
    {f30 : Addr} {od30 an30 : Option Addr} {sl30 : Array (Option Value)} {oc30 kV30 dc30 pm30 cd30 ct30 : Value}
    {f31 : Addr} {od31 an31 : Option Addr} {sl31 : Array (Option Value)} {oc31 kV31 dc31 pm31 cd31 ct31 : Value}
    {f32 : Addr} {od32 an32 : Option Addr} {sl32 : Array (Option Value)} {oc32 kV32 dc32 pm32 cd32 ct32 : Value}
    {f33 : Addr} {od33 an33 : Option Addr} {sl33 : Array (Option Value)} {oc33 kV33 dc33 pm33 cd33 ct33 : Value}
    {f34 : Addr} {od34 an34 : Option Addr} {sl34 : Array (Option Value)} {oc34 kV34 dc34 pm34 cd34 ct34 : Value}
    {f35 : Addr} {od35 an35 : Option Addr} {sl35 : Array (Option Value)} {oc35 kV35 dc35 pm35 cd35 ct35 : Value}
    {f36 : Addr} {od36 an36 : Option Addr} {sl36 : Array (Option Value)} {oc36 kV36 dc36 pm36 cd36 ct36 : Value}
    {f37 : Addr} {od37 an37 : Option Addr} {sl37 : Array (Option Value)} {oc37 kV37 dc37 pm37 cd37 ct37 : Value}
    {f38 : Addr} {od38 an38 : Option Addr} {sl38 : Array (Option Value)} {oc38 kV38 dc38 pm38 cd38 ct38 : Value}
    {f39 : Addr} {od39 an39 : Option Addr} {sl39 : Array (Option Value)} {oc39 kV39 dc39 pm39 cd39 ct39 : Value}
    {f40 : Addr} {od40 an40 : Option Addr} {sl40 : Array (Option Value)} {oc40 kV40 dc40 pm40 cd40 ct40 : Value}
    {f41 : Addr} {od41 an41 : Option Addr} {sl41 : Array (Option Value)} {oc41 kV41 dc41 pm41 cd41 ct41 : Value}
    {f42 : Addr} {od42 an42 : Option Addr} {sl42 : Array (Option Value)} {oc42 kV42 dc42 pm42 cd42 ct42 : Value}
    {f43 : Addr} {od43 an43 : Option Addr} {sl43 : Array (Option Value)} {oc43 kV43 dc43 pm43 cd43 ct43 : Value}
    {f44 : Addr} {od44 an44 : Option Addr} {sl44 : Array (Option Value)} {oc44 kV44 dc44 pm44 cd44 ct44 : Value}
    {C : Addr} (aC : PySem.W.nsIn K mainGlobals "Core" = some (some (.ref C))) (pg : PySem.W.plainGet K C Str.empty = true) (hd : PySem.W.hasDictIn K C = true) (po : PySem.W.plainOver K C = true) (sa : PySem.W.findIn K (.ref C) "__setattr__" = some (some (.builtin "object.__setattr__"))) (mks : PySem.W.makesIn K C = true) (kc : PySem.W.keepIn K (.ref C) = true)
    (n0 : PySem.W.findIn K (.ref C) "width" = some none) (n1 : PySem.W.findIn K (.ref C) "program_code" = some none) (n2 : PySem.W.findIn K (.ref C) "low" = some none) (n3 : PySem.W.findIn K (.ref C) "pc" = some none) (n4 : PySem.W.findIn K (.ref C) "br" = some none) (n5 : PySem.W.findIn K (.ref C) "direction" = some none) (n6 : PySem.W.findIn K (.ref C) "registers" = some none) (n7 : PySem.W.findIn K (.ref C) "memory" = some none)
    (a0 : PySem.W.nsIn K mainGlobals "top" = some (some (.ref f0))) (l0 : K.lookup f0 = some ⟨oc0, od0, .func (PySem.W.fnOf "top" "top" (defArgs s_top) (defBody s_top) (defScope s_top) .none kV0 dc0 pm0 an0 cd0 ct0), sl0⟩) (c0 : PySem.W.codeIn K cd0 "top" = true) (k0 : PySem.W.keepIn K (.ref f0) = true)
    (a1 : PySem.W.nsIn K mainGlobals "shift" = some (some (.ref f1))) (l1 : K.lookup f1 = some ⟨oc1, od1, .func (PySem.W.fnOf "shift" "shift" (defArgs s_shift) (defBody s_shift) (defScope s_shift) .none kV1 dc1 pm1 an1 cd1 ct1), sl1⟩) (c1 : PySem.W.codeIn K cd1 "shift" = true) (k1 : PySem.W.keepIn K (.ref f1) = true)
    (a2 : PySem.W.nsIn K mainGlobals "compute" = some (some (.ref f2))) (l2 : K.lookup f2 = some ⟨oc2, od2, .func (PySem.W.fnOf "compute" "compute" (defArgs s_compute) (defBody s_compute) (defScope s_compute) .none kV2 dc2 pm2 an2 cd2 ct2), sl2⟩) (c2 : PySem.W.codeIn K cd2 "compute" = true) (k2 : PySem.W.keepIn K (.ref f2) = true)
    (a3 : PySem.W.nsIn K mainGlobals "compute_low" = some (some (.ref f3))) (l3 : K.lookup f3 = some ⟨oc3, od3, .func (PySem.W.fnOf "compute_low" "compute_low" (defArgs s_compute_low) (defBody s_compute_low) (defScope s_compute_low) .none kV3 dc3 pm3 an3 cd3 ct3), sl3⟩) (c3 : PySem.W.codeIn K cd3 "compute_low" = true) (k3 : PySem.W.keepIn K (.ref f3) = true)
    (a4 : PySem.W.nsIn K mainGlobals "change_low" = some (some (.ref f4))) (l4 : K.lookup f4 = some ⟨oc4, od4, .func (PySem.W.fnOf "change_low" "change_low" (defArgs s_change_low) (defBody s_change_low) (defScope s_change_low) .none kV4 dc4 pm4 an4 cd4 ct4), sl4⟩) (c4 : PySem.W.codeIn K cd4 "change_low" = true) (k4 : PySem.W.keepIn K (.ref f4) = true)
    (a5 : PySem.W.nsIn K mainGlobals "do_add" = some (some (.ref f5))) (l5 : K.lookup f5 = some ⟨oc5, od5, .func (PySem.W.fnOf "do_add" "do_add" (defArgs s_do_add) (defBody s_do_add) (defScope s_do_add) .none kV5 dc5 pm5 an5 cd5 ct5), sl5⟩) (c5 : PySem.W.codeIn K cd5 "do_add" = true) (k5 : PySem.W.keepIn K (.ref f5) = true)
    (a6 : PySem.W.nsIn K mainGlobals "do_sub" = some (some (.ref f6))) (l6 : K.lookup f6 = some ⟨oc6, od6, .func (PySem.W.fnOf "do_sub" "do_sub" (defArgs s_do_sub) (defBody s_do_sub) (defScope s_do_sub) .none kV6 dc6 pm6 an6 cd6 ct6), sl6⟩) (c6 : PySem.W.codeIn K cd6 "do_sub" = true) (k6 : PySem.W.keepIn K (.ref f6) = true)
    (a7 : PySem.W.nsIn K mainGlobals "do_xor" = some (some (.ref f7))) (l7 : K.lookup f7 = some ⟨oc7, od7, .func (PySem.W.fnOf "do_xor" "do_xor" (defArgs s_do_xor) (defBody s_do_xor) (defScope s_do_xor) .none kV7 dc7 pm7 an7 cd7 ct7), sl7⟩) (c7 : PySem.W.codeIn K cd7 "do_xor" = true) (k7 : PySem.W.keepIn K (.ref f7) = true)
    (a8 : PySem.W.nsIn K mainGlobals "do_addi" = some (some (.ref f8))) (l8 : K.lookup f8 = some ⟨oc8, od8, .func (PySem.W.fnOf "do_addi" "do_addi" (defArgs s_do_addi) (defBody s_do_addi) (defScope s_do_addi) .none kV8 dc8 pm8 an8 cd8 ct8), sl8⟩) (c8 : PySem.W.codeIn K cd8 "do_addi" = true) (k8 : PySem.W.keepIn K (.ref f8) = true)
    (a9 : PySem.W.nsIn K mainGlobals "do_xori" = some (some (.ref f9))) (l9 : K.lookup f9 = some ⟨oc9, od9, .func (PySem.W.fnOf "do_xori" "do_xori" (defArgs s_do_xori) (defBody s_do_xori) (defScope s_do_xori) .none kV9 dc9 pm9 an9 cd9 ct9), sl9⟩) (c9 : PySem.W.codeIn K cd9 "do_xori" = true) (k9 : PySem.W.keepIn K (.ref f9) = true)
    (a10 : PySem.W.nsIn K mainGlobals "do_op" = some (some (.ref f10))) (l10 : K.lookup f10 = some ⟨oc10, od10, .func (PySem.W.fnOf "do_op" "do_op" (defArgs s_do_op) (defBody s_do_op) (defScope s_do_op) .none kV10 dc10 pm10 an10 cd10 ct10), sl10⟩) (c10 : PySem.W.codeIn K cd10 "do_op" = true) (k10 : PySem.W.keepIn K (.ref f10) = true)
    (a11 : PySem.W.nsIn K mainGlobals "do_swap" = some (some (.ref f11))) (l11 : K.lookup f11 = some ⟨oc11, od11, .func (PySem.W.fnOf "do_swap" "do_swap" (defArgs s_do_swap) (defBody s_do_swap) (defScope s_do_swap) .none kV11 dc11 pm11 an11 cd11 ct11), sl11⟩) (c11 : PySem.W.codeIn K cd11 "do_swap" = true) (k11 : PySem.W.keepIn K (.ref f11) = true)
    (a12 : PySem.W.nsIn K mainGlobals "do_exch" = some (some (.ref f12))) (l12 : K.lookup f12 = some ⟨oc12, od12, .func (PySem.W.fnOf "do_exch" "do_exch" (defArgs s_do_exch) (defBody s_do_exch) (defScope s_do_exch) .none kV12 dc12 pm12 an12 cd12 ct12), sl12⟩) (c12 : PySem.W.codeIn K cd12 "do_exch" = true) (k12 : PySem.W.keepIn K (.ref f12) = true)
    (a13 : PySem.W.nsIn K mainGlobals "do_addr" = some (some (.ref f13))) (l13 : K.lookup f13 = some ⟨oc13, od13, .func (PySem.W.fnOf "do_addr" "do_addr" (defArgs s_do_addr) (defBody s_do_addr) (defScope s_do_addr) .none kV13 dc13 pm13 an13 cd13 ct13), sl13⟩) (c13 : PySem.W.codeIn K cd13 "do_addr" = true) (k13 : PySem.W.keepIn K (.ref f13) = true)
    (a14 : PySem.W.nsIn K mainGlobals "do_subr" = some (some (.ref f14))) (l14 : K.lookup f14 = some ⟨oc14, od14, .func (PySem.W.fnOf "do_subr" "do_subr" (defArgs s_do_subr) (defBody s_do_subr) (defScope s_do_subr) .none kV14 dc14 pm14 an14 cd14 ct14), sl14⟩) (c14 : PySem.W.codeIn K cd14 "do_subr" = true) (k14 : PySem.W.keepIn K (.ref f14) = true)
    (a15 : PySem.W.nsIn K mainGlobals "do_addl" = some (some (.ref f15))) (l15 : K.lookup f15 = some ⟨oc15, od15, .func (PySem.W.fnOf "do_addl" "do_addl" (defArgs s_do_addl) (defBody s_do_addl) (defScope s_do_addl) .none kV15 dc15 pm15 an15 cd15 ct15), sl15⟩) (c15 : PySem.W.codeIn K cd15 "do_addl" = true) (k15 : PySem.W.keepIn K (.ref f15) = true)
    (a16 : PySem.W.nsIn K mainGlobals "do_neg" = some (some (.ref f16))) (l16 : K.lookup f16 = some ⟨oc16, od16, .func (PySem.W.fnOf "do_neg" "do_neg" (defArgs s_do_neg) (defBody s_do_neg) (defScope s_do_neg) .none kV16 dc16 pm16 an16 cd16 ct16), sl16⟩) (c16 : PySem.W.codeIn K cd16 "do_neg" = true) (k16 : PySem.W.keepIn K (.ref f16) = true)
    (a17 : PySem.W.nsIn K mainGlobals "do_over" = some (some (.ref f17))) (l17 : K.lookup f17 = some ⟨oc17, od17, .func (PySem.W.fnOf "do_over" "do_over" (defArgs s_do_over) (defBody s_do_over) (defScope s_do_over) .none kV17 dc17 pm17 an17 cd17 ct17), sl17⟩) (c17 : PySem.W.codeIn K cd17 "do_over" = true) (k17 : PySem.W.keepIn K (.ref f17) = true)
    (a18 : PySem.W.nsIn K mainGlobals "do_swapbr" = some (some (.ref f18))) (l18 : K.lookup f18 = some ⟨oc18, od18, .func (PySem.W.fnOf "do_swapbr" "do_swapbr" (defArgs s_do_swapbr) (defBody s_do_swapbr) (defScope s_do_swapbr) .none kV18 dc18 pm18 an18 cd18 ct18), sl18⟩) (c18 : PySem.W.codeIn K cd18 "do_swapbr" = true) (k18 : PySem.W.keepIn K (.ref f18) = true)
    (a19 : PySem.W.nsIn K mainGlobals "do_bra" = some (some (.ref f19))) (l19 : K.lookup f19 = some ⟨oc19, od19, .func (PySem.W.fnOf "do_bra" "do_bra" (defArgs s_do_bra) (defBody s_do_bra) (defScope s_do_bra) .none kV19 dc19 pm19 an19 cd19 ct19), sl19⟩) (c19 : PySem.W.codeIn K cd19 "do_bra" = true) (k19 : PySem.W.keepIn K (.ref f19) = true)
    (a20 : PySem.W.nsIn K mainGlobals "do_rbra" = some (some (.ref f20))) (l20 : K.lookup f20 = some ⟨oc20, od20, .func (PySem.W.fnOf "do_rbra" "do_rbra" (defArgs s_do_rbra) (defBody s_do_rbra) (defScope s_do_rbra) .none kV20 dc20 pm20 an20 cd20 ct20), sl20⟩) (c20 : PySem.W.codeIn K cd20 "do_rbra" = true) (k20 : PySem.W.keepIn K (.ref f20) = true)
    (a21 : PySem.W.nsIn K mainGlobals "do_nothing" = some (some (.ref f21))) (l21 : K.lookup f21 = some ⟨oc21, od21, .func (PySem.W.fnOf "do_nothing" "do_nothing" (defArgs s_do_nothing) (defBody s_do_nothing) (defScope s_do_nothing) .none kV21 dc21 pm21 an21 cd21 ct21), sl21⟩) (c21 : PySem.W.codeIn K cd21 "do_nothing" = true) (k21 : PySem.W.keepIn K (.ref f21) = true)
    (a22 : PySem.W.nsIn K mainGlobals "do_test" = some (some (.ref f22))) (l22 : K.lookup f22 = some ⟨oc22, od22, .func (PySem.W.fnOf "do_test" "do_test" (defArgs s_do_test) (defBody s_do_test) (defScope s_do_test) .none kV22 dc22 pm22 an22 cd22 ct22), sl22⟩) (c22 : PySem.W.codeIn K cd22 "do_test" = true) (k22 : PySem.W.keepIn K (.ref f22) = true)
    (a23 : PySem.W.nsIn K mainGlobals "do_brz" = some (some (.ref f23))) (l23 : K.lookup f23 = some ⟨oc23, od23, .func (PySem.W.fnOf "do_brz" "do_brz" (defArgs s_do_brz) (defBody s_do_brz) (defScope s_do_brz) .none kV23 dc23 pm23 an23 cd23 ct23), sl23⟩) (c23 : PySem.W.codeIn K cd23 "do_brz" = true) (k23 : PySem.W.keepIn K (.ref f23) = true)
    (a24 : PySem.W.nsIn K mainGlobals "do_brn" = some (some (.ref f24))) (l24 : K.lookup f24 = some ⟨oc24, od24, .func (PySem.W.fnOf "do_brn" "do_brn" (defArgs s_do_brn) (defBody s_do_brn) (defScope s_do_brn) .none kV24 dc24 pm24 an24 cd24 ct24), sl24⟩) (c24 : PySem.W.codeIn K cd24 "do_brn" = true) (k24 : PySem.W.keepIn K (.ref f24) = true)
    (a25 : PySem.W.findIn K (.ref C) "__init__" = some (some (.ref f25))) (i25 : PySem.W.isFn K (.ref f25) = true) (l25 : K.lookup f25 = some ⟨oc25, od25, .func (PySem.W.fnOf "__init__" "Core.__init__" (defArgs s_Core___init__) (defBody s_Core___init__) (defScope s_Core___init__) .none kV25 dc25 pm25 an25 cd25 ct25), sl25⟩) (c25 : PySem.W.codeIn K cd25 "Core.__init__" = true) (k25 : PySem.W.keepIn K (.ref f25) = true)
    (a26 : PySem.W.findIn K (.ref C) "state" = some (some (.ref f26))) (i26 : PySem.W.isFn K (.ref f26) = true) (l26 : K.lookup f26 = some ⟨oc26, od26, .func (PySem.W.fnOf "state" "Core.state" (defArgs s_Core_state) (defBody s_Core_state) (defScope s_Core_state) .none kV26 dc26 pm26 an26 cd26 ct26), sl26⟩) (c26 : PySem.W.codeIn K cd26 "Core.state" = true) (k26 : PySem.W.keepIn K (.ref f26) = true)
    (a27 : PySem.W.findIn K (.ref C) "here" = some (some (.ref f27))) (i27 : PySem.W.isFn K (.ref f27) = true) (l27 : K.lookup f27 = some ⟨oc27, od27, .func (PySem.W.fnOf "here" "Core.here" (defArgs s_Core_here) (defBody s_Core_here) (defScope s_Core_here) .none kV27 dc27 pm27 an27 cd27 ct27), sl27⟩) (c27 : PySem.W.codeIn K cd27 "Core.here" = true) (k27 : PySem.W.keepIn K (.ref f27) = true)
    (a28 : PySem.W.findIn K (.ref C) "act" = some (some (.ref f28))) (i28 : PySem.W.isFn K (.ref f28) = true) (l28 : K.lookup f28 = some ⟨oc28, od28, .func (PySem.W.fnOf "act" "Core.act" (defArgs s_Core_act) (defBody s_Core_act) (defScope s_Core_act) .none kV28 dc28 pm28 an28 cd28 ct28), sl28⟩) (c28 : PySem.W.codeIn K cd28 "Core.act" = true) (k28 : PySem.W.keepIn K (.ref f28) = true)
    (a29 : PySem.W.findIn K (.ref C) "forth" = some (some (.ref f29))) (i29 : PySem.W.isFn K (.ref f29) = true) (l29 : K.lookup f29 = some ⟨oc29, od29, .func (PySem.W.fnOf "forth" "Core.forth" (defArgs s_Core_forth) (defBody s_Core_forth) (defScope s_Core_forth) .none kV29 dc29 pm29 an29 cd29 ct29), sl29⟩) (c29 : PySem.W.codeIn K cd29 "Core.forth" = true) (k29 : PySem.W.keepIn K (.ref f29) = true)
    (a30 : PySem.W.findIn K (.ref C) "retrace" = some (some (.ref f30))) (i30 : PySem.W.isFn K (.ref f30) = true) (l30 : K.lookup f30 = some ⟨oc30, od30, .func (PySem.W.fnOf "retrace" "Core.retrace" (defArgs s_Core_retrace) (defBody s_Core_retrace) (defScope s_Core_retrace) .none kV30 dc30 pm30 an30 cd30 ct30), sl30⟩) (c30 : PySem.W.codeIn K cd30 "Core.retrace" = true) (k30 : PySem.W.keepIn K (.ref f30) = true)
    (a31 : PySem.W.nsIn K mainGlobals "step" = some (some (.ref f31))) (l31 : K.lookup f31 = some ⟨oc31, od31, .func (PySem.W.fnOf "step" "step" (defArgs s_step) (defBody s_step) (defScope s_step) .none kV31 dc31 pm31 an31 cd31 ct31), sl31⟩) (c31 : PySem.W.codeIn K cd31 "step" = true) (k31 : PySem.W.keepIn K (.ref f31) = true)
    (a32 : PySem.W.nsIn K mainGlobals "back" = some (some (.ref f32))) (l32 : K.lookup f32 = some ⟨oc32, od32, .func (PySem.W.fnOf "back" "back" (defArgs s_back) (defBody s_back) (defScope s_back) .none kV32 dc32 pm32 an32 cd32 ct32), sl32⟩) (c32 : PySem.W.codeIn K cd32 "back" = true) (k32 : PySem.W.keepIn K (.ref f32) = true)
    (a33 : PySem.W.nsIn K mainGlobals "_law_draw" = some (some (.ref f33))) (l33 : K.lookup f33 = some ⟨oc33, od33, .func (PySem.W.fnOf "_law_draw" "_law_draw" (defArgs s_z_draw) (defBody s_z_draw) (defScope s_z_draw) .none kV33 dc33 pm33 an33 cd33 ct33), sl33⟩) (c33 : PySem.W.codeIn K cd33 "_law_draw" = true) (k33 : PySem.W.keepIn K (.ref f33) = true)
    (a34 : PySem.W.nsIn K mainGlobals "_law_take" = some (some (.ref f34))) (l34 : K.lookup f34 = some ⟨oc34, od34, .func (PySem.W.fnOf "_law_take" "_law_take" (defArgs s_z_take) (defBody s_z_take) (defScope s_z_take) .none kV34 dc34 pm34 an34 cd34 ct34), sl34⟩) (c34 : PySem.W.codeIn K cd34 "_law_take" = true) (k34 : PySem.W.keepIn K (.ref f34) = true)
    (a35 : PySem.W.nsIn K mainGlobals "_law_shapes" = some (some (.ref f35))) (l35 : K.lookup f35 = some ⟨oc35, od35, .func (PySem.W.fnOf "_law_shapes" "_law_shapes" (defArgs s_z_shapes) (defBody s_z_shapes) (defScope s_z_shapes) .none kV35 dc35 pm35 an35 cd35 ct35), sl35⟩) (c35 : PySem.W.codeIn K cd35 "_law_shapes" = true) (k35 : PySem.W.keepIn K (.ref f35) = true)
    (a36 : PySem.W.nsIn K mainGlobals "_law_words" = some (some (.ref f36))) (l36 : K.lookup f36 = some ⟨oc36, od36, .func (PySem.W.fnOf "_law_words" "_law_words" (defArgs s_z_words) (defBody s_z_words) (defScope s_z_words) .none kV36 dc36 pm36 an36 cd36 ct36), sl36⟩) (c36 : PySem.W.codeIn K cd36 "_law_words" = true) (k36 : PySem.W.keepIn K (.ref f36) = true)
    (a37 : PySem.W.nsIn K mainGlobals "_law_number" = some (some (.ref f37))) (l37 : K.lookup f37 = some ⟨oc37, od37, .func (PySem.W.fnOf "_law_number" "_law_number" (defArgs s_z_number) (defBody s_z_number) (defScope s_z_number) .none kV37 dc37 pm37 an37 cd37 ct37), sl37⟩) (c37 : PySem.W.codeIn K cd37 "_law_number" = true) (k37 : PySem.W.keepIn K (.ref f37) = true)
    (a38 : PySem.W.nsIn K mainGlobals "_law_different" = some (some (.ref f38))) (l38 : K.lookup f38 = some ⟨oc38, od38, .func (PySem.W.fnOf "_law_different" "_law_different" (defArgs s_z_different) (defBody s_z_different) (defScope s_z_different) .none kV38 dc38 pm38 an38 cd38 ct38), sl38⟩) (c38 : PySem.W.codeIn K cd38 "_law_different" = true) (k38 : PySem.W.keepIn K (.ref f38) = true)
    (a39 : PySem.W.nsIn K mainGlobals "_law_instruction" = some (some (.ref f39))) (l39 : K.lookup f39 = some ⟨oc39, od39, .func (PySem.W.fnOf "_law_instruction" "_law_instruction" (defArgs s_z_instruction) (defBody s_z_instruction) (defScope s_z_instruction) .none kV39 dc39 pm39 an39 cd39 ct39), sl39⟩) (c39 : PySem.W.codeIn K cd39 "_law_instruction" = true) (k39 : PySem.W.keepIn K (.ref f39) = true)
    (a40 : PySem.W.nsIn K mainGlobals "_law_state" = some (some (.ref f40))) (l40 : K.lookup f40 = some ⟨oc40, od40, .func (PySem.W.fnOf "_law_state" "_law_state" (defArgs s_z_state) (defBody s_z_state) (defScope s_z_state) .none kV40 dc40 pm40 an40 cd40 ct40), sl40⟩) (c40 : PySem.W.codeIn K cd40 "_law_state" = true) (k40 : PySem.W.keepIn K (.ref f40) = true)
    (a41 : PySem.W.nsIn K mainGlobals "_law_result" = some (some (.ref f41))) (l41 : K.lookup f41 = some ⟨oc41, od41, .func (PySem.W.fnOf "_law_result" "_law_result" (defArgs s_z_result) (defBody s_z_result) (defScope s_z_result) .none kV41 dc41 pm41 an41 cd41 ct41), sl41⟩) (c41 : PySem.W.codeIn K cd41 "_law_result" = true) (k41 : PySem.W.keepIn K (.ref f41) = true)
    (a42 : PySem.W.nsIn K mainGlobals "_law_act" = some (some (.ref f42))) (l42 : K.lookup f42 = some ⟨oc42, od42, .func (PySem.W.fnOf "_law_act" "_law_act" (defArgs s_z_act) (defBody s_z_act) (defScope s_z_act) .none kV42 dc42 pm42 an42 cd42 ct42), sl42⟩) (c42 : PySem.W.codeIn K cd42 "_law_act" = true) (k42 : PySem.W.keepIn K (.ref f42) = true)
    (a43 : PySem.W.nsIn K mainGlobals "_law_step" = some (some (.ref f43))) (l43 : K.lookup f43 = some ⟨oc43, od43, .func (PySem.W.fnOf "_law_step" "_law_step" (defArgs s_z_step) (defBody s_z_step) (defScope s_z_step) .none kV43 dc43 pm43 an43 cd43 ct43), sl43⟩) (c43 : PySem.W.codeIn K cd43 "_law_step" = true) (k43 : PySem.W.keepIn K (.ref f43) = true)
    (a44 : PySem.W.nsIn K mainGlobals "law" = some (some (.ref f44))) (l44 : K.lookup f44 = some ⟨oc44, od44, .func (PySem.W.fnOf "law" "law" (defArgs s_law) (defBody s_law) (defScope s_law) .none kV44 dc44 pm44 an44 cd44 ct44), sl44⟩) (c44 : PySem.W.codeIn K cd44 "law" = true) (k44 : PySem.W.keepIn K (.ref f44) = true)
    (z0 : PySem.W.nsIn K mainGlobals "abs" = some none)
    (z1 : PySem.W.nsIn K mainGlobals "int" = some none)
    (z2 : PySem.W.nsIn K mainGlobals "len" = some none)
    (z3 : PySem.W.nsIn K mainGlobals "list" = some none)
    (z4 : PySem.W.nsIn K mainGlobals "min" = some none)
    (z5 : PySem.W.nsIn K mainGlobals "range" = some none)
    (z6 : PySem.W.nsIn K mainGlobals "repr" = some none)
    (z7 : PySem.W.nsIn K mainGlobals "tuple" = some none)
    {gSKIP : Addr} {goSKIP : Option Addr} {giSKIP : Array Value} {gnSKIP : Nat} {gsSKIP : Array (Option Value)} (gaSKIP : PySem.W.nsIn K mainGlobals "SKIP" = some (some (.ref gSKIP))) (glSKIP : K.lookup gSKIP = some ⟨.type "tuple", goSKIP, .seq giSKIP gnSKIP, gsSKIP⟩) (gvSKIP : giSKIP.toList.mapM absV = some [V.str "skip"]) (gzSKIP : giSKIP.size ≤ sizeLine)
    {kW : Tok} (gaWHOLE : PySem.W.nsIn K mainGlobals "WHOLE" = some (some (.int 4294967295 kW)))
    {aA : Addr} {esA : Array DictEntry} {nnA : Nat} (gA : PySem.W.nsIn K mainGlobals "ACTIONS" = some (some (.ref aA))) (lA : K.lookup aA = some { cls := .type "dict", data := .dict esA nnA }) (qA : PySem.W.KeysLit w.params esA.toList)
    (x_add : PySem.W.nsIn K aA "add" = some (some (.ref f5)))
    (x_sub : PySem.W.nsIn K aA "sub" = some (some (.ref f6)))
    (x_xor : PySem.W.nsIn K aA "xor" = some (some (.ref f7)))
    (x_addi : PySem.W.nsIn K aA "addi" = some (some (.ref f8)))
    (x_xori : PySem.W.nsIn K aA "xori" = some (some (.ref f9)))
    (x_and : PySem.W.nsIn K aA "and" = some (some (.ref f10)))
    (x_or : PySem.W.nsIn K aA "or" = some (some (.ref f10)))
    (x_mul : PySem.W.nsIn K aA "mul" = some (some (.ref f10)))
    (x_less : PySem.W.nsIn K aA "less" = some (some (.ref f10)))
    (x_equal : PySem.W.nsIn K aA "equal" = some (some (.ref f10)))
    (x_shl : PySem.W.nsIn K aA "shl" = some (some (.ref f10)))
    (x_shr : PySem.W.nsIn K aA "shr" = some (some (.ref f10)))
    (x_rem : PySem.W.nsIn K aA "rem" = some (some (.ref f10)))
    (x_differ : PySem.W.nsIn K aA "differ" = some (some (.ref f10)))
    (x_test : PySem.W.nsIn K aA "test" = some (some (.ref f22)))
    (x_swap : PySem.W.nsIn K aA "swap" = some (some (.ref f11)))
    (x_exch : PySem.W.nsIn K aA "exch" = some (some (.ref f12)))
    (x_addr : PySem.W.nsIn K aA "addr" = some (some (.ref f13)))
    (x_subr : PySem.W.nsIn K aA "subr" = some (some (.ref f14)))
    (x_addl : PySem.W.nsIn K aA "addl" = some (some (.ref f15)))
    (x_neg : PySem.W.nsIn K aA "neg" = some (some (.ref f16)))
    (x_over : PySem.W.nsIn K aA "over" = some (some (.ref f17)))
    (x_swapbr : PySem.W.nsIn K aA "swapbr" = some (some (.ref f18)))
    (x_bra : PySem.W.nsIn K aA "bra" = some (some (.ref f19)))
    (x_brz : PySem.W.nsIn K aA "brz" = some (some (.ref f23)))
    (x_brn : PySem.W.nsIn K aA "brn" = some (some (.ref f24)))
    (x_rbra : PySem.W.nsIn K aA "rbra" = some (some (.ref f20)))
    (x_skip : PySem.W.nsIn K aA "skip" = some (some (.ref f21)))
    (x_halt : PySem.W.nsIn K aA "halt" = some (some (.ref f21)))
    (x_fail : PySem.W.nsIn K aA "fail" = some (some (.ref f21)))
    : ∃ fd : FuncData, (∀ (s : Shared) (v : Value), BindsTo s fd ⟨[v], []⟩ [("script", v)]) ∧ ∀ base : Heap, K.In base → base.Ns mainGlobals mg → FnTop l.prog w K mg base fa fd ["script"] (spLaw K) := by
  have e := hfa.symm.trans (PySem.W.mg_of X G a44)
  cases e
  have F0 := fun_mk (st := s_top) l0 c0 k0
  have F1 := fun_mk (st := s_shift) l1 c1 k1
  have F2 := fun_mk (st := s_compute) l2 c2 k2
  have F3 := fun_mk (st := s_compute_low) l3 c3 k3
  have F4 := fun_mk (st := s_change_low) l4 c4 k4
  have F5 := fun_mk (st := s_do_add) l5 c5 k5
  have F6 := fun_mk (st := s_do_sub) l6 c6 k6
  have F7 := fun_mk (st := s_do_xor) l7 c7 k7
  have F8 := fun_mk (st := s_do_addi) l8 c8 k8
  have F9 := fun_mk (st := s_do_xori) l9 c9 k9
  have F10 := fun_mk (st := s_do_op) l10 c10 k10
  have F11 := fun_mk (st := s_do_swap) l11 c11 k11
  have F12 := fun_mk (st := s_do_exch) l12 c12 k12
  have F13 := fun_mk (st := s_do_addr) l13 c13 k13
  have F14 := fun_mk (st := s_do_subr) l14 c14 k14
  have F15 := fun_mk (st := s_do_addl) l15 c15 k15
  have F16 := fun_mk (st := s_do_neg) l16 c16 k16
  have F17 := fun_mk (st := s_do_over) l17 c17 k17
  have F18 := fun_mk (st := s_do_swapbr) l18 c18 k18
  have F19 := fun_mk (st := s_do_bra) l19 c19 k19
  have F20 := fun_mk (st := s_do_rbra) l20 c20 k20
  have F21 := fun_mk (st := s_do_nothing) l21 c21 k21
  have F22 := fun_mk (st := s_do_test) l22 c22 k22
  have F23 := fun_mk (st := s_do_brz) l23 c23 k23
  have F24 := fun_mk (st := s_do_brn) l24 c24 k24
  have F25 := fun_mk (st := s_Core___init__) l25 c25 k25
  have F26 := fun_mk (st := s_Core_state) l26 c26 k26
  have F27 := fun_mk (st := s_Core_here) l27 c27 k27
  have F28 := fun_mk (st := s_Core_act) l28 c28 k28
  have F29 := fun_mk (st := s_Core_forth) l29 c29 k29
  have F30 := fun_mk (st := s_Core_retrace) l30 c30 k30
  have F31 := fun_mk (st := s_step) l31 c31 k31
  have F32 := fun_mk (st := s_back) l32 c32 k32
  have F33 := fun_mk (st := s_z_draw) l33 c33 k33
  have F34 := fun_mk (st := s_z_take) l34 c34 k34
  have F35 := fun_mk (st := s_z_shapes) l35 c35 k35
  have F36 := fun_mk (st := s_z_words) l36 c36 k36
  have F37 := fun_mk (st := s_z_number) l37 c37 k37
  have F38 := fun_mk (st := s_z_different) l38 c38 k38
  have F39 := fun_mk (st := s_z_instruction) l39 c39 k39
  have F40 := fun_mk (st := s_z_state) l40 c40 k40
  have F41 := fun_mk (st := s_z_result) l41 c41 k41
  have F42 := fun_mk (st := s_z_act) l42 c42 k42
  have F43 := fun_mk (st := s_z_step) l43 c43 k43
  have F44 := fun_mk (st := s_law) l44 c44 k44
  have b0 := F0.binds (ps := ["w"]) fun _ _ _ _ _ _ us hl => match us, hl with | [_], _ => rfl
  have b1 := F1.binds (ps := ["op", "w", "x", "y"]) fun _ _ _ _ _ _ us hl => match us, hl with | [_, _, _, _], _ => rfl
  have b2 := F2.binds (ps := ["op", "w", "x", "y"]) fun _ _ _ _ _ _ us hl => match us, hl with | [_, _, _, _], _ => rfl
  have b3 := F3.binds (ps := ["op", "width", "x", "y"]) fun _ _ _ _ _ _ us hl => match us, hl with | [_, _, _, _], _ => rfl
  have b4 := F4.binds (ps := ["core", "at", "word"]) fun _ _ _ _ _ _ us hl => match us, hl with | [_, _, _], _ => rfl
  have b5 := F5.binds (ps := ["core", "instruction", "sign"]) fun _ _ _ _ _ _ us hl => match us, hl with | [_, _, _], _ => rfl
  have b6 := F6.binds (ps := ["core", "instruction", "sign"]) fun _ _ _ _ _ _ us hl => match us, hl with | [_, _, _], _ => rfl
  have b7 := F7.binds (ps := ["core", "instruction", "sign"]) fun _ _ _ _ _ _ us hl => match us, hl with | [_, _, _], _ => rfl
  have b8 := F8.binds (ps := ["core", "instruction", "sign"]) fun _ _ _ _ _ _ us hl => match us, hl with | [_, _, _], _ => rfl
  have b9 := F9.binds (ps := ["core", "instruction", "sign"]) fun _ _ _ _ _ _ us hl => match us, hl with | [_, _, _], _ => rfl
  have b10 := F10.binds (ps := ["core", "instruction", "sign"]) fun _ _ _ _ _ _ us hl => match us, hl with | [_, _, _], _ => rfl
  have b11 := F11.binds (ps := ["core", "instruction", "sign"]) fun _ _ _ _ _ _ us hl => match us, hl with | [_, _, _], _ => rfl
  have b12 := F12.binds (ps := ["core", "instruction", "sign"]) fun _ _ _ _ _ _ us hl => match us, hl with | [_, _, _], _ => rfl
  have b13 := F13.binds (ps := ["core", "instruction", "sign"]) fun _ _ _ _ _ _ us hl => match us, hl with | [_, _, _], _ => rfl
  have b14 := F14.binds (ps := ["core", "instruction", "sign"]) fun _ _ _ _ _ _ us hl => match us, hl with | [_, _, _], _ => rfl
  have b15 := F15.binds (ps := ["core", "instruction", "sign"]) fun _ _ _ _ _ _ us hl => match us, hl with | [_, _, _], _ => rfl
  have b16 := F16.binds (ps := ["core", "instruction", "sign"]) fun _ _ _ _ _ _ us hl => match us, hl with | [_, _, _], _ => rfl
  have b17 := F17.binds (ps := ["core", "instruction", "sign"]) fun _ _ _ _ _ _ us hl => match us, hl with | [_, _, _], _ => rfl
  have b18 := F18.binds (ps := ["core", "instruction", "sign"]) fun _ _ _ _ _ _ us hl => match us, hl with | [_, _, _], _ => rfl
  have b19 := F19.binds (ps := ["core", "instruction", "sign"]) fun _ _ _ _ _ _ us hl => match us, hl with | [_, _, _], _ => rfl
  have b20 := F20.binds (ps := ["core", "instruction", "sign"]) fun _ _ _ _ _ _ us hl => match us, hl with | [_, _, _], _ => rfl
  have b21 := F21.binds (ps := ["core", "instruction", "sign"]) fun _ _ _ _ _ _ us hl => match us, hl with | [_, _, _], _ => rfl
  have b22 := F22.binds (ps := ["core", "instruction", "sign"]) fun _ _ _ _ _ _ us hl => match us, hl with | [_, _, _], _ => rfl
  have b23 := F23.binds (ps := ["core", "instruction", "sign"]) fun _ _ _ _ _ _ us hl => match us, hl with | [_, _, _], _ => rfl
  have b24 := F24.binds (ps := ["core", "instruction", "sign"]) fun _ _ _ _ _ _ us hl => match us, hl with | [_, _, _], _ => rfl
  have b25 := F25.binds (ps := ["self", "machine", "state"]) fun _ _ _ _ _ _ us hl => match us, hl with | [_, _, _], _ => rfl
  have b26 := F26.binds (ps := ["self"]) fun _ _ _ _ _ _ us hl => match us, hl with | [_], _ => rfl
  have b27 := F27.binds (ps := ["self"]) fun _ _ _ _ _ _ us hl => match us, hl with | [_], _ => rfl
  have b28 := F28.binds (ps := ["self", "sign"]) fun _ _ _ _ _ _ us hl => match us, hl with | [_, _], _ => rfl
  have b29 := F29.binds (ps := ["self"]) fun _ _ _ _ _ _ us hl => match us, hl with | [_], _ => rfl
  have b30 := F30.binds (ps := ["self"]) fun _ _ _ _ _ _ us hl => match us, hl with | [_], _ => rfl
  have b31 := F31.binds (ps := ["machine", "state"]) fun _ _ _ _ _ _ us hl => match us, hl with | [_, _], _ => rfl
  have b32 := F32.binds (ps := ["machine", "state"]) fun _ _ _ _ _ _ us hl => match us, hl with | [_, _], _ => rfl
  have b33 := F33.binds (ps := ["script"]) fun _ _ _ _ _ _ us hl => match us, hl with | [_], _ => rfl
  have b34 := F34.binds (ps := ["draw", "many"]) fun _ _ _ _ _ _ us hl => match us, hl with | [_, _], _ => rfl
  have b35 := F35.binds (ps := []) fun _ _ _ _ _ _ us hl => match us, hl with | [], _ => rfl
  have b36 := F36.binds (ps := []) fun _ _ _ _ _ _ us hl => match us, hl with | [], _ => rfl
  have b37 := F37.binds (ps := ["draw", "bits"]) fun _ _ _ _ _ _ us hl => match us, hl with | [_, _], _ => rfl
  have b38 := F38.binds (ps := ["draw", "many"]) fun _ _ _ _ _ _ us hl => match us, hl with | [_, _], _ => rfl
  have b39 := F39.binds (ps := ["draw", "width", "near"]) fun _ _ _ _ _ _ us hl => match us, hl with | [_, _, _], _ => rfl
  have b40 := F40.binds (ps := ["draw", "code"]) fun _ _ _ _ _ _ us hl => match us, hl with | [_, _], _ => rfl
  have b41 := F41.binds (ps := ["op", "w", "x", "y"]) fun _ _ _ _ _ _ us hl => match us, hl with | [_, _, _, _], _ => rfl
  have b42 := F42.binds (ps := ["m", "w", "ins", "sign"]) fun _ _ _ _ _ _ us hl => match us, hl with | [_, _, _, _], _ => rfl
  have b43 := F43.binds (ps := ["machine", "state"]) fun _ _ _ _ _ _ us hl => match us, hl with | [_, _], _ => rfl
  let T : Txt K mg := ⟨f0, _, F0, PySem.W.mg_of X G a0, b0, f1, _, F1, PySem.W.mg_of X G a1, b1, f2, _, F2, PySem.W.mg_of X G a2, b2, f3, _, F3, PySem.W.mg_of X G a3, b3, f4, _, F4, PySem.W.mg_of X G a4, b4, f5, _, F5, PySem.W.mg_of X G a5, b5, f6, _, F6, PySem.W.mg_of X G a6, b6, f7, _, F7, PySem.W.mg_of X G a7, b7, f8, _, F8, PySem.W.mg_of X G a8, b8, f9, _, F9, PySem.W.mg_of X G a9, b9, f10, _, F10, PySem.W.mg_of X G a10, b10, f11, _, F11, PySem.W.mg_of X G a11, b11, f12, _, F12, PySem.W.mg_of X G a12, b12, f13, _, F13, PySem.W.mg_of X G a13, b13, f14, _, F14, PySem.W.mg_of X G a14, b14, f15, _, F15, PySem.W.mg_of X G a15, b15, f16, _, F16, PySem.W.mg_of X G a16, b16, f17, _, F17, PySem.W.mg_of X G a17, b17, f18, _, F18, PySem.W.mg_of X G a18, b18, f19, _, F19, PySem.W.mg_of X G a19, b19, f20, _, F20, PySem.W.mg_of X G a20, b20, f21, _, F21, PySem.W.mg_of X G a21, b21, f22, _, F22, PySem.W.mg_of X G a22, b22, f23, _, F23, PySem.W.mg_of X G a23, b23, f24, _, F24, PySem.W.mg_of X G a24, b24, f31, _, F31, PySem.W.mg_of X G a31, b31, f32, _, F32, PySem.W.mg_of X G a32, b32, f33, _, F33, PySem.W.mg_of X G a33, b33, f34, _, F34, PySem.W.mg_of X G a34, b34, f35, _, F35, PySem.W.mg_of X G a35, b35, f36, _, F36, PySem.W.mg_of X G a36, b36, f37, _, F37, PySem.W.mg_of X G a37, b37, f38, _, F38, PySem.W.mg_of X G a38, b38, f39, _, F39, PySem.W.mg_of X G a39, b39, f40, _, F40, PySem.W.mg_of X G a40, b40, f41, _, F41, PySem.W.mg_of X G a41, b41, f42, _, F42, PySem.W.mg_of X G a42, b42, f43, _, F43, PySem.W.mg_of X G a43, b43, fa, _, F44, PySem.W.mg_of X G a44, PySem.W.mg_none_of X G z0, PySem.W.mg_none_of X G z1, PySem.W.mg_none_of X G z2, PySem.W.mg_none_of X G z3, PySem.W.mg_none_of X G z4, PySem.W.mg_none_of X G z5, PySem.W.mg_none_of X G z6, PySem.W.mg_none_of X G z7, gSKIP, PySem.W.mg_of X G gaSKIP, fun H => sqT_k glSKIP gvSKIP gzSKIP, kW, PySem.W.mg_of X G gaWHOLE⟩
  have TC : TxC K C := ⟨⟨pg, hd, po, sa⟩, n0, n1, n2, n3, n4, n5, n6, n7⟩
  let TM : TxM K mg C := ⟨f25, _, F25, b25, ⟨mks, a25, i25, kc⟩, PySem.W.mg_of X G aC, f26, _, F26, b26, ⟨a26, i26, k26⟩, f27, _, F27, b27, ⟨a27, i27, k27⟩, f28, _, F28, b28, ⟨a28, i28, k28⟩, f29, _, F29, b29, ⟨a29, i29, k29⟩, f30, _, F30, b30, ⟨a30, i30, k30⟩⟩
  let TA : TxA K mg w T := ⟨aA, PySem.W.mg_of X G gA, ⟨esA, nnA, .ref f5, lA, qA, x_add, rfl⟩, ⟨esA, nnA, .ref f6, lA, qA, x_sub, rfl⟩, ⟨esA, nnA, .ref f7, lA, qA, x_xor, rfl⟩, ⟨esA, nnA, .ref f8, lA, qA, x_addi, rfl⟩, ⟨esA, nnA, .ref f9, lA, qA, x_xori, rfl⟩, ⟨esA, nnA, .ref f10, lA, qA, x_and, rfl⟩, ⟨esA, nnA, .ref f10, lA, qA, x_or, rfl⟩, ⟨esA, nnA, .ref f10, lA, qA, x_mul, rfl⟩, ⟨esA, nnA, .ref f10, lA, qA, x_less, rfl⟩, ⟨esA, nnA, .ref f10, lA, qA, x_equal, rfl⟩, ⟨esA, nnA, .ref f10, lA, qA, x_shl, rfl⟩, ⟨esA, nnA, .ref f10, lA, qA, x_shr, rfl⟩, ⟨esA, nnA, .ref f10, lA, qA, x_rem, rfl⟩, ⟨esA, nnA, .ref f10, lA, qA, x_differ, rfl⟩, ⟨esA, nnA, .ref f22, lA, qA, x_test, rfl⟩, ⟨esA, nnA, .ref f11, lA, qA, x_swap, rfl⟩, ⟨esA, nnA, .ref f12, lA, qA, x_exch, rfl⟩, ⟨esA, nnA, .ref f13, lA, qA, x_addr, rfl⟩, ⟨esA, nnA, .ref f14, lA, qA, x_subr, rfl⟩, ⟨esA, nnA, .ref f15, lA, qA, x_addl, rfl⟩, ⟨esA, nnA, .ref f16, lA, qA, x_neg, rfl⟩, ⟨esA, nnA, .ref f17, lA, qA, x_over, rfl⟩, ⟨esA, nnA, .ref f18, lA, qA, x_swapbr, rfl⟩, ⟨esA, nnA, .ref f19, lA, qA, x_bra, rfl⟩, ⟨esA, nnA, .ref f23, lA, qA, x_brz, rfl⟩, ⟨esA, nnA, .ref f24, lA, qA, x_brn, rfl⟩, ⟨esA, nnA, .ref f20, lA, qA, x_rbra, rfl⟩, ⟨esA, nnA, .ref f21, lA, qA, x_skip, rfl⟩, ⟨esA, nnA, .ref f21, lA, qA, x_halt, rfl⟩, ⟨esA, nnA, .ref f21, lA, qA, x_fail, rfl⟩⟩
  exact ⟨PySem.W.fnOf "law" "law" (defArgs s_law) (defBody s_law) (defScope s_law) .none kV44 dc44 pm44 an44 cd44 ct44, fun s v => .of_eq rfl, fun base _ _ => ok_law T TC TM TA⟩
end My
open PySem PySem.W PyProof.Rows
set_option maxRecDepth 100000 in
set_option maxHeartbeats 0 in
theorem PySem.Challenge.cw_backrun_k20_steps_and_steps_back_holds : PySem.Challenge.rw_backrun_k20_steps_and_steps_back.Holds := by
  w_on; o_law; k_head; (case hw => w_witness2)
  k_fill
  refine My.walk_top (l := PySem.Challenge.rw_backrun_k20_steps_and_steps_back) (n := 63) (x := "script") (sp := fun w => My.spLaw _) rfl (by decide) rfl (fun w h Y => PySem.W.kIn_of Y) ?F (fun _ _ a ns hl _ hS => ⟨a, ns, rfl, hS, hl, fun _ => rfl⟩)
  case F =>
    intro w mg fa h KX G hmg
    refine' My.all_mk KX G hmg ?aC ?pg ?hd ?po ?sa ?mks ?kc ?n0 ?n1 ?n2 ?n3 ?n4 ?n5 ?n6 ?n7 ?a0 ?l0 ?c0 ?k0 ?a1 ?l1 ?c1 ?k1 ?a2 ?l2 ?c2 ?k2 ?a3 ?l3 ?c3 ?k3 ?a4 ?l4 ?c4 ?k4 ?a5 ?l5 ?c5 ?k5 ?a6 ?l6 ?c6 ?k6 ?a7 ?l7 ?c7 ?k7 ?a8 ?l8 ?c8 ?k8 ?a9 ?l9 ?c9 ?k9 ?a10 ?l10 ?c10 ?k10 ?a11 ?l11 ?c11 ?k11 ?a12 ?l12 ?c12 ?k12 ?a13 ?l13 ?c13 ?k13 ?a14 ?l14 ?c14 ?k14 ?a15 ?l15 ?c15 ?k15 ?a16 ?l16 ?c16 ?k16 ?a17 ?l17 ?c17 ?k17 ?a18 ?l18 ?c18 ?k18 ?a19 ?l19 ?c19 ?k19 ?a20 ?l20 ?c20 ?k20 ?a21 ?l21 ?c21 ?k21 ?a22 ?l22 ?c22 ?k22 ?a23 ?l23 ?c23 ?k23 ?a24 ?l24 ?c24 ?k24 ?a25 ?i25 ?l25 ?c25 ?k25 ?a26 ?i26 ?l26 ?c26 ?k26 ?a27 ?i27 ?l27 ?c27 ?k27 ?a28 ?i28 ?l28 ?c28 ?k28 ?a29 ?i29 ?l29 ?c29 ?k29 ?a30 ?i30 ?l30 ?c30 ?k30 ?a31 ?l31 ?c31 ?k31 ?a32 ?l32 ?c32 ?k32 ?a33 ?l33 ?c33 ?k33 ?a34 ?l34 ?c34 ?k34 ?a35 ?l35 ?c35 ?k35 ?a36 ?l36 ?c36 ?k36 ?a37 ?l37 ?c37 ?k37 ?a38 ?l38 ?c38 ?k38 ?a39 ?l39 ?c39 ?k39 ?a40 ?l40 ?c40 ?k40 ?a41 ?l41 ?c41 ?k41 ?a42 ?l42 ?c42 ?k42 ?a43 ?l43 ?c43 ?k43 ?a44 ?l44 ?c44 ?k44 ?z0 ?z1 ?z2 ?z3 ?z4 ?z5 ?z6 ?z7 ?gaSKIP ?glSKIP ?gvSKIP ?gzSKIP ?gaWHOLE ?gA ?lA ?qA ?x_add ?x_sub ?x_xor ?x_addi ?x_xori ?x_and ?x_or ?x_mul ?x_less ?x_equal ?x_shl ?x_shr ?x_rem ?x_differ ?x_test ?x_swap ?x_exch ?x_addr ?x_subr ?x_addl ?x_neg ?x_over ?x_swapbr ?x_bra ?x_brz ?x_brn ?x_rbra ?x_skip ?x_halt ?x_fail
    (case aC => k_is)
    (case pg => k_is)
    (case hd => k_is)
    (case po => k_is)
    (case sa => k_is)
    (case mks => k_is)
    (case kc => k_is)
    (case n0 => k_is)
    (case n1 => k_is)
    (case n2 => k_is)
    (case n3 => k_is)
    (case n4 => k_is)
    (case n5 => k_is)
    (case n6 => k_is)
    (case n7 => k_is)
    (case a0 => k_is)
    (case l0 => k_is)
    (case c0 => k_is)
    (case k0 => k_is)
    (case a1 => k_is)
    (case l1 => k_is)
    (case c1 => k_is)
    (case k1 => k_is)
    (case a2 => k_is)
    (case l2 => k_is)
    (case c2 => k_is)
    (case k2 => k_is)
    (case a3 => k_is)
    (case l3 => k_is)
    (case c3 => k_is)
    (case k3 => k_is)
    (case a4 => k_is)
    (case l4 => k_is)
    (case c4 => k_is)
    (case k4 => k_is)
    (case a5 => k_is)
    (case l5 => k_is)
    (case c5 => k_is)
    (case k5 => k_is)
    (case a6 => k_is)
    (case l6 => k_is)
    (case c6 => k_is)
    (case k6 => k_is)
    (case a7 => k_is)
    (case l7 => k_is)
    (case c7 => k_is)
    (case k7 => k_is)
    (case a8 => k_is)
    (case l8 => k_is)
    (case c8 => k_is)
    (case k8 => k_is)
    (case a9 => k_is)
    (case l9 => k_is)
    (case c9 => k_is)
    (case k9 => k_is)
    (case a10 => k_is)
    (case l10 => k_is)
    (case c10 => k_is)
    (case k10 => k_is)
    (case a11 => k_is)
    (case l11 => k_is)
    (case c11 => k_is)
    (case k11 => k_is)
    (case a12 => k_is)
    (case l12 => k_is)
    (case c12 => k_is)
    (case k12 => k_is)
    (case a13 => k_is)
    (case l13 => k_is)
    (case c13 => k_is)
    (case k13 => k_is)
    (case a14 => k_is)
    (case l14 => k_is)
    (case c14 => k_is)
    (case k14 => k_is)
    (case a15 => k_is)
    (case l15 => k_is)
    (case c15 => k_is)
    (case k15 => k_is)
    (case a16 => k_is)
    (case l16 => k_is)
    (case c16 => k_is)
    (case k16 => k_is)
    (case a17 => k_is)
    (case l17 => k_is)
    (case c17 => k_is)
    (case k17 => k_is)
    (case a18 => k_is)
    (case l18 => k_is)
    (case c18 => k_is)
    (case k18 => k_is)
    (case a19 => k_is)
    (case l19 => k_is)
    (case c19 => k_is)
    (case k19 => k_is)
    (case a20 => k_is)
    (case l20 => k_is)
    (case c20 => k_is)
    (case k20 => k_is)
    (case a21 => k_is)
    (case l21 => k_is)
    (case c21 => k_is)
    (case k21 => k_is)
    (case a22 => k_is)
    (case l22 => k_is)
    (case c22 => k_is)
    (case k22 => k_is)
    (case a23 => k_is)
    (case l23 => k_is)
    (case c23 => k_is)
    (case k23 => k_is)
    (case a24 => k_is)
    (case l24 => k_is)
    (case c24 => k_is)
    (case k24 => k_is)
    (case a25 => k_is)
    (case i25 => k_is)
    (case l25 => k_is)
    (case c25 => k_is)
    (case k25 => k_is)
    (case a26 => k_is)
    (case i26 => k_is)
    (case l26 => k_is)
    (case c26 => k_is)
    (case k26 => k_is)
    (case a27 => k_is)
    (case i27 => k_is)
    (case l27 => k_is)
    (case c27 => k_is)
    (case k27 => k_is)
    (case a28 => k_is)
    (case i28 => k_is)
    (case l28 => k_is)
    (case c28 => k_is)
    (case k28 => k_is)
    (case a29 => k_is)
    (case i29 => k_is)
    (case l29 => k_is)
    (case c29 => k_is)
    (case k29 => k_is)
    (case a30 => k_is)
    (case i30 => k_is)
    (case l30 => k_is)
    (case c30 => k_is)
    (case k30 => k_is)
    (case a31 => k_is)
    (case l31 => k_is)
    (case c31 => k_is)
    (case k31 => k_is)
    (case a32 => k_is)
    (case l32 => k_is)
    (case c32 => k_is)
    (case k32 => k_is)
    (case a33 => k_is)
    (case l33 => k_is)
    (case c33 => k_is)
    (case k33 => k_is)
    (case a34 => k_is)
    (case l34 => k_is)
    (case c34 => k_is)
    (case k34 => k_is)
    (case a35 => k_is)
    (case l35 => k_is)
    (case c35 => k_is)
    (case k35 => k_is)
    (case a36 => k_is)
    (case l36 => k_is)
    (case c36 => k_is)
    (case k36 => k_is)
    (case a37 => k_is)
    (case l37 => k_is)
    (case c37 => k_is)
    (case k37 => k_is)
    (case a38 => k_is)
    (case l38 => k_is)
    (case c38 => k_is)
    (case k38 => k_is)
    (case a39 => k_is)
    (case l39 => k_is)
    (case c39 => k_is)
    (case k39 => k_is)
    (case a40 => k_is)
    (case l40 => k_is)
    (case c40 => k_is)
    (case k40 => k_is)
    (case a41 => k_is)
    (case l41 => k_is)
    (case c41 => k_is)
    (case k41 => k_is)
    (case a42 => k_is)
    (case l42 => k_is)
    (case c42 => k_is)
    (case k42 => k_is)
    (case a43 => k_is)
    (case l43 => k_is)
    (case c43 => k_is)
    (case k43 => k_is)
    (case a44 => k_is)
    (case l44 => k_is)
    (case c44 => k_is)
    (case k44 => k_is)
    (case z0 => k_is)
    (case z1 => k_is)
    (case z2 => k_is)
    (case z3 => k_is)
    (case z4 => k_is)
    (case z5 => k_is)
    (case z6 => k_is)
    (case z7 => k_is)
    (case gaSKIP => k_is)
    (case glSKIP => k_is)
    (case gvSKIP => rfl)
    (case gzSKIP => decide)
    (case gaWHOLE => k_is)
    (case gA => k_is)
    (case lA => k_is)
    (case qA => (repeat' first | exact trivial | refine ⟨⟨_, _, rfl, rfl⟩, ?_⟩))
    (case x_add => k_is)
    (case x_sub => k_is)
    (case x_xor => k_is)
    (case x_addi => k_is)
    (case x_xori => k_is)
    (case x_and => k_is)
    (case x_or => k_is)
    (case x_mul => k_is)
    (case x_less => k_is)
    (case x_equal => k_is)
    (case x_shl => k_is)
    (case x_shr => k_is)
    (case x_rem => k_is)
    (case x_differ => k_is)
    (case x_test => k_is)
    (case x_swap => k_is)
    (case x_exch => k_is)
    (case x_addr => k_is)
    (case x_subr => k_is)
    (case x_addl => k_is)
    (case x_neg => k_is)
    (case x_over => k_is)
    (case x_swapbr => k_is)
    (case x_bra => k_is)
    (case x_brz => k_is)
    (case x_brn => k_is)
    (case x_rbra => k_is)
    (case x_skip => k_is)
    (case x_halt => k_is)
    (case x_fail => k_is)

