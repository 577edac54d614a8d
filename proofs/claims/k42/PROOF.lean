import PyProof.Rows.All
import Wide.All
import OpenK.AllK
import Wide.FinOn
import HandS.ForMost
import HandS.Wide
import HandS.IsInst
import KE.KBits
import KE.OsArith
import HandS.AnyAll
import HandS.GenOver
import HandS.GenList
import HandS.Nested
import PyProof.GenQ
import HandS.TupAny
import HandS.TupMul
import HandS.Zip
import HandS.Style
import HandS.EndTab
import KE.KNestM
import HandS.Walk
import KE.GoesEnum
import HandS.Zip0
import KE.KDictZip
import HandS.ListItems
import HandS.SortRule
import KE.KDictItemsList
import HandS.Conv
import HandS.SortInts
import HandS.SetKeys
import PySem.Challenge.RW_backrun_k42_adders_and_comparisons
set_option Elab.async false
set_option linter.all false
set_option maxRecDepth 100000
/-! what serves every law: cuts, heaps that change at one place, the law's own draw -/
namespace My
open PySem PySem.Spec PyProof.Rows L2
/-! ### cuts -/
section
variable {X : Cx}
theorem ps_cut {st : Stmt} {t : TS} (h : PS X st t) : PS X st (fun D σ H => ∃ J : L2.St → Hp → Prop, t { D with nx := J } σ H ∧ ∀ σ' H', J σ' H' → D.nx σ' H') := by
  refine ⟨fun pins s σ H D I hh => ?_⟩
  obtain ⟨J, h1, h2⟩ := hh
  refine thn (h.run pins s σ H _ I h1) fun f s' z => ?_
  cases f with
  | next => obtain ⟨σ', H', I', j⟩ := z; exact ⟨σ', H', I', h2 σ' H' j⟩
  | brk => exact z
  | cont => exact z
  | ret v => exact z
theorem pe_cut {e : Expr} {t : TE} (h : PE X e t) : PE X e (fun σ H Q => ∃ J : V → Hp → Prop, t σ H J ∧ ∀ v H', J v H' → Q v H') := by
  refine ⟨fun pins s σ H Q I hh => ?_⟩
  obtain ⟨J, h1, h2⟩ := hh
  refine thn (h.run pins s σ H _ I h1) fun u s' ⟨v, H', I', r, j⟩ => ⟨v, H', I', r, h2 v H' j⟩
theorem pt_cut {e : Expr} {t : TT} (h : PT X e t) : PT X e (fun σ H Q => ∃ J : Bool → Hp → Prop, t σ H J ∧ ∀ b H', J b H' → Q b H') := by
  refine ⟨fun pins s σ H Q I hh => ?_⟩
  obtain ⟨J, h1, h2⟩ := hh
  refine thn (h.run pins s σ H _ I h1) fun u s' ⟨H', I', j⟩ => ⟨H', I', h2 u H' j⟩
end
/-! ### heaps -/
theorem same_upd {H : Hp} {p : Addr} {o : HO} (h : H p = none) : Same H (upd H p o) := fun b x e => by
  rw [upd_ne (ne_of_none e h)]
  exact e
/-- all but what stands at p stays -/
def KeepBut (p : Addr) (H H' : Hp) : Prop := ∀ b o, b ≠ p → H b = some o → H' b = some o
theorem KeepBut.refl (p : Addr) (H : Hp) : KeepBut p H H := fun _ _ _ e => e
theorem KeepBut.trans {p : Addr} {H H1 H2 : Hp} (a : KeepBut p H H1) (b : KeepBut p H1 H2) : KeepBut p H H2 := fun c o n e => b c o n (a c o n e)
theorem KeepBut.put (p : Addr) (H : Hp) (o : HO) : KeepBut p H (upd H p o) := fun b x n e => by
  rw [upd_ne n]
  exact e
theorem KeepBut.same {p : Addr} {H H1 : Hp} (a : Same H H1) : KeepBut p H H1 := fun c o _ e => a c o e
theorem KeepBut.new {p q : Addr} {H H1 : Hp} {o : HO} (a : KeepBut p H H1) (h : H1 q = none) : KeepBut p H (upd H1 q o) := a.trans (.same (same_upd h))
/-! ### the law's draw: [cells, place, rest, seed] -/
structure DrawIs (H : Hp) (p c : Addr) (cells : List Int) (pos rest seed : Int) : Prop where
  hp : H p = some (.lst [.ref c, .int pos, .int rest, .int seed])
  hc : H c = some (.lst (cells.map V.int))
  nn : ∀ x ∈ cells, 0 ≤ x
  po : -1 ≤ pos
  re : 0 ≤ rest
  s0 : 0 ≤ seed
  s1 : seed < 2147483647
def DrawAt (H : Hp) (p : Addr) : Prop := ∃ c cells pos rest seed, DrawIs H p c cells pos rest seed
theorem DrawIs.ne {H : Hp} {p c : Addr} {cells : List Int} {pos rest seed : Int} (D : DrawIs H p c cells pos rest seed) : c ≠ p := ne_of D.hc D.hp (by
  intro z
  cases cells with
  | nil => cases z
  | cons x r => cases z)
theorem DrawIs.put {H : Hp} {p c : Addr} {cells : List Int} {pos rest seed pos' rest' seed' : Int} (D : DrawIs H p c cells pos rest seed) (h1 : -1 ≤ pos') (h2 : 0 ≤ rest') (h3 : 0 ≤ seed') (h4 : seed' < 2147483647) :
    DrawIs (upd H p (.lst [.ref c, .int pos', .int rest', .int seed'])) p c cells pos' rest' seed' :=
  ⟨upd_same, by rw [upd_ne D.ne]; exact D.hc, D.nn, h1, h2, h3, h4⟩
theorem DrawIs.keep {H H' : Hp} {p c : Addr} {cells : List Int} {pos rest seed : Int} (D : DrawIs H p c cells pos rest seed) (k : Same H H') : DrawIs H' p c cells pos rest seed :=
  ⟨k _ _ D.hp, k _ _ D.hc, D.nn, D.po, D.re, D.s0, D.s1⟩
theorem DrawAt.keep {H H' : Hp} {p : Addr} (D : DrawAt H p) (k : Same H H') : DrawAt H' p := by
  obtain ⟨c, cells, pos, rest, seed, d⟩ := D
  exact ⟨c, cells, pos, rest, seed, d.keep k⟩
theorem DrawAt.some {H : Hp} {p : Addr} (D : DrawAt H p) : ∃ o, H p = some o := by
  obtain ⟨c, cells, pos, rest, seed, d⟩ := D
  exact ⟨_, d.hp⟩
theorem DrawAt.upd {H : Hp} {p q : Addr} {o : HO} (D : DrawAt H p) (h : H q = none) : DrawAt (upd H q o) p := D.keep (same_upd h)
/-! ### numbers -/
theorem int_nat {i : Int} (h : 0 ≤ i) : ∃ n : Nat, i = (n : Int) := ⟨i.toNat, by omega⟩
theorem fmod_lo {a b : Int} (h : 0 < b) : 0 ≤ a.fmod b := Int.fmod_nonneg_of_pos a h
theorem fmod_hi {a b : Int} (h : 0 < b) : a.fmod b < b := Int.fmod_lt_of_pos a h
theorem fmod_e {a b : Int} (h : 0 < b) : a.fmod b = a % b := Int.fmod_eq_emod_of_nonneg a (by omega)
theorem div_lo {a b : Int} (h : 0 ≤ a) (hb : 0 < b) : 0 ≤ a / b := Int.ediv_nonneg h (by omega)
end My
namespace My
open PySem PySem.Spec PyProof.Rows L2
/-! ### a written tuple of the top -/
theorem rel_abs : ∀ {u : Value} {x : V}, absV u = some x → RelV x u
  | .none, _, h => by cases h; rfl
  | .bool _, _, h => by cases h; rfl
  | .int _ t, _, h => by cases h; exact ⟨t, rfl⟩
  | .str _ t, _, h => by cases h; exact ⟨t, rfl⟩
  | .bytes _ t, _, h => by cases h; exact ⟨t, rfl⟩
  | .float _ t, _, h => by cases h; exact ⟨t, rfl⟩
  | .ref _, _, h => by cases h; rfl
  | .type _, _, h => by cases h; rfl
theorem vals_abs : ∀ {us : List Value} {xs : List V}, us.mapM absV = some xs → Vals xs us
  | [], xs, h => by
    cases h
    exact .nil
  | u :: us, xs, h => by
    rw [List.mapM_cons] at h
    cases e : absV u with
    | none => rw [e] at h; cases h
    | some x =>
      rw [e] at h
      cases e2 : us.mapM absV with
      | none => rw [e2] at h; cases h
      | some ys =>
        rw [e2] at h
        cases h
        exact .cons (rel_abs e) (vals_abs e2)
theorem sqT_k {K : PySem.W.Frag} {H : Hp} {a : Addr} {d : Option Addr} {its : Array Value} {n : Nat} {sl : Array (Option Value)} {xs : List V} (l : K.lookup a = some ⟨.type "tuple", d, .seq its n, sl⟩) (h : its.toList.mapM absV = some xs) (z : its.size ≤ sizeLine) : SqT K H a xs :=
  .inr ⟨_, its, n, l, rfl, rfl, z, vals_abs h⟩
end My

set_option Elab.async false
set_option linter.all false
/-! words: the ten ops by bits and by whole numbers -/
namespace My
open PySem PySem.Spec PyProof.Rows L2
theorem bit_and (a b k : Nat) : (a &&& b) / 2 ^ k % 2 = if a / 2 ^ k % 2 + b / 2 ^ k % 2 = 2 then 1 else 0 := by
  have h := Nat.testBit_and a b k
  rw [Nat.testBit_eq_decide_div_mod_eq, Nat.testBit_eq_decide_div_mod_eq, Nat.testBit_eq_decide_div_mod_eq] at h
  have h1 := Nat.mod_lt (a / 2 ^ k) (show 2 > 0 by decide)
  have h2 := Nat.mod_lt (b / 2 ^ k) (show 2 > 0 by decide)
  have h3 := Nat.mod_lt ((a &&& b) / 2 ^ k) (show 2 > 0 by decide)
  have h4 : ((a &&& b) / 2 ^ k % 2 = 1) ↔ (a / 2 ^ k % 2 = 1 ∧ b / 2 ^ k % 2 = 1) := by
    rw [← decide_eq_true_iff (p := (a &&& b) / 2 ^ k % 2 = 1), h, Bool.and_eq_true, decide_eq_true_iff, decide_eq_true_iff]
  split <;> omega
theorem bit_or (a b k : Nat) : (a ||| b) / 2 ^ k % 2 = if 0 < a / 2 ^ k % 2 + b / 2 ^ k % 2 then 1 else 0 := by
  have h := Nat.testBit_or a b k
  rw [Nat.testBit_eq_decide_div_mod_eq, Nat.testBit_eq_decide_div_mod_eq, Nat.testBit_eq_decide_div_mod_eq] at h
  have h1 := Nat.mod_lt (a / 2 ^ k) (show 2 > 0 by decide)
  have h2 := Nat.mod_lt (b / 2 ^ k) (show 2 > 0 by decide)
  have h3 := Nat.mod_lt ((a ||| b) / 2 ^ k) (show 2 > 0 by decide)
  have h4 : ((a ||| b) / 2 ^ k % 2 = 1) ↔ (a / 2 ^ k % 2 = 1 ∨ b / 2 ^ k % 2 = 1) := by
    rw [← decide_eq_true_iff (p := (a ||| b) / 2 ^ k % 2 = 1), h, Bool.or_eq_true, decide_eq_true_iff, decide_eq_true_iff]
  split <;> omega
theorem bit_xor (a b k : Nat) : (a ^^^ b) / 2 ^ k % 2 = if a / 2 ^ k % 2 + b / 2 ^ k % 2 = 1 then 1 else 0 := by
  have h := Nat.testBit_xor (x := a) (y := b) (i := k)
  rw [Nat.testBit_eq_decide_div_mod_eq, Nat.testBit_eq_decide_div_mod_eq, Nat.testBit_eq_decide_div_mod_eq] at h
  have h1 := Nat.mod_lt (a / 2 ^ k) (show 2 > 0 by decide)
  have h2 := Nat.mod_lt (b / 2 ^ k) (show 2 > 0 by decide)
  have h3 := Nat.mod_lt ((a ^^^ b) / 2 ^ k) (show 2 > 0 by decide)
  by_cases c1 : a / 2 ^ k % 2 = 1 <;> by_cases c2 : b / 2 ^ k % 2 = 1 <;> by_cases c3 : (a ^^^ b) / 2 ^ k % 2 = 1 <;> simp [c1, c2, c3] at h ⊢ <;> first | omega | (split <;> omega)
/-- and, or, xor of two numbers by their name -/
def bitF (op : Str) (a b : Nat) : Nat := if op = "and" then a &&& b else if op = "or" then a ||| b else a ^^^ b
/-- does the bit count -/
def bitC (op : Str) (both : Int) : Bool := if op = "and" then decide (both = 2) else if op = "or" then decide (0 < both) else decide (both = 1)
theorem bitF_step (op : Str) (a b k : Nat) : ((bitF op a b % 2 ^ (k + 1) : Nat) : Int) = ((bitF op a b % 2 ^ k : Nat) : Int) + (if bitC op (((a / 2 ^ k % 2 : Nat) : Int) + ((b / 2 ^ k % 2 : Nat) : Int)) = true then (2 : Int) ^ k else 0) := by
  have e : bitF op a b / 2 ^ k % 2 = if bitC op (((a / 2 ^ k % 2 : Nat) : Int) + ((b / 2 ^ k % 2 : Nat) : Int)) = true then 1 else 0 := by
    unfold bitF bitC
    by_cases c1 : op = "and"
    · rw [if_pos c1, if_pos c1, bit_and]
      simp only [decide_eq_true_eq]
      split <;> split <;> omega
    · rw [if_neg c1, if_neg c1]
      by_cases c2 : op = "or"
      · rw [if_pos c2, if_pos c2, bit_or]
        simp only [decide_eq_true_eq]
        split <;> split <;> omega
      · rw [if_neg c2, if_neg c2, bit_xor]
        simp only [decide_eq_true_eq]
        split <;> split <;> omega
  rw [Nat.mod_pow_succ, e]
  have hk : ((2 ^ k : Nat) : Int) = (2 : Int) ^ k := PySem.W.kbt_cast k
  split
  · rw [Nat.mul_one]; omega
  · rw [Nat.mul_zero]; omega
theorem bitF_lt (op : Str) {a b n : Nat} (ha : a < 2 ^ n) (hb : b < 2 ^ n) : bitF op a b < 2 ^ n := by
  unfold bitF
  split
  · exact Nat.and_lt_two_pow a hb
  · split
    · exact Nat.or_lt_two_pow ha hb
    · exact Nat.xor_lt_two_pow ha hb
theorem bitOr_nat (a b : Nat) : Builtin.bitOr (a : Int) (b : Int) = ((a ||| b : Nat) : Int) := by
  show Spec.bitOr (a : Int) (b : Int) = _
  have h1 : ¬ (0 ≤ -(a : Int) - 1) := by omega
  have h2 : ¬ (0 ≤ -(b : Int) - 1) := by omega
  have e1 : (-(-(a : Int) - 1) - 1).toNat = a := by omega
  have e2 : (-(-(b : Int) - 1) - 1).toNat = b := by omega
  unfold Spec.bitOr Spec.bitAnd Spec.bitNot
  rw [decide_eq_false h1, decide_eq_false h2]
  show -(-(((-(-(a : Int) - 1) - 1).toNat ||| (-(-(b : Int) - 1) - 1).toNat : Nat) : Int) - 1) - 1 = _
  rw [e1, e2]
  omega
theorem bitAnd_nat (a b : Nat) : Builtin.bitAnd (a : Int) (b : Int) = ((a &&& b : Nat) : Int) := PySem.W.os_band a b
theorem or_sub_and (a b : Nat) : (a ||| b) - (a &&& b) = a ^^^ b ∧ (a &&& b) ≤ (a ||| b) := by
  -- by bits from below
  have key : ∀ n : Nat, ∀ a b : Nat, a < 2 ^ n → b < 2 ^ n → (a ||| b) = (a ^^^ b) + (a &&& b) := by
    intro n
    induction n with
    | zero =>
      intro a b ha hb
      have : a = 0 := by omega
      have : b = 0 := by omega
      subst_vars
      rfl
    | succ n ih =>
      intro a b ha hb
      have h1 := bit_and a b 0
      have h2 := bit_or a b 0
      have h3 := bit_xor a b 0
      have e1 : (a &&& b) / 2 = (a / 2) &&& (b / 2) := Nat.and_div_two
      have e2 : (a ||| b) / 2 = (a / 2) ||| (b / 2) := Nat.or_div_two
      have e3 : (a ^^^ b) / 2 = (a / 2) ^^^ (b / 2) := Nat.xor_div_two
      have hp : 2 ^ (n + 1) = 2 ^ n * 2 := Nat.pow_succ ..
      have := ih (a / 2) (b / 2) (by omega) (by omega)
      simp only [Nat.pow_zero, Nat.div_one] at h1 h2 h3
      have m1 := Nat.mod_lt a (show 2 > 0 by decide)
      have m2 := Nat.mod_lt b (show 2 > 0 by decide)
      split at h1 <;> split at h2 <;> split at h3 <;> omega
  have hm : ∀ a : Nat, a < 2 ^ a := fun a => Nat.lt_two_pow_self
  have ha : a < 2 ^ (a + b) := Nat.lt_of_lt_of_le (hm a) (Nat.pow_le_pow_right (by decide) (by omega))
  have hb : b < 2 ^ (a + b) := Nat.lt_of_lt_of_le (hm b) (Nat.pow_le_pow_right (by decide) (by omega))
  have := key (a + b) a b ha hb
  omega
theorem bitXor_nat (a b : Nat) : Builtin.bitXor (a : Int) (b : Int) = ((a ^^^ b : Nat) : Int) := by
  show Builtin.bitOr (a : Int) (b : Int) - Builtin.bitAnd (a : Int) (b : Int) = _
  rw [bitOr_nat, bitAnd_nat]
  have := or_sub_and a b
  omega
/-- the word of an op, as the document has it -/
def cmpS (op : Str) (n : Nat) (x y : Int) : Int :=
  if op = "add" then (x + y) % 2 ^ n else if op = "sub" then (x - y) % 2 ^ n else if op = "mul" then (x * y) % 2 ^ n
  else if op = "and" then Builtin.bitAnd x y else if op = "or" then Builtin.bitOr x y else if op = "xor" then Builtin.bitXor x y
  else if op = "less" then (if x < y then 1 else 0) else if op = "equal" then (if x = y then 1 else 0)
  else if (n : Int) ≤ y then 0 else if op = "shl" then (x * 2 ^ y.toNat) % 2 ^ n else x / 2 ^ y.toNat
theorem bitF_cmp {op : Str} (h : op = "and" ∨ op = "or" ∨ op = "xor") (n a b : Nat) : cmpS op n (a : Int) (b : Int) = ((bitF op a b : Nat) : Int) := by
  rcases h with rfl | rfl | rfl
  · exact bitAnd_nat a b
  · exact bitOr_nat a b
  · exact bitXor_nat a b
end My

set_option Elab.async false
set_option linter.all false
set_option maxRecDepth 100000
set_option maxHeartbeats 4000000
/-! all(e for x in xs), any(e for x in xs): the element any expression that gives a truth value, calls of own defs too -/
namespace My
open PySem PySem.Spec PyProof.Rows L2 GxR NdefX GenW
/-- the context of the generator's frame -/
def gcx (X : Cx) (s : Shared) (H : Hp) (A : Around) (N : List Str) (cenv : Env) (fp : List Addr) : Cx :=
  { X with A := A, N := N, s_0 := s, H_0 := H, env := cenv, outer := X.stack, stack := cenv :: X.stack, ex := fp, fn := fun _ => false, calm := true, pn := [], xe := fun _ _ => False }
/-- the names that the element reads of the def around it, with their slots there -/
def Caps (X : Cx) (scope : Scope) : List (Str × Nat) → Prop
  | [] => True
  | p :: r => (X.N[p.2]? = some p.1 ∧ scope.names.lookup p.1 = some .free ∧ (X.env.scope.names.lookup p.1 = some .cell ∨ X.env.scope.names.lookup p.1 = some .free)) ∧ Caps X scope r
def gσ (σ : L2.St) (own : List (Str × Nat)) (v : Option V) : L2.St := v :: own.map fun p => (σ[p.2]?).getD none
def gN (x : Str) (own : List (Str × Nat)) : List Str := x :: own.map (·.1)
theorem caps_at {X : Cx} {scope : Scope} : ∀ {own : List (Str × Nat)} {i : Nat} {p : Str × Nat}, Caps X scope own → own[i]? = some p → X.N[p.2]? = some p.1 ∧ scope.names.lookup p.1 = some .free ∧ (X.env.scope.names.lookup p.1 = some .cell ∨ X.env.scope.names.lookup p.1 = some .free)
  | [], _, _, _, e => by simp at e
  | q :: r, 0, p, h, e => by simp at e; subst e; exact h.1
  | q :: r, i + 1, p, h, e => caps_at (own := r) (i := i) h.2 (by simpa using e)
section
variable {X : Cx} {pins : List (Addr × Obj)} {σ : L2.St} {H : Hp} {s s' : Shared}
/-- the heap as it was -/
theorem inv_same (I : Inv X pins σ H s) (h : s'.heap = s.heap) (ho : s'.os = s.os) (hb : AllBare s'.gens) : Inv X pins σ H s' := by
  obtain ⟨hh, g, d, t, o⟩ := s'
  obtain rfl : hh = s.heap := h
  obtain rfl : o = s.os := ho
  exact I.step (g' := g) (d' := d) (t' := t) (ch := []) (fun _ z => nomatch z) (fun _ _ _ _ _ e _ => e) (fun _ o _ _ _ e _ => ⟨o.slots, e⟩) (fun _ _ _ _ n => n) (fun _ o _ e => ⟨o, e⟩) (fun _ _ e => e) (fun _ _ _ e => e)
    (fun b ps e => ⟨#[], by rw [e]; simp⟩) (fun _ hm => hm) I.hok hb
/-- the frame of the generator begins -/
theorem gen_start {it a : Addr} {go : Obj} {fp : List Addr} {scope : Scope} {x : Str} {own : List (Str × Nat)} {A : Around} {h' : Heap} {bi : Addr} {code : Value} {gg : Array GenState} {tk : Nat}
    (I : Inv X pins σ H s) (hfp : ∀ b ∈ fp, FpOk X pins H b ∧ b < s.heap.objs.size) (S : GenS X.env scope x) (hc : Caps X scope own) (hA : A.handled = none) (hF : A.frames = some (genEnv scope (cloFrom X.env.cells scope.names []) s.heap.objs.size code bi X.env :: X.stack)) (hbi : bi = builtinsNs)
    (hn : h'.Ns s.heap.objs.size fun y => if y = ".0" then some (.ref it) else none) (kp : ∀ b o, s.heap.get? b = some o → (h'.push go).get? b = some o) (hsz : h'.objs.size = s.heap.objs.size + 1) (ha : a = h'.objs.size) (hnc : ∀ v, go.data ≠ .cell v) (hfr : go.isFreed = false) (hg : AllBare gg) :
    Inv (gcx X s H A (gN x own) (genEnv scope (cloFrom X.env.cells scope.names []) s.heap.objs.size code bi X.env) fp) [(a, go)] (gσ σ own none) H { s with gens := gg, toks := tk, heap := h'.push go } := by
  have cm : ∀ {y c}, (cloFrom X.env.cells scope.names []).lookup y = some c → X.env.cells.lookup y = some c := fun {y c} e => clo_cm S.free e
  have okB : (gcx X s H A (gN x own) (genEnv scope (cloFrom X.env.cells scope.names []) s.heap.objs.size code bi X.env) fp).Ok := by
    refine ⟨I.ok.mod, S.kind, I.ok.glob, hbi, Nat.le_refl _, fun y z c e1 e2 => I.ok.inj y z c (cm e1) (cm e2), fun y hy => ?_, fun y c z _ => (by cases z), fun _ => hA, hF, .inr ⟨rfl, rfl⟩, fun b hb => ⟨Nat.ne_of_lt (hfp b hb).2, fun y c e z => (hfp b hb).1.2.2.2.2.1 y c (cm e) z⟩,
      I.bs, Nat.le_trans I.ok.bsz I.sz, fun b o e hb => ?_, fun b hb z => ?_, I.stack, I.stkFree⟩
    · have hy : scope.names.lookup y = some .cell ∨ scope.names.lookup y = some .free := hy
      rcases hy with hy | hy
      · exact absurd rfl (S.cell _ (PySem.mem_of_lookup hy))
      · obtain ⟨c, e⟩ := S.free _ (PySem.mem_of_lookup hy) rfl
        exact ⟨c, clo_has S.free (PySem.mem_of_lookup hy) e⟩
    · rcases (hfp b hb).1.2.2.2.1 with z | z
      · exact I.ok.noex b o e z
      · exact absurd (Nat.lt_of_lt_of_le (Heap.lt_size e) (Nat.le_trans I.ok.bsz z)) (Nat.lt_irrefl _)
    · rcases List.mem_cons.mp (I.stkSub b z) with z | z
      · exact (hfp b hb).1.2.1 z
      · exact (hfp b hb).1.2.2.1 z
  refine ⟨okB, rfl, hg, Un.kept kp, ⟨_, hn.push _, fun i y v e1 e2 _ => ?_⟩, fun y c e => ?_, I.hok.fresh (Nat.le_refl _), fun y c e => I.freeC y c (cm e), fun p hp => ?_, I.hok.kept kp, ?_⟩
  · cases i with
    | zero => cases e2
    | succ i =>
      have e1 : (own.map (·.1))[i]? = some y := e1
      have e2 : (own.map fun p => (σ[p.2]?).getD none)[i]? = some (some v) := e2
      rw [List.getElem?_map] at e1 e2
      cases q : own[i]? with
      | none => rw [q] at e1; cases e1
      | some p =>
        rw [q] at e1 e2
        cases e1
        obtain ⟨hN, hf, hk⟩ := caps_at hc q
        have e3 : σ[p.2]? = some (some v) := by
          have e2 : some ((σ[p.2]?).getD none) = some (some v) := e2
          cases r : σ[p.2]? with
          | none => rw [r] at e2; cases e2
          | some u => rw [r] at e2; exact e2
        obtain ⟨m, _, hl⟩ := I.loc
        obtain ⟨u, r, lk⟩ := hl p.2 p.1 v hN e3 (.inr hk)
        refine ⟨u, r, .inr ⟨.inr hf, ?_⟩⟩
        rcases lk with ⟨k, _⟩ | ⟨_, c, e, o, ho, hd⟩
        · have k : X.env.scope.names.lookup p.1 = some .local := k
          rcases hk with hk | hk <;> (rw [hk] at k; cases k)
        · exact ⟨c, clo_has S.free (PySem.mem_of_lookup hf) e, o, kp c o ho, hd⟩
  · obtain ⟨v, o, ho, hd⟩ := I.cell y c (cm e)
    exact ⟨v, o, kp c o ho, hd⟩
  · have hp : p = (a, go) := by simpa [gcx] using hp
    subst hp
    refine ⟨?_, I.hok.fresh (by rw [ha, hsz]; exact Nat.le_succ _), ?_, fun z => ?_, hnc⟩
    · show (h'.push go).get? a = some go
      rw [ha]
      exact Heap.get?_push_size _ hfr
    · show a ≠ s.heap.objs.size
      rw [ha, hsz]
      exact Nat.succ_ne_self _
    · have hlt : ∀ b, b ∈ frs X.stack → b < s.heap.objs.size := fun b hb => by
        rcases List.mem_cons.mp (I.stkSub b hb) with y | y
        · rw [y]; exact I.lt
        · by_cases q : b < s.heap.objs.size
          · exact q
          · exact absurd y (I.nofs (Nat.le_of_not_lt q))
      have q := hlt a z
      rw [ha, hsz] at q
      exact absurd q (Nat.not_lt.mpr (Nat.le_succ _))
  · simp [gσ, gN, gcx]
end

theorem bne_of : ∀ {a b : Bool}, ¬ a = b → a = !b
  | true, true, h => absurd rfl h
  | true, false, _ => rfl
  | false, true, _ => rfl
  | false, false, h => absurd rfl h
/-! ### the generator's turns -/
section
variable {X : Cx} {al : Bool} {W : Nat → Nat → Hp → Prop} {QF : V → Hp → Prop}
/-- what a turn hands out: the answer is settled, or it goes on -/
def YAll (X' : Cx) (pn : List (Addr × Obj)) (al : Bool) (QF : V → Hp → Prop) : Protocol := fun _ _ v s kap =>
  ∃ σ H, Inv X' pn σ H s ∧ ((v = .bool (!al) ∧ QF (.bl (!al)) H) ∨ (v = .bool al ∧ ∀ s', s'.heap = s.heap → s'.os = s.os → AllBare s'.gens → kap (.send .none) s'))
def PAll (X' : Cx) (pn : List (Addr × Obj)) (al : Bool) (QF : V → Hp → Prop) (_ : Nat) (_ s : Shared) : Prop := ∃ σ H, Inv X' pn σ H s ∧ QF (.bl al) H
/-- one turn of the reading -/
def TAll (σ : L2.St) (own : List (Str × Nat)) (te : TE) (al : Bool) (J : It) (W : Nat → Nat → Hp → Prop) (QF : V → Hp → Prop) : Prop := ∀ i m H, W i m H →
  (J.stop i H ∧ QF (.bl al) H) ∨ (J.go i H ∧ ∃ Nx : Hp → Prop, (∀ H', Nx H' → ∃ m', m' < m ∧ W (i + 1) m' H') ∧ ∀ v H', J.yld i H v H' → te (gσ σ own (some v)) H' fun y H2 => ∃ b, y = .bl b ∧ if b = al then Nx H2 else QF (.bl (!al)) H2)
theorem seg_all {A : Around} {elt iter : Expr} {x : Str} {px gpos : Pos} {scope : Scope} {cenv : Env} {s₁ : Shared} {H₁ : Hp} {own : List (Str × Nat)} {fp : List Addr} {it : Addr} {a : Addr} {go : Obj} {J : It} {tn : Nat → Heap → Prop} {σ : L2.St} {te : TE}
    (hsc : cenv.scope = scope) (hx : scope.names.lookup x = some .local) (hco : scope.isCoroutine = false) (hnd : (gN x own).Nodup) (haf : ∀ b ∈ fp, a ≠ b)
    (T : Turn X.prog X.w X.K (.Name x px) J fp it tn)
    (he : PE (gcx X s₁ H₁ (A.over (.compLoop (.GeneratorExp elt [⟨.Name x px, iter, [], 0⟩] scope gpos) 0 (.ref it) .none cenv) []) (gN x own) cenv fp) elt te)
    (turn : TAll σ own te al J W QF) : ∀ (m n i : Nat) (s₀ s : Shared) (H : Hp) (v₀ : Option V), m < n →
      Inv (gcx X s₁ H₁ (A.over (.compLoop (.GeneratorExp elt [⟨.Name x px, iter, [], 0⟩] scope gpos) 0 (.ref it) .none cenv) []) (gN x own) cenv fp) [(a, go)] (gσ σ own v₀) H s → tn i s.heap → (∀ b ∈ fp, H b = none) → W i m H →
      Seg (model X.prog X.w) A (fun n s₀ r s₂ => r = .ok .next ∧ PAll (gcx X s₁ H₁ (A.over (.compLoop (.GeneratorExp elt [⟨.Name x px, iter, [], 0⟩] scope gpos) 0 (.ref it) .none cenv) []) (gN x own) cenv fp) [(a, go)] al QF n s₀ s₂)
        (YAll (gcx X s₁ H₁ (A.over (.compLoop (.GeneratorExp elt [⟨.Name x px, iter, [], 0⟩] scope gpos) 0 (.ref it) .none cenv) []) (gN x own) cenv fp) [(a, go)] al QF) n s₀
        (.compLoop (.GeneratorExp elt [⟨.Name x px, iter, [], 0⟩] scope gpos) 0 (.ref it) .none cenv)
        ((model X.prog X.w).den (.compLoop (.GeneratorExp elt [⟨.Name x px, iter, [], 0⟩] scope gpos) 0 (.ref it) .none cenv)) [] s := by
  generalize hcd : (Code.compLoop (.GeneratorExp elt [⟨.Name x px, iter, [], 0⟩] scope gpos) 0 (.ref it) .none cenv) = cd at *
  have hcalm : ∀ (Y : Cx), (gcx X s₁ H₁ (A.over cd []) (gN x own) cenv fp).calm = true := fun _ => rfl
  intro m
  induction m using Nat.strongRecOn with
  | _ m ih =>
    intro n i s₀ s H v₀ hmn I st hfn w
    have stat : ∀ {σ' : L2.St} {H' : Hp} {s' : Shared}, Inv (gcx X s₁ H₁ (A.over cd []) (gN x own) cenv fp) [(a, go)] σ' H' s' → (∀ b ∈ fp, H' b = none) → ∀ b ∈ fp, FpOk (gcx X s₁ H₁ (A.over cd []) (gN x own) cenv fp) [(a, go)] H' b := fun {σ' H' s'} I' hn b hb =>
      ⟨hn b hb, (I'.ok.exf b hb).1, I'.ok.exfs b hb, .inl hb, fun x c e => (I'.ok.exf b hb).2 x c e, fun p hp => by
        have hp : p = (a, go) := by simpa [gcx] using hp
        rw [hp]
        exact haf b hb⟩
    have den : (model X.prog X.w).den cd = (compTurn (.GeneratorExp elt [⟨.Name x px, iter, [], 0⟩] scope gpos) 0 (.ref it) .none cenv).onRaise (leaving cenv) := by rw [← hcd]; rfl
    rw [den, compTurn_gen, Sem.onRaise_eq_wrap, hcd]
    refine seg_bind_wrap (wpAny_standAt ?_)
    rcases turn i m H w with ⟨stop, qq⟩ | ⟨gg, Nx, hNx, step⟩
    · refine seg_bind_wrap (thnF (T.done (gcx X s₁ H₁ (A.over cd []) (gN x own) cenv fp) rfl rfl rfl rfl i [(a, go)] s _ H (fun _ _ => False) I (stat I hfn) st stop) fun r s2 ⟨hr, I2⟩ => ?_)
      subst hr
      exact seg_end (.ok .next) ⟨rfl, _, H, I2, qq⟩
    · refine seg_bind_wrap (thnF (T.item (gcx X s₁ H₁ (A.over cd []) (gN x own) cenv fp) rfl rfl rfl rfl i [(a, go)] s _ H (fun _ _ => False) I (stat I hfn) st gg) fun r s2 ⟨u, hr, h2⟩ => ?_)
      subst hr
      refine seg_bind_wrap (thnF h2 fun _ s3 ⟨v, H3, I3, r3, y3, st3, n3⟩ => ?_)
      have I3' := I3.pinned (stat I3 n3) (T.obj _ _ st3)
      have hsx : cenv.scope.names.lookup x = some .local := by rw [hsc]; exact hx
      refine seg_bind_wrap (wpAny_assign_Name (store_ok (i := 0) (x := x) I3' hnd rfl (.inl hsx) r3 (fun s4 I4 => ?_) (.inr hsx)))
      have I4 : Inv (gcx X s₁ H₁ (A.over cd []) (gN x own) cenv fp) ([(a, go)] ++ pinsAt fp s3.heap) (gσ σ own (some v)) H3 s4 := I4
      refine seg_bind_wrap (wpAny_tests_nil ?_)
      simp only [if_true]
      have hy : ∀ v, yieldOut cenv v = yieldValue v := fun v => by simp only [yieldOut, hsc, hco, Bool.false_eq_true, if_false]
      simp only [hy]
      rw [Sem.bind_eq_wrap', Sem.bind_eq_wrap', Sem.wrap_wrap, Sem.wrap_wrap]
      refine seg_wrap (thnF (he.run _ s4 _ H3 _ I4 (step v H3 y3)) fun y s5 ⟨z, H5, I5, r5, b, hz, q5⟩ => ?_)
      subst hz
      obtain rfl : y = .bool b := r5
      obtain ⟨k, rfl⟩ : ∃ k, n = k + 1 := ⟨n - 1, by omega⟩
      refine seg_at (seg_yield rfl rfl rfl ⟨_, H5, I5.unpinned, ?_⟩)
      by_cases hb : b = al
      · subst hb
        rw [if_pos rfl] at q5
        obtain ⟨m', hm', w'⟩ := hNx H5 q5
        refine .inr ⟨rfl, fun s6 e6 o6 b6 => ?_⟩
        have pin' : ∀ b ∈ fp, ∀ o, s3.heap.get? b = some o → s5.heap.get? b = some o ∧ H5 b = none := fun b hb o e =>
          let z := I5.pin (b, o) (List.mem_append_right _ (List.mem_append_right _ (mem_pinsAt hb e)))
          ⟨z.1, z.2.1⟩
        refine seg_again (c' := cd) (by rw [← hcd]; rfl) (ih m' hm' k (i + 1) _ s6 H5 (some v) (by omega) (inv_same I5.unpinned e6 o6 b6) (T.keep _ _ _ st3 fun b hb o e => by rw [e6]; exact (pin' b hb o e).1) (fun b hb => ?_) w')
        obtain ⟨o, e, _⟩ := T.obj _ _ st3 b hb
        exact (pin' b hb o e).2
      · rw [if_neg hb] at q5
        have e : b = !al := bne_of hb
        exact .inl ⟨by rw [e], q5⟩
end
end My

set_option Elab.async false
set_option linter.all false
set_option maxRecDepth 100000
set_option maxHeartbeats 4000000
namespace My
open PySem PySem.Spec PyProof.Rows L2 GxR NdefX GenW
section
variable {Y : Cx} {QF : V → Hp → Prop} {a : Addr} {go : Obj} {g : Nat} {A0 : Around} {Re : Result → Shared → Prop}
theorem pull_all {al : Bool} {n : Nat} {s : Shared} {gs : GenState} {Q : Option Value → Shared → Prop} {E : Value → Shared → Prop} (hh : A0.handled = none) (hroom : A0.depth < recursionLimit) (hgen : ∀ h : Heap, h.get? a = some go → h.IsGen a g)
    (hgs : s.gens[g]? = some gs) (hI : ∃ σ H, Inv Y [(a, go)] σ H s)
    (hgo : gs.Goes (model Y.prog Y.w) A0.in1 (fun n s₀ r s₁ => r = .ok .next ∧ PAll Y [(a, go)] al QF n s₀ s₁) (YAll Y [(a, go)] al QF) n (.send .none) (s.setGen g .running))
    (hN : ∀ σ H s', Inv Y [(a, go)] σ H s' → QF (.bl al) H → Q none s') (hS : ∀ σ H s', Inv Y [(a, go)] σ H s' → QF (.bl (!al)) H → Q (some (.bool (!al))) s')
    (hG : ∀ m gs' s', n = m + 1 → s'.gens[g]? = some gs' → (∃ σ H, Inv Y [(a, go)] σ H s') →
      gs'.Goes (model Y.prog Y.w) A0.in1 (fun n s₀ r s₁ => r = .ok .next ∧ PAll Y [(a, go)] al QF n s₀ s₁) (YAll Y [(a, go)] al QF) m (.send .none) (s'.setGen g .running) → Q (some (.bool al)) s') :
    wpAny (model Y.prog Y.w) A0 (pyNext (.ref a)) Q E s := by
  obtain ⟨σ, H, I⟩ := hI
  have hlt : g + 1 ≤ s.gens.size := by
    obtain ⟨h, _⟩ := Array.getElem?_eq_some_iff.mp hgs
    exact h
  refine wpAny_gsz hlt ?_
  refine wpAny_pyNext_genexpQ (P := PAll Y [(a, go)] al QF) hh I.nolimit hroom (hgen _ (I.pin (a, go) (List.mem_append_right _ List.mem_cons_self)).1) hgs hgo (fun v s₁ gs' hb hy => ?_) (fun s₁ hp h' hk => ?_)
  · intro hz
    obtain ⟨σ1, H1, I1, hv⟩ := hy
    have I2 : Inv Y [(a, go)] σ1 H1 (s₁.setGen g gs') := inv_same I1 rfl rfl (allBare_setGen I1.bare hb)
    rcases hv with ⟨rfl, q⟩ | ⟨rfl, kap⟩
    · exact hS _ _ _ I2 q
    · have e := kap ((s₁.setGen g gs').setGen g .running) rfl rfl (allBare_setGen I2.bare rfl)
      cases n with
      | zero => exact e.elim
      | succ m =>
        have hz' : g < s₁.gens.size := by
          rw [setGen_size] at hz
          exact hz
        exact hG m gs' _ rfl (setGen_at hz') ⟨_, _, I2⟩ e
  · intro _
    obtain ⟨σ1, H1, I1, q⟩ := hp
    exact hN σ1 H1 _ ((inv_same (s' := s₁.setGen g .finished) I1 rfl rfl (allBare_setGen I1.bare rfl)).kept (t' := s₁.toks) hk) q
theorem all_turns (hh : A0.handled = none) (hroom : A0.depth < recursionLimit) (hgen : ∀ h : Heap, h.get? a = some go → h.IsGen a g)
    (hR : ∀ σ H b s, Inv Y [(a, go)] σ H s → QF (.bl b) H → Re (.ok (.ret (.bool b))) s) : ∀ (n : Nat) (s : Shared) (gs : GenState), s.gens[g]? = some gs → (∃ σ H, Inv Y [(a, go)] σ H s) →
      gs.Goes (model Y.prog Y.w) A0.in1.in1 (fun n s₀ r s₁ => r = .ok .next ∧ PAll Y [(a, go)] true QF n s₀ s₁) (YAll Y [(a, go)] true QF) n (.send .none) (s.setGen g .running) →
      codeAny (model Y.prog Y.w) A0 (.builtin "all.loop" ⟨[.ref a], []⟩) Re s := by
  intro n
  induction n with
  | zero =>
    intro s gs hgs hI hgo
    refine codeAny_builtin F.entry_all_loop ?_
    rw [Around.under_plainId F.plain_all_loop _]
    show wpAny _ A0.in1 (pyNext (.ref a) >>= _) _ _ s
    refine wpAny_bind (pull_all (A0 := A0.in1) hh hroom hgen hgs hI hgo (fun σ H s' I q => ?_) (fun σ H s' I q => ?_) fun m gs' s' e _ _ _ => ?_)
    · exact wpAny_bind (wpAny_rule (wpAny_pure (hR σ H true s' I q)))
    · refine wpAny_bind (wpAny_holding (wpAny_truthy_bool ?_))
      refine wpAny_bind (wpAny_letGo ?_)
      exact wpAny_bind (wpAny_rule (wpAny_pure (hR σ H false s' I q)))
    · cases e
  | succ n ih =>
    intro s gs hgs hI hgo
    refine codeAny_builtin F.entry_all_loop ?_
    rw [Around.under_plainId F.plain_all_loop _]
    show wpAny _ A0.in1 (pyNext (.ref a) >>= _) _ _ s
    refine wpAny_bind (pull_all (A0 := A0.in1) hh hroom hgen hgs hI hgo (fun σ H s' I q => ?_) (fun σ H s' I q => ?_) fun m gs' s' e h1 h2 h3 => ?_)
    · exact wpAny_bind (wpAny_rule (wpAny_pure (hR σ H true s' I q)))
    · refine wpAny_bind (wpAny_holding (wpAny_truthy_bool ?_))
      refine wpAny_bind (wpAny_letGo ?_)
      exact wpAny_bind (wpAny_rule (wpAny_pure (hR σ H false s' I q)))
    · obtain rfl : n = m := Nat.succ.inj e
      refine wpAny_bind (wpAny_holding (wpAny_truthy_bool ?_))
      refine wpAny_bind (wpAny_letGo ?_)
      exact wpAny_pure ⟨plainId_quiet F.plain_all_loop _, ih s' gs' h1 h2 h3⟩
theorem any_turns (hh : A0.handled = none) (hroom : A0.depth < recursionLimit) (hgen : ∀ h : Heap, h.get? a = some go → h.IsGen a g)
    (hR : ∀ σ H b s, Inv Y [(a, go)] σ H s → QF (.bl b) H → Re (.ok (.ret (.bool b))) s) : ∀ (n : Nat) (s : Shared) (gs : GenState), s.gens[g]? = some gs → (∃ σ H, Inv Y [(a, go)] σ H s) →
      gs.Goes (model Y.prog Y.w) A0.in1.in1 (fun n s₀ r s₁ => r = .ok .next ∧ PAll Y [(a, go)] false QF n s₀ s₁) (YAll Y [(a, go)] false QF) n (.send .none) (s.setGen g .running) →
      codeAny (model Y.prog Y.w) A0 (.builtin "any.loop" ⟨[.ref a], []⟩) Re s := by
  intro n
  induction n with
  | zero =>
    intro s gs hgs hI hgo
    refine codeAny_builtin F.entry_any_loop ?_
    rw [Around.under_plainId F.plain_any_loop _]
    show wpAny _ A0.in1 (pyNext (.ref a) >>= _) _ _ s
    refine wpAny_bind (pull_all (A0 := A0.in1) hh hroom hgen hgs hI hgo (fun σ H s' I q => ?_) (fun σ H s' I q => ?_) fun m gs' s' e _ _ _ => ?_)
    · exact wpAny_bind (wpAny_rule (wpAny_pure (hR σ H false s' I q)))
    · refine wpAny_bind (wpAny_holding (wpAny_truthy_bool ?_))
      refine wpAny_bind (wpAny_letGo ?_)
      exact wpAny_bind (wpAny_rule (wpAny_pure (hR σ H true s' I q)))
    · cases e
  | succ n ih =>
    intro s gs hgs hI hgo
    refine codeAny_builtin F.entry_any_loop ?_
    rw [Around.under_plainId F.plain_any_loop _]
    show wpAny _ A0.in1 (pyNext (.ref a) >>= _) _ _ s
    refine wpAny_bind (pull_all (A0 := A0.in1) hh hroom hgen hgs hI hgo (fun σ H s' I q => ?_) (fun σ H s' I q => ?_) fun m gs' s' e h1 h2 h3 => ?_)
    · exact wpAny_bind (wpAny_rule (wpAny_pure (hR σ H false s' I q)))
    · refine wpAny_bind (wpAny_holding (wpAny_truthy_bool ?_))
      refine wpAny_bind (wpAny_letGo ?_)
      exact wpAny_bind (wpAny_rule (wpAny_pure (hR σ H true s' I q)))
    · obtain rfl : n = m := Nat.succ.inj e
      refine wpAny_bind (wpAny_holding (wpAny_truthy_bool ?_))
      refine wpAny_bind (wpAny_letGo ?_)
      exact wpAny_pure ⟨plainId_quiet F.plain_any_loop _, ih s' gs' h1 h2 h3⟩
end
end My

set_option Elab.async false
set_option linter.all false
set_option maxRecDepth 100000
set_option maxHeartbeats 4000000
namespace My
open PySem PySem.Spec PyProof.Rows L2 GxR NdefX GenW
/-- all(e for x in ..): P the def's table of code objects; W by the turn and a measure -/
def tGen (al : Bool) (P : Addr) (wi : TI) (own : List (Str × Nat)) (te : TE) : TE := fun σ H Q => wi σ H fun J H1 => TabG H1 P ∧ ∀ H2, Tabbed P H1 H2 → ∃ W : Nat → Nat → Hp → Prop, (∃ m, W 0 m H2) ∧ TAll σ own te al J W Q
/-- the generator's scope is in order -/
def genOk (scope : Scope) (x : Str) : Bool := scope.kind == .function && !scope.isCoroutine && scope.names.all (fun y => y.2 != .cell) && scope.names.lookup (".0" : Str) == some NameKind.local && scope.names.lookup x == some NameKind.local
def freeOk (sc scope : Scope) : Bool := scope.names.all fun y => y.2 != .free || sc.names.lookup y.1 == some NameKind.cell || sc.names.lookup y.1 == some NameKind.free
theorem gens_of {env : Env} {scope : Scope} {x : Str} (h : genOk scope x = true) (hf : freeOk env.scope scope = true) (has : ∀ y, (env.kindOf y = some .cell ∨ env.kindOf y = some .free) → ∃ c, env.cells.lookup y = some c) : GenS env scope x := by
  unfold genOk at h
  simp only [Bool.and_eq_true, beq_iff_eq, Bool.not_eq_true', List.all_eq_true, bne_iff_ne] at h
  obtain ⟨⟨⟨⟨h1, h2⟩, h3⟩, h4⟩, h5⟩ := h
  refine ⟨h1, h2, h3, h4, h5, fun y hy e => ?_⟩
  unfold freeOk at hf
  have q := List.all_eq_true.mp hf y hy
  simp only [Bool.or_eq_true, bne_iff_ne, beq_iff_eq] at q
  refine has y.1 ?_
  rcases q with (q | q) | q
  · exact absurd e q
  · exact .inl q
  · exact .inr q
section
variable {X : Cx} {pins : List (Addr × Obj)} {σ : L2.St} {H : Hp} {s : Shared}
theorem gen_made {al : Bool} {c P : Addr} {elt iter : Expr} {x : Str} {px gpos : Pos} {scope : Scope} {wi : TI} {te : TE} {own : List (Str × Nat)} {k : Nat} {Q : VK} {Q' : Value → Shared → Prop}
    (hr : Room (k + 1) X.A) (hcalm : X.calm = true) (TB : TabB X.base X.mg c P) (hcode : X.env.code = .ref c) (S : GenS X.env scope x) (hc : Caps X scope own) (hnd : (gN x own).Nodup) (hi : PI X (.Name x px) iter wi)
    (he : ∀ (s : Shared) (H : Hp) (A : Around) (cl : List (Str × Addr)) (C : Addr) (code : Value) (bi : Addr) (fp : List Addr), Room k A → PE (gcx X s H A (gN x own) (genEnv scope cl C code bi X.env) fp) elt te)
    (hs : ∀ v, genFold iter X.env v = pure v) (I : Inv X pins σ H s) (h : tGen al P wi own te σ H Q)
    (hQ : ∀ (Y : Cx) (a g : Nat) (go : Obj) (n : Nat) (cs : Code) (s5 : Shared), Y.prog = X.prog → Y.w = X.w → (∀ h : Heap, h.get? a = some go → h.IsGen a g) → s5.gens[g]? = some (.fresh cs) → (∃ σ H, Inv Y [(a, go)] σ H s5) → s5.heap.IsGen a g →
      GenState.Goes (model X.prog X.w) X.A.in1.in1 (fun n s₀ r s₁ => r = .ok .next ∧ PAll Y [(a, go)] al Q n s₀ s₁) (YAll Y [(a, go)] al Q) n (.fresh cs) (.send .none) (s5.setGen g .running) →
      (∀ σ' H' s', Inv Y [(a, go)] σ' H' s' → Inv X pins σ H' s') → Q' (.ref a) s5) :
    wpAny (model X.prog X.w) X.A (eval (.GeneratorExp elt [⟨.Name x px, iter, [], 0⟩] scope gpos) X.env) Q' X.xe s := by
  refine wpAny_GeneratorExp_make S.co (closure_ok S.free) S.cell S.dot S.kind (by have := hr.dp; omega) ?_ hs
  refine thn (hi.run pins s σ H _ I h) fun xv s1 hx => thn hx fun itv s2 h2 => ?_
  obtain ⟨it, fp, tn, J, H2, e, I2, T, st2, f2, ⟨ps, hP, ht⟩, q⟩ := h2
  subst e
  refine ⟨I2.nolimit, ?_⟩
  have hPs : s2.heap.get? P = some { cls := .none, data := .fields ps } := I2.hok P _ hP
  have cd : PySem.W.CodeHd s2.heap c P := TB.code.keeps fun b u e => I2.bk b u e
  have nP : ∀ b ∈ fp, b ≠ P := fun b hb z => by
    have := (f2 b hb).1
    rw [z, hP] at this
    cases this
  have cont : ∀ (code : Value) (s3 : Shared) (H3 : Hp), Inv X pins σ H3 s3 → Tabbed P H2 H3 → (∀ b u, b ≠ P → s2.heap.get? b = some u → s3.heap.get? b = some u) →
      wpAny (model X.prog X.w) X.A (builtinsFor X.env.globals X.env.builtins) (fun bi s₄ =>
        ∀ h', h'.Ns s₄.heap.objs.size (fun y => if y = ".0" then some (.ref it) else none) → Heap.SameBut s₄.heap.objs.size (s₄.heap.push { cls := .type "frame", data := .dict #[] }) h' →
          Q' (.ref h'.objs.size) { s₄ with
            gens := s₄.gens.push (.fresh (.compStart (.GeneratorExp elt [⟨.Name x px, iter, [], 0⟩] scope gpos) 0 (.ref it) .none (genEnv scope (cloFrom X.env.cells scope.names []) s₄.heap.objs.size code bi X.env))),
            toks := s₄.toks + 1 + 1 + 1,
            heap := h'.push { cls := .type "generator", data := .fields #[.int s₄.gens.size 0, .str "<genexpr>" (s₄.toks + 1), .str (X.env.qual ++ "<genexpr>") (s₄.toks + 1 + 1)] } }) X.xe s3 := by
    intro code s3 H3 I3 hT kp3
    obtain ⟨bm, ob, e1, e2, e3, e4, e5, e6, e7, e8⟩ := TB.bm
    refine wpAny_builtinsFor (m := X.mg) (by rw [I3.ok.glob]; exact I3.mod.glob.keeps I3.bk) e1 e2 (I3.bk _ _ e5) e6 e7 e8 ?_
    intro h' hn' hs'
    have keep' : ∀ b o, s3.heap.get? b = some o → h'.get? b = some o := fun b o e => hs'.extBut b o (Nat.ne_of_lt (Heap.lt_size e)) (Heap.get?_push_of_some _ e)
    have hsz : h'.objs.size = s3.heap.objs.size + 1 := by rw [hs'.1, Heap.size_push]
    have ffp : ∀ b ∈ fp, FpOk X pins H3 b ∧ b < s3.heap.objs.size := fun b hb => by
      obtain ⟨o, e, _⟩ := T.obj _ _ st2 b hb
      exact ⟨⟨by rw [hT.2 b (nP b hb)]; exact (f2 b hb).1, (f2 b hb).2⟩, Heap.lt_size (kp3 b o (nP b hb) e)⟩
    have st3 : tn 0 s3.heap := T.keep _ _ _ st2 fun b hb o e => kp3 b o (nP b hb) e
    obtain ⟨W, ⟨m0, w0⟩, turn⟩ := q H3 hT
    generalize hgo : ({ cls := .type "generator", data := .fields #[.int s3.gens.size 0, .str "<genexpr>" (s3.toks + 1), .str (X.env.qual ++ "<genexpr>") (s3.toks + 1 + 1)] } : Obj) = go
    have kp5 : ∀ b o, s3.heap.get? b = some o → (h'.push go).get? b = some o := fun b o e => Heap.get?_push_of_some _ (keep' b o e)
    have hisg : ∀ h : Heap, h.get? h'.objs.size = some go → h.IsGen h'.objs.size s3.gens.size := fun h e => ⟨go, _, _, e, by rw [← hgo], by rw [← hgo], by rw [← hgo]⟩
    have hA : (X.A.in1.in1.over (.compLoop (.GeneratorExp elt [⟨.Name x px, iter, [], 0⟩] scope gpos) 0 (.ref it) .none (genEnv scope (cloFrom X.env.cells scope.names []) s3.heap.objs.size code builtinsNs X.env)) []).frames = some (genEnv scope (cloFrom X.env.cells scope.names []) s3.heap.objs.size code builtinsNs X.env :: X.stack) := by
      show pushEnvs [genEnv scope (cloFrom X.env.cells scope.names []) s3.heap.objs.size code builtinsNs X.env] (pushEnvs [] X.A.frames) = _
      rw [I3.ok.frames]
      rfl
    have hRm : Room k (X.A.in1.in1.over (.compLoop (.GeneratorExp elt [⟨.Name x px, iter, [], 0⟩] scope gpos) 0 (.ref it) .none (genEnv scope (cloFrom X.env.cells scope.names []) s3.heap.objs.size code builtinsNs X.env)) []) := by
      have d := hr.dp
      have u := hr.un
      refine ⟨hr.hd, ?_, ?_⟩
      · show X.A.depth + 0 + 1 + 3 * k + 5 < _
        omega
      · show X.A.units + 1 + 1 + 0 + 3 + 16 * k + 200 < _
        omega
    have I5 := gen_start (it := it) (a := h'.objs.size) (go := go) (fp := fp) (own := own) (A := X.A.in1.in1.over (.compLoop (.GeneratorExp elt [⟨.Name x px, iter, [], 0⟩] scope gpos) 0 (.ref it) .none (genEnv scope (cloFrom X.env.cells scope.names []) s3.heap.objs.size code builtinsNs X.env)) [])
      (gg := s3.gens.push (.fresh (.compStart (.GeneratorExp elt [⟨.Name x px, iter, [], 0⟩] scope gpos) 0 (.ref it) .none (genEnv scope (cloFrom X.env.cells scope.names []) s3.heap.objs.size code builtinsNs X.env)))) (tk := s3.toks + 1 + 1 + 1)
      I3 ffp S hc hr.hd hA rfl hn' kp5 hsz rfl (fun v z => by rw [← hgo] at z; cases z) (by rw [← hgo]; rfl) (I3.bare.push rfl)
    have haf : ∀ b ∈ fp, h'.objs.size ≠ b := fun b hb z => by
      have := (ffp b hb).2
      rw [← z, hsz] at this
      exact absurd this (Nat.not_lt.mpr (Nat.le_succ _))
    refine hQ (gcx X s3 H3 (X.A.in1.in1.over (.compLoop (.GeneratorExp elt [⟨.Name x px, iter, [], 0⟩] scope gpos) 0 (.ref it) .none (genEnv scope (cloFrom X.env.cells scope.names []) s3.heap.objs.size code builtinsNs X.env)) []) (gN x own) (genEnv scope (cloFrom X.env.cells scope.names []) s3.heap.objs.size code builtinsNs X.env) fp) h'.objs.size s3.gens.size go (m0 + 1) _ _ rfl rfl hisg (Array.getElem?_push_size ..) ⟨_, _, I5⟩ (hisg _ (Heap.get?_push_size _ (by rw [← hgo]; rfl))) ⟨rfl, ?_⟩ (fun σ' H' s' I6 => ?_)
    · have loop := seg_all (X := X) (A := X.A.in1.in1) (al := al) (W := W) (QF := Q) (elt := elt) (iter := iter) (x := x) (px := px) (gpos := gpos) (scope := scope) (cenv := genEnv scope (cloFrom X.env.cells scope.names []) s3.heap.objs.size code builtinsNs X.env)
        (s₁ := s3) (H₁ := H3) (own := own) (fp := fp) (it := it) (a := h'.objs.size) (go := go) (J := J) (tn := tn) (σ := σ) (te := te) rfl S.loc S.co hnd haf T (he _ _ _ _ _ _ _ _ hRm) turn m0 (m0 + 1) 0
      have st5 : tn 0 (h'.push go) := T.keep _ _ _ st3 fun b _ o e => kp5 b o e
      have nf5 : ∀ b ∈ fp, H3 b = none := fun b hb => (ffp b hb).1.1
      generalize hs5 : ({ s3 with gens := s3.gens.push (.fresh (.compStart (.GeneratorExp elt [⟨.Name x px, iter, [], 0⟩] scope gpos) 0 (.ref it) .none (genEnv scope (cloFrom X.env.cells scope.names []) s3.heap.objs.size code builtinsNs X.env))), toks := s3.toks + 1 + 1 + 1, heap := h'.push go } : Shared) = s5 at I5 ⊢
      have h5 : s5.heap = h'.push go := by rw [← hs5]
      have I5' := inv_same (s' := s5.setGen s3.gens.size .running) I5 rfl rfl (allBare_setGen I5.bare rfl)
      have lp := loop (s5.setGen s3.gens.size .running) (s5.setGen s3.gens.size .running) H3 none (Nat.lt_succ_self _) I5' (by show tn 0 s5.heap; rw [h5]; exact st5) nf5 w0
      show Seg _ _ _ _ _ _ _ ((compStart (.GeneratorExp elt [⟨.Name x px, iter, [], 0⟩] scope gpos) 0 (.ref it) .none (genEnv scope (cloFrom X.env.cells scope.names []) s3.heap.objs.size code builtinsNs X.env)).onRaise (leaving (genEnv scope (cloFrom X.env.cells scope.names []) s3.heap.objs.size code builtinsNs X.env))) [] _
      unfold compStart
      rw [Sem.onRaise_eq_wrap]
      show Seg _ _ _ _ _ _ _ ((ask >>= _).wrap _ _ _ _) [] _
      refine seg_bind_wrap (wpAny_askSetting ?_)
      have slf : tn 0 (s5.setGen s3.gens.size .running).heap := by
        show tn 0 s5.heap
        rw [h5]
        exact st5
      split
      · exact seg_again rfl lp
      · first
          | exact seg_bind_wrap (wpAny_rule (seg_bind_wrap (wpAny_standAt (seg_bind_wrap (T.self _ 0 _ _ _ slf (seg_again rfl lp))))))
          | (refine seg_bind_wrap (wpAny_rule ?_); show Seg _ _ _ _ _ _ _ ((standAt iter.pos >>= _).wrap _ _ _ _) [] _; exact seg_bind_wrap (wpAny_standAt (seg_bind_wrap (T.self _ 0 _ _ _ slf (seg_again rfl lp)))))
    · exact I3.call' (ch := fp) I6.os I6.base I6.hok I6.bare fun b hb => ⟨(ffp b hb).1.2.2.2.1, (ffp b hb).1.2.1, (ffp b hb).1.2.2.2.2.1, (ffp b hb).1.2.2.2.2.2⟩
  cases hf : codeAmong gpos ps.toList with
  | none =>
    refine wpAny_genexprCodeX hcode (cd.code hPs ht) (cd.tab hPs) hf fun c' h3 tk hx hge hlt hco' _ htab' _ => ?_
    obtain ⟨o1, vs, f1, tf, fl, tg, inF, tx, tt, op, _, _, _, _, _, _, _, _, _, htr, _⟩ := hco'
    have I3 := inv_tab (g' := s2.gens) (d' := s2.drawn) (t' := tk) I2 hP (fun b o hb e => hx b o hb e) htab'.2 I2.bare
    exact cont _ _ _ I3 ⟨⟨_, upd_same, htr⟩, fun b hb => upd_ne hb⟩ fun b u hb e => hx b u hb e
  | some cv =>
    refine wpAny_genexprCode_hit hcode (cd.code hPs ht) hf ?_
    exact cont cv s2 H2 I2 ⟨⟨ps, hP, ht⟩, fun _ _ => rfl⟩ fun _ _ _ e => e
theorem pe_allG {c P : Addr} {elt iter : Expr} {x : Str} {px p pos gpos : Pos} {scope : Scope} {wi : TI} {te : TE} (own : List (Str × Nat)) {k : Nat}
    (hr : Room (k + 1) X.A) (hg : Gl X "all") (hm : X.mg "all" = none) (TB : TabB X.base X.mg c P) (hcode : X.env.code = .ref c) (gk : genOk scope x = true) (fk : freeOk X.env.scope scope = true) (hc : Caps X scope own) (hnd : (gN x own).Nodup) (hcalm : X.calm = true) (hi : PI X (.Name x px) iter wi)
    (he : ∀ (s : Shared) (H : Hp) (A : Around) (cl : List (Str × Addr)) (C : Addr) (code : Value) (bi : Addr) (fp : List Addr), Room k A → PE (gcx X s H A (gN x own) (genEnv scope cl C code bi X.env) fp) elt te)
    (hs : ∀ v, genFold iter X.env v = pure v := by intro _; rfl)
    (hE : starEach [.GeneratorExp elt [⟨.Name x px, iter, [], 0⟩] scope gpos] X.env = (false, eval (.GeneratorExp elt [⟨.Name x px, iter, [], 0⟩] scope gpos) X.env) :: starEach [] X.env := by rfl) :
    PE X (.Call (.Name "all" p) [.GeneratorExp elt [⟨.Name x px, iter, [], 0⟩] scope gpos] [] pos) (tGen true P wi own te) := by
  refine ⟨fun pins s σ H Q I h => ?_⟩
  refine wpAny_Call_Name_kw (ld_blt I hg hm (by decide +kernel : bootBuiltins "all" = some (.builtin "all")) ?_)
  refine PyProof.Rows.callWith_builtin1 ?_ hE (by rfl)
  rw [hE]
  show wpAny _ _ (spliced ((false, eval (.GeneratorExp elt [⟨.Name x px, iter, [], 0⟩] scope gpos) X.env) :: backTo pos (starEach [] X.env))) _ _ s
  refine Calls.spliced_cons (gen_made hr hcalm TB hcode (gens_of gk fk I.ok.has) hc hnd hi he hs I h fun Y a g go n cs s5 hp hw hgen hgs hI hisg hgo hback => ?_)
  refine Calls.spliced_nil ?_
  refine call_function_tree F.kind_all F.plain_all F.entry_all (F.args_all1 _) ?_
  unfold Builtin.«all»
  refine wpAny_bind (m := oneArg "all" _) (wpAny_pure ?_)
  refine wpAny_bind (wpAny_pyIter_gen hisg ?_)
  rw [← hp, ← hw] at hgo ⊢
  exact wpAny_pure ⟨plainId_quiet F.plain_all_loop _, all_turns (A0 := X.A) (QF := Q) hr.hd (by have := hr.dp; omega) hgen (fun σ' H' b s6 I6 q => ⟨.bl b, H', hback _ _ _ I6, rfl, q⟩) n s5 _ hgs hI hgo⟩
theorem pe_anyG {c P : Addr} {elt iter : Expr} {x : Str} {px p pos gpos : Pos} {scope : Scope} {wi : TI} {te : TE} (own : List (Str × Nat)) {k : Nat}
    (hr : Room (k + 1) X.A) (hg : Gl X "any") (hm : X.mg "any" = none) (TB : TabB X.base X.mg c P) (hcode : X.env.code = .ref c) (gk : genOk scope x = true) (fk : freeOk X.env.scope scope = true) (hc : Caps X scope own) (hnd : (gN x own).Nodup) (hcalm : X.calm = true) (hi : PI X (.Name x px) iter wi)
    (he : ∀ (s : Shared) (H : Hp) (A : Around) (cl : List (Str × Addr)) (C : Addr) (code : Value) (bi : Addr) (fp : List Addr), Room k A → PE (gcx X s H A (gN x own) (genEnv scope cl C code bi X.env) fp) elt te)
    (hs : ∀ v, genFold iter X.env v = pure v := by intro _; rfl)
    (hE : starEach [.GeneratorExp elt [⟨.Name x px, iter, [], 0⟩] scope gpos] X.env = (false, eval (.GeneratorExp elt [⟨.Name x px, iter, [], 0⟩] scope gpos) X.env) :: starEach [] X.env := by rfl) :
    PE X (.Call (.Name "any" p) [.GeneratorExp elt [⟨.Name x px, iter, [], 0⟩] scope gpos] [] pos) (tGen false P wi own te) := by
  refine ⟨fun pins s σ H Q I h => ?_⟩
  refine wpAny_Call_Name_kw (ld_blt I hg hm (by decide +kernel : bootBuiltins "any" = some (.builtin "any")) ?_)
  refine PyProof.Rows.callWith_builtin1 ?_ hE (by rfl)
  rw [hE]
  show wpAny _ _ (spliced ((false, eval (.GeneratorExp elt [⟨.Name x px, iter, [], 0⟩] scope gpos) X.env) :: backTo pos (starEach [] X.env))) _ _ s
  refine Calls.spliced_cons (gen_made hr hcalm TB hcode (gens_of gk fk I.ok.has) hc hnd hi he hs I h fun Y a g go n cs s5 hp hw hgen hgs hI hisg hgo hback => ?_)
  refine Calls.spliced_nil ?_
  refine call_function_tree F.kind_any F.plain_any F.entry_any (F.args_any1 _) ?_
  unfold Builtin.«any»
  refine wpAny_bind (m := oneArg "any" _) (wpAny_pure ?_)
  refine wpAny_bind (wpAny_pyIter_gen hisg ?_)
  rw [← hp, ← hw] at hgo ⊢
  exact wpAny_pure ⟨plainId_quiet F.plain_any_loop _, any_turns (A0 := X.A) (QF := Q) hr.hd (by have := hr.dp; omega) hgen (fun σ' H' b s6 I6 q => ⟨.bl b, H', hback _ _ _ I6, rfl, q⟩) n s5 _ hgs hI hgo⟩
end
/-! ### a def whose code object is known -/
structure FunC (K : PySem.W.Frag) (x qual : Str) (st : Stmt) (f : Addr) (fd : FuncData) (c : Addr) : Prop where
  ex : ∃ (oc : Value) (od : Option Addr) (kV doc pm : Value) (an : Option Addr) (ct : Value) (osl : Array (Option Value)),
    fd = PySem.W.fnOf x qual (defArgs st) (defBody st) (defScope st) .none kV doc pm an (.ref c) ct ∧ K.lookup f = some ⟨oc, od, .func fd, osl⟩ ∧ PySem.W.codeIn K (.ref c) qual = true
  kp : PySem.W.keepIn K (.ref f) = true
section
variable {P : Program} {w : World} {K : PySem.W.Frag} {mg : Str → Option Value} {base : Heap}
theorem FunC.fun {x qual : Str} {st : Stmt} {f : Addr} {fd : FuncData} {c : Addr} (F : FunC K x qual st f fd c) : Fun K x qual st f fd :=
  ⟨let ⟨oc, od, kV, doc, pm, an, ct, osl, h⟩ := F.ex; ⟨oc, od, kV, doc, pm, an, .ref c, ct, osl, h⟩, F.kp⟩
theorem FunC.ok {x qual : Str} {st : Stmt} {f : Addr} {fd : FuncData} {c : Addr} {N ps : List Str} {k : Nat} {sp : Sp} (F : FunC K x qual st f fd c) (S : FnScope N ps (defScope st)) (len : ∀ vs H Q E, sp vs H Q E → vs.length = ps.length)
    (hbody : ∀ (A : Around) (outer : List Env) (s : Shared) (H : Hp) (vs : List V) (Q : VK) (E : XK), Room k (A.deeper (envOfC qual (defScope st) s.heap.objs.size f (.ref c))) → sp vs H Q E →
      ∃ t, PSs (cxOf CX0 P w K mg base N qual (defScope st) f (.ref c) A outer s H E).nox (defBody st) t ∧ t { nx := fun _ H' => Q .non H', rt := Q } (start N vs) H) : FnOk P w K mg base CX0 (k + 1) f fd ps sp := by
  obtain ⟨oc, od, kV, doc, pm, an, ct, osl, e, lk, hcd⟩ := F.ex
  cases e
  refine fn_of lk hcd S len fun A outer s H vs Q E hr hsp => ?_
  obtain ⟨t, h, q⟩ := hbody A outer s H vs Q E hr hsp
  exact ⟨t, h.nox, q⟩
theorem func_mk {x qual : Str} {st : Stmt} {f c : Addr} {oc : Value} {od an : Option Addr} {osl : Array (Option Value)} {kV doc pm ct : Value} (l : K.lookup f = some ⟨oc, od, .func (PySem.W.fnOf x qual (defArgs st) (defBody st) (defScope st) .none kV doc pm an (.ref c) ct), osl⟩)
    (h : PySem.W.codeIn K (.ref c) qual = true) (k : PySem.W.keepIn K (.ref f) = true) : FunC K x qual st f (PySem.W.fnOf x qual (defArgs st) (defBody st) (defScope st) .none kV doc pm an (.ref c) ct) c := ⟨⟨oc, od, kV, doc, pm, an, ct, osl, rfl, l, h⟩, k⟩
end
end My

set_option Elab.async false
set_option linter.all false
set_option maxRecDepth 100000
/-! data of ints, texts, truth values, None and tuples; heaps that keep all but some places -/
namespace My
open PySem PySem.Spec PyProof.Rows L2
/-! ### what is kept -/
structure KT (S : List Addr) (H H' : Hp) : Prop where
  kp : ∀ b o, b ∉ S → H b = some o → H' b = some o
  tp : ∀ b xs, H b = some (.tup xs) → H' b = some (.tup xs)
  fz : ∀ b o u, H b = some (.frz o u) → H' b = some (.frz o u)
  th : ∀ b o, H b = some o → ∃ o', H' b = some o'
  hd : ∀ b c t, H b = some (.lst (.ref c :: t)) → ∃ t', H' b = some (.lst (.ref c :: t'))
section
variable {S S' : List Addr} {H H1 H2 H' : Hp} {K : PySem.W.Frag}
theorem KT.refl (S : List Addr) (H : Hp) : KT S H H := ⟨fun _ _ _ e => e, fun _ _ e => e, fun _ _ _ e => e, fun _ o e => ⟨o, e⟩, fun _ _ t e => ⟨t, e⟩⟩
theorem KT.trans (a : KT S H H1) (b : KT S H1 H2) : KT S H H2 :=
  ⟨fun c o n e => b.kp c o n (a.kp c o n e), fun c xs e => b.tp c xs (a.tp c xs e), fun c o u e => b.fz c o u (a.fz c o u e), fun c o e => let ⟨o', e'⟩ := a.th c o e; b.th c o' e', fun c d t e => let ⟨t', e'⟩ := a.hd c d t e; b.hd c d t' e'⟩
theorem KT.mono (a : KT S H H1) (h : ∀ b ∈ S, b ∈ S') : KT S' H H1 := ⟨fun b o n e => a.kp b o (fun z => n (h b z)) e, a.tp, a.fz, a.th, a.hd⟩
theorem KT.new (S : List Addr) {p : Addr} {o : HO} (h : H p = none) : KT S H (upd H p o) :=
  ⟨fun b x _ e => by rw [upd_ne (ne_of_none e h)]; exact e, fun b x e => by rw [upd_ne (ne_of_none e h)]; exact e, fun b x u e => by rw [upd_ne (ne_of_none e h)]; exact e, fun b x e => ⟨x, by rw [upd_ne (ne_of_none e h)]; exact e⟩, fun b c t e => ⟨t, by rw [upd_ne (ne_of_none e h)]; exact e⟩⟩
theorem KT.of_same (a : Same H H1) : KT S H H1 := ⟨fun b o _ e => a b o e, fun b xs e => a b _ e, fun b o u e => a b _ e, fun b o e => ⟨o, a b o e⟩, fun b c t e => ⟨t, a b _ e⟩⟩
/-- a place changes that is no tuple and not locked -/
theorem KT.put {p : Addr} {u o : HO} (hp : p ∈ S) (h : H p = some u) (h1 : ∀ xs, u ≠ .tup xs) (h2 : ∀ o v, u ≠ .frz o v) (h3 : ∀ xs, u ≠ .lst xs) : KT S H (upd H p o) :=
  ⟨fun b x n e => by rw [upd_ne (fun z => n (by rw [z]; exact hp))]; exact e, fun b x e => by
    rw [upd_ne (fun z => by rw [z, h] at e; exact h1 x (Option.some.inj e))]; exact e, fun b x v e => by
    rw [upd_ne (fun z => by rw [z, h] at e; exact h2 x v (Option.some.inj e))]; exact e, fun b x e => by
    by_cases z : b = p
    · exact ⟨o, by rw [z, upd_same]⟩
    · exact ⟨x, by rw [upd_ne z]; exact e⟩, fun b c t e => ⟨t, by rw [upd_ne (fun z => by rw [z, h] at e; exact h3 _ (Option.some.inj e))]; exact e⟩⟩
/-- a place changes that did not stand at the start -/
theorem KT.late {p : Addr} {o : HO} (a : KT S H H1) (h : H p = none) : KT S H (upd H1 p o) :=
  ⟨fun b x n e => by rw [upd_ne (ne_of_none e h)]; exact a.kp b x n e, fun b x e => by rw [upd_ne (ne_of_none e h)]; exact a.tp b x e, fun b x u e => by rw [upd_ne (ne_of_none e h)]; exact a.fz b x u e,
    fun b x e => by rw [upd_ne (ne_of_none e h)]; exact a.th b x e, fun b c t e => by rw [upd_ne (ne_of_none e h)]; exact a.hd b c t e⟩
theorem KT.free (a : KT S H H1) {p : Addr} (h : H1 p = none) : H p = none := by
  cases q : H p with
  | none => rfl
  | some o =>
    obtain ⟨o', e⟩ := a.th p o q
    rw [h] at e
    cases e
theorem KT.tab {P : Addr} (h : GxR.Tabbed P H H1) (t : GxR.TabG H P) (hP : P ∈ S) : KT S H H1 := by
  obtain ⟨ps, e, _⟩ := t
  obtain ⟨⟨ps', e', _⟩, k⟩ := h
  have ne : ∀ b o, H b = some o → (∀ q, o ≠ .tbl q) → b ≠ P := fun b o q n z => by rw [z, e] at q; exact n ps (Option.some.inj q).symm
  refine ⟨fun b o n q => ?_, fun b xs q => ?_, fun b o u q => ?_, fun b o q => ?_, fun b c t q => ⟨t, by rw [k b (ne b _ q (fun _ z => by cases z))]; exact q⟩⟩
  · rw [k b (fun z => n (by rw [z]; exact hP))]; exact q
  · rw [k b (ne b _ q (fun _ z => by cases z))]; exact q
  · rw [k b (ne b _ q (fun _ z => by cases z))]; exact q
  · by_cases z : b = P
    · exact ⟨_, by rw [z]; exact e'⟩
    · exact ⟨o, by rw [k b z]; exact q⟩
theorem KT.sqT (a : KT S H H1) {p : Addr} {xs : List V} (h : SqT K H p xs) : SqT K H1 p xs := by
  rcases h with (h | ⟨o, h⟩) | h
  · exact .inl (.inl (a.tp _ _ h))
  · exact .inl (.inr ⟨o, a.fz _ _ _ h⟩)
  · exact .inr h
theorem KT.sqL (a : KT S H H1) {p : Addr} {xs : List V} (n : p ∉ S) (h : SqL K H p xs) : SqL K H1 p xs := by
  rcases h with (h | ⟨o, h⟩) | h
  · exact .inl (.inl (a.kp _ _ n h))
  · exact .inl (.inr ⟨o, a.fz _ _ _ h⟩)
  · exact .inr h
end
/-! ### data -/
mutual
inductive Rp (K : PySem.W.Frag) (H : Hp) : V → PyData → Prop
  | non : Rp K H .non .none
  | bl (b : Bool) : Rp K H (.bl b) (.bool b)
  | int (i : Int) : Rp K H (.int i) (.int i)
  | str (x : Str) : Rp K H (.str x) (.str x)
  | tup {a : Addr} {xs : List V} {ds : List PyData} : SqT K H a xs → RpA K H xs ds → Rp K H (.ref a) (.tuple ds)
inductive RpA (K : PySem.W.Frag) (H : Hp) : List V → List PyData → Prop
  | nil : RpA K H [] []
  | cons {v : V} {vs : List V} {d : PyData} {ds : List PyData} : Rp K H v d → RpA K H vs ds → RpA K H (v :: vs) (d :: ds)
end
section
variable {K : PySem.W.Frag} {S : List Addr} {H H' : Hp}
mutual
theorem Rp.keep (k : KT S H H') : ∀ {d : PyData} {v : V}, Rp K H v d → Rp K H' v d
  | .none, _, h => by cases h; exact .non
  | .bool b, _, h => by cases h; exact .bl b
  | .int i, _, h => by cases h; exact .int i
  | .str x, _, h => by cases h; exact .str x
  | .list ds, _, h => by cases h
  | .dict ds, _, h => by cases h
  | .tuple ds, _, h => by
    cases h with
    | tup hs ha => exact .tup (k.sqT hs) (RpA.keep k ha)
theorem RpA.keep (k : KT S H H') : ∀ {ds : List PyData} {vs : List V}, RpA K H vs ds → RpA K H' vs ds
  | [], _, h => by cases h; exact .nil
  | d :: ds, _, h => by
    cases h with
    | cons h1 h2 => exact .cons (Rp.keep k h1) (RpA.keep k h2)
end
mutual
theorem Rp.dp : ∀ {d : PyData} {v : V}, Rp K H v d → Dp K H v d
  | .none, _, h => by cases h; exact .non
  | .bool b, _, h => by cases h; exact .bl b
  | .int i, _, h => by cases h; exact .int i
  | .str x, _, h => by cases h; exact .str x
  | .list ds, _, h => by cases h
  | .dict ds, _, h => by cases h
  | .tuple ds, _, h => by
    cases h with
    | tup hs ha => exact .tup hs (RpA.dp ha)
theorem RpA.dp : ∀ {ds : List PyData} {vs : List V}, RpA K H vs ds → DpAll K H vs ds
  | [], _, h => by cases h; exact .nil
  | d :: ds, _, h => by
    cases h with
    | cons h1 h2 => exact .cons (Rp.dp h1) (RpA.dp h2)
end
theorem RpA.length : ∀ {ds : List PyData} {vs : List V}, RpA K H vs ds → vs.length = ds.length
  | [], _, h => by cases h; rfl
  | d :: ds, _, h => by
    cases h with
    | cons h1 h2 => rw [List.length_cons, List.length_cons, RpA.length h2]
theorem RpA.get : ∀ {ds : List PyData} {vs : List V} {i : Nat} {v : V}, RpA K H vs ds → vs[i]? = some v → ∃ d, ds[i]? = some d ∧ Rp K H v d
  | [], _, i, v, h, e => by cases h; simp at e
  | d :: ds, _, i, v, h, e => by
    cases h with
    | cons h1 h2 =>
      cases i with
      | zero => simp at e; subst e; exact ⟨d, rfl, h1⟩
      | succ i =>
        obtain ⟨d', e', r⟩ := RpA.get h2 (i := i) (v := v) (by simpa using e)
        exact ⟨d', by simpa using e', r⟩
theorem RpA.app : ∀ {ds es : List PyData} {vs us : List V}, RpA K H vs ds → RpA K H us es → RpA K H (vs ++ us) (ds ++ es)
  | [], _, _, _, h, g => by cases h; exact g
  | d :: ds, _, _, _, h, g => by
    cases h with
    | cons h1 h2 => exact .cons h1 (RpA.app h2 g)
theorem RpA.snoc {ds : List PyData} {vs : List V} {v : V} {d : PyData} (h : RpA K H vs ds) (g : Rp K H v d) : RpA K H (vs ++ [v]) (ds ++ [d]) := h.app (.cons g .nil)
theorem RpA.take : ∀ {ds : List PyData} {vs : List V} (n : Nat), RpA K H vs ds → RpA K H (vs.take n) (ds.take n)
  | _, _, 0, _ => by simp only [List.take_zero]; exact .nil
  | [], _, n + 1, h => by cases h; simp only [List.take_nil]; exact .nil
  | d :: ds, _, n + 1, h => by
    cases h with
    | cons h1 h2 => rw [List.take_succ_cons, List.take_succ_cons]; exact .cons h1 (RpA.take n h2)
theorem RpA.drop : ∀ {ds : List PyData} {vs : List V} (n : Nat), RpA K H vs ds → RpA K H (vs.drop n) (ds.drop n)
  | _, _, 0, h => h
  | [], _, n + 1, h => by cases h; simp only [List.drop_nil]; exact .nil
  | d :: ds, _, n + 1, h => by
    cases h with
    | cons h1 h2 => rw [List.drop_succ_cons, List.drop_succ_cons]; exact RpA.drop n h2
/-- a tuple just made -/
theorem Rp.made {p : Addr} {vs : List V} {ds : List PyData} (hp : H p = none) (h : RpA K H vs ds) : Rp K (upd H p (.tup vs)) (.ref p) (.tuple ds) := .tup (SqT.of upd_same) (h.keep (KT.new [] hp))
theorem Rp.inv {v : V} {ds : List PyData} (h : Rp K H v (.tuple ds)) : ∃ a xs, v = .ref a ∧ SqT K H a xs ∧ RpA K H xs ds := by
  cases h with
  | tup hs ha => exact ⟨_, _, rfl, hs, ha⟩
theorem RpA.inv {vs : List V} {d : PyData} {ds : List PyData} (h : RpA K H vs (d :: ds)) : ∃ v r, vs = v :: r ∧ Rp K H v d ∧ RpA K H r ds := by
  cases h with
  | cons h1 h2 => exact ⟨_, _, rfl, h1, h2⟩
theorem RpA.inv0 {vs : List V} (h : RpA K H vs []) : vs = [] := by cases h; rfl
theorem Rp.sInv {v : V} {x : Str} (h : Rp K H v (.str x)) : v = .str x := by cases h; rfl
theorem Rp.iInv {v : V} {x : Int} (h : Rp K H v (.int x)) : v = .int x := by cases h; rfl
end
end My

set_option Elab.async false
set_option linter.all false
set_option maxRecDepth 100000
set_option maxHeartbeats 4000000
namespace My
open PySem PySem.Spec PyProof.Rows L2
theorem tuple_mul1 (l : Addr) (items : Array Value) (n : Nat) (dd : Option Addr) (sl : Array (Option Value)) (x : Int) (u : Tok) (c0 : (decide (x < -(2 ^ 63)) || decide (x ≥ 2 ^ 63)) = false) (c1 : (items.isEmpty || x == 1) = true) :
    Meets (Builtin.«tuple.__mul__» ⟨[.ref l, .int x u], []⟩) (fun _ R s => s.heap.get? l = some { cls := .type "tuple", dict := dd, data := .seq items n, slots := sl } ∧
      R (.ok (.ret (Value.ref l))) s) :=
  .of_wp fun prog w A R s h => by
    obtain ⟨hp, g, d, tk, os⟩ := s
    obtain ⟨hl, h⟩ := h
    have f1 := AutoSeq1.idx_int
    wp_walk using wpAny_loadPart' hl
    repeat (first
      | (refine wpAny_ite_false (decide_eq_false (by rw [c0]; exact Bool.false_ne_true)) ?_; wp_walk using wpAny_loadPart' hl)
      | (refine wpAny_ite_true (decide_eq_true c1) ?_; wp_walk using wpAny_loadPart' hl))
    exact ⟨_, rfl, h⟩
/-- (x,) * k, k from 1 on: the same tuple for 1, else a new one -/
def rRepZ (K : PySem.W.Frag) : R2 := fun x y H Q => ∃ l k xs, x = .ref l ∧ y = .int k ∧ SqT K H l xs ∧ xs ≠ [] ∧ 1 ≤ k ∧ k ≤ 1000 ∧ xs.length ≤ 1000 ∧ (k = 1 → Q (.ref l) H) ∧ (2 ≤ k → ∀ p, H p = none → Q (.ref p) (upd H p (.tup (List.replicate k.toNat xs).flatten)))
section
variable {X : Cx} {K : PySem.W.Frag}
theorem op_repZ (h : X.K = K) : OpR X (binaryOp .Mult) (rRepZ K) := by
  subst h
  intro pins s σ H x y v u Q I rx ry h
  obtain ⟨l, k, xs, rfl, rfl, hT, hne, h1, h2, hz, q1, q2⟩ := h
  by_cases hk : k = 1
  · subst hk
    have q := q1 rfl
    cases rx
    obtain ⟨t, rfl⟩ := ry
    obtain ⟨its, r, ⟨⟨cls, dd, data, sl⟩, ho, hc, n, hd⟩, hs⟩ := I.tuple hT
    simp only at hc hd
    subst hc hd
    refine wpAny_binaryOp_repeat_ref (T := "tuple") (U := "int") (by decide) ⟨_, ho, rfl⟩ (fun s' => typeIs_int s' 1 t) noFill_tuple_mul F.fills_int_mul F.slot_int_rmul repeat_tuple F.slot_int_index.lookup
      (call_meets F.slot_int_rmul (typeIs_int s 1 t) F.entry_int_rmul (F.args_int_rmul_2 _ _) (int_rmul_tuple 1 t l its.toArray n dd sl)
        ⟨ho, rfl, ⟨_, ho, rfl⟩, call_meets F.slot_tuple_mul ⟨_, ho, rfl⟩ F.entry_tuple_mul (F.args_tuple_mul_2 _ _) (tuple_mul1 l its.toArray n dd sl 1 t (by decide) (by simp)) ⟨ho, ?_⟩⟩)
    exact ⟨.ref l, H, I, rfl, q⟩
  · exact op_repT pins s σ H _ _ v u Q I rx ry ⟨l, k, xs, rfl, rfl, hT, hne, by omega, h2, hz, q2 (by omega)⟩
end
/-- the truth of the name in the i-th slot -/
theorem pt_truthK {X : Cx} {K : PySem.W.Frag} (h : X.K = K) (i : Nat) {x : Str} {pos : Pos} (hN : X.N[i]? = some x := by rfl) (hv : Vis X.env.scope x := by first | exact Or.inl rfl | exact Or.inr (Or.inl rfl) | exact Or.inr (Or.inr rfl)) (hd : (x == ("__debug__" : Str)) = false := by decide)
    (hcd : (x == ("__classdict__" : Str)) = false := by decide) : PT X (.Name x pos) (fun σ H Q => tVar i σ H fun x H' => ∃ k, TruV K x H' k ∧ Q k H') := by
  subst h
  exact pt_truth (pv i hN hv hd hcd) (by intro _; rfl)
end My

set_option Elab.async false
set_option linter.all false
set_option maxRecDepth 100000
/-! the end of a row whose defs hold generator expressions -/
namespace My
open PySem PySem.Spec PyProof.Rows L2
/-- what the head tells of the defs' code objects: their tables are empty -/
def RecTabs (q : Program) (mg : Str → Option Value) (h : Heap) : Prop := ∀ d ∈ recsOf q, ∃ a o fd c P, mg d.name = some (.ref a) ∧ h.get? a = some o ∧ o.data = .func fd ∧ fd.code = .ref c ∧ h.IsCode c P #[] ∧ h.TableAt c P #[]
theorem walk_ofG {l : PySem.W.OpenLaw} {n k : Nat} {q : Program} {loose : List Str} {XP : (Str → Option Value) → Heap → Prop} {YP : World → Heap → Prop} {d : DefRec} {K : Params → PySem.W.Frag} {x : Str}
    (hn : l.most = some n) (hn2 : n ≤ sizeLine) (hdf : d.params.defaults = []) (hr : Room k callerA) (hY : ∀ (w : World) (h : Heap), YP w h → (K w.params).In h)
    (F : ∀ (w : World) (mg : Str → Option Value) (fa : Addr) (h : Heap), (K w.params).In h → h.Ns mainGlobals mg → mg d.name = some (.ref fa) → RecTabs q mg h → LamX.LawAtS l w (K w.params) CX0 k n x mg fa h) :
    PySem.W.WalkO q loose XP YP l.row.toRowW d [] (fun f vs => PySem.call f vs) := by
  refine Att.attach_callB hn hdf fun w s₀ s₁ mg mb fa o pm cd doc a vs ns G Y ho hd hcd hmg hobj hints hlen hbits hg => ?_
  have KX := hY w _ Y
  obtain ⟨fd, cs, sp, hT, nT, C, hb, hsp, hF⟩ := F w mg fa _ KX G.T.g hmg G.T.tab
  exact LamX.law_callTs KX G.T.g G.T.b G.T.builtins G.T.nolimit hg hT nT C G.T.bmain hobj hints (Nat.le_trans hlen hn2) hr hF hb (fun H hH hS => hsp H a ns hlen hbits hH hS) fun H e s' h => h
/-- the table of the code object at c -/
def codeTab (K : PySem.W.Frag) (c : Addr) : Option Addr := match K.lookup c with
  | some ⟨_, _, .fields vs, _⟩ => (match (vs[11]? : Option Value) with | some (.ref P) => some P | _ => none)
  | _ => none
/-- the table of the def that bears this name stands empty -/
theorem tab_of {q : Program} {mg : Str → Option Value} {h : Heap} {K : PySem.W.Frag} {nm : Str} {f c P : Addr} {oc : Value} {od : Option Addr} {fd : FuncData} {osl : Array (Option Value)} (T : RecTabs q mg h) (X : K.In h)
    (hrec : ((recsOf q).any fun e => e.name == nm) = true) (hm : mg nm = some (.ref f)) (lk : K.lookup f = some ⟨oc, od, .func fd, osl⟩) (hc : fd.code = .ref c) (hd : codeTab K c = some P) : h.get? P = some { cls := .none, data := .fields #[] } := by
  obtain ⟨d, hd1, e⟩ := List.any_eq_true.mp hrec
  have e : d.name = nm := beq_iff_eq.mp e
  obtain ⟨a, o, fd', c', P', h1, h2, h3, h4, h5, h6⟩ := T d hd1
  rw [e, hm] at h1
  cases h1
  rw [X _ _ lk] at h2
  cases h2
  cases h3
  rw [hc] at h4
  cases h4
  obtain ⟨⟨oc', vc, e1, _, e3, e4⟩, hP⟩ := h6
  unfold codeTab at hd
  split at hd
  · rename_i vs _ hk
    rw [X _ _ hk] at e1
    cases e1
    cases e3
    rw [e4] at hd
    cases hd
    exact hP
  · cases hd
/-- the code object's fields are in order -/
def hdOk (vs : Array Value) (c P : Addr) : Bool := (match (vs[11]? : Option Value) with | some (.ref P') => P' == P | _ => false) &&
  (match vs.getD 18 .none with | .str _ _ => true | _ => false) && (match vs.getD 7 .none with | .int _ _ => true | _ => false) &&
  (match vs.getD 9 .none with | .bool _ => true | _ => false) && (match vs.getD 10 .none with | .int _ _ => true | _ => false) && c != P
theorem codeHd_mk {K : PySem.W.Frag} {c P : Addr} {vs : Array Value} {dd : Option Addr} {sl : Array (Option Value)} (lk : K.lookup c = some ⟨.type "code", dd, .fields vs, sl⟩) (_ : vs[11]? = some (.ref P)) (h : hdOk vs c P = true) : PySem.W.codeHdIn K c P = true := by
  unfold PySem.W.codeHdIn
  rw [lk]
  exact h
theorem codeTab_mk {K : PySem.W.Frag} {c P : Addr} {vs : Array Value} {dd : Option Addr} {sl : Array (Option Value)} (lk : K.lookup c = some ⟨.type "code", dd, .fields vs, sl⟩) (h : vs[11]? = some (.ref P)) : codeTab K c = some P := by
  unfold codeTab
  rw [lk]
  show (match (vs[11]? : Option Value) with | some (.ref P) => some P | _ => none) = _
  rw [h]
end My

set_option Elab.async false
set_option linter.all false
set_option maxRecDepth 100000
namespace My
open PySem PySem.Spec PyProof.Rows L2
/-! small steps of a reading -/
theorem ite_f {c A B : Prop} [Decidable c] (h : ¬ c) (q : B) : if c then A else B := by rw [if_neg h]; exact q
theorem ite_t {c A B : Prop} [Decidable c] (h : c) (q : A) : if c then A else B := by rw [if_pos h]; exact q
theorem dstr_ne {a b : Str} (h : ¬ a = b) : ¬ decide (V.str a = V.str b) = true := fun z => h (V.str.inj (of_decide_eq_true z))
theorem dstr_eq {a b : Str} (h : a = b) : decide (V.str a = V.str b) = true := decide_eq_true (by rw [h])
theorem dint_ne {a b : Int} (h : ¬ a = b) : ¬ decide (V.int a = V.int b) = true := fun z => h (V.int.inj (of_decide_eq_true z))
theorem dint_eq {a b : Int} (h : a = b) : decide (V.int a = V.int b) = true := decide_eq_true (by rw [h])
theorem dget_s {H : Hp} {a : Addr} {kvs : List (Key × V)} {x : Str} {v : V} (e : H a = some (.dK kvs)) (h : valV kvs (.inr x) = some v) : DGet H a (.str x) (some v) := by
  rw [← h]
  exact DGet.k (k := Sum.inr x) e
theorem dget_f {H : Hp} {a : Addr} {o : Obj} {kvs : List (Key × V)} {x : Str} {v : V} (e : H a = some (.frz o (.dK kvs))) (h : valV kvs (.inr x) = some v) : DGet H a (.str x) (some v) := by
  rw [← h]
  exact .inl ⟨kvs, .inr x, .inr ⟨o, e⟩, rfl, rfl⟩
theorem not_bl {b : Bool} (h : b = false) : ¬ b = true := by rw [h]; exact Bool.false_ne_true
end My
namespace My
open PySem PySem.Spec PyProof.Rows L2
theorem or_bl {a b : Bool} {p : Prop} (h : ¬ a = true) (g : b = true ∨ p) : b = true ∨ p := g
theorem dp_strL {K : PySem.W.Frag} {H : Hp} : ∀ xs : List Str, DpAll K H (xs.map V.str) (xs.map PyData.str)
  | [] => .nil
  | x :: r => .cons (.str x) (dp_strL r)
theorem layAll_strs : ∀ xs : List Str, (∀ x ∈ xs, (PyData.str x).canLay0 = true) → PyData.canLayAll0 (xs.map PyData.str) = true
  | [], _ => rfl
  | x :: r, h => by
    show (PyData.canLay0 (.str x) && PyData.canLayAll0 (r.map PyData.str)) = true
    rw [layAll_strs r (fun y hy => h y (List.mem_cons_of_mem _ hy)), Bool.and_true]
    exact h x List.mem_cons_self
theorem depthAll_strs : ∀ xs : List Str, PyData.depthAll (xs.map PyData.str) = 0
  | [] => rfl
  | x :: r => by
    show max (PyData.depth (.str x)) (PyData.depthAll (r.map PyData.str)) = 0
    rw [depthAll_strs r]
    rfl
theorem shaped_strs (xs : List Str) (h : ∀ x ∈ xs, (PyData.str x).canLay0 = true) : SeqAt.shaped (.list (xs.map PyData.str)) = true := by
  unfold SeqAt.shaped
  rw [Bool.and_eq_true]
  refine ⟨layAll_strs xs h, decide_eq_true ?_⟩
  show PyData.depthAll (xs.map PyData.str) + 1 ≤ 64
  rw [depthAll_strs]
  decide
theorem eqv_nil (xs : List PyData) : PyData.eqv (.list xs) (.list []) = xs.isEmpty := by
  cases xs with
  | nil => rfl
  | cons x r => rfl
/-! a statement laid open -/
theorem seq_asg_op {r : R2} {ta tb : TE} {g : TG} {u : TS} {D : Ends} {σ : L2.St} {H : Hp} (h : ta σ H fun x H1 => tb σ H1 fun y H2 => r x y H2 fun v H3 => g v σ H3 (u D)) : tSeq (tAsg (tOp r ta tb) g) u D σ H := h
theorem seq_asg {te : TE} {g : TG} {u : TS} {D : Ends} {σ : L2.St} {H : Hp} (h : te σ H fun v H3 => g v σ H3 (u D)) : tSeq (tAsg te g) u D σ H := h
theorem seq_any {t u : TS} {D : Ends} {σ : L2.St} {H : Hp} (h : t { D with nx := u D } σ H) : tSeq t u D σ H := h
end My
namespace My
open PySem PySem.Spec PyProof.Rows L2
/-! the same operators, the written part by its name: within a comprehension's block -/
section
variable {X : Cx} {K : PySem.W.Frag}
theorem opNI (h : X.K = K) : OpR X (compareOp .NotIn) (rIn K true) := by subst h; exact op_notIn_seq
theorem opIN (h : X.K = K) : OpR X (compareOp .In) (rIn K false) := by subst h; exact op_in_seq
theorem ixL (h : X.K = K) : IxR X (rIxL K) := by subst h; exact ix_list
theorem ixT (h : X.K = K) : IxR X (rIxT K) := by subst h; exact ix_tup
theorem ixQ (h : X.K = K) : IxR X (rIx K) := by subst h; exact ix_seq
theorem opED (h : X.K = K) (hu : X.A.units + 64 < cLine) : OpR X (compareOp .Eq) (rEqD K) := by subst h; exact op_eqD hu
theorem opND (h : X.K = K) (hu : X.A.units + 64 < cLine) : OpR X (compareOp .NotEq) (rNeD K) := by subst h; exact op_neD hu
theorem slL (h : X.K = K) : SlR X (rSlL K) := by subst h; exact sl_list
theorem slT (h : X.K = K) : SlR X (rSlA K) := by subst h; exact sl_tupA
theorem catT (h : X.K = K) : OpR X (binaryOp .Add) (rCatA K) := by subst h; exact op_catA
theorem lnQ (h : X.K = K) : CallR X (.builtin "len") (fun xs H Q => ∃ p ys, xs = [.ref p] ∧ (SqL K H p ys ∨ SqT K H p ys) ∧ Q (.int ys.length) H) := by subst h; exact call_len_seq
theorem lsO (h : X.K = K) : CallR X (.type "list") (fun xs H Q => ∃ p ys, xs = [.ref p] ∧ (SqL K H p ys ∨ SqT K H p ys) ∧ ∀ l, H l = none → Q (.ref l) (upd H l (.lst ys))) := by subst h; exact call_list_of
theorem tpO (h : X.K = K) : CallR X (.type "tuple") (fun xs H Q => ∃ p ys, xs = [.ref p] ∧ ((SqL K H p ys ∧ ∀ l, H l = none → Q (.ref l) (upd H l (.tup ys))) ∨ (SqT K H p ys ∧ Q (.ref p) H))) := by subst h; exact call_tuple_of
theorem isI (h : X.K = K) : CallR X (.builtin "isinstance") (rIsi K) := by subst h; exact call_isi
end
end My
namespace My
open PySem PySem.Spec PyProof.Rows L2
/-! a walk over a list or a tuple, as it comes -/
section
variable {X : Cx} {tg : Expr}
def iSeq (K : PySem.W.Frag) (tl : TE) : TI := fun σ H R => tl σ H fun x H1 => ∃ (a : Addr) (xs : List V) (G : Hp → Prop), x = .ref a ∧ ((G = fun H => SqL K H a xs) ∨ (G = fun H => SqT K H a xs)) ∧ G H1 ∧ ∀ J, Walk J xs.length G (YAt xs) → R J H1
theorem pi_seq {l : Expr} {tl : TE} (hl : PE X l tl) : PI X tg l (iSeq X.K tl) := by
  refine ⟨fun pins s σ H R I h => ?_⟩
  refine thn (hl.run pins s σ H _ I h) fun v s1 ⟨x, H1, I1, r1, q1⟩ => ?_
  obtain ⟨a, xs, G, e, hG, g1, q⟩ := q1
  subst e
  cases r1
  have fp : ∀ b ∈ [s1.heap.objs.size], FpOk X pins H1 b := fun b hb => by
    rw [List.mem_singleton.mp hb]
    exact I1.fpOk (Nat.le_refl _) (I1.hok.fresh (Nat.le_refl _))
  rcases hG with rfl | rfl
  · have hq : SqL X.K H1 a xs := g1
    obtain ⟨its, _, p, _⟩ := I1.list hq
    refine wpAny_pyIter_list p.isList ?_
    exact ⟨_, _, _, _, H1, rfl, I1.kept (t' := s1.toks) fun b o e => Heap.get?_push_of_some _ e, turn_list a _, ⟨_, Heap.get?_push_size _ rfl, rfl, rfl⟩, fp, q _ walk_list⟩
  · have hq : SqT X.K H1 a xs := g1
    obtain ⟨its, _, p, _⟩ := I1.tuple hq
    refine wpAny_pyIter_tuple (show s1.heap.IsTuple a its.toArray from p) ?_
    exact ⟨_, _, _, _, H1, rfl, I1.kept (t' := s1.toks) fun b o e => Heap.get?_push_of_some _ e, turn_tuple a _, ⟨_, Heap.get?_push_size _ rfl, rfl, rfl⟩, fp, q _ walk_tup⟩
end
theorem lookup_memG {β : Type} {nm : List (Str × β)} (nd : (nm.map (·.1)).Nodup) {x : Str} {s : β} (h : (x, s) ∈ nm) : nm.lookup x = some s := by
  induction nm with
  | nil => cases h
  | cons p r ih =>
    obtain ⟨y, t⟩ := p
    rw [List.map_cons, List.nodup_cons] at nd
    rcases List.mem_cons.mp h with e | h
    · cases e
      rw [List.lookup_cons_self]
    · have ne : ¬ x = y := fun z => nd.1 (by rw [← z]; exact List.mem_map.mpr ⟨_, h, rfl⟩)
      rw [List.lookup_cons]
      have : (x == y) = false := by simpa using ne
      rw [this]
      exact ih nd.2 h
end My

set_option Elab.async false
set_option linter.all false
set_option maxRecDepth 100000
/-! methods of built-in types within a comprehension -/
namespace My
open PySem PySem.Spec PyProof.Rows L2
section
variable {X : Cx} {K : PySem.W.Frag} {o e : Expr} {es : List Expr} {to : TE} {t : TA} {name : Str} {apos cpos : Pos} {T id : String} {r : V → List V → Hp → VK → Prop}
theorem pe_bmK (h : X.K = K) (pa : PlainAttrs T) (slot : Slot T name id) (hty : typeOf (.builtin id) = pure (.type "method_descriptor")) (hm : MtR X id r) (ho : PE X o to) (ha : PA X (e :: es) t) (hbase : attributeBase o name X.env (eval o X.env) = eval o X.env := by rfl)
    (hfew : ((backTo cpos (starEach (e :: es) X.env)).all (fun x => !x.1) && (backToKw cpos (keywordEach [] X.env)).all (fun x => x.1.isSome) && decide ((e :: es).length + ([] : List Keyword).length + (if ([] : List Keyword).isEmpty then 0 else 1) < 30)) = true := by rfl)
    (hline : (apos.endLine == cpos.line) = true := by rfl) (hs : starEach (e :: es) X.env = (false, eval e X.env) :: starEach es X.env := by rfl) (hplain : (backTo cpos (starEach es X.env)).any (·.1) = false := by rfl) :
    PE X (.Call (.Attribute o name apos) (e :: es) [] cpos) (tBM K T r to t) := by
  subst h
  exact pe_bm pa slot hty hm ho ha hbase hfew hline hs hplain
/-- the truth of any expression -/
def tTru (K : PySem.W.Frag) (ta : TE) : TT := fun σ H Q => ta σ H fun x H' => ∃ k, TruV K x H' k ∧ Q k H'
theorem pt_truthE {a : Expr} {ta : TE} (h : X.K = K) (ha : PE X a ta) (he : ∀ whole, isTrue a X.env whole = (do let v ← whole; standAt a.pos; holding [v] (truthy v))) : PT X a (tTru K ta) := by
  subst h
  exact pt_truth ha he
end
end My

set_option Elab.async false
set_option linter.all false
set_option maxRecDepth 100000
set_option maxHeartbeats 2000000
/-! enumerate over a tuple -/
namespace My
open PySem PySem.Spec PyProof.Rows L2
open AutoSeq1 (wpAny_loadPart')
theorem meets_en {v : Value} {o : Obj} {B : Heap → Prop} (b : Begins v o B) : Meets (Builtin.«enumerate.__new__» ⟨[.type "enumerate", v], []⟩)
    (fun _ R s => B s.heap ∧ R (.ok (.ret (.ref (s.heap.push o).objs.size))) { s with heap := (s.heap.push o).push { cls := .type "enumerate", data := .fields #[.none, .bool false, .ref s.heap.objs.size, rawInt 0, .none, .none] } }) :=
  .of_wp fun prog w A R s h => by
    obtain ⟨hp, g, d, tk, os⟩ := s
    obtain ⟨h1, h⟩ := h
    have sb := sub_enumerate
    have it : ∀ {A' : Around} {E : Value → Shared → Prop} {Q : Value → Shared → Prop}, Q (.ref hp.objs.size) ⟨hp.push o, g, d, tk, os⟩ → wpAny (model prog w) A' (pyIter v) Q E ⟨hp, g, d, tk, os⟩ := fun q => b.iter prog w _ _ ⟨hp, g, d, tk, os⟩ _ h1 q
    wp_walk using it
    refine wpAny_stack_any fun u => wpAny_pure ?_
    split
    · rename_i c _ _ _ _ _
      cases (c == Value.type "enumerate") <;> (wp_walk using it; exact ⟨_, rfl, h⟩)
    · wp_walk using it
      exact ⟨_, rfl, h⟩
section
variable {prog : Program} {w : World} {A : Around} {E : Value → Shared → Prop} {s : Shared}
theorem call_en {v : Value} {o : Obj} {B : Heap → Prop} {Q : Value → Shared → Prop} (b : Begins v o B) (h1 : B s.heap)
    (h : ∀ h', IsEnum h' (s.heap.objs.size + 1) s.heap.objs.size 0 .none → h'.get? s.heap.objs.size = some o → (∀ c u, s.heap.get? c = some u → h'.get? c = some u) → Q (.ref (s.heap.objs.size + 1)) { s with heap := h' }) :
    wpAny (model prog w) A (call (.type "enumerate") [v]) Q E s := by
  refine callType_new F.called_enumerate (by decide) (F.typeCall_enumerate_1 _) (F.newCall_enumerate_1 _) (fun u => F.args_object_init_2 u _) F.entry_enumerate_new (meets_en b) ⟨h1, ?_⟩
  have z : (s.heap.push o).objs.size = s.heap.objs.size + 1 := Heap.size_push ..
  have e := Heap.get?_push_size (s.heap.push o) (o := { cls := .type "enumerate", data := .fields #[.none, .bool false, .ref s.heap.objs.size, rawInt 0, .none, .none] }) rfl
  rw [z] at e
  show _ ∧ _
  rw [z]
  exact ⟨⟨_, e, rfl⟩, h _ e (Heap.get?_push_of_some _ (Heap.get?_push_size _ b.free)) fun c u x => Heap.get?_push_of_some _ (Heap.get?_push_of_some _ x)⟩
end
/-- the tuple at a, each item in a new pair -/
def IteT (K : PySem.W.Frag) (a : Addr) : It where
  go := fun i H => ∃ (xs : List V) (x : V), SqT K H a xs ∧ xs[i]? = some x
  yld := fun i H v H' => ∃ T x, v = .ref T ∧ H T = none ∧ H' = upd H T (.tup [.int (i : Nat), x]) ∧ ∀ xs, SqT K H a xs → xs[i]? = some x
  stop := fun i H => ∃ xs : List V, SqT K H a xs ∧ xs.length ≤ i
theorem turn_enT {P : Program} {w : World} {K : PySem.W.Frag} {elts : List Expr} {kk : Nat} {tpos : Pos} (a e it : Addr) (hne : e ≠ it) (hea : e ≠ a) (hai : a ≠ it) :
    Turn P w K (.Tuple elts kk tpos) (IteT K a) [e, it] e (fun i h => (∃ old, IsEnum h e it ((i : Nat) : Int) old) ∧ h.IsTupleIter it a i) where
  mem := List.mem_cons_self
  obj := fun i h st b hb => by
    obtain ⟨⟨old, he⟩, o, ho, _, hd⟩ := st
    rcases List.mem_cons.mp hb with z | z
    · rw [z]; exact ⟨_, he, fun v q => nomatch q⟩
    · rw [List.mem_singleton.mp z]; exact ⟨o, ho, fun v q => by rw [hd] at q; cases q⟩
  keep := fun i h h' ⟨⟨old, he⟩, hi⟩ k => ⟨⟨old, k e (by simp) _ he⟩, hi.at fun o q => k it (by simp) o q⟩
  item := by
    intro X hP hw hK hc i pins s σ H E I hf st hg
    subst hP hw hK
    obtain ⟨⟨old, he⟩, hit⟩ := st
    obtain ⟨xs, x, hq, hx⟩ := hg
    obtain ⟨its, rv, ⟨po, p⟩, hz⟩ := I.tuple hq
    obtain ⟨u, hu, ru⟩ := rv.get hx
    have hi : i < its.toArray.size := by
      rw [List.size_toArray]
      exact (List.getElem?_eq_some_iff.mp hu).1
    have hel := Heap.lt_size he
    have hil : it < s.heap.objs.size := let ⟨_, q, _⟩ := hit; Heap.lt_size q
    have D : Draws X.prog X.w X.A.in1 it [it, a] its.toArray.size (fun i v => its.toArray[i]? = some v) (fun i h => h.IsTupleIter it a i ∧ h.IsTuple a its.toArray) := Draws.tuple (A := X.A.in1) (I.ok.hd hc) it a hai its.toArray
    refine wpAny_pyNext_enum_itemD (n := its.toArray.size) D he ⟨hit, ⟨po, p⟩⟩ hi hne (fun z => (List.mem_cons.mp z).elim hne fun z => hea (List.mem_singleton.mp z)) fun y h' tk hy ho hst hT hsz hk => ?_
    have hy : y = u := by
      have : its.toArray[i]? = some u := by simpa using hu
      exact Option.some.inj (hy.symm.trans this)
    subst hy
    refine ⟨_, rfl, wpAny_letOwnedTupleGo_enum (s := { s with heap := h', toks := tk + 1 }) ho fun h'' he' sb => ?_⟩
    have nT : s.heap.objs.size ≠ e := Nat.ne_of_gt hel
    have hT2 := (sb.2 _ nT).trans hT
    have new : ObjOk X.prog X.w (upd H s.heap.objs.size (.tup [.int (i : Nat), x])) h'' s.heap.objs.size (.tup [.int (i : Nat), x]) :=
      ⟨(by show 2 ≤ sizeLine; decide), [.int i tk, y], .cons ⟨_, rfl⟩ (.cons ru .nil), ⟨_, hT2, rfl, _, rfl⟩⟩
    have I1 : Inv X pins σ (upd H s.heap.objs.size (.tup [.int (i : Nat), x])) { s with heap := h'', toks := tk + 1 } :=
      I.turnedNew (ch := [e, it]) (fun b ob hb q => by
        have n1 : b ≠ e := fun z => hb (by rw [z]; simp)
        have n2 : b ≠ it := fun z => hb (by rw [z]; simp)
        exact (sb.2 b n1).trans (hk b ob n1 n2 q)) hf (Nat.le_refl _) new
    refine ⟨.ref s.heap.objs.size, _, I1, rfl, ⟨_, x, rfl, I.hok.fresh (Nat.le_refl _), rfl, fun ys hy => (I.tuple_inj hy hq) ▸ hx⟩, ⟨⟨y, ?_⟩, hst.1.at fun o q => (sb.2 it (Ne.symm hne)).trans q⟩, fun b hb => ?_⟩
    · have e1 : ((i + 1 : Nat) : Int) = (i : Int) + 1 := by omega
      rw [e1]; exact he'
    · have hb' : b ≠ s.heap.objs.size := by
        rcases List.mem_cons.mp hb with z | z
        · rw [z]; exact Nat.ne_of_lt hel
        · rw [List.mem_singleton.mp z]; exact Nat.ne_of_lt hil
      rw [upd_ne hb']
      exact (hf b hb).1
  done := by
    intro X hP hw hK hc i pins s σ H E I hf st hg
    subst hP hw hK
    obtain ⟨⟨old, he⟩, hit⟩ := st
    obtain ⟨xs, hq, hx⟩ := hg
    obtain ⟨its, rv, ⟨po, p⟩, hz⟩ := I.tuple hq
    obtain ⟨f0, f1, f2, f3, f4, f5⟩ := hf it (by simp)
    have D : wpAny (model X.prog X.w) X.A (pyNext (.ref e)) (fun r s1 => r = none ∧ Inv X pins σ H s1) E s := by
      have hT : s.TypeIs (.ref e) "enumerate" := ⟨_, he, rfl⟩
      unfold pyNext
      refine wpAny_bind (wpAny_attempt (wpAny_callSpecial?_slot (name := Str.ofString "__next__") hT F.slot_enumerate_next (wpAny_call_entry F.slot_enumerate_next hT F.entry_enumerate_next ?_ (F.args_enumerate_next_1 _))))
      show wpAny _ _ (field (.ref e) 2 >>= _) _ _ _
      refine wpAny_bind (wpAny_field he rfl (x := .ref it) rfl (wpAny_bind ?_))
      refine RZ.nextOf_tuple_end (I.ok.hd hc) hit ⟨po, p⟩ (by have := rv.length; simp; omega) fun h' x hx' hs => ?_
      obtain ⟨o, ho, hc'⟩ := hs
      exact wpAny_bind (wpAny_isInstance (T := "StopIteration") (b := true) ⟨o, ho, hc'⟩ isSubtype_stop (wpAny_pure ⟨rfl, I.turned (t' := s.toks) (fun b o hb q => hx' b o hb q) f0 f1 f3 f4 f5⟩))
    exact D
  self := fun A i s Q E st h => let ⟨⟨_, he⟩, _⟩ := st; wpAny_pyIter_enum he h
def iEnT (K : PySem.W.Frag) (ta : TA) : TI := fun σ H R => ta σ H fun vs H1 => ∃ a xs, vs = [.ref a] ∧ SqT K H1 a xs ∧ R (IteT K a) H1
theorem pi_enT {X : Cx} {e : Expr} {ta : TA} {p pos tpos : Pos} {elts : List Expr} {kk : Nat} (hg : Gl X "enumerate") (hm : X.mg "enumerate" = none) (ha : PA X [e] ta) (hs : starEach [e] X.env = [(false, eval e X.env)] := by rfl) :
    PI X (.Tuple elts kk tpos) (.Call (.Name "enumerate" p) [e] [] pos) (iEnT X.K ta) := by
  refine ⟨fun pins s σ H R I h => Call_ (ld_blt I hg hm boot_enumerate (PyProof.Rows.callWith_type1 (thn (ha.run pos pins s σ H _ I h) fun us s1 ⟨vs, H1, I1, r1, q1⟩ => ?_) hs rfl))⟩
  obtain ⟨a, xs, rfl, hq, q⟩ := q1
  cases r1 with
  | cons r rr =>
    cases rr
    cases r
    obtain ⟨its, rv, ⟨po, p'⟩, hz⟩ := I1.tuple hq
    have hal : a < s1.heap.objs.size := let ⟨q', _⟩ := p'; Heap.lt_size q'
    refine call_en (begins_tuple a its.toArray) ⟨po, p'⟩ fun h' he hit hk => wpAny_pyIter_enum he ?_
    refine ⟨s1.heap.objs.size + 1, [s1.heap.objs.size + 1, s1.heap.objs.size], _, _, H1, rfl, I1.kept (t' := s1.toks) hk, turn_enT a (s1.heap.objs.size + 1) s1.heap.objs.size (Nat.succ_ne_self _) (Nat.ne_of_gt (Nat.lt_succ_of_lt hal)) (Nat.ne_of_lt hal), ⟨⟨.none, he⟩, ⟨_, hit, rfl, rfl⟩⟩, fun b hb => ?_, q⟩
    have hle : s1.heap.objs.size ≤ b := by
      rcases List.mem_cons.mp hb with z | z
      · rw [z]; exact Nat.le_add_right _ _
      · rw [List.mem_singleton.mp z]; exact Nat.le_refl _
    exact I1.fpOk hle (I1.hok.fresh hle)
theorem walk_enT {K : PySem.W.Frag} {a : Addr} {xs : List V} : Walk (IteT K a) xs.length (fun H => SqT K H a xs) (YPair (fun i => some (.int (i : Nat))) (fun i => xs[i]?)) where
  goes := fun i _ hi q => ⟨xs, xs[i], q, by simp [hi]⟩
  stops := fun _ q => ⟨xs, q, Nat.le_refl _⟩
  yields := fun i H v H' _ q ⟨T, x, h1, h2, h3, h4⟩ => ⟨T, .int (i : Nat), x, h1, h2, h3, rfl, h4 xs q⟩
end My

set_option Elab.async false
set_option linter.all false
set_option maxRecDepth 100000
set_option maxHeartbeats 4000000
/-! enumerate over a zip of two tuples -/
namespace My
open PySem PySem.Spec PyProof.Rows L2
abbrev ZO (h : Heap) (z TI TO : Addr) (f : Value) (b : Bool) : Prop := h.get? z = some { cls := .type "zip", dict := none, data := .fields #[f, .bool b, .bool false, .ref TI, .ref TO], slots := #[] }
def Fo (f : Value) : Prop := f = .none ∨ ∃ T : Addr, f = rawInt T
structure ZS (h : Heap) (z TI TO i1 i2 a b : Addr) (k : Nat) : Prop where
  zo : ∃ f c, ZO h z TI TO f c ∧ Fo f
  ti : IsPair h TI (.ref i1) (.ref i2)
  to : ∃ x y, IsPair h TO x y
  j1 : h.IsTupleIter i1 a k
  j2 : h.IsTupleIter i2 b k
section
variable {prog : Program} {w : World} {A : Around} {E : Value → Shared → Prop} {s : Shared}
theorem alive_any {a : Addr} {Q : Option Obj → Shared → Prop} (q : Q (s.heap.get? a) s) : wpAny (model prog w) A (loadIfAlive a) Q E s := fun _ _ _ => q
/-- is the owned tuple free: either way -/
theorem own_z {z TI TO : Addr} {f : Value} {c : Bool} {Q : Bool → Shared → Prop} (o : ZO s.heap z TI TO f c) (hf : Fo f) (q1 : Q true s) (q0 : ∀ g, ZO g z TI TO f true → Heap.SameBut z s.heap g → Q false { s with heap := g }) :
    wpAny (model prog w) A (Builtin.SmallTypes.ownedTupleIsFree (.ref z)) Q E s := by
  unfold Builtin.SmallTypes.ownedTupleIsFree
  refine wpAny_bind (wpAny_field o rfl (x := f) rfl ?_)
  rcases hf with rfl | ⟨T, rfl⟩
  · exact wpAny_pure q1
  · show wpAny _ _ (loadIfAlive ((T : Int).toNat) >>= _) _ _ _
    refine wpAny_bind (alive_any ?_)
    cases e : s.heap.get? ((T : Int).toNat) with
    | none =>
      rw [if_pos (show ((none : Option Obj).isNone = true) from rfl)]
      exact wpAny_pure q1
    | some ob =>
      rw [if_neg (by simp)]
      refine wpAny_bind (wpAny_field o rfl (x := .bool c) rfl ?_)
      cases c with
      | true =>
        rw [if_neg (by decide)]
        exact wpAny_pure (q0 s.heap o (Heap.SameBut.refl _ _))
      | false =>
        rw [if_pos (by decide)]
        exact wpAny_bind (wpAny_setField_rec o (by simp) fun g og sg => wpAny_pure (q0 g og sg))
/-- the next pair of a zip -/
theorem zn_item {z TI TO i1 i2 a b : Addr} {k : Nat} {xs ys : Array Value} {x y : Value} {Q : Value → Shared → Prop} (D : ZipApart z TI TO i1 i2 a b) (S : ZS s.heap z TI TO i1 i2 a b k) (ha : s.heap.IsTuple a xs) (hb : s.heap.IsTuple b ys) (ex : xs[k]? = some x) (ey : ys[k]? = some y)
    (q : ∀ g, ZS g z TI TO i1 i2 a b (k + 1) → IsPair g s.heap.objs.size x y → g.objs.size = s.heap.objs.size + 1 → (∀ c o, c ≠ z → c ≠ TO → c ≠ i1 → c ≠ i2 → s.heap.get? c = some o → g.get? c = some o) → Q (.ref s.heap.objs.size) { s with heap := g }) :
    wpAny (model prog w) A (Builtin.SmallTypes.nextOf (.ref z)) Q E s := by
  obtain ⟨⟨f, c, zo, hf⟩, ti, ⟨u, v, to⟩, j1, j2⟩ := S
  have ty : s.TypeIs (.ref z) "zip" := ⟨_, zo, rfl⟩
  unfold Builtin.SmallTypes.nextOf
  refine wpAny_bind (wpAny_callSpecial?_slot (name := Str.ofString "__next__") ty F.slot_zip_next (wpAny_call_entry F.slot_zip_next ty F.entry_zip_next ?_ (F.args_zip_next_1 _)))
  show wpAny _ _ (field (.ref z) 2 >>= _) _ _ s
  refine wpAny_bind (wpAny_field zo rfl (x := .bool false) rfl ?_)
  show wpAny _ _ (field (.ref z) 3 >>= _) _ _ s
  refine wpAny_bind (wpAny_field zo rfl (x := .ref TI) rfl (wpAny_bind (wpAny_seqItems ti rfl ?_)))
  show wpAny _ _ (Builtin.SmallTypes.ownedTupleIsFree (.ref z) >>= _) _ _ s
  refine wpAny_bind (own_z zo hf ?_ fun g1 o1 s1 => ?_)
  · -- free
    simp only [if_true]
    refine wpAny_bind (wpAny_rule (wpAny_bind (wpAny_field zo rfl (x := .ref TO) rfl (wpAny_bind (wpAny_setField_rec zo (by simp) fun g1 o1 s1 => ?_)))))
    replace o1 : ZO g1 z TI TO .ellipsis c := o1
    refine wpAny_bind ?_
    simp only [List.zipIdx_cons, List.zipIdx_nil, List.forIn_cons, List.forIn_nil]
    refine wpAny_bind (wpAny_bind (wpAny_onRaise (wpAny_bind ?_)))
    refine RZ.nextOf_tuple_item (j1.extBut s1.extBut D.i1z) (ha.extBut s1.extBut D.l1z) ex fun g2 k1 s2 => wpAny_pure ?_
    have to2 : IsPair g2 TO u v := s2.extBut _ _ D.TOi1 (s1.extBut _ _ D.TOz to)
    refine wpAny_bind (wpAny_seqItems to2 rfl (wpAny_bind (wpAny_updateSeq_pair to2 fun g3 to3 s3 => wpAny_bind (wpAny_letGo (wpAny_pure ?_)))))
    replace to3 : IsPair g3 TO x v := to3
    refine wpAny_bind (wpAny_bind (wpAny_onRaise (wpAny_bind ?_)))
    refine RZ.nextOf_tuple_item (((j2.extBut s1.extBut D.i2z).extBut s2.extBut D.i12.symm).extBut s3.extBut D.TOi2.symm) (((hb.extBut s1.extBut D.l2z).extBut s2.extBut D.l2i1).extBut s3.extBut D.l2TO) ey fun g4 k2 s4 => wpAny_pure ?_
    have to4 : IsPair g4 TO x v := s4.extBut _ _ D.TOi2 to3
    refine wpAny_bind (wpAny_seqItems to4 rfl (wpAny_bind (wpAny_updateSeq_pair to4 fun g5 to5 s5 => wpAny_bind (wpAny_letGo (wpAny_pure (wpAny_pure ?_))))))
    replace to5 : IsPair g5 TO x y := to5
    refine wpAny_bind (wpAny_seqItems to5 rfl (wpAny_bind (wpAny_newTuple ?_)))
    have sz : g5.objs.size = s.heap.objs.size := by rw [s5.1, s4.1, s3.1, s2.1, s1.1]
    have o5 : ZO g5 z TI TO .ellipsis c := s5.extBut _ _ D.TOz.symm (s4.extBut _ _ D.i2z.symm (s3.extBut _ _ D.TOz.symm (s2.extBut _ _ D.i1z.symm o1)))
    have kp5 : ∀ c o, c ≠ z → c ≠ TO → c ≠ i1 → c ≠ i2 → s.heap.get? c = some o → g5.get? c = some o := fun c o n1 n2 n3 n4 e => s5.extBut _ _ n2 (s4.extBut _ _ n4 (s3.extBut _ _ n2 (s2.extBut _ _ n3 (s1.extBut _ _ n1 e))))
    have k15 : g5.IsTupleIter i1 a (k + 1) := ((k1.extBut s3.extBut D.TOi1.symm).extBut s4.extBut D.i12).extBut s5.extBut D.TOi1.symm
    have k25 : g5.IsTupleIter i2 b (k + 1) := k2.extBut s5.extBut D.TOi2.symm
    have zl := Heap.lt_size o5
    show wpAny _ _ (Builtin.SmallTypes.ownedTupleHandOut (.ref z) (.ref g5.objs.size) >>= _) _ _ _
    refine wpAny_bind ?_
    unfold Builtin.SmallTypes.ownedTupleHandOut
    have o6 : ZO (g5.push { cls := .type "tuple", data := .seq #[x, y] }) z TI TO .ellipsis c := Heap.get?_push_of_some _ o5
    refine wpAny_bind (wpAny_setField_rec o6 (by simp) fun g7 o7 s7 => ?_)
    replace o7 : ZO g7 z TI TO (rawInt g5.objs.size) c := o7
    refine wpAny_setField_rec o7 (by simp) fun g8 o8 s8 => ?_
    replace o8 : ZO g8 z TI TO (rawInt g5.objs.size) false := o8
    have up : ∀ c o, c ≠ z → g5.get? c = some o → g8.get? c = some o := fun c o n e => s8.extBut _ _ n (s7.extBut _ _ n (Heap.get?_push_of_some _ e))
    have new8 : IsPair g8 g5.objs.size x y := s8.extBut _ _ (Nat.ne_of_gt zl) (s7.extBut _ _ (Nat.ne_of_gt zl) (Heap.get?_push_size _ rfl))
    have sz8 : g8.objs.size = g5.objs.size + 1 := by rw [s8.1, s7.1, Heap.size_push]
    rw [sz] at o8 new8 sz8
    refine wpAny_pure ⟨_, rfl, wpAny_pure ?_⟩
    show Q (.ref g5.objs.size) _
    rw [sz]
    exact q g8 ⟨⟨_, _, o8, .inr ⟨_, rfl⟩⟩, up _ _ D.TIz (kp5 _ _ D.TIz D.TITO D.TIi1 D.TIi2 ti), ⟨x, y, up _ _ D.TOz to5⟩, k15.at fun o e => up _ o D.i1z e, k25.at fun o e => up _ o D.i2z e⟩ new8 sz8 fun c o n1 n2 n3 n4 e => up c o n1 (kp5 c o n1 n2 n3 n4 e)
  · simp only [Bool.false_eq_true, if_false]
    refine wpAny_bind ?_
    rw [← Array.forIn_toList]
    simp only [List.forIn_cons, List.forIn_nil]
    refine wpAny_bind (wpAny_bind (wpAny_holding (wpAny_bind ?_)))
    refine RZ.nextOf_tuple_item (s := { s with heap := g1 }) (j1.extBut s1.extBut D.i1z) (ha.extBut s1.extBut D.l1z) ex fun g2 k1 s2 => wpAny_pure (wpAny_pure ?_)
    refine wpAny_bind (wpAny_bind (wpAny_holding (wpAny_bind ?_)))
    refine RZ.nextOf_tuple_item (s := { s with heap := g2 }) ((j2.extBut s1.extBut D.i2z).extBut s2.extBut D.i12.symm) ((hb.extBut s1.extBut D.l2z).extBut s2.extBut D.l2i1) ey fun g3 k2 s3 => wpAny_pure (wpAny_pure (wpAny_pure ?_))
    show wpAny _ _ (newTuple [x, y] >>= _) _ _ _
    refine wpAny_bind (wpAny_newTuple ?_)
    have sz : g3.objs.size = s.heap.objs.size := by rw [s3.1, s2.1, s1.1]
    have o3 : ZO g3 z TI TO f true := s3.extBut _ _ D.i2z.symm (s2.extBut _ _ D.i1z.symm o1)
    have kp : ∀ c o, c ≠ z → c ≠ i1 → c ≠ i2 → s.heap.get? c = some o → g3.get? c = some o := fun c o n1 n2 n3 e => s3.extBut _ _ n3 (s2.extBut _ _ n2 (s1.extBut _ _ n1 e))
    have k13 : g3.IsTupleIter i1 a (k + 1) := k1.extBut s3.extBut D.i12
    refine wpAny_pure ⟨_, rfl, wpAny_pure ?_⟩
    show Q (.ref g3.objs.size) _
    have new : IsPair (g3.push { cls := .type "tuple", data := .seq #[x, y] }) g3.objs.size x y := Heap.get?_push_size _ rfl
    have sz4 : (g3.push { cls := .type "tuple", data := .seq #[x, y] }).objs.size = g3.objs.size + 1 := Heap.size_push ..
    rw [sz] at new sz4 ⊢
    exact q _ ⟨⟨_, _, Heap.get?_push_of_some _ o3, hf⟩, Heap.get?_push_of_some _ (kp _ _ D.TIz D.TIi1 D.TIi2 ti), ⟨u, v, Heap.get?_push_of_some _ (kp _ _ D.TOz D.TOi1 D.TOi2 to)⟩, k13.at fun o e => Heap.get?_push_of_some _ e, k2.at fun o e => Heap.get?_push_of_some _ e⟩ new sz4
      fun c o n1 n2 n3 n4 e => Heap.get?_push_of_some _ (kp c o n1 n3 n4 e)
/-- the end of a zip -/
theorem zn_end {z TI TO i1 i2 a b : Addr} {k : Nat} {xs ys : Array Value} {Q : Value → Shared → Prop} (hh : A.handled = none) (D : ZipApart z TI TO i1 i2 a b) (S : ZS s.heap z TI TO i1 i2 a b k) (ha : s.heap.IsTuple a xs) (hb : s.heap.IsTuple b ys) (en : xs[k]? = none ∨ ys[k]? = none)
    (q : ∀ g e, (∀ c o, c ≠ z → c ≠ TO → c ≠ i1 → c ≠ i2 → s.heap.get? c = some o → g.get? c = some o) → (∃ o, g.get? e = some o ∧ o.cls = .type "StopIteration") → E (.ref e) { s with heap := g }) :
    wpAny (model prog w) A (Builtin.SmallTypes.nextOf (.ref z)) Q E s := by
  obtain ⟨⟨f, c, zo, hf⟩, ti, ⟨u, v, to⟩, j1, j2⟩ := S
  have ty : s.TypeIs (.ref z) "zip" := ⟨_, zo, rfl⟩
  unfold Builtin.SmallTypes.nextOf
  refine wpAny_bind (wpAny_callSpecial?_slot (name := Str.ofString "__next__") ty F.slot_zip_next (wpAny_call_entry F.slot_zip_next ty F.entry_zip_next ?_ (F.args_zip_next_1 _)))
  show wpAny _ _ (field (.ref z) 2 >>= _) _ _ s
  refine wpAny_bind (wpAny_field zo rfl (x := .bool false) rfl ?_)
  show wpAny _ _ (field (.ref z) 3 >>= _) _ _ s
  refine wpAny_bind (wpAny_field zo rfl (x := .ref TI) rfl (wpAny_bind (wpAny_seqItems ti rfl ?_)))
  show wpAny _ _ (Builtin.SmallTypes.ownedTupleIsFree (.ref z) >>= _) _ _ s
  refine wpAny_bind (own_z zo hf ?_ fun g1 o1 s1 => ?_)
  · simp only [if_true]
    refine wpAny_bind (wpAny_rule (wpAny_bind (wpAny_field zo rfl (x := .ref TO) rfl (wpAny_bind (wpAny_setField_rec zo (by simp) fun g1 o1 s1 => ?_)))))
    replace o1 : ZO g1 z TI TO .ellipsis c := o1
    refine wpAny_bind ?_
    simp only [List.zipIdx_cons, List.zipIdx_nil, List.forIn_cons, List.forIn_nil]
    refine wpAny_bind (wpAny_bind (wpAny_onRaise (wpAny_bind ?_)))
    cases ex : xs[k]? with
    | none =>
      refine RZ.nextOf_tuple_end hh (j1.extBut s1.extBut D.i1z) (ha.extBut s1.extBut D.l1z) ex fun g2 e s2 he => ?_
      obtain ⟨oe, hoe, hce⟩ := he
      have o2 : ZO g2 z TI TO .ellipsis c := s2 _ _ D.i1z.symm o1
      have ez : e ≠ z := fun x => by subst x; rw [o2] at hoe; cases hoe; simp at hce
      exact wpAny_setField_rec o2 (by simp) fun g3 _ s3 => q g3 e (fun c o n1 _ n3 _ x => s3.extBut _ _ n1 (s2 _ _ n3 (s1.extBut _ _ n1 x))) ⟨oe, s3.extBut _ _ ez hoe, hce⟩
    | some x =>
      have ey : ys[k]? = none := en.resolve_left (by rw [ex]; simp)
      refine RZ.nextOf_tuple_item (j1.extBut s1.extBut D.i1z) (ha.extBut s1.extBut D.l1z) ex fun g2 k1 s2 => wpAny_pure ?_
      have to2 : IsPair g2 TO u v := s2.extBut _ _ D.TOi1 (s1.extBut _ _ D.TOz to)
      refine wpAny_bind (wpAny_seqItems to2 rfl (wpAny_bind (wpAny_updateSeq_pair to2 fun g3 to3 s3 => wpAny_bind (wpAny_letGo (wpAny_pure ?_)))))
      refine wpAny_bind (wpAny_bind (wpAny_onRaise (wpAny_bind ?_)))
      refine RZ.nextOf_tuple_end hh (((j2.extBut s1.extBut D.i2z).extBut s2.extBut D.i12.symm).extBut s3.extBut D.TOi2.symm) (((hb.extBut s1.extBut D.l2z).extBut s2.extBut D.l2i1).extBut s3.extBut D.l2TO) ey fun g4 e s4 he => ?_
      obtain ⟨oe, hoe, hce⟩ := he
      have o4 : ZO g4 z TI TO .ellipsis c := s4 _ _ D.i2z.symm (s3.extBut _ _ D.TOz.symm (s2.extBut _ _ D.i1z.symm o1))
      have ez : e ≠ z := fun x => by subst x; rw [o4] at hoe; cases hoe; simp at hce
      exact wpAny_setField_rec o4 (by simp) fun g5 _ s5 => q g5 e (fun c o n1 n2 n3 n4 x => s5.extBut _ _ n1 (s4 _ _ n4 (s3.extBut _ _ n2 (s2.extBut _ _ n3 (s1.extBut _ _ n1 x))))) ⟨oe, s5.extBut _ _ ez hoe, hce⟩
  · simp only [Bool.false_eq_true, if_false]
    refine wpAny_bind ?_
    rw [← Array.forIn_toList]
    simp only [List.forIn_cons, List.forIn_nil]
    refine wpAny_bind (wpAny_bind (wpAny_holding (wpAny_bind ?_)))
    cases ex : xs[k]? with
    | none =>
      exact RZ.nextOf_tuple_end (s := { s with heap := g1 }) hh (j1.extBut s1.extBut D.i1z) (ha.extBut s1.extBut D.l1z) ex fun g2 e s2 he => q g2 e (fun c o n1 _ n3 _ x => s2 _ _ n3 (s1.extBut _ _ n1 x)) he
    | some x =>
      have ey : ys[k]? = none := en.resolve_left (by rw [ex]; simp)
      refine RZ.nextOf_tuple_item (s := { s with heap := g1 }) (j1.extBut s1.extBut D.i1z) (ha.extBut s1.extBut D.l1z) ex fun g2 k1 s2 => wpAny_pure (wpAny_pure ?_)
      refine wpAny_bind (wpAny_bind (wpAny_holding (wpAny_bind ?_)))
      exact RZ.nextOf_tuple_end (s := { s with heap := g2 }) hh ((j2.extBut s1.extBut D.i2z).extBut s2.extBut D.i12.symm) ((hb.extBut s1.extBut D.l2z).extBut s2.extBut D.l2i1) ey fun g3 e s3 he => q g3 e (fun c o n1 _ n3 n4 x => s3 _ _ n4 (s2.extBut _ _ n3 (s1.extBut _ _ n1 x))) he
/-- the addresses of an enumeration of a zip -/
structure EApart (e z TI TO i1 i2 a b : Addr) : Prop where
  D : ZipApart z TI TO i1 i2 a b
  ez : e ≠ z
  eI : e ≠ TI
  eO : e ≠ TO
  e1 : e ≠ i1
  e2 : e ≠ i2
  ea : e ≠ a
  eb : e ≠ b
theorem ez_item {e z TI TO i1 i2 a b : Addr} {k : Nat} {xs ys : Array Value} {x y old : Value} {Q : Option Value → Shared → Prop} (D : EApart e z TI TO i1 i2 a b) (he : IsEnum s.heap e z k old) (S : ZS s.heap z TI TO i1 i2 a b k) (ha : s.heap.IsTuple a xs) (hb : s.heap.IsTuple b ys) (ex : xs[k]? = some x) (ey : ys[k]? = some y)
    (q : ∀ g, IsEnumOut g e z ((k : Int) + 1) (.ref s.heap.objs.size) (s.heap.objs.size + 1) → ZS g z TI TO i1 i2 a b (k + 1) → IsPair g s.heap.objs.size x y → g.get? (s.heap.objs.size + 1) = some { cls := .type "tuple", data := .seq #[.int k s.toks, .ref s.heap.objs.size] } →
      (∀ c o, c ≠ e → c ≠ z → c ≠ TO → c ≠ i1 → c ≠ i2 → s.heap.get? c = some o → g.get? c = some o) → Q (some (.ref (s.heap.objs.size + 1))) { s with heap := g, toks := s.toks + 1 }) :
    wpAny (model prog w) A (pyNext (.ref e)) Q E s := by
  obtain ⟨hp, gg, dd, tk, os⟩ := s
  have ty : (Shared.mk hp gg dd tk os).TypeIs (.ref e) "enumerate" := ⟨_, he, rfl⟩
  unfold pyNext
  refine wpAny_bind (wpAny_attempt (wpAny_callSpecial?_slot (name := Str.ofString "__next__") ty F.slot_enumerate_next (wpAny_call_entry F.slot_enumerate_next ty F.entry_enumerate_next ?_ (F.args_enumerate_next_1 _))))
  show wpAny _ _ (field (.ref e) 2 >>= _) _ _ _
  refine wpAny_bind (wpAny_field he rfl (x := .ref z) rfl (wpAny_bind ?_))
  refine zn_item D.D S ha hb ex ey fun g1 S1 new1 sz1 kp1 => ?_
  have el := Heap.lt_size he
  have he1 : IsEnum g1 e z k old := kp1 _ _ D.ez D.eO D.e1 D.e2 he
  show wpAny _ _ (field (.ref e) 3 >>= _) _ _ ⟨g1, gg, dd, tk, os⟩
  refine wpAny_bind (wpAny_field he1 rfl (x := rawInt k) rfl ?_)
  show wpAny _ _ (field (.ref e) 4 >>= _) _ _ ⟨g1, gg, dd, tk, os⟩
  refine wpAny_bind (wpAny_field he1 rfl (x := .none) rfl ?_)
  show wpAny _ _ (mkInt k >>= _) _ _ ⟨g1, gg, dd, tk, os⟩
  refine wpAny_bind (wpAny_mkInt ?_)
  show wpAny _ _ (setField (.ref e) 3 (rawInt ((k : Int) + 1)) >>= _) _ _ ⟨g1, gg, dd, tk + 1, os⟩
  refine wpAny_bind (wpAny_setField_rec he1 (by simp) fun g2 he2 s2 => ?_)
  replace he2 : IsEnum g2 e z ((k : Int) + 1) old := he2
  replace s2 : Heap.SameBut e g1 g2 := s2
  show wpAny _ _ (setField (.ref e) 4 .none >>= _) _ _ ⟨g2, gg, dd, tk + 1, os⟩
  refine wpAny_bind (wpAny_setField_rec he2 (by simp) fun g3 he3 s3 => ?_)
  replace he3 : IsEnum g3 e z ((k : Int) + 1) old := he3
  replace s3 : Heap.SameBut e g2 g3 := s3
  show wpAny _ _ (newTuple [.int k tk, .ref hp.objs.size] >>= _) _ _ ⟨g3, gg, dd, tk + 1, os⟩
  refine wpAny_bind (wpAny_newTuple ?_)
  have z3 : g3.objs.size = hp.objs.size + 1 := by rw [s3.1, s2.1]; exact sz1
  have he4 : IsEnum (g3.push { cls := .type "tuple", data := .seq #[.int k tk, .ref hp.objs.size] }) e z ((k : Int) + 1) old := Heap.get?_push_of_some _ he3
  have new4 : (g3.push { cls := .type "tuple", data := .seq #[.int k tk, .ref hp.objs.size] }).get? (hp.objs.size + 1) = some { cls := .type "tuple", data := .seq #[.int k tk, .ref hp.objs.size] } := by
    rw [← z3]
    exact Heap.get?_push_size _ rfl
  have up4 : ∀ c o, c ≠ e → g1.get? c = some o → (g3.push { cls := .type "tuple", data := .seq #[.int k tk, .ref hp.objs.size] }).get? c = some o := fun c o n h => Heap.get?_push_of_some _ (s3.extBut _ _ n (s2.extBut _ _ n h))
  generalize (g3.push { cls := .type "tuple", data := .seq #[.int k tk, .ref hp.objs.size] }) = g4 at he4 new4 up4
  show wpAny _ _ (Builtin.SmallTypes.ownedTupleIsFree (.ref e) >>= _) _ _ ⟨g4, gg, dd, tk + 1, os⟩
  rw [z3]
  refine wpAny_bind ?_
  unfold Builtin.SmallTypes.ownedTupleIsFree
  refine wpAny_bind (wpAny_field he4 rfl (x := .none) rfl (wpAny_pure ?_))
  simp only [if_true]
  refine wpAny_bind (wpAny_rule (wpAny_bind (wpAny_field he4 rfl (x := old) rfl (wpAny_bind (wpAny_setField_rec he4 (by simp) fun g5 he5 s5 => ?_)))))
  replace he5 : IsEnum g5 e z ((k : Int) + 1) (.ref hp.objs.size) := he5
  replace s5 : Heap.SameBut e g4 g5 := s5
  show wpAny _ _ (Builtin.SmallTypes.ownedTupleHandOut (.ref e) (.ref (hp.objs.size + 1)) >>= _) _ _ ⟨g5, gg, dd, tk + 1, os⟩
  refine wpAny_bind ?_
  unfold Builtin.SmallTypes.ownedTupleHandOut
  refine wpAny_bind (wpAny_setField_rec he5 (by simp) fun g6 he6 s6 => ?_)
  replace he6 : IsEnumOut g6 e z ((k : Int) + 1) (.ref hp.objs.size) (hp.objs.size + 1) := he6
  replace s6 : Heap.SameBut e g5 g6 := s6
  refine wpAny_setField_rec he6 (by simp) fun g7 he7 s7 => ?_
  replace he7 : IsEnumOut g7 e z ((k : Int) + 1) (.ref hp.objs.size) (hp.objs.size + 1) := he7
  replace s7 : Heap.SameBut e g6 g7 := s7
  have up7 : ∀ c o, c ≠ e → g1.get? c = some o → g7.get? c = some o := fun c o n h => s7.extBut _ _ n (s6.extBut _ _ n (s5.extBut _ _ n (up4 c o n h)))
  refine wpAny_bind (wpAny_letGo (wpAny_pure ⟨_, rfl, wpAny_pure (q g7 he7 ?_ ?_ ?_ ?_)⟩))
  · obtain ⟨⟨f, c, zo, hf⟩, ti, ⟨u, v, to⟩, j1, j2⟩ := S1
    exact ⟨⟨f, c, up7 _ _ D.ez.symm zo, hf⟩, up7 _ _ D.eI.symm ti, ⟨u, v, up7 _ _ D.eO.symm to⟩, j1.at fun o h => up7 _ o D.e1.symm h, j2.at fun o h => up7 _ o D.e2.symm h⟩
  · exact up7 _ _ (Nat.ne_of_gt el) new1
  · have n1 : hp.objs.size + 1 ≠ e := Nat.ne_of_gt (Nat.lt_succ_of_lt el)
    exact s7.extBut _ _ n1 (s6.extBut _ _ n1 (s5.extBut _ _ n1 new4))
  · exact fun c o n0 n1 n2 n3 n4 h => up7 c o n0 (kp1 c o n1 n2 n3 n4 h)
theorem ez_end {e z TI TO i1 i2 a b : Addr} {k : Nat} {xs ys : Array Value} {old : Value} {Q : Option Value → Shared → Prop} (hh : A.handled = none) (D : EApart e z TI TO i1 i2 a b) (he : IsEnum s.heap e z k old) (S : ZS s.heap z TI TO i1 i2 a b k) (ha : s.heap.IsTuple a xs) (hb : s.heap.IsTuple b ys) (en : xs[k]? = none ∨ ys[k]? = none)
    (q : ∀ g, (∀ c o, c ≠ z → c ≠ TO → c ≠ i1 → c ≠ i2 → s.heap.get? c = some o → g.get? c = some o) → Q none { s with heap := g }) : wpAny (model prog w) A (pyNext (.ref e)) Q E s := by
  have ty : s.TypeIs (.ref e) "enumerate" := ⟨_, he, rfl⟩
  unfold pyNext
  refine wpAny_bind (wpAny_attempt (wpAny_callSpecial?_slot (name := Str.ofString "__next__") ty F.slot_enumerate_next (wpAny_call_entry F.slot_enumerate_next ty F.entry_enumerate_next ?_ (F.args_enumerate_next_1 _))))
  show wpAny _ _ (field (.ref e) 2 >>= _) _ _ _
  refine wpAny_bind (wpAny_field he rfl (x := .ref z) rfl (wpAny_bind ?_))
  refine zn_end hh D.D S ha hb en fun g x kp hs => ?_
  obtain ⟨o, ho, hc⟩ := hs
  exact wpAny_bind (wpAny_isInstance (T := "StopIteration") (b := true) ⟨o, ho, hc⟩ isSubtype_stop (wpAny_pure (q _ kp)))
end
end My

set_option Elab.async false
set_option linter.all false
set_option maxRecDepth 100000
set_option maxHeartbeats 4000000
namespace My
open PySem PySem.Spec PyProof.Rows L2
open AutoSeq1 (wpAny_loadPart')
/-- the tuples at a and b, each two items in a new pair, that with its number in another one -/
def IteZ (K : PySem.W.Frag) (a b : Addr) : It where
  go := fun i H => ∃ (xs ys : List V) (x y : V), SqT K H a xs ∧ SqT K H b ys ∧ xs[i]? = some x ∧ ys[i]? = some y
  yld := fun i H v H' => ∃ T U x y, v = .ref T ∧ H T = none ∧ H U = none ∧ U ≠ T ∧ H' = upd (upd H T (.tup [.int (i : Nat), .ref U])) U (.tup [x, y]) ∧ (∀ xs, SqT K H a xs → xs[i]? = some x) ∧ ∀ ys, SqT K H b ys → ys[i]? = some y
  stop := fun i H => ∃ xs ys : List V, SqT K H a xs ∧ SqT K H b ys ∧ (xs.length ≤ i ∨ ys.length ≤ i)
/-- a new object that stands in the heap already is told of -/
theorem told {X : Cx} {pins : List (Addr × Obj)} {σ : L2.St} {H : Hp} {s : Shared} {U : Addr} {ob : HO} (I : Inv X pins σ H s) (f : FpOk X pins H U) (new : ObjOk X.prog X.w (upd H U ob) s.heap U ob) : Inv X pins σ (upd H U ob) s := by
  have hn := f.1
  have R : Inv X pins σ (upd H U ob) { s with heap := s.heap, gens := s.gens, drawn := s.drawn, toks := s.toks } := by
    refine I.step (ch := [U]) (fun b hb => ?_) (fun b o _ _ _ e _ => e) (fun b o _ _ _ e _ => ⟨o.slots, e⟩) (fun b o hc e n => ?_) (fun b o _ e => ⟨o, e⟩) (fun b xs e => ?_) (fun b o u e => ?_) (fun b ps e => ⟨#[], ?_⟩) (fun m hm => hm) (fun b u e => ?_) I.bare
    · rw [List.mem_singleton.mp hb]
      exact ⟨f.2.2.2.1, f.2.1, f.2.2.2.2.1, f.2.2.2.2.2⟩
    · rw [upd_ne (fun z => hc (by rw [z]; exact List.mem_singleton.mpr rfl))]
      exact n
    · rw [upd_ne (ne_of_none e hn)]; exact e
    · rw [upd_ne (ne_of_none e hn)]; exact e
    · rw [upd_ne (ne_of_none e hn), e]; simp
    · by_cases z : b = U
      · subst z
        rw [upd_same] at e
        cases e
        exact new
      · rw [upd_ne z] at e
        exact (I.hok b u e).stay (fun c v _ q => q) (fun c q => by rw [upd_ne (ne_of_none q hn)]; exact q) fun c xs q => by rw [upd_ne (ne_of_none q hn)]; exact q
  exact R
theorem turn_ez {P : Program} {w : World} {K : PySem.W.Frag} {elts : List Expr} {kk : Nat} {tpos : Pos} {e z TI TO i1 i2 a b : Addr} (D : EApart e z TI TO i1 i2 a b) :
    Turn P w K (.Tuple elts kk tpos) (IteZ K a b) [e, z, TI, TO, i1, i2] e (fun i h => (∃ old, IsEnum h e z ((i : Nat) : Int) old) ∧ ZS h z TI TO i1 i2 a b i) where
  mem := List.mem_cons_self
  obj := fun i h ⟨⟨old, he⟩, ⟨f, c, zo, hf⟩, ti, ⟨u, v, to⟩, ⟨o1, e1, _, d1⟩, ⟨o2, e2, _, d2⟩⟩ q hq => by
    simp only [List.mem_cons, List.not_mem_nil, or_false] at hq
    rcases hq with r | r | r | r | r | r
    · rw [r]; exact ⟨_, he, fun v q => nomatch q⟩
    · rw [r]; exact ⟨_, zo, fun v q => nomatch q⟩
    · rw [r]; exact ⟨_, ti, fun v q => nomatch q⟩
    · rw [r]; exact ⟨_, to, fun v q => nomatch q⟩
    · rw [r]; exact ⟨o1, e1, fun v q => by rw [d1] at q; cases q⟩
    · rw [r]; exact ⟨o2, e2, fun v q => by rw [d2] at q; cases q⟩
  keep := fun i h g ⟨⟨old, he⟩, ⟨f, c, zo, hf⟩, ti, ⟨u, v, to⟩, j1, j2⟩ k =>
    ⟨⟨old, k e (by simp) _ he⟩, ⟨f, c, k z (by simp) _ zo, hf⟩, k TI (by simp) _ ti, ⟨u, v, k TO (by simp) _ to⟩, j1.at fun o q => k i1 (by simp) o q, j2.at fun o q => k i2 (by simp) o q⟩
  item := by
    intro X hP hw hK hc i pins s σ H E I hf st hg
    subst hP hw hK
    obtain ⟨⟨old, he⟩, S⟩ := st
    obtain ⟨xs, ys, x, y, hqx, hqy, hx, hy⟩ := hg
    obtain ⟨its, rv, p, _⟩ := I.tuple hqx
    obtain ⟨its2, rv2, p2, _⟩ := I.tuple hqy
    obtain ⟨u, hu, ru⟩ := rv.get hx
    obtain ⟨u2, hu2, ru2⟩ := rv2.get hy
    have lt : ∀ c ∈ [e, z, TI, TO, i1, i2], c < s.heap.objs.size := fun c hm => by
      obtain ⟨⟨f, c', zo, hf'⟩, ti, ⟨u', v', to⟩, ⟨o1, e1, _, d1⟩, ⟨o2, e2, _, d2⟩⟩ := S
      simp only [List.mem_cons, List.not_mem_nil, or_false] at hm
      rcases hm with r | r | r | r | r | r
      · rw [r]; exact Heap.lt_size he
      · rw [r]; exact Heap.lt_size zo
      · rw [r]; exact Heap.lt_size ti
      · rw [r]; exact Heap.lt_size to
      · rw [r]; exact Heap.lt_size e1
      · rw [r]; exact Heap.lt_size e2
    refine ez_item D he S p p2 (x := u) (y := u2) (by simpa using hu) (by simpa using hu2) fun g ho S1 newU newT kp => ?_
    refine ⟨_, rfl, wpAny_letOwnedTupleGo_enum (s := { s with heap := g, toks := s.toks + 1 }) ho fun g2 he2 sb => ?_⟩
    have el : e < s.heap.objs.size := lt e (by simp)
    have nUe : s.heap.objs.size ≠ e := Nat.ne_of_gt el
    have nTe : s.heap.objs.size + 1 ≠ e := Nat.ne_of_gt (Nat.lt_succ_of_lt el)
    have newT2 := (sb.2 _ nTe).trans newT
    have newU2 := (sb.2 _ nUe).trans newU
    have okT : ObjOk X.prog X.w (upd H (s.heap.objs.size + 1) (.tup [.int (i : Nat), .ref s.heap.objs.size])) g2 (s.heap.objs.size + 1) (.tup [.int (i : Nat), .ref s.heap.objs.size]) :=
      ⟨(by show 2 ≤ sizeLine; decide), [.int i s.toks, .ref s.heap.objs.size], .cons ⟨_, rfl⟩ (.cons rfl .nil), ⟨_, newT2, rfl, _, rfl⟩⟩
    have I1 : Inv X pins σ (upd H (s.heap.objs.size + 1) (.tup [.int (i : Nat), .ref s.heap.objs.size])) { s with heap := g2, toks := s.toks + 1 } :=
      I.turnedNew (ch := [e, z, TI, TO, i1, i2]) (fun c ob hb q => by
        simp only [List.mem_cons, List.not_mem_nil, or_false, not_or] at hb
        obtain ⟨n0, n1, n2, n3, n4, n5⟩ := hb
        exact (sb.2 c n0).trans (kp c ob n0 n1 n3 n4 n5 q)) hf (Nat.le_succ _) okT
    have nTU : s.heap.objs.size ≠ s.heap.objs.size + 1 := Nat.ne_of_lt (Nat.lt_succ_self _)
    have hU0 : H s.heap.objs.size = none := I.hok.fresh (Nat.le_refl _)
    have fU : FpOk X pins (upd H (s.heap.objs.size + 1) (.tup [.int (i : Nat), .ref s.heap.objs.size])) s.heap.objs.size := I.fpOk (Nat.le_refl _) (by rw [upd_ne nTU]; exact hU0)
    have I2 := told (ob := .tup [x, y]) I1 fU ⟨(by show 2 ≤ sizeLine; decide), [u, u2], .cons ru (.cons ru2 .nil), ⟨_, newU2, rfl, _, rfl⟩⟩
    refine ⟨.ref (s.heap.objs.size + 1), _, I2, rfl, ⟨_, _, x, y, rfl, I.hok.fresh (Nat.le_succ _), hU0, nTU, rfl, fun l hl => (I.tuple_inj hl hqx) ▸ hx, fun l hl => (I.tuple_inj hl hqy) ▸ hy⟩, ⟨⟨.ref s.heap.objs.size, ?_⟩, ?_⟩, fun c hm => ?_⟩
    · have e1 : ((i + 1 : Nat) : Int) = (i : Int) + 1 := by omega
      rw [e1]; exact he2
    · obtain ⟨⟨f, c, zo, hf'⟩, ti, ⟨u', v', to⟩, j1, j2⟩ := S1
      have up : ∀ c o, c ≠ e → g.get? c = some o → g2.get? c = some o := fun c o n q => (sb.2 c n).trans q
      exact ⟨⟨f, c, up _ _ D.ez.symm zo, hf'⟩, up _ _ D.eI.symm ti, ⟨u', v', up _ _ D.eO.symm to⟩, j1.at fun o q => up _ o D.e1.symm q, j2.at fun o q => up _ o D.e2.symm q⟩
    · have l := lt c hm
      rw [upd_ne (Nat.ne_of_lt l), upd_ne (Nat.ne_of_lt (Nat.lt_succ_of_lt l))]
      exact (hf c hm).1
  done := by
    intro X hP hw hK hc i pins s σ H E I hf st hg
    subst hP hw hK
    obtain ⟨⟨old, he⟩, S⟩ := st
    obtain ⟨xs, ys, hqx, hqy, hend⟩ := hg
    obtain ⟨its, rv, p, _⟩ := I.tuple hqx
    obtain ⟨its2, rv2, p2, _⟩ := I.tuple hqy
    have l1 := rv.length
    have l2 := rv2.length
    have en : its.toArray[i]? = none ∨ its2.toArray[i]? = none := hend.imp (fun q => by simp; omega) (fun q => by simp; omega)
    exact ez_end (I.ok.hd hc) D he S p p2 en fun g kp => ⟨rfl, I.turnedL (t' := s.toks) (ch := [e, z, TI, TO, i1, i2]) (fun c o hb q => by
      simp only [List.mem_cons, List.not_mem_nil, or_false, not_or] at hb
      obtain ⟨n0, n1, n2, n3, n4, n5⟩ := hb
      exact kp c o n1 n3 n4 n5 q) hf⟩
  self := fun A i s Q E st h => let ⟨⟨_, he⟩, _⟩ := st; wpAny_pyIter_enum he h
theorem meets_ez (z TI TO : Addr) (f : Value) (c : Bool) : Meets (Builtin.«enumerate.__new__» ⟨[.type "enumerate", .ref z], []⟩)
    (fun _ R s => ZO s.heap z TI TO f c ∧ R (.ok (.ret (.ref s.heap.objs.size))) { s with heap := s.heap.push { cls := .type "enumerate", data := .fields #[.none, .bool false, .ref z, rawInt 0, .none, .none] } }) :=
  .of_wp fun prog w A R s h => by
    obtain ⟨hp, g, d, tk, os⟩ := s
    obtain ⟨o, h⟩ := h
    have sb := sub_enumerate
    have it : ∀ {A' : Around} {E : Value → Shared → Prop} {Q : Value → Shared → Prop}, Q (.ref z) ⟨hp, g, d, tk, os⟩ → wpAny (model prog w) A' (pyIter (.ref z)) Q E ⟨hp, g, d, tk, os⟩ := fun q => by
      have ty : (Shared.mk hp g d tk os).TypeIs (.ref z) "zip" := ⟨_, o, rfl⟩
      refine wpAny_pyIter_slot ty F.slot_zip_iter (wpAny_call_entry F.slot_zip_iter ty F.entry_zip_iter ?_ (F.args_zip_iter_1 _))
      show wpAny _ _ (ret (.ref z)) _ _ _
      exact wpAny_pure ⟨_, rfl, "zip", _, ty, F.slot_zip_next.lookup, q⟩
    wp_walk using it
    refine wpAny_stack_any fun u => wpAny_pure ?_
    split
    · rename_i c _ _ _ _ _
      cases (c == Value.type "enumerate") <;> (wp_walk using it; exact ⟨_, rfl, h⟩)
    · wp_walk using it
      exact ⟨_, rfl, h⟩
theorem call_ez {prog : Program} {w : World} {A : Around} {E : Value → Shared → Prop} {s : Shared} {z TI TO : Addr} {f : Value} {c : Bool} {Q : Value → Shared → Prop} (o : ZO s.heap z TI TO f c)
    (h : ∀ g, IsEnum g s.heap.objs.size z 0 .none → (∀ c u, s.heap.get? c = some u → g.get? c = some u) → Q (.ref s.heap.objs.size) { s with heap := g }) : wpAny (model prog w) A (call (.type "enumerate") [.ref z]) Q E s := by
  refine callType_new F.called_enumerate (by decide) (F.typeCall_enumerate_1 _) (F.newCall_enumerate_1 _) (fun u => F.args_object_init_2 u _) F.entry_enumerate_new (meets_ez z TI TO f c) ⟨o, ?_⟩
  have e := Heap.get?_push_size s.heap (o := { cls := .type "enumerate", data := .fields #[.none, .bool false, .ref z, rawInt 0, .none, .none] }) rfl
  exact ⟨⟨_, e, rfl⟩, h _ e fun c u x => Heap.get?_push_of_some _ x⟩
def iEnZ (K : PySem.W.Frag) (ta : TA) : TI := fun σ H R => ta σ H fun vs H1 => ∃ a b xs ys, vs = [.ref a, .ref b] ∧ SqT K H1 a xs ∧ SqT K H1 b ys ∧ R (IteZ K a b) H1
theorem pi_enZ {X : Cx} {e1 e2 : Expr} {ta : TA} {p p2 pos pos2 tpos : Pos} {elts : List Expr} {kk : Nat} (hg : Gl X "enumerate") (hm : X.mg "enumerate" = none) (hg2 : Gl X "zip") (hm2 : X.mg "zip" = none) (ha : PA X [e1, e2] ta)
    (hs : starEach [e1, e2] X.env = (false, eval e1 X.env) :: starEach [e2] X.env := by rfl) (hpl : (backTo pos2 (starEach [e2] X.env)).any (·.1) = false := by rfl)
    (hs2 : starEach [.Call (.Name "zip" p2) [e1, e2] [] pos2] X.env = (false, eval (.Call (.Name "zip" p2) [e1, e2] [] pos2) X.env) :: starEach [] X.env := by rfl) :
    PI X (.Tuple elts kk tpos) (.Call (.Name "enumerate" p) [.Call (.Name "zip" p2) [e1, e2] [] pos2] [] pos) (iEnZ X.K ta) := by
  refine ⟨fun pins s σ H R I h => ?_⟩
  refine Call_ (ld_blt I hg hm boot_enumerate (PyProof.Rows.callWith_type1 (args_cons (Call_ (ld_blt I hg2 hm2 PyProof.Rows.boot_zip (PyProof.Rows.callWith_type1 (thn (ha.run pos2 pins s σ H _ I h) fun us s1 ⟨vs, H1, I1, r1, q1⟩ => ?_) hs hpl))) hs2) hs2 rfl))
  obtain ⟨a, b, xs, ys, rfl, hx, hy, q⟩ := q1
  cases r1 with
  | cons r rr =>
    cases rr with
    | cons r' rr =>
      cases rr
      cases r
      cases r'
      obtain ⟨its, rv, ⟨po, pa⟩, _⟩ := I1.tuple hx
      obtain ⟨its2, rv2, ⟨po2, pb⟩, _⟩ := I1.tuple hy
      have al : a < s1.heap.objs.size := let ⟨q', _⟩ := pa; Heap.lt_size q'
      have bl : b < s1.heap.objs.size := let ⟨q', _⟩ := pb; Heap.lt_size q'
      refine RZ.call_zipT ⟨po, pa⟩ ⟨po2, pb⟩ fun g hz hTI hTO h1 h2 sz kp => args_nil ?_
      refine call_ez (s := { s1 with heap := g }) hz fun g2 he kp2 => wpAny_pyIter_enum he ?_
      have kk := fun c u (x : s1.heap.get? c = some u) => kp2 c u (kp c u x)
      have D := PySem.W.ktu_apart s1.heap.objs.size a b al bl
      obtain ⟨N, eN⟩ : ∃ N : Nat, s1.heap.objs.size = N := ⟨_, rfl⟩
      have sz : g.objs.size = N + 5 := by rw [← eN]; exact sz
      have al : (a : Nat) < N := by rw [← eN]; exact al
      have bl : (b : Nat) < N := by rw [← eN]; exact bl
      have ne : ∀ m : Nat, m < N + 5 → (g.objs.size : Nat) ≠ m := fun m hm z => by omega
      have DE : EApart g.objs.size (s1.heap.objs.size + 4) (s1.heap.objs.size + 2) (s1.heap.objs.size + 3) s1.heap.objs.size (s1.heap.objs.size + 1) a b :=
        ⟨D, ne (s1.heap.objs.size + 4) (by omega), ne (s1.heap.objs.size + 2) (by omega), ne (s1.heap.objs.size + 3) (by omega), ne s1.heap.objs.size (by omega), ne (s1.heap.objs.size + 1) (by omega), ne a (Nat.lt_of_lt_of_le al (Nat.le_add_right N 5)), ne b (Nat.lt_of_lt_of_le bl (Nat.le_add_right N 5))⟩
      have I2 : Inv X pins σ H1 { s1 with heap := g2 } := I1.kept (t' := s1.toks) kk
      refine ⟨g.objs.size, [g.objs.size, s1.heap.objs.size + 4, s1.heap.objs.size + 2, s1.heap.objs.size + 3, s1.heap.objs.size, s1.heap.objs.size + 1], _, _, H1, rfl, I2, turn_ez DE, ⟨⟨.none, he⟩, ⟨⟨_, _, kp2 _ _ hz, .inl rfl⟩, kp2 _ _ hTI, ⟨_, _, kp2 _ _ hTO⟩, h1.at fun o q => kp2 _ o q, h2.at fun o q => kp2 _ o q⟩⟩, fun c hm => ?_, q⟩
      have hle : s1.heap.objs.size ≤ c := by
        simp only [List.mem_cons, List.not_mem_nil, or_false] at hm
        rcases hm with r | r | r | r | r | r
        · rw [r]; show (s1.heap.objs.size : Nat) ≤ g.objs.size; omega
        · rw [r]; exact Nat.le_add_right _ _
        · rw [r]; exact Nat.le_add_right _ _
        · rw [r]; exact Nat.le_add_right _ _
        · rw [r]; exact Nat.le_refl _
        · rw [r]; exact Nat.le_add_right _ _
      exact I1.fpOk hle (I1.hok.fresh hle)
theorem walk_ez {K : PySem.W.Frag} {a b : Addr} {xs ys : List V} (hl : xs.length = ys.length) : Walk (IteZ K a b) xs.length (fun H => SqT K H a xs ∧ SqT K H b ys)
    (fun i H v H' => ∃ T U x y, v = .ref T ∧ H T = none ∧ H U = none ∧ U ≠ T ∧ H' = upd (upd H T (.tup [.int (i : Nat), .ref U])) U (.tup [x, y]) ∧ xs[i]? = some x ∧ ys[i]? = some y) where
  goes := fun i _ hi q => ⟨xs, ys, xs[i], ys[i]'(by omega), q.1, q.2, by simp [hi], by simp [show i < ys.length by omega]⟩
  stops := fun _ q => ⟨xs, ys, q.1, q.2, .inl (Nat.le_refl _)⟩
  yields := fun i H v H' _ q ⟨T, U, x, y, h1, h2, h3, h4, h5, h6, h7⟩ => ⟨T, U, x, y, h1, h2, h3, h4, h5, h6 xs q.1, h7 ys q.2⟩
end My

set_option linter.all false
/-! circuits as functions of the wires' bits; sums and comparisons -/
namespace My
abbrev Ct := Nat × Bool
abbrev Gt := Nat × List Ct
abbrev Sb := Nat → Bool
def holds (cs : List Ct) (s : Sb) : Bool := cs.all fun c => s c.1 == c.2
def flp (t : Nat) (s : Sb) : Sb := fun i => if i = t then !s t else s i
def act (g : Gt) (s : Sb) : Sb := if holds g.2 s then flp g.1 s else s
def run : List Gt → Sb → Sb
  | [], s => s
  | g :: r, s => run r (act g s)
theorem run_app (a b : List Gt) (s : Sb) : run (a ++ b) s = run b (run a s) := by
  induction a generalizing s with
  | nil => rfl
  | cons g r ih => exact ih _
theorem holds_app (a b : List Ct) (s : Sb) : holds (a ++ b) s = (holds a s && holds b s) := List.all_append ..
theorem holds_cons (c : Ct) (b : List Ct) (s : Sb) : holds (c :: b) s = (s c.1 == c.2 && holds b s) := List.all_cons ..
theorem holds_perm {a b : List Ct} (h : a.Perm b) (s : Sb) : holds a s = holds b s := by
  have : (holds a s = true) ↔ (holds b s = true) := by
    unfold holds
    rw [List.all_eq_true, List.all_eq_true]
    exact ⟨fun g x hx => g x (h.mem_iff.mpr hx), fun g x hx => g x (h.mem_iff.mp hx)⟩
  cases e : holds a s <;> cases f : holds b s <;> rw [e, f] at this <;> simp at this <;> rfl
theorem holds_eq {a : List Ct} {s t : Sb} (h : ∀ c ∈ a, s c.1 = t c.1) : holds a s = holds a t := by
  induction a with
  | nil => rfl
  | cons c r ih => rw [holds_cons, holds_cons, h c List.mem_cons_self, ih fun c hc => h c (List.mem_cons_of_mem _ hc)]
theorem act_ne {g : Gt} {s : Sb} {i : Nat} (h : i ≠ g.1) : act g s i = s i := by
  unfold act
  split
  · show (if i = g.1 then _ else _) = _
    rw [if_neg h]
  · rfl
theorem act_eq {g : Gt} {s : Sb} : act g s g.1 = (s g.1 ^^ holds g.2 s) := by
  unfold act flp
  split
  · rename_i h
    rw [h]
    simp
  · rename_i h
    rw [Bool.not_eq_true] at h
    rw [h]
    simp
theorem run_ne {gs : List Gt} {s : Sb} {i : Nat} (h : ∀ g ∈ gs, i ≠ g.1) : run gs s i = s i := by
  induction gs generalizing s with
  | nil => rfl
  | cons g r ih =>
    show run r (act g s) i = s i
    rw [ih fun g hg => h g (List.mem_cons_of_mem _ hg), act_ne (h g List.mem_cons_self)]
/-- equal but for the order of controls -/
inductive Sim : List Gt → List Gt → Prop
  | nil : Sim [] []
  | cons {t : Nat} {a b : List Ct} {r q : List Gt} : a.Perm b → Sim r q → Sim ((t, a) :: r) ((t, b) :: q)
theorem Sim.run {a b : List Gt} (h : Sim a b) (s : Sb) : run a s = run b s := by
  induction h generalizing s with
  | nil => rfl
  | cons p _ ih =>
    rename_i t a b r q _
    show My.run _ (act _ s) = My.run _ (act _ s)
    have : act (t, a) s = act (t, b) s := by unfold act; rw [holds_perm p]
    rw [this]
    exact ih _
theorem Sim.app {a b c d : List Gt} (h : Sim a b) (g : Sim c d) : Sim (a ++ c) (b ++ d) := by
  induction h with
  | nil => exact g
  | cons p _ ih => exact .cons p ih
theorem Sim.one {t : Nat} {a b : List Ct} (p : a.Perm b) : Sim [(t, a)] [(t, b)] := .cons p .nil
theorem Sim.len {a b : List Gt} (h : Sim a b) : a.length = b.length := by
  induction h with
  | nil => rfl
  | cons _ _ ih => rw [List.length_cons, List.length_cons, ih]
theorem Sim.mem {a b : List Gt} (h : Sim a b) : ∀ {t : Nat} {d : List Ct}, (t, d) ∈ b → ∃ c, (t, c) ∈ a ∧ c.Perm d := by
  induction h with
  | nil => intro t d h; cases h
  | cons p _ ih =>
    intro t d h
    rcases List.mem_cons.mp h with h | h
    · cases h
      exact ⟨_, List.mem_cons_self, p⟩
    · obtain ⟨c, h1, h2⟩ := ih h
      exact ⟨c, List.mem_cons_of_mem _ h1, h2⟩
/-! ### numbers on wires -/
def val : List Nat → Sb → Nat
  | [], _ => 0
  | t :: r, s => (s t).toNat + 2 * val r s
theorem val_eq {ts : List Nat} {s u : Sb} (h : ∀ t ∈ ts, s t = u t) : val ts s = val ts u := by
  induction ts with
  | nil => rfl
  | cons t r ih => rw [val, val, h t List.mem_cons_self, ih fun c hc => h c (List.mem_cons_of_mem _ hc)]
theorem val_lt (ts : List Nat) (s : Sb) : val ts s < 2 ^ ts.length := by
  induction ts with
  | nil => exact Nat.one_pos
  | cons t r ih =>
    rw [val, List.length_cons, Nat.pow_succ]
    have := Bool.toNat_le (s t)
    omega
theorem toNat_inj {a b : Bool} (h : a.toNat = b.toNat) : a = b := by cases a <;> cases b <;> first | rfl | cases h
theorem val_inj {ts : List Nat} {s u : Sb} (h : val ts s = val ts u) : ∀ t ∈ ts, s t = u t := by
  induction ts with
  | nil => intro t h; cases h
  | cons t r ih =>
    rw [val, val] at h
    have h1 := Bool.toNat_le (s t)
    have h2 := Bool.toNat_le (u t)
    intro x hx
    rcases List.mem_cons.mp hx with rfl | hx
    · exact toNat_inj (by omega)
    · exact ih (by omega) x hx
/-- one more on the wires -/
def incL (C : List Ct) (ts : List Nat) (i : Nat) : Gt := (ts.getD (ts.length - 1 - i) 0, C ++ (ts.take (ts.length - 1 - i)).map fun w => (w, true))
def incG (C : List Ct) (ts : List Nat) : List Gt := (List.range ts.length).map (incL C ts)
theorem incG_cons (C : List Ct) (t : Nat) (r : List Nat) : incG C (t :: r) = incG (C ++ [(t, true)]) r ++ [(t, C)] := by
  unfold incG
  rw [List.length_cons, List.range_succ, List.map_append]
  congr 1
  · refine List.map_congr_left fun i hi => ?_
    have hi := List.mem_range.mp hi
    unfold incL
    obtain ⟨j, hj⟩ : ∃ j, r.length - 1 - i = j := ⟨_, rfl⟩
    have e : (t :: r).length - 1 - i = j + 1 := by rw [List.length_cons]; omega
    rw [e, hj, List.take_succ_cons, List.map_cons, List.append_assoc]
    rfl
  · rw [List.map_singleton, incL, List.length_cons]
    have e : r.length + 1 - 1 - r.length = 0 := by omega
    rw [e]
    simp
theorem incG_mem {C : List Ct} {ts : List Nat} {g : Gt} (h : g ∈ incG C ts) : g.1 ∈ ts ∧ ∀ c ∈ g.2, c ∈ C ∨ (c.1 ∈ ts ∧ c.2 = true) := by
  obtain ⟨i, hi, rfl⟩ := List.mem_map.mp h
  have hi := List.mem_range.mp hi
  unfold incL
  refine ⟨?_, fun c hc => ?_⟩
  · rw [List.getD_eq_getElem?_getD, List.getElem?_eq_getElem (by omega)]
    exact List.getElem_mem _
  · rcases List.mem_append.mp hc with h | h
    · exact .inl h
    · obtain ⟨w, hw, rfl⟩ := List.mem_map.mp h
      exact .inr ⟨List.mem_of_mem_take hw, rfl⟩
theorem inc_ne {C : List Ct} {ts : List Nat} {s : Sb} {i : Nat} (h : i ∉ ts) : run (incG C ts) s i = s i :=
  run_ne fun g hg e => h (e ▸ (incG_mem hg).1)
theorem inc_val {C : List Ct} {ts : List Nat} (nd : ts.Nodup) (hC : ∀ c ∈ C, c.1 ∉ ts) (s : Sb) : val ts (run (incG C ts) s) = (val ts s + (holds C s).toNat) % 2 ^ ts.length := by
  induction ts generalizing C s with
  | nil => rw [val, List.length_nil, Nat.pow_zero, Nat.mod_one]
  | cons t r ih =>
    have ndr := (List.nodup_cons.mp nd).2
    have ntr := (List.nodup_cons.mp nd).1
    rw [incG_cons, run_app]
    have h1 := ih (C := C ++ [(t, true)]) ndr (fun c hc => by
      rcases List.mem_append.mp hc with h | h
      · exact fun z => hC c h (List.mem_cons_of_mem _ z)
      · rw [List.mem_singleton.mp h]; exact ntr) s
    obtain ⟨u, hu⟩ : ∃ u, run (incG (C ++ [(t, true)]) r) s = u := ⟨_, rfl⟩
    rw [hu] at h1 ⊢
    have eC : holds C u = holds C s := holds_eq fun c hc => by
      rw [← hu]
      exact inc_ne fun z => hC c hc (List.mem_cons_of_mem _ z)
    have et : u t = s t := by rw [← hu]; exact inc_ne ntr
    show val (t :: r) (act (t, C) u) = _
    rw [val, val]
    have e1 : val r (act (t, C) u) = val r u := val_eq fun x hx => act_ne fun z => ntr (by rw [← (show x = t from z)]; exact hx)
    have e2 : act (t, C) u t = (s t ^^ holds C s) := by
      have := act_eq (g := (t, C)) (s := u)
      rw [show (t, C).2 = C from rfl, show (t, C).1 = t from rfl, eC, et] at this
      exact this
    rw [e1, e2, h1, holds_app, holds_cons, List.length_cons, Nat.pow_succ]
    have hp : 0 < 2 ^ r.length := Nat.pow_pos (by decide)
    generalize 2 ^ r.length = m at *
    generalize val r s = v
    have hm : m * 2 = 2 * m := Nat.mul_comm ..
    rw [hm]
    cases s t <;> cases holds C s <;> simp [holds, Bool.toNat] 
    · rw [Nat.mul_mod_mul_left]
    · rw [show 1 + 2 * (v % m) = (2 * v + 1) % (2 * m) from ?_]
      rw [Nat.mod_mul, Nat.add_comm (2 * v) 1, Nat.add_mul_mod_self_left, Nat.add_mul_div_left _ _ (by decide)]
      simp
    · rw [show (1 + 2 * v) % (2 * m) = 1 + 2 * (v % m) from ?_]
      rw [Nat.mod_mul, Nat.add_mul_mod_self_left, Nat.add_mul_div_left _ _ (by decide)]
      simp
    · rw [show 1 + 2 * v + 1 = 2 * (v + 1) from by omega, Nat.mul_mod_mul_left]
/-- a number added -/
def addG (C : List Ct) : List Nat → List Nat → List Gt
  | _, [] => []
  | ts, b :: r => incG (C ++ [(b, true)]) ts ++ addG C ts.tail r
theorem addG_mem {C : List Ct} {ts ss : List Nat} {g : Gt} (h : g ∈ addG C ts ss) : g.1 ∈ ts ∧ ∃ k, g.2 = C ++ k ∧ ∀ c ∈ k, c.1 ∈ ts ∨ c.1 ∈ ss := by
  induction ss generalizing ts with
  | nil => cases h
  | cons b r ih =>
    rcases List.mem_append.mp h with h | h
    · obtain ⟨i, hi, rfl⟩ := List.mem_map.mp h
      refine ⟨(incG_mem h).1, _, List.append_assoc .., fun c hc => ?_⟩
      rcases List.mem_append.mp hc with h | h
      · rw [List.mem_singleton.mp h]; exact .inr List.mem_cons_self
      · obtain ⟨w, hw, rfl⟩ := List.mem_map.mp h
        exact .inl (List.mem_of_mem_take hw)
    · obtain ⟨h1, k, h2, h3⟩ := ih h
      exact ⟨List.mem_of_mem_tail h1, k, h2, fun c hc => (h3 c hc).imp List.mem_of_mem_tail (List.mem_cons_of_mem _)⟩
theorem add_ne {C : List Ct} {ts ss : List Nat} {s : Sb} {i : Nat} (h : i ∉ ts) : run (addG C ts ss) s i = s i :=
  run_ne fun g hg e => h (e ▸ (addG_mem hg).1)
theorem add_val {C : List Ct} {ts ss : List Nat} (nd : ts.Nodup) (hC : ∀ c ∈ C, c.1 ∉ ts) (hs : ∀ b ∈ ss, b ∉ ts) (hl : ss.length = ts.length) (s : Sb) :
    val ts (run (addG C ts ss) s) = (val ts s + if holds C s then val ss s else 0) % 2 ^ ts.length := by
  induction ss generalizing ts s with
  | nil =>
    cases ts with
    | nil => rw [val, List.length_nil, Nat.pow_zero, Nat.mod_one]
    | cons t r => cases hl
  | cons b q ih =>
    cases ts with
    | nil => cases hl
    | cons t r =>
      have ndr := (List.nodup_cons.mp nd).2
      have ntr := (List.nodup_cons.mp nd).1
      have hbq : ∀ b ∈ q, b ∉ r := fun b hb z => hs b (List.mem_cons_of_mem _ hb) (List.mem_cons_of_mem _ z)
      have hCr : ∀ c ∈ C, c.1 ∉ r := fun c hc z => hC c hc (List.mem_cons_of_mem _ z)
      rw [addG, run_app, List.tail_cons]
      have h1 := inc_val (C := C ++ [(b, true)]) nd (fun c hc => by
        rcases List.mem_append.mp hc with h | h
        · exact hC c h
        · rw [List.mem_singleton.mp h]; exact hs b List.mem_cons_self) s
      obtain ⟨u, hu⟩ : ∃ u, run (incG (C ++ [(b, true)]) (t :: r)) s = u := ⟨_, rfl⟩
      rw [hu] at h1 ⊢
      have ue : ∀ i, i ∉ t :: r → u i = s i := fun i hi => by rw [← hu]; exact inc_ne hi
      have h2 := ih ndr hCr hbq (Nat.succ.inj hl) u
      have eC : holds C u = holds C s := holds_eq fun c hc => ue _ (hC c hc)
      have eq : val q u = val q s := val_eq fun x hx => ue _ (hs x (List.mem_cons_of_mem _ hx))
      rw [eC, eq] at h2
      obtain ⟨z, hz⟩ : ∃ z, run (addG C r q) u = z := ⟨_, rfl⟩
      rw [hz] at h2 ⊢
      have et : z t = u t := by rw [← hz]; exact add_ne ntr
      rw [val] at h1
      rw [val, et, h2, val, val]
      rw [holds_app, holds_cons] at h1
      rw [val, List.length_cons, Nat.pow_succ] at h1
      rw [List.length_cons, Nat.pow_succ]
      have hp : 0 < 2 ^ r.length := Nat.pow_pos (by decide)
      have l1 := val_lt r u
      generalize 2 ^ r.length = m at *
      have hm : m * 2 = 2 * m := Nat.mul_comm ..
      rw [hm] at h1 ⊢
      generalize val r u = x at *
      generalize val r s = v at *
      generalize val q s = y at *
      have key : ∀ n : Nat, (u t).toNat + 2 * ((x + n) % m) = ((u t).toNat + 2 * x + 2 * n) % (2 * m) := fun n => by
        have hb := Bool.toNat_le (u t)
        generalize (u t).toNat = d at *
        rw [Nat.mod_mul, show d + 2 * x + 2 * n = d + 2 * (x + n) from by omega, Nat.add_mul_mod_self_left, Nat.add_mul_div_left _ _ (by decide)]
        have e1 : d % 2 = d := by omega
        have e2 : d / 2 = 0 := by omega
        rw [e1, e2, Nat.zero_add]
      rw [key, h1, Nat.mod_add_mod]
      congr 1
      cases holds C s <;> cases s b <;> simp [holds] <;> omega
/-! ### less -/
def lessG (C : List Ct) (w : Nat) : List (Nat × Nat) → List Gt
  | [] => []
  | p :: r => lessG C w r ++ [(w, C ++ [(p.1, false), (p.2, true)] ++ r.map fun q => (q.2, false)), (p.2, [(p.1, true)])]
def unG (ps : List (Nat × Nat)) : List Gt := ps.map fun p => (p.2, [(p.1, true)])
def ltB : List (Nat × Nat) → Sb → Bool
  | [], _ => false
  | p :: r, s => ltB r s || ((r.all fun q => s q.1 == s q.2) && !s p.1 && s p.2)
theorem lessG_mem {C : List Ct} {w : Nat} {ps : List (Nat × Nat)} {g : Gt} (h : g ∈ lessG C w ps) : (g.1 = w ∧ ∃ p r a, ps = a ++ p :: r ∧ g.2 = C ++ [(p.1, false), (p.2, true)] ++ r.map fun q => (q.2, false)) ∨ ∃ p ∈ ps, g = (p.2, [(p.1, true)]) := by
  induction ps with
  | nil => cases h
  | cons p r ih =>
    rw [lessG] at h
    rcases List.mem_append.mp h with h | h
    · rcases ih h with ⟨h1, q, r', a, h2, h3⟩ | ⟨q, h1, h2⟩
      · exact .inl ⟨h1, q, r', p :: a, by rw [h2]; rfl, h3⟩
      · exact .inr ⟨q, List.mem_cons_of_mem _ h1, h2⟩
    · rcases List.mem_cons.mp h with h | h
      · exact .inl ⟨by rw [h], p, r, [], rfl, by rw [h]⟩
      · rw [List.mem_singleton.mp h]
        exact .inr ⟨p, List.mem_cons_self, rfl⟩
/-- what is asked of the wires -/
structure Apart (C : List Ct) (w : Nat) (ps : List (Nat × Nat)) : Prop where
  nd : (ps.map (·.2)).Nodup
  fs : ∀ p ∈ ps, ∀ q ∈ ps, p.1 ≠ q.2
  wf : ∀ p ∈ ps, p.1 ≠ w ∧ p.2 ≠ w
  cs : ∀ c ∈ C, c.1 ≠ w ∧ ∀ p ∈ ps, c.1 ≠ p.2
theorem Apart.tail {C : List Ct} {w : Nat} {p : Nat × Nat} {ps : List (Nat × Nat)} (A : Apart C w (p :: ps)) : Apart C w ps :=
  ⟨(List.nodup_cons.mp A.nd).2, fun p hp q hq => A.fs p (List.mem_cons_of_mem _ hp) q (List.mem_cons_of_mem _ hq), fun p hp => A.wf p (List.mem_cons_of_mem _ hp), fun c hc => ⟨(A.cs c hc).1, fun p hp => (A.cs c hc).2 p (List.mem_cons_of_mem _ hp)⟩⟩
theorem less_ne {C : List Ct} {w : Nat} {ps : List (Nat × Nat)} {s : Sb} {i : Nat} (h : i ≠ w) (hs : ∀ p ∈ ps, i ≠ p.2) : run (lessG C w ps) s i = s i :=
  run_ne fun g hg e => by
    rcases lessG_mem hg with ⟨h1, _⟩ | ⟨p, h1, h2⟩
    · exact h (e.trans h1)
    · exact hs p h1 (by rw [e, h2])
theorem xor_beq (a b : Bool) : ((a ^^ b) == false) = (b == a) := by cases a <;> cases b <;> rfl
theorem less_run {C : List Ct} {w : Nat} : ∀ {ps : List (Nat × Nat)}, Apart C w ps → ∀ s : Sb, (∀ p ∈ ps, run (lessG C w ps) s p.2 = (s p.2 ^^ s p.1)) ∧ run (lessG C w ps) s w = (s w ^^ (holds C s && ltB ps s))
  | [], _, s => ⟨fun _ h => (nomatch h), (by
      show s w = (s w ^^ (holds C s && false))
      cases s w <;> cases holds C s <;> rfl)⟩
  | p :: r, A, s => by
    obtain ⟨h1, h2⟩ := less_run A.tail s
    have hne : ∀ i, i ≠ w → (∀ q ∈ r, i ≠ q.2) → run (lessG C w r) s i = s i := fun i a b => less_ne a b
    rw [lessG, run_app]
    obtain ⟨u, hu⟩ : ∃ u, run (lessG C w r) s = u := ⟨_, rfl⟩
    rw [hu] at h1 h2 hne ⊢
    have pp := List.mem_cons_self (a := p) (l := r)
    have np : ∀ q ∈ r, p.2 ≠ q.2 := fun q hq z => (List.nodup_cons.mp A.nd).1 (List.mem_map.mpr ⟨q, hq, z.symm⟩)
    have uf : u p.1 = s p.1 := hne _ (A.wf p pp).1 fun q hq => A.fs p pp q (List.mem_cons_of_mem _ hq)
    have us : u p.2 = s p.2 := hne _ (A.wf p pp).2 np
    have uC : holds C u = holds C s := holds_eq fun c hc => hne _ (A.cs c hc).1 fun q hq => (A.cs c hc).2 q (List.mem_cons_of_mem _ hq)
    have ur : (holds (r.map fun q => (q.2, false)) u) = (r.all fun q => s q.1 == s q.2) := by
      have : ∀ l : List (Nat × Nat), (∀ q ∈ l, u q.2 = (s q.2 ^^ s q.1)) → holds (l.map fun q => (q.2, false)) u = l.all fun q => s q.1 == s q.2 := fun l => by
        induction l with
        | nil => intro _; rfl
        | cons x l ih =>
          intro hl
          rw [List.map_cons, holds_cons, List.all_cons, ih fun q hq => hl q (List.mem_cons_of_mem _ hq), hl x List.mem_cons_self]
          rw [xor_beq]
      exact this r h1
    obtain ⟨v, hv⟩ : ∃ v, act (w, C ++ [(p.1, false), (p.2, true)] ++ r.map fun q => (q.2, false)) u = v := ⟨_, rfl⟩
    have vn : ∀ i, i ≠ w → v i = u i := fun i hi => by rw [← hv]; exact act_ne hi
    have vw : v w = (u w ^^ (holds C s && (!s p.1 && s p.2) && (r.all fun q => s q.1 == s q.2))) := by
      rw [← hv]
      refine (act_eq (g := (w, _))).trans ?_
      congr 1
      rw [holds_app, holds_app, holds_cons, holds_cons, uC, ur, uf, us]
      cases s p.1 <;> cases s p.2 <;> simp [holds]
    show (∀ q ∈ p :: r, run [_, _] u q.2 = _) ∧ run [_, _] u w = _
    rw [show run [(w, C ++ [(p.1, false), (p.2, true)] ++ r.map fun q => (q.2, false)), (p.2, [(p.1, true)])] u = act (p.2, [(p.1, true)]) v from by rw [← hv]; rfl]
    refine ⟨fun q hq => ?_, ?_⟩
    · rcases List.mem_cons.mp hq with rfl | hq
      · have e := act_eq (g := (q.2, [(q.1, true)])) (s := v)
        rw [show ((q.2, [(q.1, true)]) : Gt).1 = q.2 from rfl] at e
        rw [e, vn _ (A.wf q pp).2, us]
        congr 1
        show holds [(q.1, true)] v = _
        rw [holds_cons, vn _ (A.wf q pp).1, uf]
        cases s q.1 <;> rfl
      · rw [act_ne (fun z => np q hq z.symm), vn _ (A.wf q (List.mem_cons_of_mem _ hq)).2]
        exact h1 q hq
    · rw [act_ne (fun z => (A.wf p pp).2 z.symm), vw, h2, ltB]
      have ex : ltB r s = true → (r.all fun q => s q.1 == s q.2) = false := by
        have : ∀ l : List (Nat × Nat), ltB l s = true → (l.all fun q => s q.1 == s q.2) = false := fun l => by
          induction l with
          | nil => intro h; cases h
          | cons x l ih =>
            intro h
            rw [ltB] at h
            rw [List.all_cons]
            cases e : ltB l s with
            | true => rw [ih e, Bool.and_false]
            | false =>
              rw [e] at h
              revert h
              cases s x.1 <;> cases s x.2 <;> simp
        exact this r
      revert ex
      cases ltB r s <;> cases (r.all fun q => s q.1 == s q.2) <;> cases s w <;> cases holds C s <;> cases s p.1 <;> cases s p.2 <;> simp
theorem un_run {ps : List (Nat × Nat)} (nd : (ps.map (·.2)).Nodup) (fs : ∀ p ∈ ps, ∀ q ∈ ps, p.1 ≠ q.2) (s : Sb) : (∀ p ∈ ps, run (unG ps) s p.2 = (s p.2 ^^ s p.1)) ∧ ∀ i, (∀ p ∈ ps, i ≠ p.2) → run (unG ps) s i = s i := by
  have hn : ∀ i, (∀ p ∈ ps, i ≠ p.2) → run (unG ps) s i = s i := fun i hi => run_ne fun g hg => by
    obtain ⟨p, hp, rfl⟩ := List.mem_map.mp hg
    exact hi p hp
  refine ⟨?_, hn⟩
  induction ps generalizing s with
  | nil => intro p h; cases h
  | cons p r ih =>
    have pp := List.mem_cons_self (a := p) (l := r)
    have np : ∀ q ∈ r, p.2 ≠ q.2 := fun q hq z => (List.nodup_cons.mp nd).1 (List.mem_map.mpr ⟨q, hq, z.symm⟩)
    have nd' : (r.map (·.2)).Nodup := (List.nodup_cons.mp nd).2
    have e0 : act (p.2, [(p.1, true)]) s p.2 = (s p.2 ^^ s p.1) := by
      refine (act_eq (g := (p.2, _))).trans ?_
      congr 1
      show holds [(p.1, true)] s = _
      rw [holds_cons]
      cases s p.1 <;> rfl
    have hr : ∀ i, (∀ q ∈ r, i ≠ q.2) → ∀ u, run (unG r) u i = u i := fun i hi u => run_ne fun g hg => by
      obtain ⟨p, hp, rfl⟩ := List.mem_map.mp hg
      exact hi p hp
    intro q hq
    show run (unG r) (act (p.2, [(p.1, true)]) s) q.2 = _
    rcases List.mem_cons.mp hq with rfl | hq
    · rw [hr _ np, e0]
    · have h := ih nd' (fun p hp q hq => fs p (List.mem_cons_of_mem _ hp) q (List.mem_cons_of_mem _ hq)) (act (p.2, [(p.1, true)]) s) (fun i hi => hr i hi _) q hq
      rw [h, act_ne (fun z => np q hq z.symm), act_ne (fun z => fs q (List.mem_cons_of_mem _ hq) p pp z)]
/-- the whole comparison: the wire alone is turned -/
theorem less_whole {C : List Ct} {w : Nat} {ps : List (Nat × Nat)} (A : Apart C w ps) (s : Sb) : run (lessG C w ps ++ unG ps) s = if holds C s && ltB ps s then flp w s else s := by
  rw [run_app]
  obtain ⟨h1, h2⟩ := less_run A s
  obtain ⟨u, hu⟩ : ∃ u, run (lessG C w ps) s = u := ⟨_, rfl⟩
  have hne : ∀ i, i ≠ w → (∀ q ∈ ps, i ≠ q.2) → u i = s i := fun i a b => by rw [← hu]; exact less_ne a b
  rw [hu] at h1 h2 ⊢
  obtain ⟨g1, g2⟩ := un_run A.nd A.fs u
  funext i
  by_cases hi : ∃ p ∈ ps, i = p.2
  · obtain ⟨p, hp, rfl⟩ := hi
    rw [g1 p hp, h1 p hp, hne _ (A.wf p hp).1 (A.fs p hp)]
    have : (s p.2 ^^ s p.1 ^^ s p.1) = s p.2 := by cases s p.1 <;> cases s p.2 <;> rfl
    rw [this]
    split
    · rw [flp, if_neg (A.wf p hp).2]
    · rfl
  · have hi' : ∀ p ∈ ps, i ≠ p.2 := fun p hp z => hi ⟨p, hp, z⟩
    rw [g2 i hi']
    by_cases e : i = w
    · subst e
      rw [h2]
      split
      · rename_i h
        rw [h, flp, if_pos rfl]
        simp
      · rename_i h
        rw [Bool.not_eq_true] at h
        rw [h]
        simp
    · rw [hne i e hi']
      split
      · rw [flp, if_neg e]
      · rfl
theorem lt_val : ∀ (ps : List (Nat × Nat)) (s : Sb), ltB ps s = decide (val (ps.map (·.1)) s < val (ps.map (·.2)) s) ∧ (ps.all fun q => s q.1 == s q.2) = decide (val (ps.map (·.1)) s = val (ps.map (·.2)) s)
  | [], s => ⟨rfl, rfl⟩
  | p :: r, s => by
    obtain ⟨h1, h2⟩ := lt_val r s
    rw [ltB, List.all_cons, h1, h2, List.map_cons, List.map_cons, val, val]
    generalize val (r.map (·.1)) s = a
    generalize val (r.map (·.2)) s = b
    constructor
    · rw [Bool.eq_iff_iff]
      cases s p.1 <;> cases s p.2 <;> simp <;> omega
    · rw [Bool.eq_iff_iff]
      cases s p.1 <;> cases s p.2 <;> simp <;> omega
end My

set_option linter.all false
/-! the bits as a row -/
namespace My
def st (bs : List Bool) : Sb := fun i => bs.getD i false
def actL (g : Gt) (bs : List Bool) : List Bool := if holds g.2 (st bs) then bs.set g.1 (!st bs g.1) else bs
def runL : List Gt → List Bool → List Bool
  | [], s => s
  | g :: r, s => runL r (actL g s)
theorem runL_snoc (a : List Gt) (g : Gt) (bs : List Bool) : runL (a ++ [g]) bs = actL g (runL a bs) := by
  induction a generalizing bs with
  | nil => rfl
  | cons x r ih => exact ih _
theorem actL_len (g : Gt) (bs : List Bool) : (actL g bs).length = bs.length := by
  unfold actL
  split
  · rw [List.length_set]
  · rfl
theorem runL_len (gs : List Gt) (bs : List Bool) : (runL gs bs).length = bs.length := by
  induction gs generalizing bs with
  | nil => rfl
  | cons g r ih => exact (ih _).trans (actL_len _ _)
theorem st_set {bs : List Bool} {t : Nat} {b : Bool} (h : t < bs.length) : st (bs.set t b) = fun i => if i = t then b else st bs i := by
  funext i
  unfold st
  rw [List.getD_eq_getElem?_getD, List.getD_eq_getElem?_getD, List.getElem?_set]
  by_cases e : t = i
  · subst e
    rw [if_pos rfl, if_pos h, if_pos rfl]
    rfl
  · rw [if_neg e, if_neg (fun z => e z.symm)]
theorem st_act {g : Gt} {bs : List Bool} (h : g.1 < bs.length) : st (actL g bs) = act g (st bs) := by
  unfold actL act
  split
  · rw [st_set h]
    rfl
  · rfl
theorem st_run {gs : List Gt} {bs : List Bool} (h : ∀ g ∈ gs, g.1 < bs.length) : st (runL gs bs) = run gs (st bs) := by
  induction gs generalizing bs with
  | nil => rfl
  | cons g r ih =>
    show st (runL r (actL g bs)) = run r (act g (st bs))
    rw [ih fun x hx => by rw [actL_len]; exact h x (List.mem_cons_of_mem _ hx), st_act (h g List.mem_cons_self)]
theorem st_ext {a b : List Bool} (hl : a.length = b.length) (h : st a = st b) : a = b := by
  apply List.ext_getElem? 
  intro i
  have := congrFun h i
  unfold st at this
  rw [List.getD_eq_getElem?_getD, List.getD_eq_getElem?_getD] at this
  by_cases hi : i < a.length
  · rw [List.getElem?_eq_getElem hi, List.getElem?_eq_getElem (hl ▸ hi)] at this ⊢
    exact congrArg some this
  · rw [List.getElem?_eq_none (Nat.le_of_not_lt hi), List.getElem?_eq_none (by omega)]
/-- a number put on the wires -/
def putL : List Nat → Nat → List Bool → List Bool
  | [], _, bs => bs
  | t :: r, n, bs => putL r (n / 2) (bs.set t (n % 2 == 1))
theorem putL_len (ts : List Nat) (n : Nat) (bs : List Bool) : (putL ts n bs).length = bs.length := by
  induction ts generalizing n bs with
  | nil => rfl
  | cons t r ih => exact (ih _ _).trans List.length_set
theorem putL_ne {ts : List Nat} {n : Nat} {bs : List Bool} {i : Nat} (h : i ∉ ts) : st (putL ts n bs) i = st bs i := by
  induction ts generalizing n bs with
  | nil => rfl
  | cons t r ih =>
    rw [putL, ih fun z => h (List.mem_cons_of_mem _ z)]
    unfold st
    rw [List.getD_eq_getElem?_getD, List.getD_eq_getElem?_getD, List.getElem?_set_ne (fun z => h (by rw [← z]; exact List.mem_cons_self))]
theorem putL_val {ts : List Nat} (nd : ts.Nodup) {n : Nat} {bs : List Bool} (h : ∀ t ∈ ts, t < bs.length) : val ts (st (putL ts n bs)) = n % 2 ^ ts.length := by
  induction ts generalizing n bs with
  | nil => rw [val, List.length_nil, Nat.pow_zero, Nat.mod_one]
  | cons t r ih =>
    have ntr := (List.nodup_cons.mp nd).1
    rw [val, putL, putL_ne ntr, st_set (h t List.mem_cons_self), ih (List.nodup_cons.mp nd).2 fun x hx => by rw [List.length_set]; exact h x (List.mem_cons_of_mem _ hx)]
    show (if t = t then n % 2 == 1 else st bs t).toNat + _ = _
    rw [if_pos rfl, List.length_cons, Nat.pow_succ, Nat.mul_comm _ 2, Nat.mod_mul]
    congr 1
    have : n % 2 = 0 ∨ n % 2 = 1 := by omega
    rcases this with e | e <;> rw [e] <;> rfl
theorem putL_uniq {ts : List Nat} (nd : ts.Nodup) {n : Nat} {bs cs : List Bool} (h : ∀ t ∈ ts, t < bs.length) (hl : cs.length = bs.length) (ho : ∀ i, i ∉ ts → st cs i = st bs i) (hv : val ts (st cs) = n % 2 ^ ts.length) : cs = putL ts n bs := by
  refine st_ext (by rw [putL_len, hl]) (funext fun i => ?_)
  by_cases hi : i ∈ ts
  · exact val_inj (hv.trans (putL_val nd h).symm) i hi
  · rw [ho i hi, putL_ne hi]
/-- what the sum's gates do to a row -/
theorem add_row {C : List Ct} {ts ss : List Nat} {gs : List Gt} (hS : Sim (addG C ts ss) gs) {bs : List Bool} (nd : ts.Nodup) (hC : ∀ c ∈ C, c.1 ∉ ts) (hs : ∀ b ∈ ss, b ∉ ts) (hl : ss.length = ts.length) (hb : ∀ t ∈ ts, t < bs.length) :
    runL gs bs = if holds C (st bs) then putL ts ((val ts (st bs) + val ss (st bs)) % 2 ^ ts.length) bs else bs := by
  have hg : ∀ g ∈ gs, g.1 < bs.length := fun g hg => by
    obtain ⟨c, h1, _⟩ := hS.mem (t := g.1) (d := g.2) hg
    exact hb _ (addG_mem h1).1
  have e := st_run hg
  rw [← hS.run] at e
  have v := add_val nd hC hs hl (st bs)
  have ho : ∀ i, i ∉ ts → st (runL gs bs) i = st bs i := fun i hi => by rw [e]; exact add_ne hi
  rw [← e] at v
  split
  · rename_i h
    rw [if_pos h] at v
    exact putL_uniq nd hb (runL_len _ _) ho (by rw [v, Nat.mod_mod])
  · rename_i h
    rw [if_neg h, Nat.add_zero, Nat.mod_eq_of_lt (val_lt _ _)] at v
    refine st_ext (runL_len _ _) (funext fun i => ?_)
    by_cases hi : i ∈ ts
    · exact val_inj v i hi
    · exact ho i hi
theorem less_row {C : List Ct} {w : Nat} {ps : List (Nat × Nat)} {gs : List Gt} (hS : Sim (lessG C w ps ++ unG ps) gs) (A : Apart C w ps) {bs : List Bool} (hw : w < bs.length) (hb : ∀ p ∈ ps, p.2 < bs.length) :
    runL gs bs = if holds C (st bs) && decide (val (ps.map (·.1)) (st bs) < val (ps.map (·.2)) (st bs)) then bs.set w (!st bs w) else bs := by
  have hg : ∀ g ∈ gs, g.1 < bs.length := fun g hg => by
    obtain ⟨c, h1, _⟩ := hS.mem (t := g.1) (d := g.2) hg
    rcases List.mem_append.mp h1 with h1 | h1
    · rcases lessG_mem h1 with ⟨h2, _⟩ | ⟨p, h2, h3⟩
      · have h2 : g.1 = w := h2
        rw [h2]; exact hw
      · have h3 : g.1 = p.2 := congrArg Prod.fst h3
        rw [h3]; exact hb p h2
    · obtain ⟨p, hp, h3⟩ := List.mem_map.mp h1
      have h3 : p.2 = g.1 := congrArg Prod.fst h3
      rw [← h3]; exact hb p hp
  have e := st_run hg
  rw [← hS.run, less_whole A, (lt_val ps _).1] at e
  refine st_ext ?_ ?_
  · rw [runL_len]
    split
    · rw [List.length_set]
    · rfl
  · rw [e]
    split
    · rw [st_set hw]
      rfl
    · rfl
end My

set_option Elab.async false
set_option linter.all false
set_option maxRecDepth 100000
/-! sorted(d.items()) of a dict from numbers to numbers -/
namespace My
open PySem PySem.Spec PyProof.Rows L2 LiI
/-- the pair that a tuple among these shows -/
def pairOf (as : List Addr) (kvs : List (Int × Int)) (v : Value) : Int × Int := match v with
  | .ref a => kvs.getD (as.idxOf a) (0, 0)
  | _ => (0, 0)
theorem pairOf_at {as : List Addr} {kvs : List (Int × Int)} {j : Nat} {a : Addr} {p : Int × Int} (nd : as.Nodup) (h : as[j]? = some a) (g : kvs[j]? = some p) : pairOf as kvs (.ref a) = p := by
  obtain ⟨h1, h2⟩ := List.getElem?_eq_some_iff.mp h
  have e : as.idxOf a = j := by rw [← h2]; exact nd.idxOf_getElem j h1
  show kvs.getD (as.idxOf a) (0, 0) = p
  rw [e, List.getD_eq_getElem?_getD, g]
  rfl
theorem sorted_view {prog : Program} {w : World} {A : Around} {E : Value → Shared → Prop} {s : Shared} {r d : Addr} {es : Array DictEntry} {ep : Nat} {kvs : List (Int × Int)} {Q : Value → Shared → Prop}
    (hh : A.handled = none) (hv : s.heap.IsItemsView r d) (hd : s.heap.DictRaw d es ep) (hz : es.size ≤ sizeLine) (hlk : es.size = kvs.length) (hrs : s.heap.objs.size ≤ r + 1)
    (hkv : ∀ j (hj : j < es.size), ∃ x t y u, kvs[j]? = some (x, y) ∧ es[j].key = .int x t ∧ es[j].val = .int y u)
    (h : ∀ (h' : Heap) (tk : Nat) (L : Addr) (c : Nat) (as : List Addr) (out : List Value), (∀ (b : Addr) (o : Obj), s.heap.get? b = some o → h'.get? b = some o) → s.heap.objs.size ≤ L → L ∉ as → as.Nodup → (∀ a ∈ as, s.heap.objs.size ≤ a) → as.length = kvs.length →
      (∀ (j : Nat) (a : Addr), as[j]? = some a → ∃ x t y u, kvs[j]? = some (x, y) ∧ h'.get? a = some { cls := .type "tuple", data := .seq #[.int x t, .int y u] }) → h'.get? L = some (seqObj "list" out.toArray c) →
      SrtO.Srtd (fun v u => SrtO.lexB (pairOf as kvs v) (pairOf as kvs u)) out → SrtO.Stb (fun v u => SrtO.lexB (pairOf as kvs v) (pairOf as kvs u)) out (as.map Value.ref) →
      Q (.ref L) { heap := h', gens := s.gens, drawn := s.drawn, toks := tk, os := s.os }) :
    wpAny (model prog w) A (call (.builtin "sorted") [.ref r]) Q E s := by
  refine Calls.call_function_entry kind_sorted plain_sorted entry_sorted (args_sorted1 (.ref r)) ?_
  refine wpAny_bind (wpAny_pure (wpAny_bind (PySem.W.dil_collect (A := A.in1) hh hv hd hz fun h1 tk as k1 hl hG => ?_)))
  have hlz : (as.map Value.ref).length ≤ sizeLine := by rw [List.length_map, hl]; exact hz
  refine wpAny_bind (wpAny_newList ?_ hlz)
  have nd : as.Nodup := hG.rise.imp fun h => Nat.ne_of_lt h
  have ha : ∀ a ∈ as, s.heap.objs.size ≤ a := fun a m => Nat.le_of_lt (hG.above a m)
  have hat : ∀ (j : Nat) (a : Addr), as[j]? = some a → ∃ x t y u, kvs[j]? = some (x, y) ∧ h1.get? a = some { cls := .type "tuple", data := .seq #[.int x t, .int y u] } := fun j a e => by
    obtain ⟨hj, e1⟩ := hG.pairs j a e
    obtain ⟨x, t, y, u, e2, e3, e4⟩ := hkv j hj
    rw [e3, e4] at e1
    exact ⟨x, t, y, u, e2, e1⟩
  have hLs : s.heap.objs.size ≤ h1.objs.size := by
    obtain ⟨o, ho, _⟩ := hv
    exact Nat.le_trans hrs (Heap.lt_size (k1 r o ho))
  have hLa : h1.objs.size ∉ as := fun m => by
    obtain ⟨j, hj, e⟩ := List.mem_iff_getElem.mp m
    obtain ⟨x, t, y, u, _, e2⟩ := hat j _ (by rw [List.getElem?_eq_getElem hj, e])
    exact Nat.lt_irrefl _ (Heap.lt_size e2)
  have hoL : (h1.push (seqObj "list" (as.map Value.ref).toArray 0)).get? h1.objs.size = some (seqObj "list" (as.map Value.ref).toArray 0) := Heap.get?_push_size h1 rfl
  refine wpAny_bind (wpAny_holding (wpAny_call_entry slot_list_sort ⟨_, hoL, rfl⟩ entry_list_sort (SrtO.list_sort_ord (SrtO.swo_lex (pairOf as kvs)) hoL hlz (fun h2 => ?_) fun out hs hb => ⟨.none, rfl, wpAny_pure ⟨.ref _, rfl, ?_⟩⟩) (args_list_sort _)))
  · refine SrtO.pairs_sortableO (by omega) (fun v hm => ?_) (fun o e c => ?_)
    · obtain ⟨a, m, rfl⟩ := List.mem_map.mp hm
      obtain ⟨j, hj, e⟩ := List.mem_iff_getElem.mp m
      have e0 : as[j]? = some a := by rw [List.getElem?_eq_getElem hj, e]
      obtain ⟨x, t, y, u, e1, e2⟩ := hat j a e0
      rw [pairOf_at nd e0 e1]
      exact ⟨a, _, t, u, _, rfl, Heap.get?_push_of_some _ e2, rfl, rfl⟩
    · rw [hoL] at e
      cases e
      have c : Value.type "list" = Value.type "tuple" := c
      exact absurd (Value.type.inj c) (by decide)
  · obtain ⟨c, hc⟩ := sortedHeap_at (out := out.toArray) hoL
    have keep : ∀ (b : Addr) (o : Obj), h1.get? b = some o → (sortedHeap (h1.push (seqObj "list" (as.map Value.ref).toArray 0)) h1.objs.size (as.map Value.ref) out.toArray).get? b = some o := fun b o e => by
      have hlt := Heap.lt_size e
      have e2 := Heap.get?_push_of_some (seqObj "list" (as.map Value.ref).toArray 0) e
      rw [sortedHeap_old (Nat.ne_of_lt hlt) (Heap.lt_size e2)]
      exact e2
    refine h _ tk h1.objs.size c as out (fun b o e => keep b o (k1 b o e)) hLs hLa nd ha (by rw [hl, hlk]) (fun j a e => ?_) hc hs hb
    obtain ⟨x, t, y, u, e1, e2⟩ := hat j a e
    exact ⟨x, t, y, u, e1, keep _ _ e2⟩
/-- the new list and its tuples -/
theorem lay_sorted {X : Cx} {pins : List (Addr × Obj)} {σ : L2.St} {H : Hp} {s : Shared} {h' : Heap} {tk c : Nat} {L : Addr} {as bs : List Addr} {kvs : List (Int × Int)} (I : L2.Inv X pins σ H s) (hz : bs.length ≤ sizeLine) (hk : ∀ (b : Addr) (o : Obj), s.heap.get? b = some o → h'.get? b = some o)
    (hL : s.heap.objs.size ≤ L) (ha : ∀ a ∈ as, s.heap.objs.size ≤ a) (hLa : L ∉ as) (nd : as.Nodup) (hlen : as.length = kvs.length)
    (hp : ∀ (j : Nat) (a : Addr), as[j]? = some a → ∃ x t y u, kvs[j]? = some (x, y) ∧ h'.get? a = some { cls := .type "tuple", data := .seq #[.int x t, .int y u] })
    (hl : h'.get? L = some (seqObj "list" (bs.map Value.ref).toArray c)) :
    ∃ H', (∀ (b : Addr) (o : HO), H b = some o → H' b = some o) ∧ H L = none ∧ (∀ a ∈ as, H a = none) ∧ H' L = some (.lst (bs.map V.ref)) ∧ Paired (fun t (q : Int × Int) => H' t = some (.tup [.int q.1, .int q.2])) as kvs ∧
      L2.Inv X pins σ H' { heap := h', gens := s.gens, drawn := s.drawn, toks := tk, os := s.os } := by
  obtain ⟨H', eH⟩ : ∃ H' : Hp, H' = putT (upd H L (.lst (bs.map V.ref))) as (kvs.map fun p => (Sum.inl p.1, V.int p.2)) := ⟨_, rfl⟩
  have new : ∀ t ∈ as, H t = none := fun t ht => HOk.fresh I.hok (ha t ht)
  have newL : H L = none := HOk.fresh I.hok hL
  have atP : Paired (fun t (q : Int × Int) => H' t = some (.tup [.int q.1, .int q.2])) as kvs := by
    have := putT_at as (kvs.map fun p => ((Sum.inl p.1 : L2.Key), V.int p.2)) (upd H L (.lst (bs.map V.ref))) (by rw [List.length_map]; exact hlen) nd
    rw [← eH] at this
    clear eH hp
    revert this
    generalize H' = G
    clear new newL hlen nd hLa ha
    induction as generalizing kvs with
    | nil =>
      cases kvs with
      | nil => intro _; exact .nil
      | cons p r => intro h; cases h
    | cons a r ih =>
      cases kvs with
      | nil => intro h; cases h
      | cons p q =>
        intro h
        cases h with
        | cons h1 h2 => exact .cons h1 (ih h2)
  have off : ∀ b, b ∉ as → b ≠ L → H' b = H b := fun b h1 h2 => by rw [eH, putT_off _ _ _ h1, upd_ne h2]
  have kp : ∀ (b : Addr) (u : HO), H b = some u → H' b = some u := fun b u e => by
    rw [off b (fun z => by rw [new b z] at e; cases e) (fun z => by rw [z, newL] at e; cases e)]
    exact e
  have eL : H' L = some (.lst (bs.map V.ref)) := by rw [eH, putT_off _ _ _ hLa, upd_same]
  have low : ∀ (b : Addr) (o : Obj), s.heap.get? b = some o → b ∉ as ∧ b ≠ L := fun b o e => ⟨fun z => absurd (Heap.lt_size e) (Nat.not_lt.mpr (ha b z)), fun z => Nat.lt_irrefl L (Nat.lt_of_lt_of_le (z ▸ Heap.lt_size e) hL)⟩
  refine ⟨H', kp, newL, new, eL, atP, Inv.call' (ch := []) I rfl ⟨fun b o q _ _ _ => hk b o q, fun b o q _ _ _ => ⟨o.slots, hk b o q⟩, fun b o q n _ => ?_, fun b o q _ => ⟨o, hk b o q⟩, fun b xs q => kp b _ q, fun b o u q => kp b _ q, fun b ps q => ⟨#[], by rw [Array.append_empty]; exact kp b _ q⟩⟩ (fun b u q => ?_) I.bare (fun b hb => (List.not_mem_nil hb).elim)⟩
  · obtain ⟨z1, z2⟩ := low b o q
    rw [off b z1 z2]
    exact n
  · by_cases hb : b ∈ as
    · obtain ⟨j, p, e1, e2, e3⟩ := paired_ix atP hb
      rw [e3] at q
      cases q
      obtain ⟨x, t, y, u, f1, f2⟩ := hp j b e1
      rw [e2] at f1
      cases f1
      exact ⟨(by show 2 ≤ sizeLine; decide), [.int x t, .int y u], .cons ⟨t, rfl⟩ (.cons ⟨u, rfl⟩ .nil), ⟨_, f2, rfl, _, rfl⟩⟩
    · by_cases hb2 : b = L
      · subst hb2
        rw [eL] at q
        cases q
        exact ⟨by rw [List.length_map]; exact hz, bs.map Value.ref, c, LiI.vals_refs bs, hl⟩
      · rw [off b hb hb2] at q
        refine ObjOk.stay (I.hok b u q) (fun b' o' _ e => hk b' o' e) (fun b' e => kp b' _ e) (fun b' xs e => kp b' _ e)
/-- what sorted(d.items()) asks: the dict; then the new list of its pairs, ascending -/
def rSortIt2 : V → Hp → VK → Prop := fun x H Q => ∃ (d : Addr) (kvs : List (Int × Int)), x = .ref d ∧ H d = some (.dK (kvs.map fun p => (Sum.inl p.1, .int p.2))) ∧
  ∀ (H' : Hp) (l : Addr) (as bs : List Addr), (∀ (b : Addr) (o : HO), H b = some o → H' b = some o) → H l = none → (∀ a ∈ as, H a = none) → H' l = some (.lst (bs.map V.ref)) → Paired (fun t (q : Int × Int) => H' t = some (.tup [.int q.1, .int q.2])) as kvs → as.Nodup →
    bs.Perm as → bs.Pairwise (fun a b => SrtO.lexB (pairOf as kvs (.ref b)) (pairOf as kvs (.ref a)) = false) → Q (.ref l) H'
def tSortIt2 (te : TE) : TE := fun σ H Q => te σ H fun x H1 => rSortIt2 x H1 Q
theorem pe_sortItems {X : Cx} {e : Expr} {te : TE} {p apos cpos pos : Pos} (hc : X.calm = true) (he : PE X e te) (hg : Gl X (Str.ofString "sorted")) (hm : X.mg (Str.ofString "sorted") = none) (hv : bootBuiltins (Str.ofString "sorted") = some (.builtin "sorted"))
    (hbase : attributeBase e (Str.ofString "items") X.env (eval e X.env) = eval e X.env := by rfl) (hline : (apos.endLine == cpos.line) = true := by rfl)
    (hs : starEach [.Call (.Attribute e (Str.ofString "items") apos) [] [] cpos] X.env = (false, eval (.Call (.Attribute e (Str.ofString "items") apos) [] [] cpos) X.env) :: starEach [] X.env := by rfl) :
    PE X (.Call (.Name (Str.ofString "sorted") p) [.Call (.Attribute e (Str.ofString "items") apos) [] [] cpos] [] pos) (tSortIt2 te) :=
  ⟨fun pins s σ H Q I hq => by
    refine wpAny_Call_Name_kw (ld_blt I hg hm hv (PyProof.Rows.callWith_builtin1 ?_ hs rfl) (by decide) (by decide))
    rw [hs]
    refine Calls.spliced_cons (wpAny_Call_method hbase rfl hline PySem.F.plainAttrs_dict PySem.F.slot_dict_items PySem.F.type_dict_items (thn (he.run pins s σ H (fun x H1 => rSortIt2 x H1 Q) I hq) fun u s1 ⟨x, H1, I1, rx, d, kvs, ex, hd, q⟩ => ?_))
    subst ex
    have rx : u = Value.ref d := rx
    subst rx
    obtain ⟨hz, hs0, vs, kv, hdo⟩ := I1.hok d _ hd
    refine ⟨Heap.DictOf.typeIs hdo, Heap.MapOf.noDict (Heap.DictOf.mapOf hdo), ?_⟩
    refine method_meetsIn PySem.F.slot_dict_items PySem.F.entry_dict_items rfl (PySem.evalArgs_none ⟨rfl, Heap.DictOf.typeIs hdo, PySem.F.args_dict_items_1 (.ref d), _, meets_dict_items (mixKind X.prog X.w) d hs0, ⟨vs, hdo⟩, Calls.spliced_nil ?_⟩)
    have I2 := Inv.kept (t' := s1.toks) I1 fun b ob q => Heap.get?_push_of_some { cls := .type "dict_items", data := .fields #[.ref d] } q
    obtain ⟨es, ep, ⟨o, ho, hex, hda⟩, hsz, hent⟩ := Heap.DictOf.raw hdo
    have lkv : vs.length = kvs.length := by have := Paired.length kv; rw [List.length_map] at this; exact this.symm
    rw [List.length_map] at hz
    refine sorted_view (kvs := kvs) (I1.ok.hd hc) ⟨_, Heap.get?_push_size s1.heap rfl, rfl, rfl⟩ ⟨o, Heap.get?_push_of_some _ ho, hex, hda⟩ (by rw [hsz, lkv]; exact hz) (by rw [hsz, lkv]) (Nat.le_of_eq (size_push' s1.heap _)) (fun j hj => ?_) fun h' tk L c as out k1 hL hLa nd ha hl hat hLl hst hsb => ?_
    · have hj2 : j < kvs.length := by rw [← lkv, ← hsz]; exact hj
      obtain ⟨pr, epr⟩ : ∃ pr, kvs[j]? = some pr := ⟨_, List.getElem?_eq_getElem hj2⟩
      obtain ⟨⟨k, v⟩, g1, g2, g3⟩ := LiI.paired_get kv (i := j) (x := (Sum.inl pr.1, V.int pr.2)) (by rw [List.getElem?_map, epr]; rfl)
      obtain ⟨f1, f2⟩ := hent j hj k v g1
      have g2 : Sum.inl pr.1 = k := g2
      subst g2
      obtain ⟨u, g3⟩ := g3
      have g3 : v = Value.int pr.2 u := g3
      have f3 : Value.isInt pr.1 es[j].key = true := f1
      rw [f2, g3]
      clear f1 f2 g1 g3 hent
      generalize es[j].key = kk at f3
      cases kk with
      | int i t =>
        have : i = pr.1 := by simpa [Value.isInt] using f3
        exact ⟨pr.1, t, pr.2, u, epr, by rw [this], rfl⟩
      | _ => simp [Value.isInt] at f3
    · have h0 : ∀ v ∈ out, ∃ a, v = Value.ref a := fun v hv => by
        obtain ⟨a, _, e⟩ := List.mem_map.mp (hsb.perm.mem_iff.mp hv)
        exact ⟨a, e.symm⟩
      obtain ⟨bs, ebs⟩ : ∃ bs : List Addr, out = bs.map Value.ref := by
        clear hst hsb hLl
        induction out with
        | nil => exact ⟨[], rfl⟩
        | cons v r ih =>
          obtain ⟨a, rfl⟩ := h0 v List.mem_cons_self
          obtain ⟨bs, rfl⟩ := ih fun y hy => h0 y (List.mem_cons_of_mem _ hy)
          exact ⟨a :: bs, rfl⟩
      subst ebs
      have hpm : bs.Perm as := by
        have := hsb.perm.map (fun v : Value => match v with | .ref a => a | _ => 0)
        rw [List.map_map, List.map_map] at this
        exact (List.Perm.of_eq (List.map_id bs).symm).trans (this.trans (.of_eq (List.map_id as)))
      have hbz : bs.length ≤ sizeLine := by rw [hpm.length_eq, hl]; exact hz
      obtain ⟨H', q1, q2, q3, q4, q5, J⟩ := lay_sorted (tk := tk) (c := c) I2 hbz k1 hL ha hLa nd hl hat hLl
      refine ⟨.ref L, H', J, rfl, q H' L as bs q1 q2 q3 q4 q5 nd hpm ?_⟩
      exact List.pairwise_map.mp hst⟩
/-! ### a pair is neither True nor False -/
theorem op_isRB {X : Cx} : OpR X (compareOp .Is) (fun x y H Q => ∃ a b, x = .ref a ∧ y = .bl b ∧ Q (.bl false) H) := fun pins s σ H x y v u Q I rx ry h => by
  obtain ⟨a, b, rfl, rfl, q⟩ := h
  have rx : v = Value.ref a := rx
  have ry : u = Value.bool b := ry
  subst rx
  subst ry
  exact wpAny_bind (wpAny_pure (wpAny_pure (fin_bl I q rfl)))
theorem op_notRB {X : Cx} : OpR X (compareOp .IsNot) (fun x y H Q => ∃ a b, x = .ref a ∧ y = .bl b ∧ Q (.bl true) H) := fun pins s σ H x y v u Q I rx ry h => by
  obtain ⟨a, b, rfl, rfl, q⟩ := h
  have rx : v = Value.ref a := rx
  have ry : u = Value.bool b := ry
  subst rx
  subst ry
  exact wpAny_bind (wpAny_pure (wpAny_pure (fin_bl I q rfl)))
end My

set_option Elab.async false
set_option linter.all false
set_option maxRecDepth 100000
namespace My
open PySem PySem.Spec PyProof.Rows L2
def topS (i : Nat) : Stmt := PySem.Challenge.pw_backrun_k42_adders_and_comparisons.main.body.getD i (.Pass ⟨0, 0, 0, 0⟩)
abbrev s_is_whole : Stmt := topS 9
abbrev N_is_whole : List Str := ["value"]
theorem sc_is_whole : FnScope N_is_whole ["value"] (defScope s_is_whole) := ⟨rfl, rfl, rfl, by decide +kernel, rfl, by decide +kernel, by decide +kernel⟩
abbrev s_is_integer : Stmt := topS 10
abbrev N_is_integer : List Str := ["value", "low", "high"]
theorem sc_is_integer : FnScope N_is_integer ["value", "low", "high"] (defScope s_is_integer) := ⟨rfl, rfl, rfl, by decide +kernel, rfl, by decide +kernel, by decide +kernel⟩
abbrev s_is_count : Stmt := topS 11
abbrev N_is_count : List Str := ["value"]
theorem sc_is_count : FnScope N_is_count ["value"] (defScope s_is_count) := ⟨rfl, rfl, rfl, by decide +kernel, rfl, by decide +kernel, by decide +kernel⟩
abbrev s_is_pair : Stmt := topS 16
abbrev N_is_pair : List Str := ["value"]
theorem sc_is_pair : FnScope N_is_pair ["value"] (defScope s_is_pair) := ⟨rfl, rfl, rfl, by decide +kernel, rfl, by decide +kernel, by decide +kernel⟩
abbrev s_is_control : Stmt := topS 17
abbrev N_is_control : List Str := ["value"]
theorem sc_is_control : FnScope N_is_control ["value"] (defScope s_is_control) := ⟨rfl, rfl, rfl, by decide +kernel, rfl, by decide +kernel, by decide +kernel⟩
abbrev s_wires_of : Stmt := topS 18
abbrev N_wires_of : List Str := ["gate", "target", "controls", "wire", "_"]
theorem sc_wires_of : FnScope N_wires_of ["gate"] (defScope s_wires_of) := ⟨rfl, rfl, rfl, by decide +kernel, rfl, by decide +kernel, by decide +kernel⟩
abbrev s_is_gate : Stmt := topS 15
abbrev N_is_gate : List Str := ["value", "named", "is_ascending", "wire", "_", "before", "behind", "item"]
theorem sc_is_gate : FnScope N_is_gate ["value"] (defScope s_is_gate) := ⟨rfl, rfl, rfl, by decide +kernel, rfl, by decide +kernel, by decide +kernel⟩
abbrev s_gate_fault : Stmt := topS 14
abbrev N_gate_fault : List Str := ["wires", "value", "wire"]
theorem sc_gate_fault : FnScope N_gate_fault ["wires", "value"] (defScope s_gate_fault) := ⟨rfl, rfl, rfl, by decide +kernel, rfl, by decide +kernel, by decide +kernel⟩
abbrev s_circuit_faults : Stmt := topS 13
abbrev N_circuit_faults : List Str := ["value", "wires", "gates", "found", "at", "gate", "fault"]
theorem sc_circuit_faults : FnScope N_circuit_faults ["value"] (defScope s_circuit_faults) := ⟨rfl, rfl, rfl, by decide +kernel, rfl, by decide +kernel, by decide +kernel⟩
abbrev s_wire_bits : Stmt := topS 1
abbrev N_wire_bits : List Str := ["wires", "wire"]
theorem sc_wire_bits : FnScope N_wire_bits ["wires"] (defScope s_wire_bits) := ⟨rfl, rfl, rfl, by decide +kernel, rfl, by decide +kernel, by decide +kernel⟩
abbrev s_controls_of : Stmt := topS 2
abbrev N_controls_of : List Str := ["bits", "wanted", "bit", "wire", "value"]
theorem sc_controls_of : FnScope N_controls_of ["bits"] (defScope s_controls_of) := ⟨rfl, rfl, rfl, by decide +kernel, rfl, by decide +kernel, by decide +kernel⟩
abbrev s_gates_if : Stmt := topS 3
abbrev N_gates_if : List Str := ["target", "bits", "controls"]
theorem sc_gates_if : FnScope N_gates_if ["target", "bits"] (defScope s_gates_if) := ⟨rfl, rfl, rfl, by decide +kernel, rfl, by decide +kernel, by decide +kernel⟩
abbrev s_adding_gates : Stmt := topS 4
abbrev N_adding_gates : List Str := ["target", "conditions", "gates", "low", "condition", "high"]
theorem sc_adding_gates : FnScope N_adding_gates ["target", "conditions"] (defScope s_adding_gates) := ⟨rfl, rfl, rfl, by decide +kernel, rfl, by decide +kernel, by decide +kernel⟩
abbrev s_add_into : Stmt := topS 6
abbrev N_add_into : List Str := ["target", "source", "controls", "wire"]
theorem sc_add_into : FnScope N_add_into ["target", "source", "controls"] (defScope s_add_into) := ⟨rfl, rfl, rfl, by decide +kernel, rfl, by decide +kernel, by decide +kernel⟩
abbrev s_less_into : Stmt := topS 7
abbrev N_less_into : List Str := ["wire", "first", "second", "spare", "controls", "unequal", "gates", "at", "same_above", "one", "two"]
theorem sc_less_into : FnScope N_less_into ["wire", "first", "second", "spare", "controls"] (defScope s_less_into) := ⟨rfl, rfl, rfl, by decide +kernel, rfl, by decide +kernel, by decide +kernel⟩
abbrev s_z_draw : Stmt := topS 20
abbrev N_z_draw : List Str := ["script", "seed", "cell"]
theorem sc_z_draw : FnScope N_z_draw ["script"] (defScope s_z_draw) := ⟨rfl, rfl, rfl, by decide +kernel, rfl, by decide +kernel, by decide +kernel⟩
abbrev s_z_take : Stmt := topS 21
abbrev N_z_take : List Str := ["draw", "many", "found"]
theorem sc_z_take : FnScope N_z_take ["draw", "many"] (defScope s_z_take) := ⟨rfl, rfl, rfl, by decide +kernel, rfl, by decide +kernel, by decide +kernel⟩
abbrev s_z_turned : Stmt := topS 24
abbrev N_z_turned : List Str := ["gates", "bits", "target", "controls", "wire", "value"]
theorem sc_z_turned : FnScope N_z_turned ["gates", "bits"] (defScope s_z_turned) := ⟨rfl, rfl, rfl, by decide +kernel, rfl, by decide +kernel, by decide +kernel⟩
abbrev s_z_some : Stmt := topS 28
abbrev N_z_some : List Str := ["draw", "wires", "many", "rest", "k"]
theorem sc_z_some : FnScope N_z_some ["draw", "wires", "many"] (defScope s_z_some) := ⟨rfl, rfl, rfl, by decide +kernel, rfl, by decide +kernel, by decide +kernel⟩
abbrev s_z_read : Stmt := topS 29
abbrev N_z_read : List Str := ["bits", "wires", "k"]
theorem sc_z_read : FnScope N_z_read ["bits", "wires"] (defScope s_z_read) := ⟨rfl, rfl, rfl, by decide +kernel, rfl, by decide +kernel, by decide +kernel⟩
abbrev s_law : Stmt := topS 30
abbrev N_law : List Str := ["script", "draw", "many", "total", "order", "first", "second", "spare", "wire", "one", "controls", "adding", "telling", "turn", "k", "bits", "value", "held", "due", "sum_now"]
theorem sc_law : FnScope N_law ["script"] (defScope s_law) := ⟨rfl, rfl, rfl, by decide +kernel, rfl, by decide +kernel, by decide +kernel⟩
/-- what the top has left -/
structure Txt (K : PySem.W.Frag) (mg : Str → Option Value) where
  f_is_whole : Addr
  d_is_whole : FuncData
  F_is_whole : Fun K "is_whole" "is_whole" s_is_whole f_is_whole d_is_whole
  g_is_whole : mg "is_whole" = some (.ref f_is_whole)
  b_is_whole : Binds K d_is_whole ["value"] []
  f_is_integer : Addr
  d_is_integer : FuncData
  F_is_integer : Fun K "is_integer" "is_integer" s_is_integer f_is_integer d_is_integer
  g_is_integer : mg "is_integer" = some (.ref f_is_integer)
  b_is_integer : Binds K d_is_integer ["value", "low", "high"] []
  f_is_count : Addr
  d_is_count : FuncData
  F_is_count : Fun K "is_count" "is_count" s_is_count f_is_count d_is_count
  g_is_count : mg "is_count" = some (.ref f_is_count)
  b_is_count : Binds K d_is_count ["value"] []
  f_is_pair : Addr
  d_is_pair : FuncData
  F_is_pair : Fun K "is_pair" "is_pair" s_is_pair f_is_pair d_is_pair
  g_is_pair : mg "is_pair" = some (.ref f_is_pair)
  b_is_pair : Binds K d_is_pair ["value"] []
  f_is_control : Addr
  d_is_control : FuncData
  F_is_control : Fun K "is_control" "is_control" s_is_control f_is_control d_is_control
  g_is_control : mg "is_control" = some (.ref f_is_control)
  b_is_control : Binds K d_is_control ["value"] []
  f_wires_of : Addr
  d_wires_of : FuncData
  F_wires_of : Fun K "wires_of" "wires_of" s_wires_of f_wires_of d_wires_of
  g_wires_of : mg "wires_of" = some (.ref f_wires_of)
  b_wires_of : Binds K d_wires_of ["gate"] []
  f_is_gate : Addr
  d_is_gate : FuncData
  F_is_gate : Fun K "is_gate" "is_gate" s_is_gate f_is_gate d_is_gate
  g_is_gate : mg "is_gate" = some (.ref f_is_gate)
  b_is_gate : Binds K d_is_gate ["value"] []
  f_gate_fault : Addr
  d_gate_fault : FuncData
  F_gate_fault : Fun K "gate_fault" "gate_fault" s_gate_fault f_gate_fault d_gate_fault
  g_gate_fault : mg "gate_fault" = some (.ref f_gate_fault)
  b_gate_fault : Binds K d_gate_fault ["wires", "value"] []
  f_circuit_faults : Addr
  d_circuit_faults : FuncData
  F_circuit_faults : Fun K "circuit_faults" "circuit_faults" s_circuit_faults f_circuit_faults d_circuit_faults
  g_circuit_faults : mg "circuit_faults" = some (.ref f_circuit_faults)
  b_circuit_faults : Binds K d_circuit_faults ["value"] []
  f_wire_bits : Addr
  d_wire_bits : FuncData
  F_wire_bits : Fun K "wire_bits" "wire_bits" s_wire_bits f_wire_bits d_wire_bits
  g_wire_bits : mg "wire_bits" = some (.ref f_wire_bits)
  b_wire_bits : Binds K d_wire_bits ["wires"] []
  f_controls_of : Addr
  d_controls_of : FuncData
  F_controls_of : Fun K "controls_of" "controls_of" s_controls_of f_controls_of d_controls_of
  g_controls_of : mg "controls_of" = some (.ref f_controls_of)
  b_controls_of : Binds K d_controls_of ["bits"] []
  f_gates_if : Addr
  d_gates_if : FuncData
  F_gates_if : Fun K "gates_if" "gates_if" s_gates_if f_gates_if d_gates_if
  g_gates_if : mg "gates_if" = some (.ref f_gates_if)
  b_gates_if : Binds K d_gates_if ["target", "bits"] []
  f_adding_gates : Addr
  d_adding_gates : FuncData
  F_adding_gates : Fun K "adding_gates" "adding_gates" s_adding_gates f_adding_gates d_adding_gates
  g_adding_gates : mg "adding_gates" = some (.ref f_adding_gates)
  b_adding_gates : Binds K d_adding_gates ["target", "conditions"] []
  f_add_into : Addr
  d_add_into : FuncData
  F_add_into : Fun K "add_into" "add_into" s_add_into f_add_into d_add_into
  g_add_into : mg "add_into" = some (.ref f_add_into)
  b_add_into : Binds K d_add_into ["target", "source", "controls"] []
  f_less_into : Addr
  d_less_into : FuncData
  F_less_into : Fun K "less_into" "less_into" s_less_into f_less_into d_less_into
  g_less_into : mg "less_into" = some (.ref f_less_into)
  b_less_into : Binds K d_less_into ["wire", "first", "second", "spare", "controls"] []
  f_z_draw : Addr
  d_z_draw : FuncData
  F_z_draw : Fun K "_law_draw" "_law_draw" s_z_draw f_z_draw d_z_draw
  g_z_draw : mg "_law_draw" = some (.ref f_z_draw)
  b_z_draw : Binds K d_z_draw ["script"] []
  f_z_take : Addr
  d_z_take : FuncData
  F_z_take : Fun K "_law_take" "_law_take" s_z_take f_z_take d_z_take
  g_z_take : mg "_law_take" = some (.ref f_z_take)
  b_z_take : Binds K d_z_take ["draw", "many"] []
  f_z_turned : Addr
  d_z_turned : FuncData
  F_z_turned : Fun K "_law_turned" "_law_turned" s_z_turned f_z_turned d_z_turned
  g_z_turned : mg "_law_turned" = some (.ref f_z_turned)
  b_z_turned : Binds K d_z_turned ["gates", "bits"] []
  f_z_some : Addr
  d_z_some : FuncData
  F_z_some : Fun K "_law_some" "_law_some" s_z_some f_z_some d_z_some
  g_z_some : mg "_law_some" = some (.ref f_z_some)
  b_z_some : Binds K d_z_some ["draw", "wires", "many"] []
  f_z_read : Addr
  d_z_read : FuncData
  F_z_read : Fun K "_law_read" "_law_read" s_z_read f_z_read d_z_read
  g_z_read : mg "_law_read" = some (.ref f_z_read)
  b_z_read : Binds K d_z_read ["bits", "wires"] []
  f_law : Addr
  d_law : FuncData
  F_law : Fun K "law" "law" s_law f_law d_law
  g_law : mg "law" = some (.ref f_law)
  m_abs : mg "abs" = none
  m_all : mg "all" = none
  m_bool : mg "bool" = none
  m_enumerate : mg "enumerate" = none
  m_int : mg "int" = none
  m_isinstance : mg "isinstance" = none
  m_len : mg "len" = none
  m_list : mg "list" = none
  m_range : mg "range" = none
  m_sorted : mg "sorted" = none
  m_sum : mg "sum" = none
  m_tuple : mg "tuple" = none
  m_zip : mg "zip" = none

section
variable {P : Program} {w : World} {K : PySem.W.Frag} {mg : Str → Option Value} {base : Heap}
/-! ### the draw -/
/-- the cells stay where they are -/
def Cs (p : Addr) (H H' : Hp) : Prop := ∀ c t, H p = some (.lst (.ref c :: t)) → ∃ t', H' p = some (.lst (.ref c :: t'))
theorem Cs.refl (p : Addr) (H : Hp) : Cs p H H := fun _ t e => ⟨t, e⟩
theorem Cs.trans {p : Addr} {H H1 H2 : Hp} (a : Cs p H H1) (b : Cs p H1 H2) : Cs p H H2 := fun c t e => let ⟨t', e'⟩ := a c t e; b c t' e'
theorem Cs.new {p q : Addr} {H : Hp} {o : HO} (h : H q = none) : Cs p H (upd H q o) := fun c t e => ⟨t, by rw [upd_ne (ne_of_none e h)]; exact e⟩
/-- a number from 0 to m - 1, the draw turned -/
def spTake : Sp := fun vs H Q _ => ∃ (p : Addr) (m : Int), vs = [.ref p, .int m] ∧ DrawAt H p ∧ 0 < m ∧ m ≤ 2 ^ 40 ∧ ∀ (r : Int) (H' : Hp), 0 ≤ r → r < m → KeepBut p H H' → Cs p H H' → DrawAt H' p → Q (.int r) H'
theorem ok_z_take (T : Txt K mg) : FnOk P w K mg base CX0 1 T.f_z_take T.d_z_take ["draw", "many"] spTake := by
  refine T.F_z_take.ok sc_z_take (fun vs H Q E h => ?_) (fun cdv A outer s H vs Q E hr h => ?_)
  · obtain ⟨p, m, rfl, _⟩ := h
    rfl
  · obtain ⟨p, m, rfl, ⟨c, cells, pos, rest, seed, D⟩, hm, hm2, q⟩ := h
    have hc0 := D.hp
    refine ⟨_, (pss_cons (ps_cut (ps_if (pt_cmpR op_eq (pe_ix ix_list (pv 0) pe_int (fun _ _ => rfl)) pe_int (nomark _))
        (pss_cons (ps_asg (pe_op op_add (pe_ix ix_list (pv 0) pe_int (fun _ _ => rfl)) pe_int) (pg_sub (pv 0) pe_int set_list))
        (pss_cons (ps_cut (ps_if (pt_cmpR op_lt (pe_ix ix_list (pv 0) pe_int (fun _ _ => rfl)) (pe_callB call_len_seq (by rfl) T.m_len (by decide +kernel) (pa_cons (pe_ix ix_list (pv 0) pe_int (fun _ _ => rfl)) pa_nil)) (nomark _))
          (pss_one (ps_asg (pe_ix ix_list (pe_ix ix_list (pv 0) pe_int (fun _ _ => rfl)) (pe_ix ix_list (pv 0) pe_int (fun _ _ => rfl)) (fun _ _ => rfl)) (pg_sub (pv 0) pe_int set_list)))
          pss_nil))
        (pss_one (ps_if (pt_cmpR op_eq (pe_ix ix_list (pv 0) pe_int (fun _ _ => rfl)) pe_int (nomark _))
          (pss_cons (ps_asg (pe_op op_modN (pe_callTy call_int1 (by rfl) T.m_int (by decide +kernel) (pa_cons (pe_op op_add (pe_op op_mul (pe_ix ix_list (pv 0) pe_int (fun _ _ => rfl)) pe_int) pe_int) pa_nil)) pe_int) (pg_sub (pv 0) pe_int set_list))
          (pss_one (ps_asg (pe_ix ix_list (pv 0) pe_int (fun _ _ => rfl)) (pg_sub (pv 0) pe_int set_list))))
          pss_nil))))
        pss_nil))
      (pss_cons (ps_set (i := 2) sc_z_take.nd rfl (Or.inl rfl) (pe_op op_modN (pe_callTy call_int1 (by rfl) T.m_int (by decide +kernel) (pa_cons (pe_ix ix_list (pv 0) pe_int (fun _ _ => rfl)) pa_nil)) (pv 1)))
      (pss_cons (ps_asg (pe_op op_fdivW (pe_ix ix_list (pv 0) pe_int (fun _ _ => rfl)) (pv 1)) (pg_sub (pv 0) pe_int set_list))
      (pss_one (ps_ret (pv 2)))))), ?_⟩
    refine ⟨fun σ H1 => ∃ pos rest seed, σ = [some (.ref p), some (.int m), none] ∧ DrawIs H1 p c cells pos rest seed ∧ KeepBut p H H1, ?_, ?_⟩
    · -- draw[2] == 0
      refine ⟨_, rfl, _, _, _, _, rfl, rfl, SqL.of D.hp, rfl, rfl, _, rfl, ite2 (fun e => ?_) (fun e => ?_)⟩
      · -- draw[1] = draw[1] + 1
        refine ⟨_, rfl, _, _, _, _, rfl, rfl, SqL.of D.hp, rfl, _, _, rfl, rfl, _, rfl, _, _, _, 1, rfl, rfl, D.hp, rfl, ?_⟩
        have h1 := D.po
        have D1 : DrawIs (upd H p (.lst [.ref c, .int (pos + 1), .int rest, .int seed])) p c cells (pos + 1) rest seed := D.put (by omega) D.re D.s0 D.s1
        have k1 : KeepBut p H (upd H p (.lst [.ref c, .int (pos + 1), .int rest, .int seed])) := .put _ _ _
        refine ⟨fun σ H1 => ∃ rest, σ = [some (.ref p), some (.int m), none] ∧ DrawIs H1 p c cells (pos + 1) rest seed ∧ KeepBut p H H1, ?_, ?_⟩
        · -- draw[1] < len(draw[0])
          refine ⟨_, rfl, _, _, _, _, rfl, rfl, SqL.of D1.hp, rfl, _, rfl, _, _, _, _, rfl, rfl, SqL.of D1.hp, rfl, _, _, rfl, .inl (SqL.of D1.hc), _, _, rfl, rfl, _, rfl, ite2 (fun e => ?_) (fun e => ?_)⟩
          · have e1 : pos + 1 < ((cells.map V.int).length : Int) := of_decide_eq_true e
            rw [List.length_map] at e1
            obtain ⟨n, hn⟩ := int_nat (show 0 ≤ pos + 1 by omega)
            have hn2 : n < cells.length := by omega
            refine ⟨_, rfl, _, _, _, _, rfl, rfl, SqL.of D1.hp, rfl, _, rfl, _, _, _, _, rfl, rfl, SqL.of D1.hp, rfl, _, _, _, .int cells[n], rfl, rfl, SqL.of D1.hc, ?_, _, rfl, _, _, _, 2, rfl, rfl, D1.hp, rfl, ?_⟩
            · rw [hn]
              exact atI_nat (by rw [List.getElem?_map, List.getElem?_eq_getElem hn2]; rfl)
            · exact ⟨_, rfl, D1.put D1.po (D1.nn _ (List.getElem_mem hn2)) D1.s0 D1.s1, k1.trans (.put _ _ _)⟩
          · exact ⟨rest, rfl, D1, k1⟩
        · rintro σ H1 ⟨rest1, rfl, D2, k2⟩
          -- draw[2] == 0
          refine ⟨_, rfl, _, _, _, _, rfl, rfl, SqL.of D2.hp, rfl, rfl, _, rfl, ite2 (fun e => ?_) (fun e => ?_)⟩
          · have s0 := D2.s0
            have s1 := D2.s1
            refine ⟨_, rfl, _, _, _, _, rfl, rfl, SqL.of D2.hp, rfl, _, _, rfl, rfl, .inl ⟨by omega, by omega⟩, _, _, rfl, rfl, .inl ⟨_, rfl, _, _, rfl, rfl, (show (2147483647 : Int) ≠ 0 by decide), _, rfl, _, _, _, 3, rfl, rfl, D2.hp, rfl, ?_⟩⟩
            have f0 : 0 ≤ (seed * 48271 + 11).fmod 2147483647 := fmod_lo (by decide)
            have f1 : (seed * 48271 + 11).fmod 2147483647 < 2147483647 := fmod_hi (by decide)
            have D3 := D2.put (seed' := (seed * 48271 + 11).fmod 2147483647) D2.po D2.re f0 f1
            refine ⟨_, rfl, _, _, _, _, rfl, rfl, SqL.of D3.hp, rfl, _, rfl, _, _, _, 2, rfl, rfl, D3.hp, rfl, ?_⟩
            exact ⟨_, _, _, rfl, D3.put D3.po f0 f0 f1, (k2.trans (.put _ _ _)).trans (.put _ _ _)⟩
          · exact ⟨_, _, _, rfl, D2, k2⟩
      · exact ⟨_, _, _, rfl, D, .refl _ _⟩
    · rintro σ H1 ⟨pos, rest, seed, rfl, D, k⟩
      -- found = int(draw[2]) % many; draw[2] = draw[2] // many
      refine ⟨_, rfl, _, _, _, _, rfl, rfl, SqL.of D.hp, rfl, .inl ⟨_, rfl, _, rfl, _, _, rfl, rfl, (by omega), ?_⟩⟩
      refine ⟨_, rfl, _, _, _, _, rfl, rfl, SqL.of D.hp, rfl, _, rfl, _, _, rfl, rfl, wide_div (b := 41) hm (by omega) (by decide) (by decide), _, rfl, _, _, _, 2, rfl, rfl, D.hp, rfl, ?_⟩
      exact ⟨_, rfl, q _ _ (fmod_lo hm) (fmod_hi hm) (k.trans (.put _ _ _)) (fun c' t e => by rw [hc0] at e; cases e; exact ⟨_, upd_same⟩) ⟨_, _, _, _, _, D.put D.po (div_lo D.re hm) D.s0 D.s1⟩⟩
theorem drawAt_isl {H : Hp} {p : Addr} (D : DrawAt H p) : ∃ xs, H p = some (.lst xs) := by
  obtain ⟨c, cells, pos, rest, seed, d⟩ := D
  exact ⟨_, d.hp⟩
theorem KT.of_but {H H' : Hp} {p : Addr} (D : DrawAt H p) (D' : DrawAt H' p) (k : KeepBut p H H') (cs : Cs p H H') : KT [p] H H' := by
  obtain ⟨xs, e⟩ := (drawAt_isl D)
  obtain ⟨ys, e'⟩ := (drawAt_isl D')
  have ne : ∀ b o, H b = some o → (∀ q, o ≠ .lst q) → b ≠ p := fun b o q n z => by rw [z, e] at q; exact n xs (Option.some.inj q).symm
  refine ⟨fun b o n q => k b o (fun z => n (by rw [z]; exact List.mem_singleton.mpr rfl)) q, fun b xs q => k b _ (ne b _ q fun _ z => by cases z) q, fun b o u q => k b _ (ne b _ q fun _ z => by cases z) q, fun b o q => ?_, fun b c t q => ?_⟩
  rotate_left
  · by_cases z : b = p
    · subst z
      exact cs c t q
    · exact ⟨t, k b _ z q⟩
  by_cases z : b = p
  · exact ⟨_, by rw [z]; exact e'⟩
  · exact ⟨o, k b o z q⟩
/-- the draw is led on: all else stays -/
structure GS (dr : Addr) (H H' : Hp) : Prop where
  k : KT [dr] H H'
  d : DrawAt H' dr
  c : Cs dr H H'
theorem GS.trans {dr : Addr} {H H1 H2 : Hp} (a : GS dr H H1) (b : GS dr H1 H2) : GS dr H H2 := ⟨a.k.trans b.k, b.d, a.c.trans b.c⟩
theorem GS.new {dr p : Addr} {H : Hp} {o : HO} (D : DrawAt H dr) (h : H p = none) : GS dr H (upd H p o) := ⟨KT.new _ h, D.upd h, .new h⟩
theorem GS.refl {dr : Addr} {H : Hp} (D : DrawAt H dr) : GS dr H H := ⟨KT.refl _ _, D, .refl _ _⟩
theorem GS.late {dr p : Addr} {H H1 : Hp} {o : HO} (a : GS dr H H1) (D : DrawAt H dr) (h : H p = none) : GS dr H (upd H1 p o) := by
  obtain ⟨u, e⟩ := D.some
  have n : dr ≠ p := ne_of_none e h
  obtain ⟨c, cells, pos, rest, seed, d⟩ := id D
  have hp1 : H1 p = none ∨ ∃ o', H1 p = some o' := by cases e : H1 p <;> simp
  refine ⟨a.k.late h, ?_, fun c' t e' => ?_⟩
  · obtain ⟨c1, cells1, pos1, rest1, seed1, d1⟩ := a.d
    obtain ⟨t', e1⟩ := a.c _ _ d.hp
    have hc1 : c1 = c := by
      have := d1.hp.symm.trans e1
      simp at this
      exact this.1
    subst hc1
    have nc : c1 ≠ p := fun z => by
      have := d.hc
      rw [z, h] at this
      cases this
    exact ⟨c1, cells1, pos1, rest1, seed1, ⟨by rw [upd_ne n]; exact d1.hp, by rw [upd_ne nc]; exact d1.hc, d1.nn, d1.po, d1.re, d1.s0, d1.s1⟩⟩
  · obtain ⟨t', e1⟩ := a.c c' t e'
    exact ⟨t', by rw [upd_ne n]; exact e1⟩
def spTakeG : Sp := fun vs H Q _ => ∃ (p : Addr) (m : Int), vs = [.ref p, .int m] ∧ DrawAt H p ∧ 0 < m ∧ m ≤ 2 ^ 40 ∧ ∀ (r : Int) (H' : Hp), 0 ≤ r → r < m → GS p H H' → Q (.int r) H'
theorem okG_z_take (T : Txt K mg) : FnOk P w K mg base CX0 1 T.f_z_take T.d_z_take ["draw", "many"] spTakeG :=
  (ok_z_take T).imp fun vs H Q E ⟨p, m, h1, h2, h3, h4, h5⟩ => ⟨p, m, h1, h2, h3, h4, fun r H' r0 r1 k c D => h5 r H' r0 r1 ⟨KT.of_but h2 D k c, D, c⟩⟩
theorem sz1 : (1 : Nat) ≤ sizeLine := by decide
theorem sz2 : (2 : Nat) ≤ sizeLine := by decide
end

section
variable {P : Program} {w : World} {K : PySem.W.Frag} {mg : Str → Option Value} {base : Heap}
def spDraw (K : PySem.W.Frag) : Sp := fun vs H Q _ => ∃ (a : Addr) (ns : List Int), vs = [.ref a] ∧ SqL K H a (ns.map V.int) ∧ ns.length ≤ 63 ∧ ∀ (H' : Hp) (p : Addr), Same H H' → H p = none → DrawAt H' p → Q (.ref p) H'
def absI (i : Int) : Int := if i < 0 then -i else i
theorem absI_nn (i : Int) : 0 ≤ absI i := by
  unfold absI
  split <;> omega
theorem ok_z_draw (T : Txt K mg) : FnOk P w K mg base CX0 1 T.f_z_draw T.d_z_draw ["script"] (spDraw K) := by
  refine T.F_z_draw.ok sc_z_draw (fun vs H Q E h => ?_) (fun cdv A outer s H vs Q E hr h => ?_)
  · obtain ⟨a, ns, rfl, _⟩ := h
    rfl
  · obtain ⟨a, ns, rfl, hS, hlen, q⟩ := h
    have itm : ∀ (i : Nat) (x : V), (ns.map V.int)[i]? = some x → ∃ z, ns[i]? = some z ∧ x = V.int z := fun i x e => by
      rw [List.getElem?_map] at e
      cases e2 : ns[i]? with
      | none => rw [e2] at e; cases e
      | some z => rw [e2] at e; exact ⟨z, rfl, (Option.some.inj e).symm⟩
    refine ⟨_, (pss_cons (ps_set (i := 1) sc_z_draw.nd rfl (Or.inl rfl) pe_int)
      (pss_cons (ps_for PassesOwn.never rfl (pi_list (pv 0)) (pg_name (i := 2) sc_z_draw.nd rfl (Or.inl rfl))
        (pss_one (ps_set (i := 1) sc_z_draw.nd rfl (Or.inl rfl) (pe_op op_modN (pe_callTy call_int1 (by rfl) T.m_int (by decide +kernel) (pa_cons (pe_op op_add (pe_op op_add (pe_op op_mul (pv 1) pe_int) (pe_op op_modN (pe_callB call_abs (by rfl) T.m_abs (by decide +kernel) (pa_cons (pe_callTy call_int1 (by rfl) T.m_int (by decide +kernel) (pa_cons (pv 2) pa_nil)) pa_nil)) pe_int)) pe_int) pa_nil)) pe_int))))
      (pss_one (ps_ret (pe_lst (pa_cons (pe_lc (own := [("cell", 2)]) (g := gName 2) (by rfl) sc_z_draw.nd (pi_list (pv 0)) (blkOk_by (own := [("cell", 2)]) (N := N_z_draw) (sc := defScope s_z_draw) (by decide +kernel)) (fun _ _ _ _ _ => (pg_name (i := 2) sc_z_draw.nd rfl (Or.inl rfl))) (fun _ _ _ _ _ => pts_nil) (fun _ _ _ _ _ => (pe_callB call_abs (by rfl) T.m_abs (by decide +kernel) (pa_cons (pe_callTy call_int1 (by rfl) T.m_int (by decide +kernel) (pa_cons (pv 2) pa_nil)) pa_nil)))) (pa_cons (pe_un un_neg pe_int) (pa_cons pe_int (pa_cons (pv 1) pa_nil))))))))), ?_⟩
    refine ⟨_, rfl, a, rfl, ⟨_, hS⟩, for_list (xs := ns.map V.int) (fun i σ H1 => ∃ (seed : Int) (c : Option V), σ = [some (.ref a), some (.int seed), c] ∧ H1 = H ∧ 0 ≤ seed ∧ seed < 2147483647) ⟨7, none, rfl, rfl, by decide, by decide⟩ ?_ ?_ ?_⟩
    · rintro i σ H1 _ ⟨_, _, _, rfl, _⟩
      exact hS
    · rintro i x σ H1 hx ⟨seed, c, rfl, rfl, s0, s1⟩
      obtain ⟨z, hz, rfl⟩ := itm i x hx
      refine ⟨_, rfl, _, _, rfl, rfl, .inl ⟨by omega, by omega⟩, _, rfl, .inl ⟨_, rfl, _, rfl, _, _, rfl, rfl, (show (65521 : Int) ≠ 0 by decide), _, _, rfl, rfl, _, _, rfl, rfl, .inl ⟨_, rfl, _, _, rfl, rfl, (show (2147483647 : Int) ≠ 0 by decide), ?_⟩⟩⟩
      exact ⟨_, _, rfl, rfl, fmod_lo (by decide), fmod_hi (by decide)⟩
    · rintro σ H1 ⟨seed, c, rfl, rfl, s0, s1⟩
      -- the cells
      refine ⟨_, rfl, a, rfl, ⟨_, hS⟩, fun D hD => lc_list (xs := ns.map V.int) (fun i H2 => ∃ acc : List Int, Same H1 H2 ∧ H2 D = some (.lst (acc.map V.int)) ∧ acc.length = i ∧ ∀ x ∈ acc, 0 ≤ x) ⟨[], same_upd hD, upd_same, rfl, fun _ z => nomatch z⟩ ?_ ?_ ?_⟩
      · rintro i H2 _ ⟨acc, sm, _⟩
        exact sm.seq hS
      · rintro i x H2 hx ⟨acc, sm, hA, hl, hn⟩
        obtain ⟨z, hz, rfl⟩ := itm i x hx
        have hi : i < ns.length := (List.getElem?_eq_some_iff.mp hz).1
        refine ⟨rfl, ⟨_, rfl, .inl ⟨_, rfl, _, rfl, _, hA, small1000 (by rw [List.length_map]; omega), acc ++ [absI z], fun b o e => ?_, ?_, ?_, fun x hx => ?_⟩⟩⟩
        · rw [upd_ne (ne_of_none e hD)]
          exact sm _ _ e
        · rw [upd_same, List.map_append]
          rfl
        · rw [List.length_append, hl]; rfl
        · rcases List.mem_append.mp hx with h | h
          · exact hn x h
          · rw [List.mem_singleton.mp h]
            exact absI_nn z
      · rintro H2 ⟨acc, sm, hA, hl, hn⟩
        refine ⟨_, rfl, _, rfl, (by show 4 ≤ sizeLine; decide), fun p hp => ?_⟩
        refine q _ p (sm.trans (same_upd hp)) (sm.free hp) ⟨D, acc, -1, 0, seed, ⟨upd_same, ?_, hn, by decide, by decide, s0, s1⟩⟩
        rw [upd_ne (ne_of_none hA hp)]
        exact hA
/-! ### the law -/
theorem atI_in {α : Type} {xs : List α} {r : Int} (h0 : 0 ≤ r) (h1 : r < xs.length) : ∃ v, atI xs r = some v ∧ v ∈ xs := by
  obtain ⟨n, rfl⟩ := int_nat h0
  have hn : n < xs.length := by omega
  exact ⟨xs[n], atI_nat (List.getElem?_eq_getElem hn), List.getElem_mem hn⟩
end

/-! ### kinds of values -/
def isIr (lo hi : Int) : PyData → Bool
  | .int i => decide (lo ≤ i) && decide (i ≤ hi)
  | _ => false
def isTupD : PyData → Bool
  | .tuple _ => true
  | _ => false
def isIntD : PyData → Bool
  | .int _ => true
  | .bool _ => true
  | _ => false
def isBoolD : PyData → Bool
  | .bool _ => true
  | _ => false
section
variable {K : PySem.W.Frag} {H : Hp} {v : V} {d : PyData} {Q : VK}
theorem tyx_tup {H : Hp} {a : Addr} {xs : List V} (h : SqT K H a xs) : TyX K H (.ref a) (.type "tuple") := by
  rcases h with (h | ⟨o, h⟩) | ⟨o, _, _, h, c, _⟩
  · exact .base (.tup h)
  · exact .fTuple h
  · exact .kTuple h c
theorem isi_tup (h : Rp K H v d) : ∃ t, TyX K H v t ∧ PySem.W.kitOne K t (.type "tuple") = some (isTupD d) := by
  cases d with
  | none => cases h; exact ⟨_, .base .non, kit_ty (r := false) (by decide +kernel)⟩
  | bool b => cases h; exact ⟨_, .base (.bl b), kit_ty (r := false) (by decide +kernel)⟩
  | int b => cases h; exact ⟨_, .base (.int b), kit_ty (r := false) (by decide +kernel)⟩
  | str b => cases h; exact ⟨_, .base (.str b), kit_ty (r := false) (by decide +kernel)⟩
  | list ds => cases h
  | dict ds => cases h
  | tuple ds =>
    obtain ⟨a, xs, rfl, hs, _⟩ := h.inv
    exact ⟨_, tyx_tup hs, kit_ty (r := true) (by decide +kernel)⟩
theorem isi_int (h : Rp K H v d) : ∃ t, TyX K H v t ∧ PySem.W.kitOne K t (.type "int") = some (isIntD d) := by
  cases d with
  | none => cases h; exact ⟨_, .base .non, kit_ty (r := false) (by decide +kernel)⟩
  | bool b => cases h; exact ⟨_, .base (.bl b), kit_ty (r := true) (by decide +kernel)⟩
  | int b => cases h; exact ⟨_, .base (.int b), kit_ty (r := true) (by decide +kernel)⟩
  | str b => cases h; exact ⟨_, .base (.str b), kit_ty (r := false) (by decide +kernel)⟩
  | list ds => cases h
  | dict ds => cases h
  | tuple ds =>
    obtain ⟨a, xs, rfl, hs, _⟩ := h.inv
    exact ⟨_, tyx_tup hs, kit_ty (r := false) (by decide +kernel)⟩
theorem isi_bool (h : Rp K H v d) : ∃ t, TyX K H v t ∧ PySem.W.kitOne K t (.type "bool") = some (isBoolD d) := by
  cases d with
  | none => cases h; exact ⟨_, .base .non, kit_ty (r := false) (by decide +kernel)⟩
  | bool b => cases h; exact ⟨_, .base (.bl b), kit_ty (r := true) (by decide +kernel)⟩
  | int b => cases h; exact ⟨_, .base (.int b), kit_ty (r := false) (by decide +kernel)⟩
  | str b => cases h; exact ⟨_, .base (.str b), kit_ty (r := false) (by decide +kernel)⟩
  | list ds => cases h
  | dict ds => cases h
  | tuple ds =>
    obtain ⟨a, xs, rfl, hs, _⟩ := h.inv
    exact ⟨_, tyx_tup hs, kit_ty (r := false) (by decide +kernel)⟩
end
def spWhK (K : PySem.W.Frag) : Sp := fun vs H Q _ => ∃ (v : V) (d : PyData), vs = [v] ∧ Rp K H v d ∧ Q (.bl (isIntD d && !isBoolD d)) H
def spIsI (K : PySem.W.Frag) : Sp := fun vs H Q _ => ∃ (v : V) (lo hi : Int) (d : PyData), vs = [v, .int lo, .int hi] ∧ Rp K H v d ∧ Q (.bl (isIr lo hi d)) H
section
variable {P : Program} {w : World} {K : PySem.W.Frag} {mg : Str → Option Value} {base : Heap}
theorem ok_is_whole (T : Txt K mg) : FnOk P w K mg base CX0 1 T.f_is_whole T.d_is_whole ["value"] (spWhK K) := by
  refine T.F_is_whole.ok sc_is_whole (fun vs H Q E h => ?_) (fun cdv A outer s H vs Q E hr h => ?_)
  · obtain ⟨v, d, rfl, _⟩ := h
    rfl
  · obtain ⟨v, d, rfl, hv, q⟩ := h
    refine ⟨_, (pss_one (ps_ret (pe_and (pe_callB call_isi (by rfl) T.m_isinstance (by decide +kernel) (pa_cons (pv 0) (pa_cons (pe_bltn (v := .ty "int") (by rfl) T.m_int (by decide +kernel) rfl) pa_nil))) (pe_one (pe_not (pe_callB call_isi (by rfl) T.m_isinstance (by decide +kernel) (pa_cons (pv 0) (pa_cons (pe_bltn (v := .ty "bool") (by rfl) T.m_bool (by decide +kernel) rfl) pa_nil)))))))), ?_⟩
    obtain ⟨t1, y1, k1⟩ := isi_int hv
    obtain ⟨t2, y2, k2⟩ := isi_bool hv
    refine ⟨_, rfl, _, _, _, _, _, rfl, .ty "int", y1, k1, _, rfl, ?_⟩
    cases d with
    | none => exact ite_f (fun z => by cases z) q
    | str b => exact ite_f (fun z => by cases z) q
    | list ds => cases hv
    | dict ds => cases hv
    | tuple ds => exact ite_f (fun z => by cases z) q
    | bool b => exact ite_t rfl ⟨_, rfl, _, _, _, _, _, rfl, .ty "bool", y2, k2, _, rfl, q⟩
    | int b => exact ite_t rfl ⟨_, rfl, _, _, _, _, _, rfl, .ty "bool", y2, k2, _, rfl, q⟩
theorem ok_is_integer (T : Txt K mg) : FnOk P w K mg base CX0 2 T.f_is_integer T.d_is_integer ["value", "low", "high"] (spIsI K) := by
  have G_is_whole := ok_is_whole (P := P) (w := w) (base := base) T
  refine T.F_is_integer.ok sc_is_integer (fun vs H Q E h => ?_) (fun cdv A outer s H vs Q E hr h => ?_)
  · obtain ⟨v, lo, hi, d, rfl, _⟩ := h
    rfl
  · obtain ⟨v, lo, hi, d, rfl, hv, q⟩ := h
    refine ⟨_, (pss_one (ps_ret (pe_and (pe_call G_is_whole (hr.mono (by omega)) (by rfl) T.g_is_whole T.F_is_whole.kp T.b_is_whole .nil pass0 (pa_cons (pv 0) pa_nil)) (pe_one (pe_chain op_le op_le (pv 1) (pv 0) (pv 2)))))), ?_⟩
    refine ⟨_, rfl, v, d, rfl, hv, _, rfl, ?_⟩
    cases d with
    | none => exact ite_f (fun z => by cases z) q
    | str b => exact ite_f (fun z => by cases z) q
    | list ds => cases hv
    | dict ds => cases hv
    | tuple ds => exact ite_f (fun z => by cases z) q
    | bool b => exact ite_f (fun z => by cases z) q
    | int b =>
      cases hv
      refine ite_t rfl ?_
      refine ⟨_, rfl, _, rfl, _, _, rfl, rfl, _, rfl, ?_⟩
      have q : Q (.bl (decide (lo ≤ b) && decide (b ≤ hi))) H := q
      by_cases h : lo ≤ b
      · rw [decide_eq_true h, Bool.true_and] at q
        exact ite_t (decide_eq_true h) ⟨_, rfl, _, _, rfl, rfl, q⟩
      · rw [decide_eq_false h, Bool.false_and] at q
        exact ite_f (by rw [decide_eq_false h]; decide) q
end

end My

set_option Elab.async false
set_option linter.all false
set_option maxRecDepth 100000
namespace My
open PySem PySem.Spec PyProof.Rows L2
/-! ### gates in the heap -/
inductive P2 {α : Type} (R : V → α → Prop) : List V → List α → Prop
  | nil : P2 R [] []
  | cons {v : V} {vs : List V} {d : α} {ds : List α} : R v d → P2 R vs ds → P2 R (v :: vs) (d :: ds)
section
variable {α : Type} {R S : V → α → Prop}
theorem P2.mono (f : ∀ v d, R v d → S v d) : ∀ {vs : List V} {ds : List α}, P2 R vs ds → P2 S vs ds
  | _, _, .nil => .nil
  | _, _, .cons h g => .cons (f _ _ h) (g.mono f)
theorem P2.len : ∀ {vs : List V} {ds : List α}, P2 R vs ds → vs.length = ds.length
  | _, _, .nil => rfl
  | _, _, .cons h g => congrArg (· + 1) g.len
theorem P2.app : ∀ {vs us : List V} {ds es : List α}, P2 R vs ds → P2 R us es → P2 R (vs ++ us) (ds ++ es)
  | _, _, _, _, .nil, h => h
  | _, _, _, _, .cons h g, k => .cons h (g.app k)
theorem P2.snoc {vs : List V} {ds : List α} {v : V} {d : α} (h : P2 R vs ds) (g : R v d) : P2 R (vs ++ [v]) (ds ++ [d]) := h.app (.cons g .nil)
theorem P2.get : ∀ {vs : List V} {ds : List α} {i : Nat} {v : V}, P2 R vs ds → vs[i]? = some v → ∃ d, ds[i]? = some d ∧ R v d
  | _, _, i, v, .nil, e => by simp at e
  | _, _, 0, v, .cons h g, e => by simp at e; subst e; exact ⟨_, rfl, h⟩
  | _, _, i + 1, v, .cons h g, e => by
    obtain ⟨d, h1, h2⟩ := g.get (i := i) (by simpa using e)
    exact ⟨d, by simpa using h1, h2⟩
theorem P2.drop : ∀ {vs : List V} {ds : List α} (n : Nat), P2 R vs ds → P2 R (vs.drop n) (ds.drop n)
  | _, _, _, .nil => by simp; exact .nil
  | _, _, 0, .cons h g => .cons h g
  | _, _, n + 1, .cons h g => by simpa using g.drop n
theorem P2.mem {vs : List V} {ds : List α} {v : V} (h : P2 R vs ds) (m : v ∈ vs) : ∃ d ∈ ds, R v d := by
  obtain ⟨i, hi, e⟩ := List.getElem_of_mem m
  obtain ⟨d, h1, h2⟩ := h.get (List.getElem?_eq_some_iff.mpr ⟨hi, e⟩)
  exact ⟨d, List.mem_of_getElem? h1, h2⟩
end
def b2 (b : Bool) : Int := if b then 1 else 0
/-- the pair of a wire and a bit -/
def PrV (H : Hp) (v : V) (c : Ct) : Prop := ∃ t, v = .ref t ∧ H t = some (.tup [.int c.1, .int (b2 c.2)])
def GtV (H : Hp) (v : V) (g : Gt) : Prop := ∃ t u vs, v = .ref t ∧ H t = some (.tup [.int g.1, .ref u]) ∧ H u = some (.tup vs) ∧ P2 (PrV H) vs g.2
section
variable {S : List Addr} {H H' : Hp}
theorem PrV.keep (k : KT S H H') {v : V} {c : Ct} : PrV H v c → PrV H' v c := fun ⟨t, h1, h2⟩ => ⟨t, h1, k.tp _ _ h2⟩
theorem prs_keep (k : KT S H H') {vs : List V} {cs : List Ct} (h : P2 (PrV H) vs cs) : P2 (PrV H') vs cs := h.mono fun _ _ => .keep k
theorem GtV.keep (k : KT S H H') {v : V} {c : Gt} : GtV H v c → GtV H' v c := fun ⟨t, u, vs, h1, h2, h3, h4⟩ => ⟨t, u, vs, h1, k.tp _ _ h2, k.tp _ _ h3, prs_keep k h4⟩
theorem gts_keep (k : KT S H H') {vs : List V} {cs : List Gt} (h : P2 (GtV H) vs cs) : P2 (GtV H') vs cs := h.mono fun _ _ => .keep k
end
def ivs (ns : List Nat) : List V := ns.map fun (n : Nat) => V.int (n : Int)
theorem ivs_len (ns : List Nat) : (ivs ns).length = ns.length := List.length_map ..
theorem ivs_get {ns : List Nat} {i : Nat} {x : V} (h : (ivs ns)[i]? = some x) : ∃ n, ns[i]? = some n ∧ x = .int (n : Int) := by
  unfold ivs at h
  rw [List.getElem?_map] at h
  cases e : ns[i]? with
  | none => rw [e] at h; cases h
  | some n => rw [e] at h; exact ⟨n, rfl, (Option.some.inj h).symm⟩
theorem ivs_at {ns : List Nat} {i : Nat} {n : Nat} (h : ns[i]? = some n) : atI (ivs ns) (i : Int) = some (.int (n : Int)) := by
  refine atI_nat ?_
  unfold ivs
  rw [List.getElem?_map, h]
  rfl
/-- rows of a gate with its controls in order -/
def GOk (n : Nat) (g : Gt) : Prop := g.1 < n ∧ (∀ c ∈ g.2, c.1 < n) ∧ (g.2.map (·.1)).Pairwise (· < ·) ∧ ∀ c ∈ g.2, c.1 ≠ g.1
def spIC : Sp := fun vs H Q _ => ∃ i : Int, vs = [.int i] ∧ 0 ≤ i ∧ Q (.bl true) H
def spPr : Sp := fun vs H Q _ => ∃ (t : Addr) (a b : V), vs = [.ref t] ∧ H t = some (.tup [a, b]) ∧ Q (.bl true) H
def spWh : Sp := fun vs H Q _ => ∃ i : Int, vs = [.int i] ∧ Q (.bl true) H
def spCt : Sp := fun vs H Q _ => ∃ (v : V) (c : Ct), vs = [v] ∧ PrV H v c ∧ Q (.bl true) H
def spWo : Sp := fun vs H Q _ => ∃ (v : V) (g : Gt), vs = [v] ∧ GtV H v g ∧ g.2.length ≤ 1000 ∧ ∀ (l : Addr) (H' : Hp), KT [] H H' → H' l = some (.lst (ivs (g.1 :: g.2.map (·.1)))) → Q (.ref l) H'
def spIG : Sp := fun vs H Q _ => ∃ (v : V) (g : Gt) (n : Nat), vs = [v] ∧ GtV H v g ∧ g.2.length ≤ 1000 ∧ GOk n g ∧ ∀ (H' : Hp), KT [] H H' → Q (.bl true) H'
def spGF : Sp := fun vs H Q _ => ∃ (v : V) (g : Gt) (n : Nat), vs = [.int n, v] ∧ GtV H v g ∧ g.2.length ≤ 1000 ∧ GOk n g ∧ ∀ (H' : Hp), KT [] H H' → Q .non H'
def spCF : Sp := fun vs H Q _ => ∃ (t u : Addr) (gs : List V) (G : List Gt) (n : Nat), vs = [.ref t] ∧ H t = some (.tup [.int n, .ref u]) ∧ H u = some (.tup gs) ∧ P2 (GtV H) gs G ∧ G.length ≤ 1000 ∧ (∀ g ∈ G, g.2.length ≤ 1000 ∧ GOk n g) ∧ ∀ (l : Addr) (H' : Hp), KT [] H H' → H' l = some (.lst []) → Q (.ref l) H'
section
variable {P : Program} {w : World} {K : PySem.W.Frag} {mg : Str → Option Value} {base : Heap}
theorem prv_rp {H : Hp} {v : V} {c : Ct} (h : PrV H v c) : Rp K H v (.tuple [.int c.1, .int (b2 c.2)]) := by
  obtain ⟨t, rfl, h⟩ := h
  exact .tup (SqT.of h) (.cons (.int _) (.cons (.int _) .nil))
theorem b2_01 (b : Bool) : (decide (0 ≤ b2 b) && decide (b2 b ≤ 1)) = true := by cases b <;> rfl
theorem ok_is_count (T : Txt K mg) : FnOk P w K mg base CX0 3 T.f_is_count T.d_is_count ["value"] spIC := by
  have G_is_integer := ok_is_integer (P := P) (w := w) (base := base) T
  refine T.F_is_count.ok sc_is_count (fun vs H Q E h => ?_) (fun cdv A outer s H vs Q E hr h => ?_)
  · obtain ⟨i, rfl, _⟩ := h
    rfl
  · obtain ⟨i, rfl, h0, q⟩ := h
    refine ⟨_, (pss_one (ps_ret (pe_call G_is_integer (hr.mono (by omega)) (by rfl) T.g_is_integer T.F_is_integer.kp T.b_is_integer .nil pass0 (pa_cons (pv 0) (pa_cons pe_int (pa_cons (pv 0) pa_nil)))))), ?_⟩
    refine ⟨_, rfl, _, rfl, _, _, _, .int i, rfl, .int i, ?_⟩
    have e : isIr 0 i (.int i) = true := by
      show (decide (0 ≤ i) && decide (i ≤ i)) = true
      rw [decide_eq_true h0, decide_eq_true (Int.le_refl i)]
      rfl
    rw [e]
    exact q
theorem ok_is_pair (T : Txt K mg) : FnOk P w K mg base CX0 1 T.f_is_pair T.d_is_pair ["value"] spPr := by
  refine T.F_is_pair.ok sc_is_pair (fun vs H Q E h => ?_) (fun cdv A outer s H vs Q E hr h => ?_)
  · obtain ⟨t, a, b, rfl, _⟩ := h
    rfl
  · obtain ⟨t, a, b, rfl, ht, q⟩ := h
    refine ⟨_, (pss_one (ps_ret (pe_and (pe_callB call_isi (by rfl) T.m_isinstance (by decide +kernel) (pa_cons (pv 0) (pa_cons (pe_bltn (v := .ty "tuple") (by rfl) T.m_tuple (by decide +kernel) rfl) pa_nil))) (pe_one (pe_cmpR op_eq (pe_callB call_len_seq (by rfl) T.m_len (by decide +kernel) (pa_cons (pv 0) pa_nil)) pe_int (nomark _)))))), ?_⟩
    refine ⟨_, rfl, _, _, _, _, _, rfl, .ty "tuple", tyx_tup (SqT.of ht), kit_ty (r := true) (by decide +kernel), true, rfl, ?_⟩
    exact ite_t rfl ⟨_, rfl, _, _, rfl, .inr (SqT.of ht), rfl, q⟩
theorem fn_weak {k : Nat} {f : Addr} {fd : FuncData} {ps : List Str} {sp sp' : Sp} (F : FnOk P w K mg base CX0 k f fd ps sp) (h : ∀ vs H Q E, sp' vs H Q E → sp vs H Q E) : FnOk P w K mg base CX0 k f fd ps sp' :=
  ⟨fun vs H Q E g => F.len _ _ _ _ (h _ _ _ _ g), fun A o s H args us vs Q E r e b v g => F.run A o s H args us vs Q E r e b v (h _ _ _ _ g)⟩
theorem ok_wholeI (T : Txt K mg) : FnOk P w K mg base CX0 1 T.f_is_whole T.d_is_whole ["value"] spWh := fn_weak (ok_is_whole T) fun vs H Q E h => by
  obtain ⟨i, rfl, q⟩ := h
  exact ⟨.int i, .int i, rfl, .int i, q⟩
theorem ok_is_control (T : Txt K mg) : FnOk P w K mg base CX0 3 T.f_is_control T.d_is_control ["value"] spCt := by
  have G_is_integer := ok_is_integer (P := P) (w := w) (base := base) T
  have G_is_pair := ok_is_pair (P := P) (w := w) (base := base) T
  have G_is_whole := ok_wholeI (P := P) (w := w) (base := base) T
  refine T.F_is_control.ok sc_is_control (fun vs H Q E h => ?_) (fun cdv A outer s H vs Q E hr h => ?_)
  · obtain ⟨v, c, rfl, _⟩ := h
    rfl
  · obtain ⟨v, c, rfl, ⟨t, rfl, ht⟩, q⟩ := h
    refine ⟨_, (pss_one (ps_ret (pe_and (pe_call G_is_pair (hr.mono (by omega)) (by rfl) T.g_is_pair T.F_is_pair.kp T.b_is_pair .nil pass0 (pa_cons (pv 0) pa_nil)) (pe_and (pe_call G_is_whole (hr.mono (by omega)) (by rfl) T.g_is_whole T.F_is_whole.kp T.b_is_whole .nil pass0 (pa_cons (pe_ix ix_tup (pv 0) pe_int (fun _ _ => rfl)) pa_nil)) (pe_one (pe_call G_is_integer (hr.mono (by omega)) (by rfl) T.g_is_integer T.F_is_integer.kp T.b_is_integer .nil pass0 (pa_cons (pe_ix ix_tup (pv 0) pe_int (fun _ _ => rfl)) (pa_cons pe_int (pa_cons pe_int pa_nil))))))))), ?_⟩
    refine ⟨_, rfl, _, _, _, rfl, ht, true, rfl, ite_t rfl ?_⟩
    refine ⟨_, rfl, _, _, _, _, rfl, rfl, SqT.of ht, rfl, _, rfl, true, rfl, ite_t rfl ?_⟩
    refine ⟨_, rfl, _, _, _, _, rfl, rfl, SqT.of ht, rfl, _, _, _, _, rfl, .int _, ?_⟩
    rw [show isIr 0 1 (.int (b2 c.2)) = true from b2_01 c.2]
    exact q
end

end My

set_option Elab.async false
set_option linter.all false
set_option maxRecDepth 100000
namespace My
open PySem PySem.Spec PyProof.Rows L2
section
variable {P : Program} {w : World} {K : PySem.W.Frag} {mg : Str → Option Value} {base : Heap}
/-- the wires of the controls, as a new list -/
theorem ctl_walk {H H1 : Hp} {u D : Addr} {vs : List V} {cs : List Ct} (hc : P2 (PrV H) vs cs) (hl : cs.length ≤ 1000) (nD : H1 D = none) (k0 : KT [] H H1) (hu : H u = some (.tup vs)) {x : V} {i : Nat} {H2 : Hp} {acc : List V}
    (hi : i < vs.length) (k : KT [] H1 H2) (hD : H2 D = some (.lst (ivs ((cs.take i).map (·.1))))) (e : vs[i]? = some x) : ∃ (t : Addr) (c : Ct), x = .ref t ∧ SqT K H2 t [.int c.1, .int (b2 c.2)] ∧ (cs.take (i + 1)).map (·.1) = (cs.take i).map (·.1) ++ [c.1] := by
  obtain ⟨c, h1, t, rfl, h2⟩ := hc.get e
  refine ⟨t, c, rfl, SqT.of (k.tp _ _ (k0.tp _ _ h2)), ?_⟩
  rw [List.take_succ, h1, List.map_append]
  rfl
theorem ivs_snoc (a : List Nat) (n : Nat) : ivs (a ++ [n]) = ivs a ++ [.int (n : Int)] := by
  unfold ivs
  rw [List.map_append]
  rfl
theorem ivs_drop (ns : List Nat) (n : Nat) : (ivs ns).drop n = ivs (ns.drop n) := by
  unfold ivs
  rw [List.map_drop]
theorem cutV_nat1 (xs : List V) : cutV xs (some 1) none = xs.drop 1 := by
  unfold cutV HT.sIx
  cases xs with
  | nil => rfl
  | cons x r =>
    simp
theorem ivs_flat (ns : List Nat) : (ivs ns).all flatV = true := List.all_eq_true.mpr fun x hx => by
  obtain ⟨n, _, rfl⟩ := List.mem_map.mp hx
  rfl
theorem inV_ivs (x : Nat) : ∀ xs : List Nat, inV (V.int (x : Int)) (ivs xs) = decide (x ∈ xs)
  | [] => by simp [inV, ivs]
  | y :: r => by
    have ih := inV_ivs x r
    have e : inV (V.int (x : Int)) (ivs (y :: r)) = (eqV (V.int (y : Int)) (V.int (x : Int)) || inV (V.int (x : Int)) (ivs r)) := rfl
    rw [e, ih]
    have e2 : eqV (V.int (y : Int)) (V.int (x : Int)) = decide (y = x) := by
      show ((y : Int) == (x : Int)) = _
      rw [Bool.eq_iff_iff, beq_iff_eq, decide_eq_true_iff]
      omega
    rw [e2]
    by_cases h : y = x
    · simp [h]
    · by_cases h2 : x ∈ r
      · simp [h2]
      · have h3 : ¬ x = y := fun z => h z.symm
        simp [h, h2, h3]
theorem ok_wires_of (T : Txt K mg) : FnOk P w K mg base CX0 1 T.f_wires_of T.d_wires_of ["gate"] spWo := by
  refine T.F_wires_of.ok sc_wires_of (fun vs H Q E h => ?_) (fun cdv A outer s H vs Q E hr h => ?_)
  · obtain ⟨v, g, rfl, _⟩ := h
    rfl
  · obtain ⟨v, g, rfl, ⟨t, u, vs, rfl, ht, hu, hc⟩, hl, q⟩ := h
    refine ⟨_, (pss_cons (ps_asg (pv 0) (pg_tup (by rfl) (pgs_cons (pg_name (i := 1) sc_wires_of.nd rfl (Or.inl rfl)) (pgs_cons (pg_name (i := 2) sc_wires_of.nd rfl (Or.inl rfl)) pgs_nil))))
      (pss_one (ps_ret (pe_op op_cat (pe_lst (pa_cons (pv 1) pa_nil)) (pe_lc (own := [("wire", 3), ("_", 4)]) (g := gTup K 2 (gCons (gName 3) (gCons (gName 4) gNil))) (by rfl) sc_wires_of.nd (pi_tup (pv 2)) (blkOk_by (own := [("wire", 3), ("_", 4)]) (N := N_wires_of) (sc := defScope s_wires_of) (by decide +kernel)) (fun _ _ _ _ _ => (pg_tup (by rfl) (pgs_cons (pg_name (i := 3) sc_wires_of.nd rfl (Or.inl rfl)) (pgs_cons (pg_name (i := 4) sc_wires_of.nd rfl (Or.inl rfl)) pgs_nil)))) (fun _ _ _ _ _ => pts_nil) (fun _ _ _ _ _ => (pv 3))))))), ?_⟩
    refine ⟨_, rfl, t, _, rfl, SqT.of ht, rfl, _, _, rfl, _, _, rfl, rfl, ?_⟩
    refine ⟨_, rfl, sz1, fun l nl => ⟨_, rfl, u, rfl, ⟨_, SqT.of ((KT.new [] nl).tp _ _ hu)⟩, fun D nD => ?_⟩⟩
    have k0 : KT [] H (upd H l (.lst [.int g.1])) := KT.new _ nl
    refine lc_it (walk_tup (K := K) (a := u) (xs := vs)) (fun i H1 => KT [] (upd H l (.lst [.int g.1])) H1 ∧ H1 D = some (.lst (ivs ((g.2.take i).map (·.1))))) ?_ ?_ ?_ ?_
    · exact ⟨KT.new _ nD, upd_same⟩
    · rintro i H1 _ ⟨k, _⟩
      exact SqT.of (k.tp _ _ (k0.tp _ _ hu))
    · rintro i x H1 H2 hi ⟨k, hD⟩ ⟨rfl, hx⟩
      obtain ⟨t2, c, rfl, hs, tk⟩ := ctl_walk (K := K) (acc := []) hc hl nD k0 hu hi k hD hx
      refine ⟨t2, _, rfl, hs, rfl, _, _, rfl, _, _, rfl, rfl, by rfl, ?_⟩
      refine ⟨_, rfl, _, hD, ?_, k.late nD, ?_⟩
      · rw [ivs_len, List.length_map, List.length_take]
        exact Nat.lt_of_le_of_lt (by omega : _ ≤ 1000) (by decide)
      · rw [upd_same, tk, ivs_snoc]
    · rintro H1 ⟨k, hD⟩
      have e : g.2.take vs.length = g.2 := by rw [hc.len, List.take_length]
      rw [e] at hD
      refine ⟨_, _, _, _, rfl, rfl, k.kp _ _ (by simp) upd_same, hD, ?_, fun p np => q _ _ ((k0.trans k).trans (KT.new _ np)) upd_same⟩
      rw [ivs_len, List.length_map, List.length_singleton]
      exact Nat.le_trans (by omega : _ ≤ 1001) (by decide)
theorem all_true {bs : List Bool} (h : ∀ b ∈ bs, b = true) : bs.all _root_.id = true := List.all_eq_true.mpr fun b hb => h b hb
theorem trues {n : Nat} : (List.replicate n true).all _root_.id = true := all_true fun _ h => (List.mem_replicate.mp h).2
theorem ok_is_gate (T : Txt K mg) : FnOk P w K mg base CX0 4 T.f_is_gate T.d_is_gate ["value"] spIG := by
  have G_is_pair := ok_is_pair (P := P) (w := w) (base := base) T
  have G_is_whole := ok_wholeI (P := P) (w := w) (base := base) T
  have G_is_control := ok_is_control (P := P) (w := w) (base := base) T
  refine T.F_is_gate.ok sc_is_gate (fun vs H Q E h => ?_) (fun cdv A outer s H vs Q E hr h => ?_)
  · obtain ⟨v, g, n, rfl, _⟩ := h
    rfl
  · obtain ⟨v, g, n, rfl, ⟨t, u, vs, rfl, ht, hu, hc⟩, hl, ⟨g1, g2, g3, g4⟩, q⟩ := h
    refine ⟨_, (pss_cons (ps_if (PW.pt (pw_or (pt_not (pt_val (pe_call G_is_pair (hr.mono (by omega)) (by rfl) T.g_is_pair T.F_is_pair.kp T.b_is_pair .nil pass0 (pa_cons (pv 0) pa_nil)))) (pw_or (pt_not (pt_val (pe_call G_is_whole (hr.mono (by omega)) (by rfl) T.g_is_whole T.F_is_whole.kp T.b_is_whole .nil pass0 (pa_cons (pe_ix ix_tup (pv 0) pe_int (fun _ _ => rfl)) pa_nil)))) (pw_or1 (pt_not (pt_val (pe_callB call_isi (by rfl) T.m_isinstance (by decide +kernel) (pa_cons (pe_ix ix_tup (pv 0) pe_int (fun _ _ => rfl)) (pa_cons (pe_bltn (v := .ty "tuple") (by rfl) T.m_tuple (by decide +kernel) rfl) pa_nil)))))))))
        (pss_one (ps_ret pe_bl))
        pss_nil)
      (pss_cons (ps_if (pt_not (pt_val (pe_callB (cr_all rfl) (by rfl) T.m_all (by decide +kernel) (pa_cons (pe_lc (own := [("item", 7)]) (g := gName 7) (by rfl) sc_is_gate.nd (pi_tup (pe_ix ix_tup (pv 0) pe_int (fun _ _ => rfl))) (blkOk_by (own := [("item", 7)]) (N := N_is_gate) (sc := defScope s_is_gate) (by decide +kernel)) (fun _ _ _ _ _ => (pg_name (i := 7) sc_is_gate.nd rfl (Or.inl rfl))) (fun _ _ _ _ _ => pts_nil) (fun _ _ _ _ _ => (pe_call G_is_control (hr.mono (by omega)) (by rfl) T.g_is_control T.F_is_control.kp T.b_is_control .nil pass0 (pa_cons (pv 7) pa_nil)))) pa_nil))))
        (pss_one (ps_ret pe_bl))
        pss_nil)
      (pss_cons (ps_setLc (i := 1) (own := [("wire", 3), ("_", 4)]) (g := gTup K 2 (gCons (gName 3) (gCons (gName 4) gNil))) rfl sc_is_gate.nd rfl rfl (sw_true rfl rfl rfl (by decide +kernel)) (pi_tup (pe_ix ix_tup (pv 0) pe_int (fun _ _ => rfl))) (blkOk_by (own := [("wire", 3), ("_", 4)]) (N := N_is_gate) (sc := defScope s_is_gate) (by decide +kernel)) (fun _ _ _ _ _ => (pg_tup (by rfl) (pgs_cons (pg_name (i := 3) sc_is_gate.nd rfl (Or.inl rfl)) (pgs_cons (pg_name (i := 4) sc_is_gate.nd rfl (Or.inl rfl)) pgs_nil)))) (fun _ _ _ _ _ => pts_nil) (fun _ _ _ _ _ => (pv 3)))
      (pss_cons (ps_set (i := 2) sc_is_gate.nd rfl (Or.inl rfl) (pe_callB (cr_all rfl) (by rfl) T.m_all (by decide +kernel) (pa_cons (pe_lc (own := [("before", 5), ("behind", 6)]) (g := gTup K 2 (gCons (gName 5) (gCons (gName 6) gNil))) (by rfl) sc_is_gate.nd (RZ.pi_zipA (by rfl) T.m_zip (pa_cons (pv 1) (pa_cons (pe_slice sl_list (pv 1) (po_some pe_int) po_none) pa_nil))) (blkOk_by (own := [("before", 5), ("behind", 6)]) (N := N_is_gate) (sc := defScope s_is_gate) (by decide +kernel)) (fun _ _ _ _ _ => (pg_tup (by rfl) (pgs_cons (pg_name (i := 5) sc_is_gate.nd rfl (Or.inl rfl)) (pgs_cons (pg_name (i := 6) sc_is_gate.nd rfl (Or.inl rfl)) pgs_nil)))) (fun _ _ _ _ _ => pts_nil) (fun _ _ _ _ _ => (pe_cmpR op_lt (pv 5) (pv 6) (nomark _)))) pa_nil)))
      (pss_one (ps_ret (pe_and (pv 2) (pe_one (pe_cmpR op_notIn_seq (pe_ix ix_tup (pv 0) pe_int (fun _ _ => rfl)) (pv 1) (by rfl)))))))))), ?_⟩
    refine ⟨_, rfl, _, _, _, rfl, ht, true, rfl, ?_⟩
    refine ite_f (by decide) ⟨_, rfl, _, _, _, _, rfl, rfl, SqT.of ht, rfl, _, rfl, true, rfl, ?_⟩
    refine ite_f (by decide) ⟨_, rfl, _, _, _, _, rfl, rfl, SqT.of ht, rfl, _, _, _, _, _, rfl, .ty "tuple", tyx_tup (SqT.of hu), kit_ty (r := true) (by decide +kernel), true, rfl, ?_⟩
    refine ite_f (by decide) ?_
    -- all([is_control(item) for item in value[1]])
    refine ⟨_, rfl, _, _, _, _, rfl, rfl, SqT.of ht, rfl, u, rfl, ⟨_, SqT.of hu⟩, fun D nD => ?_⟩
    refine lc_it (walk_tup (K := K) (a := u) (xs := vs)) (fun i H1 => KT [] H H1 ∧ H1 D = some (.lst ((List.replicate i true).map V.bl))) ?_ ?_ ?_ ?_
    · exact ⟨KT.new _ nD, upd_same⟩
    · rintro i H1 _ ⟨k, _⟩
      exact SqT.of (k.tp _ _ hu)
    · rintro i x H1 H2 hi ⟨k, hD⟩ ⟨rfl, hx⟩
      obtain ⟨c, h1, h2⟩ := hc.get hx
      have hn := hc.len
      refine ⟨rfl, ⟨_, rfl, _, c, rfl, h2.keep k, _, hD, ?_, k.late nD, ?_⟩⟩
      · rw [List.length_map, List.length_replicate]
        exact Nat.lt_of_le_of_lt (by omega : _ ≤ 1000) (by decide)
      · rw [upd_same, List.replicate_succ', List.map_append]
        rfl
    · rintro H1 ⟨k, hD⟩
      refine ⟨_, _, rfl, SqL.of hD, ?_⟩
      rw [trues]
      refine ⟨true, rfl, ite_f (by decide) ?_⟩
      -- named
      refine ⟨_, rfl, _, _, _, _, rfl, rfl, SqT.of (k.tp _ _ ht), rfl, u, rfl, ⟨_, SqT.of (k.tp _ _ hu)⟩, fun L nL => ?_⟩
      refine lc_it (walk_tup (K := K) (a := u) (xs := vs)) (fun i H2 => KT [] H1 H2 ∧ H2 L = some (.lst (ivs ((g.2.take i).map (·.1))))) ?_ ?_ ?_ ?_
      · exact ⟨KT.new _ nL, upd_same⟩
      · rintro i H2 _ ⟨k2, _⟩
        exact SqT.of (k2.tp _ _ (k.tp _ _ hu))
      · rintro i x H2 H3 hi ⟨k2, hD⟩ ⟨rfl, hx⟩
        obtain ⟨t2, c, rfl, hs, tk⟩ := ctl_walk (K := K) (acc := []) hc hl nL k hu hi k2 hD hx
        refine ⟨t2, _, rfl, hs, rfl, _, _, rfl, _, _, rfl, rfl, by rfl, ?_⟩
        refine ⟨_, rfl, _, hD, ?_, k2.late nL, ?_⟩
        · rw [ivs_len, List.length_map, List.length_take]
          exact Nat.lt_of_le_of_lt (by omega : _ ≤ 1000) (by decide)
        · rw [upd_same, tk, ivs_snoc]
      · rintro H2 ⟨k2, hD⟩
        have e : g.2.take vs.length = g.2 := by rw [hc.len, List.take_length]
        rw [e] at hD
        have nl := hc.len
        refine ⟨_, rfl, _, rfl, 1, rfl, L, _, rfl, SqL.of hD, fun p np => ⟨L, p, _, _, rfl, .inl ⟨SqL.of (by rw [upd_ne (ne_of_none hD np)]; exact hD), SqL.of upd_same, fun M nM => ?_⟩⟩⟩
        have eS : cutV (ivs (g.2.map (·.1))) (some 1) none = ivs ((g.2.map (·.1)).drop 1) := by
          rw [cutV_nat1, ivs_drop]
        rw [eS] at nM ⊢
        have kp : KT [] H2 (upd H2 p (.lst (ivs ((g.2.map (·.1)).drop 1)))) := KT.new _ np
        have hD1 := kp.kp _ _ (by simp) hD
        have hS1 : (upd H2 p (.lst (ivs ((g.2.map (·.1)).drop 1)))) p = some (.lst (ivs ((g.2.map (·.1)).drop 1))) := upd_same
        obtain ⟨H3, e3⟩ : ∃ H3, upd H2 p (.lst (ivs ((g.2.map (·.1)).drop 1))) = H3 := ⟨_, rfl⟩
        rw [e3] at kp hD1 hS1 nM ⊢
        refine lc_it (walk_zip (K := K) (a := L) (b := p) (xs := ivs (g.2.map (·.1))) (ys := ivs ((g.2.map (·.1)).drop 1)) rfl) (fun i H4 => KT [] H3 H4 ∧ H4 M = some (.lst ((List.replicate i true).map V.bl))) ?_ ?_ ?_ ?_
        · exact ⟨KT.new _ nM, upd_same⟩
        · rintro i H4 _ ⟨k4, _⟩
          exact ⟨SqL.of (k4.kp _ _ (by simp) hD1), SqL.of (k4.kp _ _ (by simp) hS1)⟩
        · rintro i x H4 H5 hi ⟨k4, hM⟩ ⟨T, x1, y1, rfl, nT, rfl, hx, hy⟩
          obtain ⟨a, ha, rfl⟩ := ivs_get hx
          obtain ⟨b, hb, rfl⟩ := ivs_get hy
          have kT : KT [] H4 (upd H4 T (.tup [.int a, .int b])) := KT.new _ nT
          have hab : a < b := by
            rw [List.getElem?_drop] at hb
            obtain ⟨ha1, ha2⟩ := List.getElem?_eq_some_iff.mp ha
            obtain ⟨hb1, hb2⟩ := List.getElem?_eq_some_iff.mp hb
            rw [← ha2, ← hb2]
            exact List.pairwise_iff_getElem.mp g3 _ _ ha1 hb1 (by omega)
          refine ⟨T, _, rfl, SqT.of upd_same, rfl, _, _, rfl, _, _, rfl, rfl, by rfl, ?_⟩
          refine ⟨_, rfl, _, rfl, _, _, rfl, rfl, _, kT.kp _ _ (by simp) hM, ?_, (k4.trans kT).late nM, ?_⟩
          · rw [List.length_map, List.length_replicate]
            rw [ivs_len, ivs_len, List.length_map, List.length_drop, List.length_map] at hi
            exact Nat.lt_of_le_of_lt (by omega : _ ≤ 1000) (by decide)
          · rw [upd_same, List.replicate_succ', List.map_append]
            show some (HO.lst (_ ++ [V.bl (decide ((a : Int) < (b : Int)))])) = _
            rw [decide_eq_true (Int.ofNat_lt.mpr hab)]
            rfl
        · rintro H4 ⟨k4, hM⟩
          refine ⟨_, _, rfl, SqL.of hM, ?_⟩
          rw [trues]
          have k5 := kp.trans k4
          refine ⟨_, rfl, true, rfl, ite_t rfl ?_⟩
          refine ⟨_, rfl, _, _, _, _, rfl, rfl, SqT.of (k5.tp _ _ (k2.tp _ _ (k.tp _ _ ht))), rfl, _, rfl, _, _, rfl, .inl (SqL.of (k5.kp _ _ (by simp) hD)), rfl, ?_, ?_⟩
          · exact ivs_flat _
          · have e0 : (if true = true then !inV (V.int (g.1 : Int)) (ivs (g.2.map (·.1))) else inV (V.int (g.1 : Int)) (ivs (g.2.map (·.1)))) = true := by
              rw [if_pos rfl, inV_ivs, decide_eq_false]
              · rfl
              · intro z
                obtain ⟨c, hc1, hc2⟩ := List.mem_map.mp z
                exact g4 c hc1 hc2
            rw [e0]
            exact q _ (((k.trans k2).trans kp).trans k4)
theorem ok_gate_fault (T : Txt K mg) : FnOk P w K mg base CX0 5 T.f_gate_fault T.d_gate_fault ["wires", "value"] spGF := by
  have G_is_gate := ok_is_gate (P := P) (w := w) (base := base) T
  have G_wires_of := ok_wires_of (P := P) (w := w) (base := base) T
  refine T.F_gate_fault.ok sc_gate_fault (fun vs H Q E h => ?_) (fun cdv A outer s H vs Q E hr h => ?_)
  · obtain ⟨v, g, n, rfl, _⟩ := h
    rfl
  · obtain ⟨v, g, n, rfl, hg, hl, hk, q⟩ := h
    refine ⟨_, (pss_cons (ps_if (pt_not (pt_val (pe_call G_is_gate (hr.mono (by omega)) (by rfl) T.g_is_gate T.F_is_gate.kp T.b_is_gate .nil pass0 (pa_cons (pv 1) pa_nil))))
        (pss_one (ps_ret pe_str))
        pss_nil)
      (pss_cons (ps_if (pt_not (pt_val (pe_callB (cr_all rfl) (by rfl) T.m_all (by decide +kernel) (pa_cons (pe_lc (own := [("wire", 2)]) (g := gName 2) (by rfl) sc_gate_fault.nd (pi_list (pe_call G_wires_of (hr.mono (by omega)) (by rfl) T.g_wires_of T.F_wires_of.kp T.b_wires_of .nil pass0 (pa_cons (pv 1) pa_nil))) (blkOk_by (own := [("wire", 2)]) (N := N_gate_fault) (sc := defScope s_gate_fault) (by decide +kernel)) (fun _ _ _ _ _ => (pg_name (i := 2) sc_gate_fault.nd rfl (Or.inl rfl))) (fun _ _ _ _ _ => pts_nil) (fun _ _ _ _ _ => (pe_chain op_le op_lt pe_int (pv 2) (pv 0)))) pa_nil))))
        (pss_one (ps_ret pe_str))
        pss_nil)
      (pss_one (ps_ret pe_non)))), ?_⟩
    refine ⟨_, rfl, _, g, n, rfl, hg, hl, hk, fun H1 k1 => ⟨true, rfl, ite_f (by decide) ?_⟩⟩
    refine ⟨_, rfl, _, g, rfl, hg.keep k1, hl, fun l H2 k2 hL => ⟨l, rfl, ⟨_, SqL.of hL⟩, fun D nD => ?_⟩⟩
    have hw : ∀ x ∈ g.1 :: g.2.map (·.1), x < n := fun x hx => by
      rcases List.mem_cons.mp hx with rfl | hx
      · exact hk.1
      · obtain ⟨c, hc, rfl⟩ := List.mem_map.mp hx
        exact hk.2.1 c hc
    refine lc_it (walk_list (K := K) (a := l) (xs := ivs (g.1 :: g.2.map (·.1)))) (fun i H3 => KT [] H2 H3 ∧ H3 D = some (.lst ((List.replicate i true).map V.bl))) ?_ ?_ ?_ ?_
    · exact ⟨KT.new _ nD, upd_same⟩
    · rintro i H3 _ ⟨k, _⟩
      exact SqL.of (k.kp _ _ (by simp) hL)
    · rintro i x H3 H4 hi ⟨k, hD⟩ ⟨rfl, hx⟩
      obtain ⟨a, ha, rfl⟩ := ivs_get hx
      have han := hw a (List.mem_of_getElem? ha)
      have ha0 : (0 : Int) ≤ (a : Int) := Int.natCast_nonneg a
      refine ⟨rfl, ?_⟩
      refine ⟨_, rfl, _, _, rfl, rfl, _, rfl, ite_t (decide_eq_true ha0) ⟨_, rfl, _, _, rfl, rfl, _, hD, ?_, k.late nD, ?_⟩⟩
      · rw [List.length_map, List.length_replicate]
        rw [ivs_len, List.length_cons, List.length_map] at hi
        exact Nat.lt_of_le_of_lt (by omega : _ ≤ 1000) (by decide)
      · rw [upd_same, List.replicate_succ', List.map_append]
        show some (HO.lst (_ ++ [V.bl (decide ((a : Int) < (n : Int)))])) = _
        rw [decide_eq_true (Int.ofNat_lt.mpr han)]
        rfl
    · rintro H3 ⟨k, hD⟩
      refine ⟨_, _, rfl, SqL.of hD, ?_⟩
      rw [trues]
      exact ⟨true, rfl, ite_f (by decide) (q _ ((k1.trans k2).trans k))⟩
/-- the first walk's list: no fault at each place -/
def NoneAt (H : Hp) (v : V) (i : Nat) : Prop := ∃ t, v = .ref t ∧ H t = some (.tup [.int i, .non])
theorem NoneAt.keep {S : List Addr} {H H' : Hp} (k : KT S H H') {v : V} {i : Nat} : NoneAt H v i → NoneAt H' v i := fun ⟨t, h1, h2⟩ => ⟨t, h1, k.tp _ _ h2⟩
theorem ok_circuit_faults (T : Txt K mg) : FnOk P w K mg base CX0 6 T.f_circuit_faults T.d_circuit_faults ["value"] spCF := by
  have G_gate_fault := ok_gate_fault (P := P) (w := w) (base := base) T
  have G_is_count := ok_is_count (P := P) (w := w) (base := base) T
  refine T.F_circuit_faults.ok sc_circuit_faults (fun vs H Q E h => ?_) (fun cdv A outer s H vs Q E hr h => ?_)
  · obtain ⟨t, u, gs, G, n, rfl, _⟩ := h
    rfl
  · obtain ⟨t, u, gs, G, n, rfl, ht, hu, hg, hl, hk, q⟩ := h
    have lg := hg.len
    refine ⟨_, (pss_cons (ps_if (PW.pt (pw_or (pt_not (pt_val (pe_callB call_isi (by rfl) T.m_isinstance (by decide +kernel) (pa_cons (pv 0) (pa_cons (pe_bltn (v := .ty "tuple") (by rfl) T.m_tuple (by decide +kernel) rfl) pa_nil))))) (pw_or1 (pt_cmpR op_ne (pe_callB call_len_seq (by rfl) T.m_len (by decide +kernel) (pa_cons (pv 0) pa_nil)) pe_int (nomark _)))))
        (pss_one (ps_ret (pe_lst (pa_cons (pe_tup (pa_cons (pe_un un_neg pe_int) (pa_cons pe_str pa_nil))) pa_nil))))
        pss_nil)
      (pss_cons (ps_asg (pv 0) (pg_tup (by rfl) (pgs_cons (pg_name (i := 1) sc_circuit_faults.nd rfl (Or.inr rfl)) (pgs_cons (pg_name (i := 2) sc_circuit_faults.nd rfl (Or.inl rfl)) pgs_nil))))
      (pss_cons (ps_if (PW.pt (pw_or (pt_not (pt_val (pe_call G_is_count (hr.mono (by omega)) (by rfl) T.g_is_count T.F_is_count.kp T.b_is_count .nil pass0 (pa_cons (pv 1) pa_nil)))) (pw_or1 (pt_not (pt_val (pe_callB call_isi (by rfl) T.m_isinstance (by decide +kernel) (pa_cons (pv 2) (pa_cons (pe_bltn (v := .ty "tuple") (by rfl) T.m_tuple (by decide +kernel) rfl) pa_nil))))))))
        (pss_one (ps_ret (pe_lst (pa_cons (pe_tup (pa_cons (pe_un un_neg pe_int) (pa_cons pe_str pa_nil))) pa_nil))))
        pss_nil)
      (pss_cons (ps_setLc (i := 3) (own := [("at", 4), ("gate", 5)]) (g := gTup K 2 (gCons (gName 4) (gCons (gName 5) gNil))) rfl sc_circuit_faults.nd rfl rfl (sw_true rfl rfl rfl (by decide +kernel)) (pi_enT (by rfl) T.m_enumerate (pa_cons (pv 2) pa_nil)) (blkOk_by (own := [("at", 4), ("gate", 5)]) (N := N_circuit_faults) (sc := defScope s_circuit_faults) (by decide +kernel)) (fun _ _ _ _ _ => (pg_tup (by rfl) (pgs_cons (pg_name (i := 4) sc_circuit_faults.nd rfl (Or.inl rfl)) (pgs_cons (pg_name (i := 5) sc_circuit_faults.nd rfl (Or.inl rfl)) pgs_nil)))) (fun _ _ _ _ _ => pts_nil) (fun _ _ _ _ _ => (pe_tup (pa_cons (pv 4) (pa_cons (pe_call G_gate_fault (hr.mono (by omega)) (by rfl) T.g_gate_fault T.F_gate_fault.kp T.b_gate_fault .nil pass0 (pa_cons (pv 1) (pa_cons (pv 5) pa_nil))) pa_nil)))))
      (pss_one (ps_ret (pe_lc (own := [("at", 4), ("fault", 6)]) (g := gTup K 2 (gCons (gName 4) (gCons (gName 6) gNil))) (by rfl) sc_circuit_faults.nd (pi_list (pv 3)) (blkOk_by (own := [("at", 4), ("fault", 6)]) (N := N_circuit_faults) (sc := defScope s_circuit_faults) (by decide +kernel)) (fun _ _ _ _ _ => (pg_tup (by rfl) (pgs_cons (pg_name (i := 4) sc_circuit_faults.nd rfl (Or.inl rfl)) (pgs_cons (pg_name (i := 6) sc_circuit_faults.nd rfl (Or.inl rfl)) pgs_nil)))) (fun _ _ _ _ _ => (pts_one (pt_cmpR op_notN (pv 6) pe_non (nomark _)))) (fun _ _ _ _ _ => (pe_tup (pa_cons (pv 4) (pa_cons (pv 6) pa_nil))))))))))), ?_⟩
    refine ⟨_, rfl, _, _, _, _, _, rfl, .ty "tuple", tyx_tup (SqT.of ht), kit_ty (r := true) (by decide +kernel), true, rfl, ?_⟩
    refine ite_f (by decide) ⟨_, rfl, _, _, rfl, .inr (SqT.of ht), rfl, _, rfl, ite_f (by simp) ?_⟩
    refine ⟨_, rfl, t, _, rfl, SqT.of ht, rfl, _, _, rfl, _, _, rfl, rfl, ?_⟩
    refine ⟨_, rfl, _, rfl, Int.natCast_nonneg n, true, rfl, ite_f (by decide) ?_⟩
    refine ⟨_, rfl, _, _, _, _, _, rfl, .ty "tuple", tyx_tup (SqT.of hu), kit_ty (r := true) (by decide +kernel), true, rfl, ite_f (by decide) ?_⟩
    refine ⟨_, rfl, u, gs, rfl, SqT.of hu, fun D nD => ?_⟩
    refine lc_it (walk_enT (K := K) (a := u) (xs := gs)) (fun i H1 => ∃ vs, KT [] H H1 ∧ H1 D = some (.lst vs) ∧ P2 (NoneAt H1) vs (List.range i)) ?_ ?_ ?_ ?_
    · exact ⟨[], KT.new _ nD, upd_same, .nil⟩
    · rintro i H1 _ ⟨vs, k, _⟩
      exact SqT.of (k.tp _ _ hu)
    · rintro i x H1 H2 hi ⟨vs, k, hD, hvs⟩ ⟨T, x1, y1, rfl, nT, rfl, hx, hy⟩
      cases hx
      have kT : KT [] H1 (upd H1 T (.tup [.int i, y1])) := KT.new _ nT
      obtain ⟨g, h1, h2⟩ := hg.get hy
      refine ⟨T, _, rfl, SqT.of upd_same, rfl, _, _, rfl, _, _, rfl, rfl, by rfl, ?_⟩
      refine ⟨_, rfl, _, rfl, _, rfl, _, g, n, rfl, h2.keep (k.trans kT), (hk g (List.mem_of_getElem? h1)).1, (hk g (List.mem_of_getElem? h1)).2, fun H3 k3 => ⟨sz2, fun p np => ?_⟩⟩
      have k4 := (kT.trans k3).trans (KT.new [] np (o := .tup [.int i, .non]))
      have hD4 := k4.kp _ _ (by simp) hD
      refine ⟨_, hD4, ?_, vs ++ [.ref p], (k.trans k4).late nD, upd_same, ?_⟩
      · rw [hvs.len, List.length_range]
        exact Nat.lt_of_le_of_lt (by omega : _ ≤ 1000) (by decide)
      · rw [List.range_succ]
        have kp : ∀ v j, NoneAt (upd H3 p (.tup [.int i, .non])) v j → NoneAt (upd (upd H3 p (.tup [.int i, .non])) D (.lst (vs ++ [.ref p]))) v j := fun v j ⟨t, h1, h2⟩ => ⟨t, h1, by
          rw [upd_ne]
          · exact h2
          · intro z
            rw [z, hD4] at h2
            cases h2⟩
        exact ((hvs.mono fun _ _ => .keep k4).snoc ⟨p, rfl, upd_same⟩).mono kp
    · rintro H1 ⟨vs, k, hD, hvs⟩
      refine ⟨_, rfl, D, rfl, ⟨_, SqL.of hD⟩, fun L nL => ?_⟩
      refine lc_it (walk_list (K := K) (a := D) (xs := vs)) (fun i H2 => KT [] H1 H2 ∧ H2 L = some (.lst [])) ?_ ?_ ?_ ?_
      · exact ⟨KT.new _ nL, upd_same⟩
      · rintro i H2 _ ⟨k2, _⟩
        exact SqL.of (k2.kp _ _ (by simp) hD)
      · rintro i x H2 H3 hi ⟨k2, hL⟩ ⟨rfl, hx⟩
        obtain ⟨j, _, p, rfl, hp⟩ := hvs.get hx
        refine ⟨p, _, rfl, SqT.of (k2.tp _ _ hp), rfl, _, _, rfl, _, _, rfl, rfl, by rfl, ?_⟩
        refine ⟨_, rfl, rfl, false, rfl, ?_⟩
        exact ite_f (by decide) ⟨k2, hL⟩
      · rintro H2 ⟨k2, hL⟩
        exact q _ _ (k.trans k2) hL
end

end My

set_option Elab.async false
set_option linter.all false
set_option maxRecDepth 100000
namespace My
open PySem PySem.Spec PyProof.Rows L2
theorem P2.perm {R : V → Ct → Prop} {vs us : List V} (p : vs.Perm us) : ∀ {cs : List Ct}, P2 R vs cs → ∃ ds, P2 R us ds ∧ cs.Perm ds := by
  induction p with
  | nil => intro cs h; exact ⟨cs, h, .refl _⟩
  | cons x _ ih =>
    intro cs h
    cases h with
    | cons h1 h2 =>
      obtain ⟨ds, a, b⟩ := ih h2
      exact ⟨_, .cons h1 a, b.cons _⟩
  | swap x y l =>
    intro cs h
    cases h with
    | cons h1 h2 =>
      cases h2 with
      | cons h3 h4 => exact ⟨_, .cons h3 (.cons h1 h4), .swap ..⟩
  | trans _ _ ih1 ih2 =>
    intro cs h
    obtain ⟨ds, a, b⟩ := ih1 h
    obtain ⟨es, c, d⟩ := ih2 a
    exact ⟨es, c, b.trans d⟩
def kOf (H : Hp) : V → Int × Int
  | .ref t => match H t with
    | some (.tup [.int a, .int b]) => (a, b)
    | _ => (0, 0)
  | _ => (0, 0)
theorem kOf_prv {H : Hp} {v : V} {c : Ct} (h : PrV H v c) : kOf H v = ((c.1 : Int), b2 c.2) := by
  obtain ⟨t, rfl, h⟩ := h
  show (match H t with | some (.tup [.int a, .int b]) => ((a, b) : Int × Int) | _ => (0, 0)) = _
  rw [h]
theorem srt_pw {H : Hp} : ∀ {ys : List V} {cs : List Ct}, P2 (PrV H) ys cs → SrtO.Srtd (ltP (kOf H)) ys → (cs.map (·.1)).Pairwise (· ≤ ·)
  | _, _, .nil, _ => .nil
  | v :: ys, c :: cs, .cons h g, s => by
    have s2 := List.pairwise_cons.mp s
    refine .cons (fun x hx => ?_) (srt_pw g s2.2)
    obtain ⟨d, hd, rfl⟩ := List.mem_map.mp hx
    obtain ⟨i, hi, e⟩ := List.getElem_of_mem hd
    have hi2 : i < ys.length := by rw [g.len]; exact hi
    obtain ⟨d', h1, h2⟩ := g.get (List.getElem?_eq_getElem hi2)
    have e2 : d' = d := by
      rw [List.getElem?_eq_getElem hi, e] at h1
      exact (Option.some.inj h1).symm
    subst e2
    have lt := s2.1 _ (List.getElem_mem hi2)
    have lt := SrtO.lexB_no.mp lt
    rw [kOf_prv h, kOf_prv h2] at lt
    simp only at lt
    show c.1 ≤ d'.1
    omega
theorem pw_lt {l : List Nat} (h : l.Pairwise (· ≤ ·)) (n : l.Nodup) : l.Pairwise (· < ·) := (h.and n).imp fun ⟨a, b⟩ => Nat.lt_of_le_of_ne a b
section
variable {P : Program} {w : World} {K : PySem.W.Frag} {mg : Str → Option Value} {base : Heap}
theorem cutV_from (xs : List V) (a : Nat) : cutV xs (some (a : Int)) none = xs.drop a := by
  unfold cutV
  rw [HT.sIx_nat, HT.sIx_none]
  rcases Nat.lt_or_ge a xs.length with h | h
  · rw [Nat.min_eq_left (by omega), List.take_of_length_le (by rw [List.length_drop]; omega)]
  · rw [Nat.min_eq_right h, List.drop_eq_nil_of_le h, List.drop_eq_nil_of_le (Nat.le_refl _), List.take_nil]
theorem cutV_mid (xs : List V) (a b : Nat) (hb : b ≤ xs.length) (ha : a ≤ b) : cutV xs (some (a : Int)) (some (b : Int)) = (xs.drop a).take (b - a) := by
  unfold cutV
  rw [HT.sIx_nat, HT.sIx_nat, Nat.min_eq_left hb, Nat.min_eq_left (by omega)]
theorem ivs_take (ns : List Nat) (n : Nat) : (ivs ns).take n = ivs (ns.take n) := by
  unfold ivs
  rw [List.map_take]
/-- pairs of wires with one bit -/
def PrB (H : Hp) (b : Bool) (v : V) (n : Nat) : Prop := PrV H v (n, b)
theorem prb_prv {H : Hp} {b : Bool} : ∀ {vs : List V} {ns : List Nat}, P2 (PrB H b) vs ns → P2 (PrV H) vs (ns.map fun n => (n, b))
  | _, _, .nil => .nil
  | _, _, .cons h g => .cons h (prb_prv g)
theorem PrV.put {H : Hp} {D : Addr} {xs ys : List V} (hD : H D = some (.lst xs)) {v : V} {c : Ct} : PrV H v c → PrV (upd H D (.lst ys)) v c := fun ⟨t, h1, h2⟩ => ⟨t, h1, by
  rw [upd_ne]
  · exact h2
  · intro z
    rw [z, hD] at h2
    cases h2⟩
theorem GtV.put {H : Hp} {D : Addr} {xs ys : List V} (hD : H D = some (.lst xs)) {v : V} {c : Gt} : GtV H v c → GtV (upd H D (.lst ys)) v c := fun ⟨t, u, vs, h1, h2, h3, h4⟩ => ⟨t, u, vs, h1, (by
  rw [upd_ne]
  · exact h2
  · intro z
    rw [z, hD] at h2
    cases h2), (by
  rw [upd_ne]
  · exact h3
  · intro z
    rw [z, hD] at h3
    cases h3), h4.mono fun _ _ => .put hD⟩
theorem addG_len (C : List Ct) : ∀ ts ss : List Nat, (addG C ts ss).length ≤ ss.length * ts.length
  | _, [] => by simp [addG]
  | ts, b :: r => by
    have := addG_len C ts.tail r
    rw [addG, List.length_append, incG, List.length_map, List.length_range, List.length_cons, Nat.succ_mul]
    have h2 : r.length * ts.tail.length ≤ r.length * ts.length := Nat.mul_le_mul_left _ (by rw [List.length_tail]; omega)
    omega
def Up (gs : List Gt) : Prop := ∀ g ∈ gs, (g.2.map (·.1)).Pairwise (· < ·)
theorem Up.snoc {gs : List Gt} {g : Gt} (h : Up gs) (k : (g.2.map (·.1)).Pairwise (· < ·)) : Up (gs ++ [g]) := fun x hx => by
  rcases List.mem_append.mp hx with hx | hx
  · exact h x hx
  · rw [List.mem_singleton.mp hx]; exact k
/-- the list of gates at G, with what it stands for -/
def GL (H0 H : Hp) (G : Addr) (A : List Gt) : Prop := KT [] H0 H ∧ ∃ gvs gs, H G = some (.lst gvs) ∧ P2 (GtV H) gvs gs ∧ Sim A gs ∧ Up gs
theorem GL.keep {H0 H H1 : Hp} {G : Addr} {A : List Gt} (h : GL H0 H G A) (k : KT [] H H1) : GL H0 H1 G A := by
  obtain ⟨k0, gvs, gs, h1, h2, h3, h4⟩ := h
  exact ⟨k0.trans k, gvs, gs, k.kp _ _ (by simp) h1, gts_keep k h2, h3, h4⟩
/-- [(w, b) for w in ws] -/
theorem lc_prs {H1 : Hp} {p D : Addr} {ns : List Nat} {b : Bool} {σ : L2.St} {i : Nat} {own : List Nat} {te : TE} {Qd : Hp → Prop} (hp : H1 p = some (.lst (ivs ns))) (nD : H1 D = none) (hl : ns.length ≤ 1000) (ho : ∀ v, wipe ((wipe σ own).set i (some v)) own = wipe σ own)
    (hte : ∀ (v : V) (H : Hp) (Q : VK), (∀ t, H t = none → Q (.ref t) (upd H t (.tup [v, .int (b2 b)]))) → te ((wipe σ own).set i (some v)) H Q)
    (hd : ∀ H vs, KT [] H1 H → H D = some (.lst vs) → P2 (PrV H) vs (ns.map fun n => (n, b)) → Qd H) :
    ∃ W : Nat → Nat → Hp → Prop, (∃ m, W 0 m (upd H1 D (.lst []))) ∧ ∀ i' m H, W i' m H →
      ((Itl K p).stop i' H ∧ Qd H) ∨ ((Itl K p).go i' H ∧ ∃ Nx : Hp → Prop, (∀ H', Nx H' → ∃ m', m' < m ∧ W (i' + 1) m' H') ∧ ∀ x H', (Itl K p).yld i' H x H' → gName i x (wipe σ own) H' fun σ2 H2 => wipe σ2 own = wipe σ own ∧ tYes σ2 H2 fun b H3 =>
        if b = true then te σ2 H3 fun y H4 => ∃ acc, H4 D = some (.lst acc) ∧ acc.length < sizeLine ∧ Nx (upd H4 D (.lst (acc ++ [y]))) else Nx H3) := by
  refine lc_it (walk_list (K := K) (a := p) (xs := ivs ns)) (fun j H2 => ∃ vs, KT [] H1 H2 ∧ H2 D = some (.lst vs) ∧ P2 (PrB H2 b) vs (ns.take j)) ?_ ?_ ?_ ?_
  · exact ⟨[], KT.new _ nD, upd_same, .nil⟩
  · rintro j H2 _ ⟨vs, k, _⟩
    exact SqL.of (k.kp _ _ (by simp) hp)
  · rintro j x H2 H3 hi ⟨vs, k, hD, hv⟩ ⟨rfl, hx⟩
    obtain ⟨a, ha, rfl⟩ := ivs_get hx
    refine ⟨ho _, hte _ _ _ fun t nt => ?_⟩
    have kt : KT [] H3 (upd H3 t (.tup [.int a, .int (b2 b)])) := KT.new _ nt
    have hD2 := kt.kp _ _ (by simp) hD
    refine ⟨_, hD2, ?_, vs ++ [.ref t], (k.trans kt).late nD, upd_same, ?_⟩
    · rw [hv.len, List.length_take]
      exact Nat.lt_of_le_of_lt (by omega : _ ≤ 1000) (by decide)
    · rw [List.take_succ, ha]
      exact ((hv.mono fun _ _ => PrV.keep kt).snoc ⟨t, rfl, upd_same⟩).mono fun _ _ => PrV.put hD2
  · rintro H2 ⟨vs, k, hD, hv⟩
    rw [ivs_len, List.take_length] at hv
    exact hd _ vs k hD (prb_prv hv)
end
theorem KT.ofSame {L : List Addr} {H H' : Hp} (k : ∀ (b : Addr) (o : HO), H b = some o → H' b = some o) : KT L H H' :=
  ⟨fun b o _ e => k b o e, fun b o e => k b _ e, fun b o u e => k b _ e, fun b o e => ⟨o, k b o e⟩, fun b c t e => ⟨t, k _ _ e⟩⟩
def kvC (cs : List Ct) : List (Int × Int) := cs.map fun c => ((c.1 : Int), b2 c.2)
def dkC (cs : List Ct) : List (L2.Key × V) := (kvC cs).map fun p => (Sum.inl p.1, V.int p.2)
theorem dkC_snoc (cs : List Ct) (c : Ct) : dkC (cs ++ [c]) = dkC cs ++ [(Sum.inl (c.1 : Int), V.int (b2 c.2))] := by
  unfold dkC kvC
  rw [List.map_append, List.map_append]
  rfl
theorem dkC_none {cs : List Ct} {n : Nat} (h : n ∉ cs.map (·.1)) : valV (dkC cs) (Sum.inl (n : Int)) = none := by
  unfold valV dkC kvC
  rw [List.map_map]
  have : (cs.map ((fun p : Int × Int => ((Sum.inl p.1 : L2.Key), V.int p.2)) ∘ fun c : Ct => ((c.1 : Int), b2 c.2))).find? (fun kv => decide (kv.1 = Sum.inl (n : Int))) = none := by
    rw [List.find?_eq_none]
    intro x hx
    obtain ⟨c, hc, rfl⟩ := List.mem_map.mp hx
    intro z
    have z : (Sum.inl (c.1 : Int) : L2.Key) = Sum.inl (n : Int) := of_decide_eq_true z
    have z : (c.1 : Int) = n := Sum.inl.inj z
    exact h (List.mem_map.mpr ⟨c, hc, by omega⟩)
  rw [this]
  rfl
theorem dkC_put {cs : List Ct} {c : Ct} (h : c.1 ∉ cs.map (·.1)) : putK (dkC cs) (Sum.inl (c.1 : Int)) (V.int (b2 c.2)) = dkC (cs ++ [c]) := by
  unfold putK
  rw [dkC_snoc]
  refine if_neg ?_
  intro z
  obtain ⟨x, hx, e⟩ := List.any_eq_true.mp z
  obtain ⟨p, hp, rfl⟩ := List.mem_map.mp hx
  obtain ⟨d, hd, rfl⟩ := List.mem_map.mp hp
  have e : (Sum.inl (d.1 : Int) : L2.Key) = Sum.inl (c.1 : Int) := of_decide_eq_true e
  have e : (d.1 : Int) = c.1 := Sum.inl.inj e
  exact h (List.mem_map.mpr ⟨d, hd, by omega⟩)
theorem paired_prv {H : Hp} : ∀ {as : List Addr} {cs : List Ct}, Paired (fun t (q : Int × Int) => H t = some (.tup [.int q.1, .int q.2])) as (kvC cs) → P2 (PrV H) (as.map V.ref) cs
  | [], [], _ => .nil
  | [], _ :: _, h => by cases h
  | _ :: _, [], h => by cases h
  | a :: as, c :: cs, .cons h g => .cons ⟨a, rfl, h⟩ (paired_prv g)
theorem pair_kOf {H : Hp} {as : List Addr} {cs : List Ct} (h : P2 (PrV H) (as.map V.ref) cs) (nd : as.Nodup) {b : Addr} (hb : b ∈ as) : pairOf as (kvC cs) (.ref b) = kOf H (.ref b) := by
  obtain ⟨j, hj, e⟩ := List.mem_iff_getElem.mp hb
  have e0 : as[j]? = some b := by rw [List.getElem?_eq_getElem hj, e]
  obtain ⟨c, h1, h2⟩ := h.get (i := j) (v := .ref b) (by rw [List.getElem?_map, e0]; rfl)
  rw [kOf_prv h2]
  exact pairOf_at nd e0 (by unfold kvC; rw [List.getElem?_map, h1]; rfl)
def spWB : Sp := fun vs H Q _ => ∃ (p : Addr) (ns : List Nat), vs = [.ref p] ∧ H p = some (.lst (ivs ns)) ∧ ns.length ≤ 1000 ∧ ∀ (L : Addr) (us : List V) (H' : Hp), KT [] H H' → H' L = some (.lst us) → P2 (PrV H') us (ns.map fun n => (n, true)) → Q (.ref L) H'
def spCo : Sp := fun vs H Q _ => ∃ (l : Addr) (us : List V) (cs : List Ct), vs = [.ref l] ∧ H l = some (.lst us) ∧ P2 (PrV H) us cs ∧ (cs.map (·.1)).Nodup ∧ cs.length ≤ 1000 ∧
  ∀ (u : Addr) (H' : Hp) (ws : List V) (ds : List Ct), KT [] H H' → H' u = some (.tup ws) → P2 (PrV H') ws ds → cs.Perm ds → (ds.map (·.1)).Pairwise (· < ·) → Q (.ref u) H'
def spGf : Sp := fun vs H Q _ => ∃ (t : Nat) (l : Addr) (us : List V) (cs : List Ct), vs = [.int t, .ref l] ∧ H l = some (.lst us) ∧ P2 (PrV H) us cs ∧ (cs.map (·.1)).Nodup ∧ cs.length ≤ 1000 ∧
  ∀ (p : Addr) (v : V) (H' : Hp) (ds : List Ct), KT [] H H' → H' p = some (.lst [v]) → cs.Perm ds → (ds.map (·.1)).Pairwise (· < ·) → GtV H' v (t, ds) → Q (.ref p) H'
section
variable {P : Program} {w : World} {K : PySem.W.Frag} {mg : Str → Option Value} {base : Heap}
theorem ok_wire_bits (T : Txt K mg) : FnOk P w K mg base CX0 1 T.f_wire_bits T.d_wire_bits ["wires"] spWB := by
  refine T.F_wire_bits.ok sc_wire_bits (fun vs H Q E h => ?_) (fun cdv A outer s H vs Q E hr h => ?_)
  · obtain ⟨p, ns, rfl, _⟩ := h
    rfl
  · obtain ⟨p, ns, rfl, hp, hl, q⟩ := h
    refine ⟨_, (pss_one (ps_ret (pe_lc (own := [("wire", 1)]) (g := gName 1) (by rfl) sc_wire_bits.nd (pi_list (pv 0)) (blkOk_by (own := [("wire", 1)]) (N := N_wire_bits) (sc := defScope s_wire_bits) (by decide +kernel)) (fun _ _ _ _ _ => (pg_name (i := 1) sc_wire_bits.nd rfl (Or.inl rfl))) (fun _ _ _ _ _ => pts_nil) (fun _ _ _ _ _ => (pe_tup (pa_cons (pv 1) (pa_cons pe_int pa_nil))))))), ?_⟩
    refine ⟨_, rfl, p, rfl, ⟨_, SqL.of hp⟩, fun L nL => ?_⟩
    refine lc_prs (b := true) hp nL hl (fun v => rfl) (fun v H4 Q h => ⟨_, rfl, sz2, h⟩) fun H4 us k4 hL hP => q L us H4 k4 hL hP
set_option maxHeartbeats 2000000 in
theorem ok_controls_of (T : Txt K mg) : FnOk P w K mg base CX0 1 T.f_controls_of T.d_controls_of ["bits"] spCo := by
  refine T.F_controls_of.ok sc_controls_of (fun vs H Q E h => ?_) (fun cdv A outer s H vs Q E hr h => ?_)
  · obtain ⟨l, us, cs, rfl, _⟩ := h
    rfl
  · obtain ⟨l, us, cs, rfl, hl, hc, nd, hn, q⟩ := h
    refine ⟨_, (pss_cons (ps_set (i := 1) sc_controls_of.nd rfl (Or.inl rfl) pe_dnewK)
      (pss_cons (ps_for PassesOwn.never rfl (pi_list (pv 0)) (pg_name (i := 2) sc_controls_of.nd rfl (Or.inl rfl))
        (pss_cons (ps_if (pt_cmpR op_isRB (pv 2) pe_bl (nomark _))
          (pss_one (ps_ret pe_non))
          pss_nil)
        (pss_one (ps_if (pt_cmpR op_notRB (pv 2) pe_bl (nomark _))
          (pss_cons (ps_asg (pv 2) (pg_tup (by rfl) (pgs_cons (pg_name (i := 3) sc_controls_of.nd rfl (Or.inl rfl)) (pgs_cons (pg_name (i := 4) sc_controls_of.nd rfl (Or.inl rfl)) pgs_nil))))
          (pss_one (ps_if (pt_cmpR op_ne (pe_dsetd (pv 1) (pv 3) (pv 4) (M2.mk rfl rfl rfl rfl)) (pv 4) (nomark _))
            (pss_one (ps_ret pe_non))
            pss_nil)))
          pss_nil))))
      (pss_one (ps_ret (pe_callTy call_tuple_of (by rfl) T.m_tuple (by decide +kernel) (pa_cons (pe_sortItems rfl (pv 1) (by rfl) T.m_sorted (by decide +kernel)) pa_nil)))))), ?_⟩
    refine fun W nW => ?_
    have hlW : l ≠ W := ne_of_none hl nW
    refine ⟨_, rfl, l, rfl, ⟨_, SqL.of (by rw [upd_ne hlW]; exact hl)⟩, ?_⟩
    refine for_it (walk_list (K := K) (a := l) (xs := us)) (fun i σ H1 => ∃ (x2 x3 x4 : Option V), σ = [some (.ref l), some (.ref W), x2, x3, x4] ∧ KT [] H H1 ∧ H1 W = some (.dK (dkC (cs.take i)))) ?_ ?_ ?_ ?_
    · exact ⟨none, none, none, rfl, KT.new _ nW, upd_same⟩
    · rintro i σ H1 _ ⟨_, _, _, _, k, _⟩
      exact SqL.of (k.kp _ _ (by simp) hl)
    · rintro i x σ H1 H2 hi ⟨x2, x3, x4, rfl, k, hW⟩ ⟨rfl, hx⟩
      obtain ⟨c, hci, t, rfl, ht⟩ := hc.get hx
      have ht2 := k.tp _ _ ht
      refine ⟨_, rfl, t, _, rfl, rfl, _, rfl, (if_neg (by decide)).mpr ?_⟩
      refine ⟨_, rfl, t, _, rfl, rfl, _, rfl, (if_pos rfl).mpr ?_⟩
      refine ⟨_, rfl, t, _, rfl, SqT.of ht2, rfl, _, _, rfl, _, _, rfl, rfl, ?_⟩
      have hnot : c.1 ∉ (cs.take i).map (·.1) := fun z => by
        obtain ⟨h1, h2⟩ := List.getElem?_eq_some_iff.mp hci
        have e : cs = cs.take i ++ c :: cs.drop (i + 1) := by rw [← h2, ← List.drop_eq_getElem_cons h1, List.take_append_drop]
        have nd2 := nd
        rw [e, List.map_append, List.map_cons] at nd2
        exact (List.nodup_append.mp nd2).2.2 _ z _ List.mem_cons_self rfl
      have hlen : (dkC (cs.take i)).length < sizeLine := by
        unfold dkC kvC
        rw [List.length_map, List.length_map, List.length_take]
        exact Nat.lt_of_le_of_lt (by omega : _ ≤ 1000) (by decide)
      refine ⟨_, rfl, W, rfl, .inl ⟨_, .inl hW⟩, _, rfl, _, rfl, _, Sum.inl (c.1 : Int), hW, rfl, hlen, fun v hv => ?_, fun _ => ?_⟩
      · rw [dkC_none hnot] at hv
        cases hv
      · refine ⟨_, rfl, rfl, _, rfl, (if_neg (by rw [decide_eq_true (rfl : V.int (b2 c.2) = _)]; decide)).mpr ?_⟩
        refine ⟨_, _, _, rfl, k.late nW, ?_⟩
        rw [upd_same, dkC_put hnot, List.take_succ, hci]
        rfl
    · rintro σ H1 ⟨x2, x3, x4, rfl, k, hW⟩
      rw [hc.len, List.take_length] at hW
      refine ⟨_, rfl, W, kvC cs, rfl, hW, fun H2 p as bs k2 np nas hp hpr nda pm srt => ?_⟩
      have K2 : KT [] H1 H2 := KT.ofSame k2
      refine ⟨_, _, rfl, .inl ⟨SqL.of hp, fun u nu => ?_⟩⟩
      have K3 := KT.new [] nu (o := .tup (bs.map V.ref))
      have h1 := paired_prv hpr
      obtain ⟨ds, h2, h3⟩ := h1.perm (pm.symm.map V.ref)
      refine q u _ _ ds ((k.trans K2).trans K3) upd_same (prs_keep K3 h2) h3 (pw_lt (srt_pw h2 ?_) ((h3.map _).nodup_iff.mp nd))
      refine List.pairwise_map.mpr (srt.imp_of_mem fun {a b} ha hb z => ?_)
      rw [pair_kOf h1 nda (pm.mem_iff.mp ha), pair_kOf h1 nda (pm.mem_iff.mp hb)] at z
      exact z
theorem ok_gates_if (T : Txt K mg) : FnOk P w K mg base CX0 2 T.f_gates_if T.d_gates_if ["target", "bits"] spGf := by
  have G_controls_of := ok_controls_of (P := P) (w := w) (base := base) T
  refine T.F_gates_if.ok sc_gates_if (fun vs H Q E h => ?_) (fun cdv A outer s H vs Q E hr h => ?_)
  · obtain ⟨t, l, us, cs, rfl, _⟩ := h
    rfl
  · obtain ⟨t, l, us, cs, rfl, hl, hc, nd, hn, q⟩ := h
    refine ⟨_, (pss_cons (ps_set (i := 2) sc_gates_if.nd rfl (Or.inl rfl) (pe_call G_controls_of (hr.mono (by omega)) (by rfl) T.g_controls_of T.F_controls_of.kp T.b_controls_of .nil pass0 (pa_cons (pv 1) pa_nil)))
      (pss_one (ps_ret (pe_ifExp (pt_cmpR op_isN (pv 2) pe_non (nomark _)) (pe_lst pa_nil) (pe_lst (pa_cons (pe_tup (pa_cons (pv 0) (pa_cons (pv 2) pa_nil))) pa_nil)))))), ?_⟩
    refine ⟨_, rfl, l, us, cs, rfl, hl, hc, nd, hn, fun u H1 ws ds k1 hu hw pm asc => ?_⟩
    refine ⟨_, rfl, rfl, _, rfl, (if_neg (by rw [decide_eq_false (fun z => by cases z)]; decide)).mpr ?_⟩
    refine ⟨_, rfl, _, rfl, sz2, fun tt nt => ⟨sz1, fun p np => ?_⟩⟩
    have K2 := KT.new [] nt (o := .tup [.int t, .ref u])
    have K3 := KT.new [] np (o := .lst [.ref tt])
    exact q p (.ref tt) _ ds ((k1.trans K2).trans K3) upd_same pm asc ⟨tt, u, ws, rfl, K3.tp _ _ upd_same, K3.tp _ _ (K2.tp _ _ hu), prs_keep (K2.trans K3) hw⟩
end

end My

set_option Elab.async false
set_option linter.all false
set_option maxRecDepth 100000
namespace My
open PySem PySem.Spec PyProof.Rows L2
/-- what is asked of a sum's wires -/
structure AddOk (C : List Ct) (ts ss : List Nat) : Prop where
  nt : ts.Nodup
  ct : ∀ c ∈ C, c.1 ∉ ts
  st : ∀ b ∈ ss, b ∉ ts
  nc : (C.map (·.1)).Nodup
  cs : ∀ c ∈ C, c.1 ∉ ss
  l : ss.length = ts.length
  lt : ts.length ≤ 10
  lc : C.length ≤ 10
def spAI : Sp := fun vs H Q _ => ∃ (a b c : Addr) (ts ss : List Nat) (cvs : List V) (C : List Ct), vs = [.ref a, .ref b, .ref c] ∧ H a = some (.lst (ivs ts)) ∧ H b = some (.lst (ivs ss)) ∧ H c = some (.tup cvs) ∧ P2 (PrV H) cvs C ∧ AddOk C ts ss ∧
  ∀ (g : Addr) (H' : Hp) (gvs : List V) (gs : List Gt), KT [] H H' → H' g = some (.tup gvs) → P2 (GtV H') gvs gs → Sim (addG C ts ss) gs → Up gs → Q (.ref g) H'
theorem incG_take (C : List Ct) (ts : List Nat) (j : Nat) (h : j < ts.length) : (incG C ts).take (j + 1) = (incG C ts).take j ++ [incL C ts j] := by
  rw [List.take_succ]
  congr 1
  unfold incG
  rw [List.getElem?_map, List.getElem?_range h]
  rfl
theorem nodup_inc {C : List Ct} {ts ss : List Nat} (A : AddOk C ts ss) {b : Nat} (hb : b ∈ ss) (d k : Nat) : ((C ++ [(b, true)] ++ ((ts.drop d).take k).map fun w => (w, true)).map (·.1)).Nodup := by
  have e : ((((ts.drop d).take k).map fun w => (w, true)).map (·.1) : List Nat) = (ts.drop d).take k := by
    rw [List.map_map]
    exact List.map_id _
  rw [List.map_append, List.map_append, e]
  have sub : ∀ x ∈ (ts.drop d).take k, x ∈ ts := fun x hx => List.mem_of_mem_drop (List.mem_of_mem_take hx)
  have nd : ((ts.drop d).take k).Nodup := (A.nt.sublist (List.drop_sublist _ _)).sublist (List.take_sublist _ _)
  refine List.nodup_append.mpr ⟨List.nodup_append.mpr ⟨A.nc, (by simp), fun x hx y hy z => ?_⟩, nd, fun x hx y hy z => ?_⟩
  · obtain ⟨c, hc, rfl⟩ := List.mem_map.mp hx
    have : y = b := by simpa using hy
    exact A.cs c hc (by rw [z, this]; exact hb)
  · subst z
    rcases List.mem_append.mp hx with hx | hx
    · obtain ⟨c, hc, rfl⟩ := List.mem_map.mp hx
      exact A.ct c hc (sub _ hy)
    · have : x = b := by simpa using hx
      exact A.st b hb (by rw [← this]; exact sub _ hy)
/-- a list of controls -/
def LsV (H : Hp) (v : V) (cs : List Ct) : Prop := ∃ l us, v = .ref l ∧ H l = some (.lst us) ∧ P2 (PrV H) us cs
theorem LsV.keep {H H' : Hp} (k : KT [] H H') {v : V} {cs : List Ct} : LsV H v cs → LsV H' v cs := fun ⟨l, us, h1, h2, h3⟩ => ⟨l, us, h1, k.kp _ _ (by simp) h2, prs_keep k h3⟩
def LsN (D : Addr) (H : Hp) (v : V) (cs : List Ct) : Prop := ∃ l us, v = .ref l ∧ l ≠ D ∧ H l = some (.lst us) ∧ P2 (PrV H) us cs
theorem LsN.keep {D : Addr} {H H' : Hp} (k : KT [] H H') {v : V} {cs : List Ct} : LsN D H v cs → LsN D H' v cs := fun ⟨l, us, h1, h0, h2, h3⟩ => ⟨l, us, h1, h0, k.kp _ _ (by simp) h2, prs_keep k h3⟩
theorem LsN.ls {D : Addr} {H : Hp} {v : V} {cs : List Ct} : LsN D H v cs → LsV H v cs := fun ⟨l, us, h1, _, h2, h3⟩ => ⟨l, us, h1, h2, h3⟩
def spAG : Sp := fun vs H Q _ => ∃ (a b : Addr) (ts ss : List Nat) (bvs : List V) (C : List Ct), vs = [.ref a, .ref b] ∧ H a = some (.lst (ivs ts)) ∧ H b = some (.lst bvs) ∧ P2 (LsV H) bvs (ss.map fun s => C ++ [(s, true)]) ∧ AddOk C ts ss ∧
  ∀ (g : Addr) (H' : Hp) (gvs : List V) (gs : List Gt), KT [] H H' → H' g = some (.lst gvs) → P2 (GtV H') gvs gs → Sim (addG C ts ss) gs → Up gs → Q (.ref g) H'
section
variable {P : Program} {w : World} {K : PySem.W.Frag} {mg : Str → Option Value} {base : Heap}
set_option maxHeartbeats 4000000 in
theorem ok_adding_gates (T : Txt K mg) : FnOk P w K mg base CX0 3 T.f_adding_gates T.d_adding_gates ["target", "conditions"] spAG := by
  have G_gates_if := ok_gates_if (P := P) (w := w) (base := base) T
  have G_wire_bits := ok_wire_bits (P := P) (w := w) (base := base) T
  refine T.F_adding_gates.ok sc_adding_gates (fun vs H Q E h => ?_) (fun cdv A outer s H vs Q E hr h => ?_)
  · obtain ⟨a, b, ts, ss, bvs, C, rfl, _⟩ := h
    rfl
  · obtain ⟨a, b, ts, ss, bvs, C, rfl, ha, hb, hbv, O, q⟩ := h
    have lt := O.lt
    have lc := O.lc
    have ls := O.l
    have lbv : bvs.length = ss.length := by rw [hbv.len, List.length_map]
    refine ⟨_, (pss_cons (ps_set (i := 2) sc_adding_gates.nd rfl (Or.inl rfl) (pe_lst pa_nil))
      (pss_cons (ps_for PassesOwn.never rfl (pi_enum (by rfl) T.m_enumerate (pa_cons (pv 1) pa_nil)) (pg_tup (by rfl) (pgs_cons (pg_name (i := 3) sc_adding_gates.nd rfl (Or.inl rfl)) (pgs_cons (pg_name (i := 4) sc_adding_gates.nd rfl (Or.inl rfl)) pgs_nil)))
        (pss_one (ps_for PassesOwn.never rfl (pi_range3 (by rfl) T.m_range (pa_cons (pe_op op_sub (pe_callB call_len_seq (by rfl) T.m_len (by decide +kernel) (pa_cons (pv 0) pa_nil)) pe_int) (pa_cons (pe_op op_sub (pv 3) pe_int) (pa_cons (pe_un un_neg pe_int) pa_nil)))) (pg_name (i := 5) sc_adding_gates.nd rfl (Or.inl rfl))
          (pss_one (ps_expr (pe_bm PySem.F.plainAttrs_list PySem.F.slot_list_extend PySem.F.type_list_extend mt_extend (pv 2) (pa_cons (pe_call G_gates_if (hr.mono (by omega)) (by rfl) T.g_gates_if T.F_gates_if.kp T.b_gates_if .nil pass0 (pa_cons (pe_ix ix_list (pv 0) (pv 5) (fun _ _ => rfl)) (pa_cons (pe_op op_cat (pv 4) (pe_call G_wire_bits (hr.mono (by omega)) (by rfl) T.g_wire_bits T.F_wire_bits.kp T.b_wire_bits .nil pass0 (pa_cons (pe_slice sl_list (pv 0) (po_some (pv 3)) (po_some (pv 5))) pa_nil))) pa_nil))) pa_nil)))))))
      (pss_one (ps_ret (pv 2))))), ?_⟩
    refine ⟨Nat.zero_le _, fun G nG => ?_⟩
    refine ⟨_, rfl, b, _, rfl, SqL.of (by rw [upd_ne (ne_of_none hb nG)]; exact hb), ?_⟩
    refine for_it (walk_enum (K := K) (a := b) (xs := bvs)) (fun i σ H1 => ∃ (x3 x4 x5 : Option V) (A : List Gt), σ = [some (.ref a), some (.ref b), some (.ref G), x3, x4, x5] ∧ GL H H1 G A ∧ A ++ addG C (ts.drop i) (ss.drop i) = addG C ts ss) ?_ ?_ ?_ ?_
    · exact ⟨none, none, none, [], rfl, ⟨KT.new _ nG, [], [], upd_same, .nil, .nil, fun _ h => nomatch h⟩, rfl⟩
    · rintro i σ H1 _ ⟨_, _, _, _, _, ⟨k, _⟩, _⟩
      exact SqL.of (k.kp _ _ (by simp) hb)
    · rintro i x σ H1 H2 hi ⟨x3, x4, x5, A, rfl, gl, eA⟩ ⟨Tt, v1, v2, rfl, nT, rfl, e1, e2⟩
      cases e1
      obtain ⟨cl, hcl, cl1⟩ := hbv.get e2
      have hix : i < ss.length := by rw [← lbv]; exact hi
      obtain ⟨bt, hbt⟩ : ∃ bt, ss[i]? = some bt := ⟨_, List.getElem?_eq_getElem hix⟩
      rw [List.getElem?_map, hbt] at hcl
      have hcl : C ++ [(bt, true)] = cl := Option.some.inj hcl
      subst hcl
      obtain ⟨l, us, rfl, hl, hus⟩ := cl1
      have gl2 := gl.keep (KT.new [] nT (o := .tup [.int i, .ref l]))
      obtain ⟨H2, eH2⟩ : ∃ H2, upd H1 Tt (.tup [.int i, .ref l]) = H2 := ⟨_, rfl⟩
      have hT : H2 Tt = some (.tup [.int i, .ref l]) := by rw [← eH2]; exact upd_same
      rw [eH2] at gl2 ⊢
      clear gl
      have hbs : bt ∈ ss := List.mem_of_getElem? hbt
      have eD : addG C (ts.drop i) (ss.drop i) = incG (C ++ [(bt, true)]) (ts.drop i) ++ addG C (ts.drop (i + 1)) (ss.drop (i + 1)) := by
        obtain ⟨h1, h2⟩ := List.getElem?_eq_some_iff.mp hbt
        rw [List.drop_eq_getElem_cons h1, h2, addG, List.tail_drop]
      have lD : (ts.drop i).length = ts.length - i := List.length_drop ..
      have lA : (A ++ incG (C ++ [(bt, true)]) (ts.drop i)).length ≤ 100 := by
        have h1 := addG_len C ts ss
        have h2 : ss.length * ts.length ≤ 10 * 10 := Nat.mul_le_mul (by omega) lt
        rw [← eA, eD, ← List.append_assoc, List.length_append] at h1
        omega
      have lus : us.length = C.length + 1 := by rw [hus.len, List.length_append]; rfl
      refine ⟨Tt, _, rfl, SqT.of hT, rfl, _, _, rfl, _, _, rfl, rfl, ?_⟩
      -- for high in range(len(target) - 1, low - 1, -1)
      refine ⟨_, rfl, _, _, rfl, .inl (SqL.of (gl2.1.kp _ _ (by simp) ha)), _, _, rfl, rfl, _, rfl, _, _, rfl, rfl, _, rfl, _, _, _, _, rfl, RgC.neg ?_ ?_ ?_ ?_, ?_⟩
      · rw [ivs_len]; omega
      · rw [ivs_len]; omega
      · omega
      · omega
      have en : (((ivs ts).length : Int) - 1 - ((i : Int) - 1)).toNat = ts.length - i := by rw [ivs_len]; omega
      rw [en]
      refine for_rangeC (fun j σ H3 => ∃ (y5 : Option V), σ = [some (.ref a), some (.ref b), some (.ref G), some (.int i), some (.ref l), y5] ∧ GL H H3 G (A ++ (incG (C ++ [(bt, true)]) (ts.drop i)).take j)) ?_ ?_ ?_
      · refine ⟨x5, rfl, ?_⟩
        rw [List.take_zero, List.append_nil]
        exact gl2
      · rintro j σ H3 hj ⟨y5, rfl, gl3⟩
        have k3 := gl3.1
        have hi1 : ts.length - 1 - j < ts.length := by omega
        have hnum : ((ivs ts).length : Int) - 1 + (j : Int) * (-1) = ((ts.length - 1 - j : Nat) : Int) := by rw [ivs_len]; omega
        rw [hnum]
        obtain ⟨hh, ehh⟩ : ∃ hh, ts.length - 1 - j = hh := ⟨_, rfl⟩
        rw [ehh] at hi1 ⊢
        obtain ⟨k5, gvs, gs, hG, hgv, hsim, hup⟩ := gl3
        have hti : (ivs ts)[hh]? = some (.int ((ts.getD hh 0 : Nat) : Int)) := by
          rw [List.getElem?_eq_getElem (by rw [ivs_len]; omega)]
          unfold ivs
          rw [List.getElem_map, List.getD_eq_getElem?_getD, List.getElem?_eq_getElem hi1]
          rfl
        have eS : cutV (ivs ts) (some (i : Int)) (some (hh : Int)) = ivs ((ts.drop i).take (hh - i)) := by
          rw [cutV_mid _ _ _ (by rw [ivs_len]; omega) (by omega), ivs_drop, ivs_take]
        have hl3 := k3.kp _ _ (by simp) hl
        refine ⟨_, rfl, .inl ⟨rfl, _, SqL.of hG⟩, _, rfl, _, rfl, a, _, _, _, rfl, rfl, SqL.of (k3.kp _ _ (by simp) ha), atI_nat hti, ?_⟩
        refine ⟨_, rfl, _, rfl, _, rfl, (i : Int), rfl, _, rfl, (hh : Int), rfl, a, _, rfl, SqL.of (k3.kp _ _ (by simp) ha), fun p np => ?_⟩
        rw [eS]
        have kp := KT.new [] np (o := .lst (ivs ((ts.drop i).take (hh - i))))
        refine ⟨p, _, rfl, upd_same, (by rw [List.length_take, List.length_drop]; omega), fun L cvs2 H4 k4 hL hP => ?_⟩
        have k34 := kp.trans k4
        have lcv2 := hP.len
        rw [List.length_map, List.length_take, List.length_drop] at lcv2
        refine ⟨l, L, _, _, rfl, rfl, k34.kp _ _ (by simp) hl3, hL, ?_, fun l4 n4 => ?_⟩
        · rw [lus]
          exact Nat.le_trans (by omega : _ ≤ 1000) (by decide)
        have q4 := KT.new [] n4 (o := .lst (us ++ cvs2))
        have q5 := k34.trans q4
        have hall := ((prs_keep (k3.trans q5) hus).app (prs_keep q4 hP))
        refine ⟨_, l4, _, _, rfl, upd_same, hall, nodup_inc O hbs _ _, ?_, fun gl5 v H5 ds k6 hg5 pm pw gt => ?_⟩
        · rw [List.length_append, List.length_append, List.length_map, List.length_take, List.length_drop, List.length_singleton]
          omega
        have kk := q5.trans k6
        have hG5 := kk.kp _ _ (by simp) hG
        have lgs : gvs.length ≤ 100 := by
          rw [hgv.len, ← hsim.len]
          rw [List.length_append] at lA ⊢
          have := List.length_take_le j (incG (C ++ [(bt, true)]) (ts.drop i))
          rw [List.length_take]
          omega
        refine ⟨G, gl5, _, _, rfl, rfl, hG5, hg5, ?_, ?_⟩
        · rw [List.length_singleton]
          exact Nat.le_trans (by omega : _ ≤ 1000) (by decide)
        refine ⟨_, rfl, (k5.trans kk).late nG, _, gs ++ [(ts.getD hh 0, ds)], upd_same, ?_, ?_, hup.snoc pw⟩
        · exact ((gts_keep kk hgv).snoc gt).mono fun _ _ => GtV.put hG5
        · rw [incG_take _ _ _ (by rw [lD]; omega), ← List.append_assoc]
          refine hsim.app ?_
          have e1 : incL (C ++ [(bt, true)]) (ts.drop i) j = (ts.getD hh 0, C ++ [(bt, true)] ++ ((ts.drop i).take (hh - i)).map fun w => (w, true)) := by
            unfold incL
            have e2 : (ts.drop i).length - 1 - j = hh - i := by rw [lD]; omega
            rw [e2]
            congr 1
            rw [List.getD_eq_getElem?_getD, List.getD_eq_getElem?_getD, List.getElem?_drop]
            congr 2
            omega
          rw [e1]
          exact Sim.one pm
      · rintro σ H3 ⟨y5, rfl, gl3⟩
        refine ⟨_, _, _, _, rfl, gl3, ?_⟩
        rw [List.take_of_length_le (by rw [incG, List.length_map, List.length_range, lD]; exact Nat.le_refl _), List.append_assoc, ← eD]
        exact eA
    · rintro σ H1 ⟨x3, x4, x5, A, rfl, ⟨k, gvs, gs, h1, h2, h3, h4⟩, eA⟩
      have e : A = addG C ts ss := by
        rw [lbv, List.drop_length] at eA
        rw [← eA, addG, List.append_nil]
      subst e
      exact ⟨_, rfl, q G _ gvs gs k h1 h2 h3 h4⟩
set_option maxHeartbeats 4000000 in
theorem ok_add_into (T : Txt K mg) : FnOk P w K mg base CX0 4 T.f_add_into T.d_add_into ["target", "source", "controls"] spAI := by
  have G_adding_gates := ok_adding_gates (P := P) (w := w) (base := base) T
  refine T.F_add_into.ok sc_add_into (fun vs H Q E h => ?_) (fun cdv A outer s H vs Q E hr h => ?_)
  · obtain ⟨a, b, c, ts, ss, cvs, C, rfl, _⟩ := h
    rfl
  · obtain ⟨a, b, c, ts, ss, cvs, C, rfl, ha, hb, hc, hcv, O, q⟩ := h
    have lc := O.lc
    have ls := O.l
    have lt := O.lt
    have lcv := hcv.len
    refine ⟨_, (pss_one (ps_ret (pe_callTy call_tuple_of (by rfl) T.m_tuple (by decide +kernel) (pa_cons (pe_call G_adding_gates (hr.mono (by omega)) (by rfl) T.g_adding_gates T.F_adding_gates.kp T.b_adding_gates .nil pass0 (pa_cons (pv 0) (pa_cons (pe_lc (own := [("wire", 3)]) (g := gName 3) (by rfl) sc_add_into.nd (pi_list (pv 1)) (blkOk_by (own := [("wire", 3)]) (N := N_add_into) (sc := defScope s_add_into) (by decide +kernel)) (fun _ _ _ _ _ => (pg_name (i := 3) sc_add_into.nd rfl (Or.inl rfl))) (fun _ _ _ _ _ => pts_nil) (fun _ _ _ _ _ => (pe_op op_cat (pe_callTy (lsO (K := K) rfl) (by rfl) T.m_list (by decide +kernel) (pa_cons (pv 2) pa_nil)) (pe_lst (pa_cons (pe_tup (pa_cons (pv 3) (pa_cons pe_int pa_nil))) pa_nil))))) pa_nil))) pa_nil)))), ?_⟩
    refine ⟨_, rfl, _, rfl, b, rfl, ⟨_, SqL.of hb⟩, fun D nD => ?_⟩
    refine lc_it (walk_list (K := K) (a := b) (xs := ivs ss)) (fun j H2 => ∃ bvs, KT [] H H2 ∧ H2 D = some (.lst bvs) ∧ P2 (LsN D H2) bvs ((ss.take j).map fun s => C ++ [(s, true)])) ?_ ?_ ?_ ?_
    · exact ⟨[], KT.new _ nD, upd_same, .nil⟩
    · rintro j H2 _ ⟨vs, k, _⟩
      exact SqL.of (k.kp _ _ (by simp) hb)
    · rintro j x H2 H3 hi ⟨bvs, k, hD, hv⟩ ⟨rfl, hx⟩
      obtain ⟨s1, hs1, rfl⟩ := ivs_get hx
      refine ⟨rfl, _, rfl, c, cvs, rfl, .inr (SqT.of (k.tp _ _ hc)), fun l1 n1 => ⟨_, rfl, sz2, fun t1 nt1 => ⟨sz1, fun l2 n2 => ?_⟩⟩⟩
      have q1 := KT.new [] n1 (o := .lst cvs)
      have q2 := KT.new [] nt1 (o := .tup [.int s1, .int 1])
      have q3 := KT.new [] n2 (o := .lst [.ref t1])
      have hl1 := q3.kp _ _ (by simp) (q2.kp _ _ (by simp) (upd_same : (upd H3 l1 (.lst cvs)) l1 = _))
      have ht1 := q3.tp _ _ (upd_same : (upd (upd H3 l1 (.lst cvs)) t1 (.tup [.int s1, .int 1])) t1 = _)
      have q123 := (q1.trans q2).trans q3
      refine ⟨_, _, _, _, rfl, rfl, hl1, upd_same, ?_, fun l3 n3 => ?_⟩
      · rw [List.length_singleton]
        exact Nat.le_trans (by omega : _ ≤ 1000) (by decide)
      have q4 := KT.new [] n3 (o := .lst (cvs ++ [V.ref t1]))
      have q5 := q123.trans q4
      have hD5 := q5.kp _ _ (by simp) hD
      refine ⟨_, hD5, ?_, bvs ++ [.ref l3], (k.trans q5).late nD, upd_same, ?_⟩
      · rw [hv.len, List.length_map, List.length_take]
        exact Nat.lt_of_le_of_lt (by omega : _ ≤ 1000) (by decide)
      · rw [List.take_succ, hs1, List.map_append]
        have hne : l3 ≠ D := fun z => by
          rw [z] at n3
          rw [q123.kp _ _ (by simp) hD] at n3
          cases n3
        have hnew : LsN D _ (.ref l3) (C ++ [(s1, true)]) := ⟨l3, _, rfl, hne, upd_same, (prs_keep (k.trans q5) hcv).snoc (PrV.keep q4 ⟨t1, rfl, ht1⟩)⟩
        refine ((hv.mono fun _ _ => LsN.keep q5).snoc hnew).mono fun v cs ⟨l, us, e1, e0, e2, e3⟩ => ⟨l, us, e1, e0, ?_, e3.mono fun _ _ => PrV.put hD5⟩
        rw [upd_ne e0]
        exact e2
    · rintro H2 ⟨bvs, k, hD, hv⟩
      rw [ivs_len, List.take_length] at hv
      refine ⟨a, D, ts, ss, bvs, C, rfl, k.kp _ _ (by simp) ha, hD, hv.mono fun _ _ => LsN.ls, O, fun g H' gvs gs k2 hg hgv hsim hup => ?_⟩
      refine ⟨_, _, rfl, .inl ⟨SqL.of hg, fun t nt => ?_⟩⟩
      exact q t _ gvs gs ((k.trans k2).trans (KT.new [] nt)) upd_same (gts_keep (KT.new [] nt) hgv) hsim hup
end

end My

set_option Elab.async false
set_option linter.all false
set_option maxRecDepth 100000
namespace My
open PySem PySem.Spec PyProof.Rows L2
theorem KT.app {S : List Addr} {H : Hp} {p : Addr} {xs ys : List V} (hp : p ∈ S) (h : H p = some (.lst xs)) : KT S H (upd H p (.lst (xs ++ ys))) where
  kp := fun b o n e => by rw [upd_ne (fun z => n (by rw [z]; exact hp))]; exact e
  tp := fun b o e => by rw [upd_ne (fun z => by rw [z, h] at e; cases e)]; exact e
  fz := fun b o u e => by rw [upd_ne (fun z => by rw [z, h] at e; cases e)]; exact e
  th := fun b o e => by
    by_cases z : b = p
    · exact ⟨_, by rw [z]; exact upd_same⟩
    · exact ⟨o, by rw [upd_ne z]; exact e⟩
  hd := fun b c t e => by
    by_cases z : b = p
    · subst z
      rw [h] at e
      cases e
      exact ⟨t ++ ys, upd_same⟩
    · exact ⟨t, by rw [upd_ne z]; exact e⟩
structure LessOk (C : List Ct) (w : Nat) (fs ss : List Nat) : Prop where
  ns : ss.Nodup
  fd : ∀ f ∈ fs, f ∉ ss
  wf : w ∉ fs
  ws : w ∉ ss
  nc : (C.map (·.1)).Nodup
  cf : ∀ c ∈ C, c.1 ∉ fs
  cs : ∀ c ∈ C, c.1 ∉ ss
  cw : ∀ c ∈ C, c.1 ≠ w
  l : ss.length = fs.length
  lt : fs.length ≤ 10
  lc : C.length ≤ 10
def spLI : Sp := fun vs H Q _ => ∃ (w : Nat) (a b d c : Addr) (fs ss : List Nat) (cvs : List V) (C : List Ct), vs = [.int w, .ref a, .ref b, .ref d, .ref c] ∧ H a = some (.lst (ivs fs)) ∧ H b = some (.lst (ivs ss)) ∧ H c = some (.tup cvs) ∧ P2 (PrV H) cvs C ∧ LessOk C w fs ss ∧
  ∀ (g : Addr) (H' : Hp) (gvs : List V) (gs : List Gt), KT [] H H' → H' g = some (.tup gvs) → P2 (GtV H') gvs gs → Sim (lessG C w (fs.zip ss) ++ unG (fs.zip ss)) gs → Up gs → Q (.ref g) H'
theorem Sim.rfl' : ∀ gs : List Gt, Sim gs gs
  | [] => .nil
  | (t, a) :: r => .cons (.refl _) (Sim.rfl' r)
theorem zip_map2 {fs ss : List Nat} (h : ss.length = fs.length) : (fs.zip ss).map (·.2) = ss ∧ (fs.zip ss).map (·.1) = fs :=
  ⟨by rw [List.map_snd_zip]; omega, by rw [List.map_fst_zip]; omega⟩
theorem LessOk.apart {C : List Ct} {w : Nat} {fs ss : List Nat} (O : LessOk C w fs ss) : Apart C w (fs.zip ss) where
  nd := by rw [(zip_map2 O.l).1]; exact O.ns
  fs := fun p hp q hq z => O.fd _ (List.of_mem_zip hp).1 (by rw [z]; exact (List.of_mem_zip hq).2)
  wf := fun p hp => ⟨fun z => O.wf (by rw [← z]; exact (List.of_mem_zip hp).1), fun z => O.ws (by rw [← z]; exact (List.of_mem_zip hp).2)⟩
  cs := fun c hc => ⟨O.cw c hc, fun p hp z => O.cs c hc (by rw [z]; exact (List.of_mem_zip hp).2)⟩
theorem up_unG (ps : List (Nat × Nat)) : Up (unG ps) := fun g hg => by
  obtain ⟨p, _, rfl⟩ := List.mem_map.mp hg
  exact List.pairwise_singleton _ _
theorem lessG_len (C : List Ct) (w : Nat) : ∀ ps : List (Nat × Nat), (lessG C w ps).length = 2 * ps.length
  | [] => by rfl
  | p :: r => by
    rw [lessG, List.length_append, lessG_len C w r, List.length_cons]
    simp
    omega
theorem nodup_less {C : List Ct} {w : Nat} {fs ss : List Nat} (O : LessOk C w fs ss) {k : Nat} {f s : Nat} (hf : fs[k]? = some f) (hs : ss[k]? = some s) : ((C ++ [(f, false), (s, true)] ++ (ss.drop (k + 1)).map fun w => (w, false)).map (·.1)).Nodup := by
  have e : (((ss.drop (k + 1)).map fun w => (w, false)).map (·.1) : List Nat) = ss.drop (k + 1) := by
    rw [List.map_map]
    exact List.map_id _
  rw [List.map_append, List.map_append, e]
  have mf := List.mem_of_getElem? hf
  have ms := List.mem_of_getElem? hs
  have nd2 : (ss.drop k).Nodup := O.ns.sublist (List.drop_sublist _ _)
  obtain ⟨h1, h2⟩ := List.getElem?_eq_some_iff.mp hs
  rw [List.drop_eq_getElem_cons h1, h2] at nd2
  have nd3 := List.nodup_cons.mp nd2
  have nfs : f ≠ s := fun z => O.fd f mf (by rw [z]; exact ms)
  refine List.nodup_append.mpr ⟨List.nodup_append.mpr ⟨O.nc, (by simp [nfs]), fun x hx y hy z => ?_⟩, nd3.2, fun x hx y hy z => ?_⟩
  · obtain ⟨c, hc, rfl⟩ := List.mem_map.mp hx
    have : y = f ∨ y = s := by simpa using hy
    rcases this with r | r
    · exact O.cf c hc (by rw [z, r]; exact mf)
    · exact O.cs c hc (by rw [z, r]; exact ms)
  · subst z
    rcases List.mem_append.mp hx with hx | hx
    · obtain ⟨c, hc, rfl⟩ := List.mem_map.mp hx
      exact O.cs c hc (List.mem_of_mem_drop hy)
    · have : x = f ∨ x = s := by simpa using hx
      rcases this with r | r
      · exact O.fd f mf (by rw [← r]; exact List.mem_of_mem_drop hy)
      · exact nd3.1 (by rw [← r]; exact hy)
section
variable {P : Program} {w : World} {K : PySem.W.Frag} {mg : Str → Option Value} {base : Heap}
set_option maxHeartbeats 4000000 in
theorem ok_less_into (T : Txt K mg) : FnOk P w K mg base CX0 3 T.f_less_into T.d_less_into ["wire", "first", "second", "spare", "controls"] spLI := by
  have G_gates_if := ok_gates_if (P := P) (w := w) (base := base) T
  refine T.F_less_into.ok sc_less_into (fun vs H Q E h => ?_) (fun cdv A outer s H vs Q E hr h => ?_)
  · obtain ⟨w, a, b, d, c, fs, ss, cvs, C, rfl, _⟩ := h
    rfl
  · obtain ⟨wi, a, b, d, c, fs, ss, cvs, C, rfl, ha, hb, hc, hcv, O, q⟩ := h
    have lt := O.lt
    have lc := O.lc
    have ls := O.l
    have lz : (fs.zip ss).length = fs.length := by rw [List.length_zip]; omega
    refine ⟨_, (pss_cons (ps_setLc (i := 5) (own := [("one", 9), ("two", 10)]) (g := gTup K 2 (gCons (gName 9) (gCons (gName 10) gNil))) rfl sc_less_into.nd rfl rfl (sw_true rfl rfl rfl (by decide +kernel)) (RZ.pi_zipA (by rfl) T.m_zip (pa_cons (pv 1) (pa_cons (pv 2) pa_nil))) (blkOk_by (own := [("one", 9), ("two", 10)]) (N := N_less_into) (sc := defScope s_less_into) (by decide +kernel)) (fun _ _ _ _ _ => (pg_tup (by rfl) (pgs_cons (pg_name (i := 9) sc_less_into.nd rfl (Or.inl rfl)) (pgs_cons (pg_name (i := 10) sc_less_into.nd rfl (Or.inl rfl)) pgs_nil)))) (fun _ _ _ _ _ => pts_nil) (fun _ _ _ _ _ => (pe_tup (pa_cons (pv 10) (pa_cons (pe_tup (pa_cons (pe_tup (pa_cons (pv 9) (pa_cons pe_int pa_nil))) pa_nil)) pa_nil)))))
      (pss_cons (ps_set (i := 6) sc_less_into.nd rfl (Or.inl rfl) (pe_lst pa_nil))
      (pss_cons (ps_for PassesOwn.never rfl (pi_range3 (by rfl) T.m_range (pa_cons (pe_op op_sub (pe_callB call_len_seq (by rfl) T.m_len (by decide +kernel) (pa_cons (pv 1) pa_nil)) pe_int) (pa_cons (pe_un un_neg pe_int) (pa_cons (pe_un un_neg pe_int) pa_nil)))) (pg_name (i := 7) sc_less_into.nd rfl (Or.inl rfl))
        (pss_cons (ps_setLc (i := 8) (own := [("two", 10)]) (g := gName 10) rfl sc_less_into.nd rfl rfl (sw_true rfl rfl rfl (by decide +kernel)) (pi_list (pe_slice sl_list (pv 2) (po_some (pe_op op_add (pv 7) pe_int)) po_none)) (blkOk_by (own := [("two", 10)]) (N := N_less_into) (sc := defScope s_less_into) (by decide +kernel)) (fun _ _ _ _ _ => (pg_name (i := 10) sc_less_into.nd rfl (Or.inl rfl))) (fun _ _ _ _ _ => pts_nil) (fun _ _ _ _ _ => (pe_tup (pa_cons (pv 10) (pa_cons pe_int pa_nil)))))
        (pss_cons (ps_expr (pe_bm PySem.F.plainAttrs_list PySem.F.slot_list_extend PySem.F.type_list_extend mt_extend (pv 6) (pa_cons (pe_call G_gates_if (hr.mono (by omega)) (by rfl) T.g_gates_if T.F_gates_if.kp T.b_gates_if .nil pass0 (pa_cons (pv 0) (pa_cons (pe_op op_cat (pe_op op_cat (pe_callTy call_list_of (by rfl) T.m_list (by decide +kernel) (pa_cons (pv 4) pa_nil)) (pe_lst (pa_cons (pe_tup (pa_cons (pe_ix ix_list (pv 1) (pv 7) (fun _ _ => rfl)) (pa_cons pe_int pa_nil))) (pa_cons (pe_tup (pa_cons (pe_ix ix_list (pv 2) (pv 7) (fun _ _ => rfl)) (pa_cons pe_int pa_nil))) pa_nil)))) (pv 8)) pa_nil))) pa_nil)))
        (pss_one (ps_expr (pe_bm PySem.F.plainAttrs_list PySem.F.slot_list_append PySem.F.type_list_append mt_append (pv 6) (pa_cons (pe_ix ix_list (pv 5) (pv 7) (fun _ _ => rfl)) pa_nil)))))))
      (pss_one (ps_ret (pe_callTy call_tuple_of (by rfl) T.m_tuple (by decide +kernel) (pa_cons (pe_op op_cat (pv 6) (pv 5)) pa_nil))))))), ?_⟩
    refine ⟨_, rfl, _, rfl, a, b, _, _, rfl, .inl ⟨SqL.of ha, SqL.of hb, fun U nU => ?_⟩⟩
    refine lc_it (walk_zip (K := K) (a := a) (b := b) (xs := ivs fs) (ys := ivs ss) rfl) (fun i H1 => ∃ uvs, KT [] H H1 ∧ H1 U = some (.lst uvs) ∧ P2 (GtV H1) uvs (unG ((fs.zip ss).take i))) ?_ ?_ ?_ ?_
    · exact ⟨[], KT.new _ nU, upd_same, .nil⟩
    · rintro i H1 _ ⟨_, k, _⟩
      exact ⟨SqL.of (k.kp _ _ (by simp) ha), SqL.of (k.kp _ _ (by simp) hb)⟩
    · rintro i x H1 H2 hi ⟨uvs, k, hU, hP⟩ ⟨Tt, v1, v2, rfl, nT, rfl, e1, e2⟩
      obtain ⟨f, hf, rfl⟩ := ivs_get e1
      obtain ⟨s2, hs, rfl⟩ := ivs_get e2
      have kT := KT.new [] nT (o := .tup [.int f, .int s2])
      refine ⟨Tt, _, rfl, SqT.of upd_same, rfl, _, _, rfl, _, _, rfl, rfl, by rfl, ?_⟩
      refine ⟨_, rfl, _, rfl, sz2, fun t nt => ⟨sz1, fun l nl => ⟨sz2, fun g ng => ?_⟩⟩⟩
      have kt := KT.new [] nt (o := .tup [.int f, .int 1])
      have kl := KT.new [] nl (o := .tup [.ref t])
      have kg := KT.new [] ng (o := .tup [.int s2, .ref l])
      have kk := ((kT.trans kt).trans kl).trans kg
      have gt : GtV _ (.ref g) (s2, [(f, true)]) := ⟨g, l, [.ref t], rfl, upd_same, kg.tp _ _ upd_same, .cons ⟨t, rfl, (kl.trans kg).tp _ _ upd_same⟩ .nil⟩
      have hU3 := kk.kp _ _ (by simp) hU
      refine ⟨_, hU3, ?_, uvs ++ [.ref g], (k.trans kk).late nU, upd_same, ?_⟩
      · rw [hP.len, unG, List.length_map, List.length_take]
        exact Nat.lt_of_le_of_lt (by omega : _ ≤ 1000) (by decide)
      · have e3 : unG ((fs.zip ss).take (i + 1)) = unG ((fs.zip ss).take i) ++ [(s2, [(f, true)])] := by
          have hz : (fs.zip ss)[i]? = some (f, s2) := by
            rw [List.getElem?_zip_eq_some]
            exact ⟨hf, hs⟩
          rw [List.take_succ, hz, unG, List.map_append]
          rfl
        rw [e3]
        exact ((gts_keep kk hP).snoc gt).mono fun _ _ => GtV.put hU3
    · rintro H1 ⟨uvs, k1, hU, hP⟩
      have en : min (ivs fs).length (ivs ss).length = (fs.zip ss).length := by rw [ivs_len, ivs_len, List.length_zip]
      rw [en, List.take_length] at hP
      refine ⟨Nat.zero_le _, fun G nG => ?_⟩
      have k2 : KT [] H (upd H1 G (.lst [])) := k1.trans (KT.new [] nG)
      have hU2 := (KT.new [] nG (o := .lst [])).kp _ _ (by simp) hU
      have hP2 := gts_keep (KT.new [] nG (o := .lst [])) hP
      have hG2 : (upd H1 G (.lst [])) G = some (.lst []) := upd_same
      obtain ⟨H2, e2⟩ : ∃ H2, upd H1 G (.lst []) = H2 := ⟨_, rfl⟩
      have nGH : H G = none := k1.free nG
      rw [e2] at k2 hU2 hP2 hG2 ⊢
      have nUG : U ≠ G := ne_of_none hU nG
      refine ⟨_, rfl, _, _, rfl, .inl (SqL.of (k2.kp _ _ (by simp) ha)), _, _, rfl, rfl, _, rfl, _, rfl, _, _, _, _, rfl, RgC.neg ?_ ?_ ?_ ?_, ?_⟩
      · rw [ivs_len]; omega
      · rw [ivs_len]; omega
      · omega
      · omega
      have en2 : (((ivs fs).length : Int) - 1 - (-1)).toNat = fs.length := by rw [ivs_len]; omega
      rw [en2]
      refine for_rangeC (fun j σ H3 => ∃ (y7 y8 : Option V) (gvs : List V) (gs : List Gt), σ = [some (.int wi), some (.ref a), some (.ref b), some (.ref d), some (.ref c), some (.ref U), some (.ref G), y7, y8, none, none] ∧ KT [] H H3 ∧ KT [G] H2 H3 ∧ H3 G = some (.lst gvs) ∧ P2 (GtV H3) gvs gs ∧ Sim (lessG C wi ((fs.zip ss).drop (fs.length - j))) gs ∧ Up gs) ?_ ?_ ?_
      · refine ⟨none, none, [], [], rfl, k2, .refl _ _, hG2, .nil, ?_, fun _ h => nomatch h⟩
        rw [Nat.sub_zero, List.drop_of_length_le (by rw [lz]; exact Nat.le_refl _)]
        exact .nil
      · rintro j σ H3 hj ⟨y7, y8, gvs, gs, rfl, k3, k3', hG, hgv, hsim, hup⟩
        have hi1 : fs.length - 1 - j < fs.length := by omega
        have hnum : ((ivs fs).length : Int) - 1 + (j : Int) * (-1) = ((fs.length - 1 - j : Nat) : Int) := by rw [ivs_len]; omega
        rw [hnum]
        obtain ⟨hh, ehh⟩ : ∃ hh, fs.length - 1 - j = hh := ⟨_, rfl⟩
        rw [ehh] at hi1 ⊢
        refine ⟨_, rfl, _, rfl, _, _, rfl, rfl, _, rfl, b, _, rfl, SqL.of (k3.kp _ _ (by simp) hb), fun p np => ?_⟩
        have eS : cutV (ivs ss) (some ((hh : Int) + 1)) none = ivs (ss.drop (hh + 1)) := by
          rw [← ivs_drop, ← cutV_from]
          rfl
        rw [eS]
        refine ⟨p, rfl, ⟨_, SqL.of upd_same⟩, fun L nL => ?_⟩
        have kp0 := KT.new [] np (o := .lst (ivs (ss.drop (hh + 1))))
        refine lc_prs (b := false) upd_same nL (by rw [List.length_drop]; omega) (fun v => rfl) (fun v H4 Q h => ⟨_, rfl, sz2, h⟩) ?_
        intro H4 cvs2 k4 hL hPc
        have k34 := kp0.trans k4
        have k5 := k3.trans k34
        have k5' : KT [G] H2 H4 := k3'.trans (k34.mono fun _ h => nomatch h)
        have hG4 := k34.kp _ _ (by simp) hG
        have hgv4 := gts_keep k34 hgv
        have hfi : fs[hh]? = some (fs.getD hh 0) := by
          rw [List.getD_eq_getElem?_getD, List.getElem?_eq_getElem hi1]
          rfl
        have hsi : ss[hh]? = some (ss.getD hh 0) := by
          rw [List.getD_eq_getElem?_getD, List.getElem?_eq_getElem (by omega)]
          rfl
        obtain ⟨f, ef⟩ : ∃ f, fs.getD hh 0 = f := ⟨_, rfl⟩
        obtain ⟨sx, es⟩ : ∃ f, ss.getD hh 0 = f := ⟨_, rfl⟩
        rw [ef] at hfi
        rw [es] at hsi
        refine ⟨_, rfl, .inl ⟨rfl, _, SqL.of hG4⟩, _, rfl, _, rfl, c, cvs, rfl, .inr (SqT.of (k5.tp _ _ hc)), fun l1 n1 => ?_⟩
        have q1 := KT.new [] n1 (o := .lst cvs)
        refine ⟨_, rfl, _, rfl, a, _, _, _, rfl, rfl, SqL.of ((k5.trans q1).kp _ _ (by simp) ha), ivs_at hfi, sz2, fun t1 nt1 => ?_⟩
        have q2 := KT.new [] nt1 (o := .tup [.int f, .int 0])
        refine ⟨_, rfl, _, rfl, b, _, _, _, rfl, rfl, SqL.of (((k5.trans q1).trans q2).kp _ _ (by simp) hb), ivs_at hsi, sz2, fun t2 nt2 => ⟨sz2, fun l2 n2 => ?_⟩⟩
        have q3 := KT.new [] nt2 (o := .tup [.int sx, .int 1])
        have q4 := KT.new [] n2 (o := .lst [.ref t1, .ref t2])
        have hl1 := q4.kp _ _ (by simp) (q3.kp _ _ (by simp) (q2.kp _ _ (by simp) (upd_same : (upd H4 l1 (.lst cvs)) l1 = _)))
        have q14 := ((q1.trans q2).trans q3).trans q4
        have ht1 := q4.tp _ _ (q3.tp _ _ (upd_same : (upd (upd H4 l1 (.lst cvs)) t1 (.tup [.int f, .int 0])) t1 = _))
        have ht2 := q4.tp _ _ (upd_same : (upd (upd (upd H4 l1 (.lst cvs)) t1 (.tup [.int f, .int 0])) t2 (.tup [.int sx, .int 1])) t2 = _)
        have hL4 := q14.kp _ _ (by simp) hL
        have lcv := hcv.len
        have lcv2 := hPc.len
        rw [List.length_map, List.length_drop] at lcv2
        refine ⟨_, _, _, _, rfl, rfl, hl1, upd_same, ?_, fun l3 n3 => ⟨_, rfl, l3, L, _, _, rfl, rfl, upd_same, (KT.new [] n3).kp _ _ (by simp) hL4, ?_, fun l4 n4 => ?_⟩⟩
        · rw [List.length_cons, List.length_singleton]
          exact Nat.le_trans (by omega : _ ≤ 1000) (by decide)
        · rw [List.length_append, List.length_cons, List.length_singleton]
          exact Nat.le_trans (by omega : _ ≤ 1000) (by decide)
        have q5 := (KT.new [] n3 (o := .lst (cvs ++ [V.ref t1, V.ref t2]))).trans (KT.new [] n4 (o := .lst (cvs ++ [V.ref t1, V.ref t2] ++ cvs2)))
        have q6 := q14.trans q5
        have hcv' : P2 (PrV _) cvs C := prs_keep (k5.trans q6) hcv
        have hp1 : PrV _ (.ref t1) (f, false) := PrV.keep q5 ⟨t1, rfl, ht1⟩
        have hp2 : PrV _ (.ref t2) (sx, true) := PrV.keep q5 ⟨t2, rfl, ht2⟩
        have hall := (hcv'.app (.cons hp1 (.cons hp2 .nil))).app (prs_keep q6 hPc)
        refine ⟨wi, l4, _, _, rfl, upd_same, hall, nodup_less O hfi hsi, ?_, fun gl5 v H5 ds k6 hg5 pm pw gt => ?_⟩
        · rw [← hall.len]
          rw [List.length_append, List.length_append, List.length_cons, List.length_singleton]
          omega
        have kk := q6.trans k6
        have hG5 := kk.kp _ _ (by simp) hG4
        have lgs : gvs.length ≤ 100 := by
          rw [hgv.len, ← hsim.len, lessG_len, List.length_drop, lz]
          omega
        refine ⟨G, gl5, _, _, rfl, rfl, hG5, hg5, ?_, ?_⟩
        · rw [List.length_singleton]
          exact Nat.le_trans (by omega : _ ≤ 1000) (by decide)
        have kA : KT [G] H5 (upd H5 G (.lst (gvs ++ [v]))) := KT.app (by simp) hG5
        have k5G : KT [G] H2 (upd H5 G (.lst (gvs ++ [v]))) := (k5'.trans (kk.mono fun _ h => nomatch h)).trans kA
        have kH : KT [] H (upd H5 G (.lst (gvs ++ [v]))) := (k5.trans kk).late nGH
        have hU6 := k5G.kp _ _ (by simp [nUG]) hU2
        -- gates.append(unequal[at])
        obtain ⟨uv, huv⟩ : ∃ uv, uvs[hh]? = some uv := ⟨_, List.getElem?_eq_getElem (by rw [hP.len, unG, List.length_map, lz]; exact hi1)⟩
        obtain ⟨ug, hug, rug⟩ := hP2.get huv
        have hz : (fs.zip ss)[hh]? = some (f, sx) := List.getElem?_zip_eq_some.mpr ⟨hfi, hsi⟩
        have eug : ug = (sx, [(f, true)]) := by
          rw [unG, List.getElem?_map, hz] at hug
          exact (Option.some.inj hug).symm
        subst eug
        refine ⟨_, rfl, .inl ⟨rfl, _, SqL.of upd_same⟩, _, rfl, _, rfl, U, _, _, _, rfl, rfl, SqL.of hU6, atI_nat huv, ?_⟩
        refine ⟨G, _, _, rfl, rfl, upd_same, ?_, ?_⟩
        · rw [List.length_append, List.length_singleton]
          exact Nat.lt_of_le_of_lt (by omega : _ ≤ 1000) (by decide)
        have kB : KT [G] (upd H5 G (.lst (gvs ++ [v]))) (upd (upd H5 G (.lst (gvs ++ [v]))) G (.lst (gvs ++ [v] ++ [uv]))) := KT.app (by simp) upd_same
        refine ⟨_, _, gvs ++ [v] ++ [uv], gs ++ [(wi, ds)] ++ [(sx, [(f, true)])], rfl, kH.late nGH, k5G.trans kB, upd_same, ?_, ?_, (hup.snoc pw).snoc (List.pairwise_singleton _ _)⟩
        · refine (((gts_keep (kk.mono fun _ h => nomatch h : KT [G] _ _) hgv4).snoc gt).mono fun _ _ => GtV.keep (kA.trans kB)).snoc (rug.keep (k5G.trans kB))
        · have ed : (fs.zip ss).drop (fs.length - (j + 1)) = (f, sx) :: (fs.zip ss).drop (fs.length - j) := by
            have h1 : fs.length - (j + 1) = hh := by omega
            have h2 : fs.length - j = hh + 1 := by omega
            obtain ⟨z1, z2⟩ := List.getElem?_eq_some_iff.mp hz
            rw [h1, h2, List.drop_eq_getElem_cons z1, z2]
          have em : ((fs.zip ss).drop (fs.length - j)).map (fun q => (q.2, false)) = (ss.drop (hh + 1)).map fun w => (w, false) := by
            have h2 : fs.length - j = hh + 1 := by omega
            rw [h2, List.map_drop]
            have : (fs.zip ss).map (fun q => (q.2, false)) = ss.map fun w => (w, false) := by
              have := congrArg (List.map fun w : Nat => (w, false)) (zip_map2 ls).1
              rw [List.map_map] at this
              exact this
            rw [this, ← List.map_drop]
          rw [ed, lessG, List.append_assoc gs]
          refine hsim.app ?_
          show Sim [_, _] [_, _]
          refine .cons ?_ (.cons (.refl _) .nil)
          rw [em]
          exact pm
      · rintro σ H3 ⟨y7, y8, gvs, gs, rfl, k3, k3', hG, hgv, hsim, hup⟩
        rw [Nat.sub_self, List.drop_zero] at hsim
        have hU3 := k3'.kp _ _ (by simp [nUG]) hU2
        refine ⟨_, rfl, _, rfl, G, U, _, _, rfl, rfl, hG, hU3, ?_, fun l nl => ⟨_, _, rfl, .inl ⟨SqL.of upd_same, fun t nt => ?_⟩⟩⟩
        · rw [hgv.len, ← hsim.len, lessG_len, hP.len, unG, List.length_map, lz]
          exact Nat.le_trans (by omega : _ ≤ 1000) (by decide)
        · have kk := (KT.new [] nl (o := .lst (gvs ++ uvs))).trans (KT.new [] nt (o := .tup (gvs ++ uvs)))
          refine q t _ _ (gs ++ unG (fs.zip ss)) (k3.trans kk) upd_same ((gts_keep kk hgv).app (gts_keep (k3'.trans (kk.mono fun _ h => nomatch h)) hP2)) (hsim.app (Sim.rfl' _)) fun g hg => ?_
          rcases List.mem_append.mp hg with h | h
          · exact hup g h
          · exact up_unG _ g h
end

end My

set_option Elab.async false
set_option linter.all false
set_option maxRecDepth 100000
namespace My
open PySem PySem.Spec PyProof.Rows L2
def bvs (bs : List Bool) : List V := bs.map fun (b : Bool) => V.int (b2 b)
theorem bvs_len (bs : List Bool) : (bvs bs).length = bs.length := List.length_map ..
theorem bvs_get {bs : List Bool} {i : Nat} (h : i < bs.length) : (bvs bs)[i]? = some (.int (b2 (st bs i))) := by
  unfold bvs st
  rw [List.getElem?_map, List.getElem?_eq_getElem h, List.getD_eq_getElem?_getD, List.getElem?_eq_getElem h]
  rfl
theorem bvs_set (bs : List Bool) (i : Nat) (b : Bool) : (bvs bs).set i (.int (b2 b)) = bvs (bs.set i b) := by
  unfold bvs
  rw [List.map_set]
theorem b2_inj {a b : Bool} : (b2 a = b2 b) ↔ a = b := by cases a <;> cases b <;> simp [b2]
theorem b2_not (a : Bool) : 1 - b2 a = b2 (!a) := by cases a <;> rfl
theorem dp_ints {K : PySem.W.Frag} {H : Hp} : ∀ xs : List Int, DpAll K H (xs.map V.int) (xs.map PyData.int)
  | [] => .nil
  | x :: r => .cons (.int x) (dp_ints r)
theorem lay_ints : ∀ xs : List Int, PyData.canLayAll0 (xs.map PyData.int) = true
  | [] => rfl
  | x :: r => by
    show (PyData.canLay0 (.int x) && PyData.canLayAll0 (r.map PyData.int)) = true
    rw [lay_ints r]
    rfl
theorem deep_ints : ∀ xs : List Int, PyData.depthAll (xs.map PyData.int) = 0
  | [] => rfl
  | x :: r => by
    show max (PyData.depth (.int x)) (PyData.depthAll (r.map PyData.int)) = 0
    rw [deep_ints r]
    rfl
theorem shaped_ints (xs : List Int) : SeqAt.shaped (.list (xs.map PyData.int)) = true := by
  unfold SeqAt.shaped
  rw [Bool.and_eq_true]
  refine ⟨lay_ints xs, decide_eq_true ?_⟩
  show PyData.depthAll (xs.map PyData.int) + 1 ≤ 64
  rw [deep_ints]
  decide
theorem shaped_intsT (xs : List Int) : SeqAt.shaped (.tuple (xs.map PyData.int)) = true := by
  unfold SeqAt.shaped
  rw [Bool.and_eq_true]
  refine ⟨lay_ints xs, decide_eq_true ?_⟩
  show PyData.depthAll (xs.map PyData.int) + 1 ≤ 64
  rw [deep_ints]
  decide
theorem ivs_int (ns : List Nat) : ivs ns = (ns.map fun (n : Nat) => (n : Int)).map V.int := by
  unfold ivs
  rw [List.map_map]
  rfl
theorem bvs_int (bs : List Bool) : bvs bs = (bs.map b2).map V.int := by
  unfold bvs
  rw [List.map_map]
  rfl
theorem shaped_nil : SeqAt.shaped (.list []) = true := shaped_ints []
/-- gates within a row of so many bits -/
def In (n : Nat) (gs : List Gt) : Prop := ∀ g ∈ gs, g.1 < n ∧ ∀ c ∈ g.2, c.1 < n
def spTu : Sp := fun vs H Q _ => ∃ (a b : Addr) (gvs : List V) (gs : List Gt) (bs : List Bool), vs = [.ref a, .ref b] ∧ H a = some (.tup gvs) ∧ P2 (GtV H) gvs gs ∧ H b = some (.lst (bvs bs)) ∧ In bs.length gs ∧ (∀ g ∈ gs, g.2.length ≤ 1000) ∧
  ∀ (t : Addr) (H' : Hp), KT [] H H' → H' t = some (.tup (bvs (runL gs bs))) → Q (.ref t) H'
def spSo : Sp := fun vs H Q _ => ∃ (dr l : Addr) (ws : List Nat), vs = [.ref dr, .ref l, .int ws.length] ∧ DrawAt H dr ∧ H l = some (.lst (ivs ws)) ∧ ws.length ≤ 1000 ∧
  ∀ (D : Addr) (H' : Hp) (us : List Nat), GS dr H H' → H' D = some (.lst (ivs us)) → us.Perm ws → Q (.ref D) H'
def spRe : Sp := fun vs H Q _ => ∃ (b l : Addr) (bs : List Bool) (ws : List Nat), vs = [.ref b, .ref l] ∧ H b = some (.lst (bvs bs)) ∧ H l = some (.lst (ivs ws)) ∧ (∀ w ∈ ws, w < bs.length) ∧ ws.length ≤ 1000 ∧
  ∀ (H' : Hp), KT [] H H' → Q (.int (val ws (st bs) : Nat)) H'
theorem val_snoc (a : List Nat) (w : Nat) (s : Sb) : val (a ++ [w]) s = val a s + (s w).toNat * 2 ^ a.length := by
  induction a with
  | nil => simp [val]
  | cons x r ih =>
    rw [List.cons_append, val, val, ih, List.length_cons, Nat.pow_succ]
    rw [Nat.mul_add, Nat.add_assoc]
    congr 2
    rw [← Nat.mul_assoc, Nat.mul_comm 2, Nat.mul_assoc, Nat.mul_comm 2]
theorem b2_nat (b : Bool) : b2 b = ((b.toNat : Nat) : Int) := by cases b <;> rfl
section
variable {P : Program} {w : World} {K : PySem.W.Frag} {mg : Str → Option Value} {base : Heap}
theorem ok_z_read (T : Txt K mg) : FnOk P w K mg base CX0 1 T.f_z_read T.d_z_read ["bits", "wires"] spRe := by
  refine T.F_z_read.ok sc_z_read (fun vs H Q E h => ?_) (fun cdv A outer s H vs Q E hr h => ?_)
  · obtain ⟨b, l, bs, ws, rfl, _⟩ := h
    rfl
  · obtain ⟨b, l, bs, ws, rfl, hb, hl, hw, hn, q⟩ := h
    refine ⟨_, (pss_one (ps_ret (pe_callB (cr_sum rfl) (by rfl) T.m_sum (by decide +kernel) (pa_cons (pe_lc (own := [("k", 2)]) (g := gName 2) (by rfl) sc_z_read.nd (pi_range1 (by rfl) T.m_range (pa_cons (pe_callB call_len_seq (by rfl) T.m_len (by decide +kernel) (pa_cons (pv 1) pa_nil)) pa_nil)) (blkOk_by (own := [("k", 2)]) (N := N_z_read) (sc := defScope s_z_read) (by decide +kernel)) (fun _ _ _ _ _ => (pg_name (i := 2) sc_z_read.nd rfl (Or.inl rfl))) (fun _ _ _ _ _ => pts_nil) (fun _ _ _ _ _ => (pe_op op_shl (pe_ix (ixL (K := K) rfl) (pv 0) (pe_ix (ixL (K := K) rfl) (pv 1) (pv 2) (fun _ _ => rfl)) (fun _ _ => rfl)) (pv 2)))) pa_nil)))), ?_⟩
    refine ⟨_, rfl, _, _, rfl, .inl (SqL.of hl), ((ivs ws).length : Int), rfl, by omega, by rw [ivs_len]; omega, fun D nD => ?_⟩
    have e0 : ((ivs ws).length : Int).toNat = ws.length := by rw [ivs_len]; rfl
    rw [e0]
    refine lc_range (fun i H1 => ∃ L : List Int, KT [] H H1 ∧ H1 D = some (.lst (L.map V.int)) ∧ L.length = i ∧ L.sum = (val (ws.take i) (st bs) : Nat)) ?_ ?_ ?_
    · exact ⟨[], KT.new _ nD, upd_same, rfl, rfl⟩
    · rintro i H1 hi ⟨L, k, hD, hL, hs⟩
      have hwi : ws[i]? = some ws[i] := List.getElem?_eq_getElem hi
      have hbi := hw ws[i] (List.getElem_mem hi)
      refine ⟨rfl, ?_⟩
      refine ⟨_, rfl, _, rfl, _, rfl, l, _, _, _, rfl, rfl, SqL.of (k.kp _ _ (by simp) hl), (by rw [Int.zero_add]; exact ivs_at hwi), b, _, _, _, rfl, rfl, SqL.of (k.kp _ _ (by simp) hb), atI_nat (bvs_get hbi), _, rfl, _, _, rfl, rfl, ⟨by omega, by omega, ?_⟩, ?_⟩
      · cases st bs ws[i] <;> decide
      · refine ⟨_, hD, ?_, L ++ [b2 (st bs ws[i]) * 2 ^ i], k.late nD, ?_, ?_, ?_⟩
        · rw [List.length_map, hL]
          exact Nat.lt_of_le_of_lt (by omega : _ ≤ 1000) (by decide)
        · rw [upd_same, List.map_append]
          show some (HO.lst (_ ++ [V.int (b2 (st bs ws[i]) * 2 ^ ((0 : Int) + (i : Nat)).toNat)])) = _
          rw [Int.zero_add]
          rfl
        · rw [List.length_append, hL]; rfl
        · rw [List.sum_append, hs, List.take_succ, hwi]
          show _ = (val (ws.take i ++ [ws[i]]) (st bs) : Int)
          rw [val_snoc, List.length_take, Nat.min_eq_left (by omega), b2_nat]
          simp
    · rintro H1 ⟨L, k, hD, hL, hs⟩
      rw [List.take_length] at hs
      refine ⟨_, L, rfl, SqL.of hD, ?_⟩
      rw [hs]
      exact q _ k
theorem perm_erase {l : List Nat} {n : Nat} (h : n < l.length) : (l[n] :: l.eraseIdx n).Perm l := by
  have e : l = l.take n ++ l[n] :: l.drop (n + 1) := by rw [← List.drop_eq_getElem_cons h, List.take_append_drop]
  rw [List.eraseIdx_eq_take_drop_succ]
  exact List.perm_middle.symm.trans (.of_eq e.symm)
theorem ivs_erase (l : List Nat) (n : Nat) : (ivs l).eraseIdx n = ivs (l.eraseIdx n) := by
  rw [List.eraseIdx_eq_take_drop_succ, List.eraseIdx_eq_take_drop_succ, ivs_take, ivs_drop]
  unfold ivs
  rw [List.map_append]
theorem ixn_nat {n m : Nat} (h : n < m) : ixN m (n : Int) = some n := by
  have h1 : (0 : Int) ≤ n := by omega
  have h2 : (n : Int) < m := by omega
  simp only [ixN, h1, h2, if_true, Int.toNat_natCast]
theorem seqIx {n m : Nat} (h : n < m) : seqIndex? (n : Int) m = some n := by
  unfold seqIndex?
  have h1 : ¬ (n : Int) < 0 := by omega
  simp [h1, h]
theorem ok_z_some (T : Txt K mg) : FnOk P w K mg base CX0 2 T.f_z_some T.d_z_some ["draw", "wires", "many"] spSo := by
  have G_z_take := okG_z_take (P := P) (w := w) (base := base) T
  refine T.F_z_some.ok sc_z_some (fun vs H Q E h => ?_) (fun cdv A outer s H vs Q E hr h => ?_)
  · obtain ⟨dr, l, ws, rfl, _⟩ := h
    rfl
  · obtain ⟨dr, l, ws, rfl, hd, hl, hn, q⟩ := h
    refine ⟨_, (pss_cons (ps_set (i := 3) sc_z_some.nd rfl (Or.inr rfl) (pe_callTy call_list_of (by rfl) T.m_list (by decide +kernel) (pa_cons (pv 1) pa_nil)))
      (pss_one (ps_ret (pe_lc (own := [("k", 4)]) (g := gName 4) (by rfl) sc_z_some.nd (pi_range1 (by rfl) T.m_range (pa_cons (pv 2) pa_nil)) (blkOk_by (own := [("k", 4)]) (N := N_z_some) (sc := defScope s_z_some) (by decide +kernel)) (fun _ _ _ _ _ => (pg_name (i := 4) sc_z_some.nd rfl (Or.inl rfl))) (fun _ _ _ _ _ => pts_nil) (fun _ _ _ _ _ => (pe_bmK (K := K) rfl PySem.F.plainAttrs_list PySem.F.slot_list_pop PySem.F.type_list_pop mt_popAt (pv 3) (pa_cons (pe_call G_z_take (hr.mono (by omega)) (by rfl) T.g_z_take T.F_z_take.kp T.b_z_take .nil pass0 (pa_cons (pv 0) (pa_cons (pe_callB (lnQ (K := K) rfl) (by rfl) T.m_len (by decide +kernel) (pa_cons (pv 3) pa_nil)) pa_nil))) pa_nil))))))), ?_⟩
    refine ⟨_, rfl, l, _, rfl, .inl (SqL.of hl), fun R nR => ?_⟩
    obtain ⟨xd, hxd⟩ := hd.some
    have nRd : R ≠ dr := fun z => by rw [z, hxd] at nR; cases nR
    have g0 : GS dr H (upd H R (.lst (ivs ws))) := GS.new hd nR
    refine ⟨_, rfl, (ws.length : Int), rfl, by omega, by omega, fun D nD => ?_⟩
    rw [Int.toNat_natCast]
    have nDR : D ≠ R := fun z => by rw [z, upd_same] at nD; cases nD
    have nDH : H D = none := g0.k.free nD
    refine lc_range (fun i H1 => ∃ us rs : List Nat, GS dr H H1 ∧ H1 R = some (.lst (ivs rs)) ∧ H1 D = some (.lst (ivs us)) ∧ (us ++ rs).Perm ws ∧ us.length = i) ?_ ?_ ?_
    · refine ⟨[], ws, g0.late hd nDH, ?_, upd_same, .refl _, rfl⟩
      rw [upd_ne nDR.symm]
      exact upd_same
    · rintro i H1 hi ⟨us, rs, g1, hR, hD, pm, hu⟩
      have lrs : rs.length + i = ws.length := by
        have := pm.length_eq
        rw [List.length_append] at this
        omega
      refine ⟨rfl, ?_⟩
      refine ⟨_, rfl, .inl ⟨rfl, _, SqL.of hR⟩, _, rfl, _, rfl, _, _, rfl, .inl (SqL.of hR), dr, ((ivs rs).length : Int), rfl, g1.d, by rw [ivs_len]; omega, by rw [ivs_len]; exact Int.le_trans (by omega : _ ≤ (1000 : Int)) (by decide), fun r H2 r0 r1 g2 => ?_⟩
      obtain ⟨n, rfl⟩ := int_nat r0
      rw [ivs_len] at r1
      have hn2 : n < rs.length := by omega
      have hR2 := g2.k.kp _ _ (by simp [nRd]) hR
      have nDd : D ≠ dr := fun z => by rw [z, hxd] at nDH; cases nDH
      have hD2 := g2.k.kp _ _ (by simp [nDd]) hD
      refine ⟨R, _, _, n, .int ((rs[n] : Nat) : Int), rfl, rfl, hR2, by omega, by omega, ?_, ?_, ?_⟩
      · rw [ivs_len]
        exact seqIx hn2
      · unfold ivs
        rw [List.getElem?_map, List.getElem?_eq_getElem hn2]
        rfl
      · refine ⟨ivs us, ?_, ?_, us ++ [rs[n]], rs.eraseIdx n, ?_, ?_, ?_, ?_, ?_⟩
        · rw [upd_ne nDR]
          exact hD2
        · rw [ivs_len]
          exact Nat.lt_of_le_of_lt (by omega : _ ≤ 1000) (by decide)
        · exact ((g1.trans g2).late hd nR).late hd nDH
        · rw [upd_ne nDR.symm, upd_same, ivs_erase]
        · rw [upd_same, ivs_snoc]
        · rw [List.append_assoc]
          refine .trans (List.Perm.append_left _ ?_) pm
          exact perm_erase hn2
        · rw [List.length_append, hu]
          rfl
    · rintro H1 ⟨us, rs, g1, hR, hD, pm, hu⟩
      have lrs : rs = [] := by
        have := pm.length_eq
        rw [List.length_append] at this
        exact List.length_eq_zero_iff.mp (by omega)
      subst lrs
      rw [List.append_nil] at pm
      exact q D _ us g1 hD pm
set_option maxHeartbeats 4000000 in
theorem ok_z_turned (T : Txt K mg) : FnOk P w K mg base CX0 1 T.f_z_turned T.d_z_turned ["gates", "bits"] spTu := by
  refine T.F_z_turned.ok sc_z_turned (fun vs H Q E h => ?_) (fun cdv A outer s H vs Q E hr h => ?_)
  · obtain ⟨a, b, gvs, gs, bs, rfl, _⟩ := h
    rfl
  · obtain ⟨a, b, gvs, gs, bs, rfl, ha, hg, hb, hin, hln, q⟩ := h
    refine ⟨_, (pss_cons (ps_set (i := 1) sc_z_turned.nd rfl (Or.inr rfl) (pe_callTy call_list_of (by rfl) T.m_list (by decide +kernel) (pa_cons (pv 1) pa_nil)))
      (pss_cons (ps_for PassesOwn.never rfl (pi_tup (pv 0)) (pg_tup (by rfl) (pgs_cons (pg_name (i := 2) sc_z_turned.nd rfl (Or.inl rfl)) (pgs_cons (pg_name (i := 3) sc_z_turned.nd rfl (Or.inl rfl)) pgs_nil)))
        (pss_one (ps_if (pt_cmpR (op_eqD hr.units) (pe_lc (own := [("wire", 4), ("value", 5)]) (g := gTup K 2 (gCons (gName 4) (gCons (gName 5) gNil))) (by rfl) sc_z_turned.nd (pi_tup (pv 3)) (blkOk_by (own := [("wire", 4), ("value", 5)]) (N := N_z_turned) (sc := defScope s_z_turned) (by decide +kernel)) (fun _ _ _ _ _ => (pg_tup (by rfl) (pgs_cons (pg_name (i := 4) sc_z_turned.nd rfl (Or.inl rfl)) (pgs_cons (pg_name (i := 5) sc_z_turned.nd rfl (Or.inl rfl)) pgs_nil)))) (fun _ _ _ _ _ => (pts_one (pt_cmpR op_ne (pe_ix (ixL (K := K) rfl) (pv 1) (pv 4) (fun _ _ => rfl)) (pv 5) (nomark _)))) (fun _ _ _ _ _ => (pv 4))) (pe_lst pa_nil) (nomark _))
          (pss_one (ps_asg (pe_op op_sub pe_int (pe_ix ix_list (pv 1) (pv 2) (fun _ _ => rfl))) (pg_sub (pv 1) (pv 2) set_list)))
          pss_nil)))
      (pss_one (ps_ret (pe_callTy call_tuple_of (by rfl) T.m_tuple (by decide +kernel) (pa_cons (pv 1) pa_nil)))))), ?_⟩
    refine ⟨_, rfl, b, _, rfl, .inl (SqL.of hb), fun B nB => ?_⟩
    have k0 := KT.new [] nB (o := .lst (bvs bs))
    refine ⟨_, rfl, a, rfl, ⟨_, SqT.of (k0.tp _ _ ha)⟩, ?_⟩
    refine for_it (walk_tup (K := K) (a := a) (xs := gvs)) (fun i σ H1 => ∃ (x2 x3 : Option V), σ = [some (.ref a), some (.ref B), x2, x3, none, none] ∧ KT [] H H1 ∧ H1 B = some (.lst (bvs (runL (gs.take i) bs)))) ?_ ?_ ?_ ?_
    · exact ⟨none, none, rfl, k0, upd_same⟩
    · rintro i σ H1 _ ⟨_, _, _, k, _⟩
      exact SqT.of (k.tp _ _ ha)
    · rintro i x σ H1 H2 hi ⟨x2, x3, rfl, k, hB⟩ ⟨rfl, hx⟩
      obtain ⟨g, h1, t, u, vs, rfl, ht, hu, hP⟩ := hg.get hx
      have mg := List.mem_of_getElem? h1
      obtain ⟨in1, in2⟩ := hin g mg
      have hl := hln g mg
      obtain ⟨cur, ecur⟩ : ∃ cur, runL (gs.take i) bs = cur := ⟨_, rfl⟩
      have lcur : cur.length = bs.length := by rw [← ecur, runL_len]
      rw [ecur] at hB
      have enext : runL (gs.take (i + 1)) bs = actL g cur := by
        rw [List.take_succ, h1, ← ecur]
        exact runL_snoc _ _ _
      rw [enext]
      refine ⟨t, _, rfl, SqT.of (k.tp _ _ ht), rfl, _, _, rfl, _, _, rfl, rfl, ?_⟩
      refine ⟨_, rfl, u, rfl, ⟨_, SqT.of (k.tp _ _ hu)⟩, fun D nD => ?_⟩
      have nBD : B ≠ D := ne_of_none hB nD
      refine lc_it (walk_tup (K := K) (a := u) (xs := vs)) (fun j H3 => ∃ ns : List Nat, KT [] H2 H3 ∧ H3 D = some (.lst (ivs ns)) ∧ ns.isEmpty = holds (g.2.take j) (st cur) ∧ ns.length ≤ j) ?_ ?_ ?_ ?_
      · exact ⟨[], KT.new _ nD, upd_same, rfl, Nat.le_refl _⟩
      · rintro j H3 _ ⟨ns, k3, _⟩
        exact SqT.of (k3.tp _ _ (k.tp _ _ hu))
      · rintro j x H3 H4 hj ⟨ns, k3, hD, hns, hnl⟩ ⟨rfl, hx⟩
        obtain ⟨c, hc1, t2, rfl, ht2⟩ := hP.get hx
        have hci := in2 c (List.mem_of_getElem? hc1)
        have hjl : j < g.2.length := by rw [← hP.len]; exact hj
        have eh : holds (g.2.take (j + 1)) (st cur) = (holds (g.2.take j) (st cur) && (st cur c.1 == c.2)) := by
          rw [List.take_succ, hc1, holds_app]
          show (_ && holds [c] (st cur)) = _
          rw [holds_cons]
          show (_ && (_ && true)) = _
          rw [Bool.and_true]
        refine ⟨t2, _, rfl, SqT.of (k3.tp _ _ (k.tp _ _ ht2)), rfl, _, _, rfl, _, _, rfl, rfl, by rfl, ?_⟩
        refine ⟨_, rfl, _, rfl, B, _, _, _, rfl, rfl, SqL.of (k3.kp _ _ (by simp) hB), atI_nat (bvs_get (by rw [lcur]; exact hci)), _, rfl, rfl, _, rfl, ?_⟩
        by_cases e : st cur c.1 = c.2
        · refine ite_f (not_bl ?_) ⟨ns, k3, hD, ?_, by omega⟩
          · show (!decide (V.int (b2 (st cur c.1)) = V.int (b2 c.2))) = false
            rw [e]
            simp
          · rw [eh, hns, e]
            simp
        · refine ite_t ?_ ⟨_, rfl, _, hD, ?_, ns ++ [c.1], k3.late nD, ?_, ?_, ?_⟩
          · show (!decide (V.int (b2 (st cur c.1)) = V.int (b2 c.2))) = true
            rw [decide_eq_false (fun z => e (b2_inj.mp (V.int.inj z)))]
            rfl
          · rw [ivs_len]
            exact Nat.lt_of_le_of_lt (by omega : _ ≤ 1000) (by decide)
          · rw [upd_same, ivs_snoc]
          · have e3 : (st cur c.1 == c.2) = false := by
              rw [beq_eq_false_iff_ne]
              exact e
            rw [eh, e3, Bool.and_false]
            simp
          · rw [List.length_append]
            simp
            omega
      · rintro H3 ⟨ns, k3, hD, hns, _⟩
        rw [hP.len, List.take_length] at hns
        refine ⟨Nat.zero_le _, fun l nl => ?_⟩
        have kl := KT.new [] nl (o := .lst [])
        refine ⟨.list ((ns.map fun (n : Nat) => (n : Int)).map PyData.int), .list [], .lst (SqL.of (kl.kp _ _ (by simp) hD)) ?_, .lst (SqL.of upd_same) .nil, shaped_ints _, shaped_nil, _, rfl, ?_⟩
        · rw [ivs_int]
          exact dp_ints _
        · have eE : PyData.eqv (.list ((ns.map fun (n : Nat) => (n : Int)).map PyData.int)) (.list []) = holds g.2 (st cur) := by
            rw [eqv_nil, ← hns]
            cases ns <;> rfl
          rw [eE]
          have hB4 := kl.kp _ _ (by simp) (k3.kp _ _ (by simp) hB)
          have k4 := (k.trans k3).trans kl
          cases hh : holds g.2 (st cur) with
          | false =>
            refine ite_f (by decide) ⟨_, _, rfl, k4, ?_⟩
            rw [hB4, actL, hh]
            rfl
          | true =>
            refine ite_t rfl ?_
            refine ⟨_, rfl, _, rfl, B, _, _, _, rfl, rfl, SqL.of hB4, atI_nat (bvs_get (by rw [lcur]; exact in1)), _, _, rfl, rfl, _, rfl, _, rfl, B, _, _, g.1, rfl, rfl, hB4, ?_, ?_⟩
            · rw [bvs_len]
              exact ixn_nat (by rw [lcur]; exact in1)
            · refine ⟨_, _, rfl, k4.late nB, ?_⟩
              rw [upd_same, actL, hh]
              show some (HO.lst ((bvs cur).set g.1 (V.int (1 - b2 (st cur g.1))))) = _
              rw [b2_not, bvs_set]
              rfl
    · rintro σ H1 ⟨x2, x3, rfl, k, hB⟩
      rw [hg.len, List.take_length] at hB
      refine ⟨_, rfl, B, _, rfl, .inl ⟨SqL.of hB, fun t nt => ?_⟩⟩
      exact q t _ (k.trans (KT.new _ nt)) upd_same
end

end My

set_option Elab.async false
set_option linter.all false
set_option maxRecDepth 100000
namespace My
open PySem PySem.Spec PyProof.Rows L2
/-! ### the drawn wires -/
theorem parts {us : List Nat} {m : Nat} (hl : us.length = 3 * m + 6) : ∃ wi rest, us[3 * m + 1]? = some wi ∧ us.drop (3 * m + 2) = rest ∧ us = us.take m ++ ((us.drop m).take m ++ ((us.drop (2 * m)).take (m + 1) ++ (wi :: rest))) := by
  have h1 : 3 * m + 1 < us.length := by omega
  refine ⟨us[3 * m + 1], _, List.getElem?_eq_getElem h1, rfl, ?_⟩
  have e1 : us[3 * m + 1] :: us.drop (3 * m + 2) = us.drop (3 * m + 1) := (List.drop_eq_getElem_cons h1).symm
  have e2 : (us.drop (2 * m)).take (m + 1) ++ us.drop (3 * m + 1) = us.drop (2 * m) := by
    have : us.drop (3 * m + 1) = (us.drop (2 * m)).drop (m + 1) := by rw [List.drop_drop]; congr 1; omega
    rw [this, List.take_append_drop]
  have e3 : (us.drop m).take m ++ us.drop (2 * m) = us.drop m := by
    have : us.drop (2 * m) = (us.drop m).drop m := by rw [List.drop_drop]; congr 1; omega
    rw [this, List.take_append_drop]
  rw [e1, e2, e3, List.take_append_drop]
theorem ints_nat {l : List Nat} {ns : List Int} (p : ns.Perm (l.map fun (n : Nat) => (n : Int))) : ∃ l' : List Nat, ns = (l'.map fun (n : Nat) => (n : Int)) ∧ l'.Perm l := by
  refine ⟨ns.map Int.toNat, ?_, ?_⟩
  · rw [List.map_map]
    refine (List.map_id' ns).symm.trans (List.map_congr_left fun x hx => ?_)
    obtain ⟨n, _, rfl⟩ := List.mem_map.mp (p.mem_iff.mp hx)
    rfl
  · have := p.map Int.toNat
    rw [List.map_map] at this
    refine this.trans (.of_eq ?_)
    exact List.map_id' l
/-- what is drawn -/
structure Drawn (m : Nat) (fs ss sp : List Nat) (wi : Nat) (C : List Ct) : Prop where
  m1 : 1 ≤ m
  m5 : m ≤ 5
  lf : fs.length = m
  ad : AddOk C fs ss
  le : LessOk C wi fs ss
  cp : ∀ c ∈ C, c.1 ∉ sp
  ls : sp.length = m + 1
  bf : ∀ x ∈ fs, x < 3 * m + 6
  bs : ∀ x ∈ ss, x < 3 * m + 6
  bp : ∀ x ∈ sp, x < 3 * m + 6
  bw : wi < 3 * m + 6
  bc : ∀ c ∈ C, c.1 < 3 * m + 6
theorem drawn {us : List Nat} {m : Nat} (m1 : 1 ≤ m) (m5 : m ≤ 5) (pm : us.Perm (List.range (3 * m + 6))) {wi : Nat} {rest cw : List Nat} {C : List Ct} {c : Nat} (h1 : us[3 * m + 1]? = some wi) (h2 : us.drop (3 * m + 2) = rest)
    (h3 : us = us.take m ++ ((us.drop m).take m ++ ((us.drop (2 * m)).take (m + 1) ++ (wi :: rest)))) (hc : c ≤ 2) (hw : cw.Perm (rest.take c)) (hC : C.map (·.1) = cw) : Drawn m (us.take m) ((us.drop m).take m) ((us.drop (2 * m)).take (m + 1)) wi C := by
  have hl : us.length = 3 * m + 6 := by rw [pm.length_eq, List.length_range]
  have nd : us.Nodup := pm.nodup_iff.mpr List.nodup_range
  have bd : ∀ x ∈ us, x < 3 * m + 6 := fun x hx => List.mem_range.mp (pm.mem_iff.mp hx)
  have l1 : (us.take m).length = m := by rw [List.length_take]; omega
  have l2 : ((us.drop m).take m).length = m := by rw [List.length_take, List.length_drop]; omega
  have l3 : ((us.drop (2 * m)).take (m + 1)).length = m + 1 := by rw [List.length_take, List.length_drop]; omega
  obtain ⟨fs, ef⟩ : ∃ x, us.take m = x := ⟨_, rfl⟩
  obtain ⟨ss, es⟩ : ∃ x, (us.drop m).take m = x := ⟨_, rfl⟩
  obtain ⟨sp, ep⟩ : ∃ x, (us.drop (2 * m)).take (m + 1) = x := ⟨_, rfl⟩
  rw [ef, es, ep] at h3 ⊢
  rw [ef] at l1
  rw [es] at l2
  rw [ep] at l3
  rw [h3] at nd
  obtain ⟨n1, nd, d1⟩ := List.nodup_append.mp nd
  obtain ⟨n2, nd, d2⟩ := List.nodup_append.mp nd
  obtain ⟨n3, nd, d3⟩ := List.nodup_append.mp nd
  obtain ⟨d4, nr⟩ := List.nodup_cons.mp nd
  have cr : ∀ c ∈ C, c.1 ∈ rest := fun c hc' => by
    have : c.1 ∈ cw := by rw [← hC]; exact List.mem_map_of_mem hc'
    exact List.mem_of_mem_take (hw.mem_iff.mp this)
  have nC : (C.map (·.1)).Nodup := by
    rw [hC]
    exact hw.nodup_iff.mpr (nr.sublist (List.take_sublist _ _))
  have lC : C.length ≤ 10 := by
    have e := hw.length_eq
    rw [← hC, List.length_map, List.length_take] at e
    omega
  have inr : ∀ x, x ∈ rest → x ∈ wi :: rest := fun x hx => List.mem_cons_of_mem _ hx
  have cf : ∀ c ∈ C, c.1 ∉ fs := fun c hc' z => d1 _ z _ (List.mem_append_right _ (List.mem_append_right _ (inr _ (cr c hc')))) rfl
  have cs : ∀ c ∈ C, c.1 ∉ ss := fun c hc' z => d2 _ z _ (List.mem_append_right _ (inr _ (cr c hc'))) rfl
  have fsd : ∀ f ∈ fs, f ∉ ss := fun f hf z => d1 _ hf _ (List.mem_append_left _ z) rfl
  have ms : ∀ x, (x ∈ fs ∨ x ∈ ss ∨ x ∈ sp ∨ x ∈ wi :: rest) → x < 3 * m + 6 := fun x hx => bd x (by
    rw [h3]
    simp only [List.mem_append]
    exact hx)
  exact {
    m1 := m1, m5 := m5, lf := l1, ls := l3
    ad := ⟨n1, cf, fun b hb z => fsd b z hb, nC, cs, by omega, by omega, lC⟩
    le := ⟨n2, fsd, fun z => d1 _ z _ (List.mem_append_right _ (List.mem_append_right _ List.mem_cons_self)) rfl, fun z => d2 _ z _ (List.mem_append_right _ List.mem_cons_self) rfl, nC, cf, cs, fun c hc' z => d4 (by rw [← z]; exact cr c hc'), by omega, by omega, lC⟩
    cp := fun c hc' z => d3 _ z _ (inr _ (cr c hc')) rfl
    bf := fun x hx => ms x (.inl hx)
    bs := fun x hx => ms x (.inr (.inl hx))
    bp := fun x hx => ms x (.inr (.inr (.inl hx)))
    bw := ms wi (.inr (.inr (.inr List.mem_cons_self)))
    bc := fun c hc' => ms _ (.inr (.inr (.inr (inr _ (cr c hc'))))) }
/-- the drawn things in the heap -/
structure Inst (H : Hp) (dr : Addr) (m : Nat) (fs ss sp : List Nat) (wi : Nat) (C : List Ct) (la lb lp lc ta tt : Addr) : Prop where
  d : DrawAt H dr
  ha : H la = some (.lst (ivs fs)) ∧ la ≠ dr
  hb : H lb = some (.lst (ivs ss)) ∧ lb ≠ dr
  hp : H lp = some (.lst (ivs sp)) ∧ lp ≠ dr
  hc : ∃ cvs, H lc = some (.lst cvs) ∧ lc ≠ dr ∧ P2 (PrV H) cvs C
  ta : ∃ gvs gs, H ta = some (.tup gvs) ∧ P2 (GtV H) gvs gs ∧ Sim (addG C fs ss) gs ∧ In (3 * m + 6) gs ∧ ∀ g ∈ gs, g.2.length ≤ 1000
  tt : ∃ gvs gs, H tt = some (.tup gvs) ∧ P2 (GtV H) gvs gs ∧ Sim (lessG C wi (fs.zip ss) ++ unG (fs.zip ss)) gs ∧ In (3 * m + 6) gs ∧ ∀ g ∈ gs, g.2.length ≤ 1000
theorem Inst.keep {H H' : Hp} {dr : Addr} {m : Nat} {fs ss sp : List Nat} {wi : Nat} {C : List Ct} {la lb lp lc ta tt : Addr} (I : Inst H dr m fs ss sp wi C la lb lp lc ta tt) (g : GS dr H H') : Inst H' dr m fs ss sp wi C la lb lp lc ta tt where
  d := g.d
  ha := ⟨g.k.kp _ _ (by simp [I.ha.2]) I.ha.1, I.ha.2⟩
  hb := ⟨g.k.kp _ _ (by simp [I.hb.2]) I.hb.1, I.hb.2⟩
  hp := ⟨g.k.kp _ _ (by simp [I.hp.2]) I.hp.1, I.hp.2⟩
  hc := let ⟨cvs, h1, h2, h3⟩ := I.hc; ⟨cvs, g.k.kp _ _ (by simp [h2]) h1, h2, prs_keep g.k h3⟩
  ta := let ⟨gvs, gs, h1, h2, h3⟩ := I.ta; ⟨gvs, gs, g.k.tp _ _ h1, gts_keep g.k h2, h3⟩
  tt := let ⟨gvs, gs, h1, h2, h3⟩ := I.tt; ⟨gvs, gs, g.k.tp _ _ h1, gts_keep g.k h2, h3⟩
theorem GOk.of {n : Nat} {g : Gt} (h1 : g.1 < n) (h2 : ∀ c ∈ g.2, c.1 < n) (h3 : (g.2.map (·.1)).Pairwise (· < ·)) (h4 : ∀ c ∈ g.2, c.1 ≠ g.1) : GOk n g := ⟨h1, h2, h3, h4⟩

theorem incG_wf {C : List Ct} {ts : List Nat} (nd : ts.Nodup) (hC : ∀ c ∈ C, c.1 ∉ ts) {g : Gt} (h : g ∈ incG C ts) : (∀ c ∈ g.2, c.1 ≠ g.1) ∧ g.2.length ≤ C.length + ts.length := by
  obtain ⟨i, hi, rfl⟩ := List.mem_map.mp h
  have hi := List.mem_range.mp hi
  have hk : ts.length - 1 - i < ts.length := by omega
  have eg : (incL C ts i).1 = ts[ts.length - 1 - i] := by
    unfold incL
    rw [List.getD_eq_getElem?_getD, List.getElem?_eq_getElem hk]
    rfl
  refine ⟨fun c hc => ?_, ?_⟩
  · rw [eg]
    rcases List.mem_append.mp hc with h | h
    · exact fun z => hC c h (by rw [z]; exact List.getElem_mem hk)
    · obtain ⟨x, hx, rfl⟩ := List.mem_map.mp h
      intro z
      obtain ⟨j, hj, e⟩ := List.getElem_of_mem hx
      rw [List.length_take] at hj
      rw [List.getElem_take] at e
      have hz : x = ts[ts.length - 1 - i] := z
      have := (List.getElem_inj (h₀ := (by omega : j < ts.length)) (h₁ := hk) nd).mp (e.trans hz)
      omega
  · show (C ++ _).length ≤ _
    rw [List.length_append, List.length_map, List.length_take]
    omega
theorem addG_wf {C : List Ct} : ∀ {ss ts : List Nat}, ts.Nodup → (∀ c ∈ C, c.1 ∉ ts) → (∀ b ∈ ss, b ∉ ts) → ∀ {g : Gt}, g ∈ addG C ts ss → (∀ c ∈ g.2, c.1 ≠ g.1) ∧ g.2.length ≤ C.length + 1 + ts.length
  | [], _, _, _, _, _, h => nomatch h
  | b :: r, ts, nd, hC, hs, g, h => by
    rcases List.mem_append.mp h with h | h
    · have := incG_wf nd (C := C ++ [(b, true)]) (fun c hc => by
        rcases List.mem_append.mp hc with h | h
        · exact hC c h
        · rw [List.mem_singleton.mp h]; exact hs b List.mem_cons_self) h
      rw [List.length_append] at this
      exact this
    · have := addG_wf (ss := r) (ts := ts.tail) (nd.sublist (List.tail_sublist ts)) (fun c hc z => hC c hc (List.mem_of_mem_tail z)) (fun b hb z => hs b (List.mem_cons_of_mem _ hb) (List.mem_of_mem_tail z)) h
      rw [List.length_tail] at this
      exact ⟨this.1, by omega⟩
theorem gok_perm {n : Nat} {t : Nat} {c d : List Ct} (pm : c.Perm d) (h1 : t < n) (h2 : ∀ x ∈ c, x.1 < n) (h4 : ∀ x ∈ c, x.1 ≠ t) (h5 : c.length ≤ 1000) (up : (d.map (·.1)).Pairwise (· < ·)) : d.length ≤ 1000 ∧ GOk n (t, d) :=
  ⟨by rw [← pm.length_eq]; exact h5, h1, fun x hx => h2 x (pm.mem_iff.mpr hx), up, fun x hx => h4 x (pm.mem_iff.mpr hx)⟩
theorem gok_in {n : Nat} {gs : List Gt} (h : ∀ g ∈ gs, g.2.length ≤ 1000 ∧ GOk n g) : In n gs := fun g hg => ⟨(h g hg).2.1, (h g hg).2.2.1⟩
section
variable {m : Nat} {fs ss sp : List Nat} {wi : Nat} {C : List Ct} {gs : List Gt}
theorem gok_add (D : Drawn m fs ss sp wi C) (hS : Sim (addG C fs ss) gs) (U : Up gs) : ∀ g ∈ gs, g.2.length ≤ 1000 ∧ GOk (3 * m + 6) g := fun g hg => by
  obtain ⟨c, h1, pm⟩ := hS.mem (t := g.1) (d := g.2) hg
  obtain ⟨m1, k, ek, hk⟩ := addG_mem h1
  obtain ⟨w1, w2⟩ := addG_wf D.ad.nt D.ad.ct D.ad.st h1
  have a := D.ad.lt
  have b := D.ad.lc
  refine gok_perm pm (D.bf _ m1) (fun x hx => ?_) w1 (Nat.le_trans w2 (by omega)) (U g hg)
  have ek : c = C ++ k := ek
  rw [ek] at hx
  rcases List.mem_append.mp hx with h | h
  · exact D.bc x h
  · rcases hk x h with h | h
    · exact D.bf _ h
    · exact D.bs _ h
theorem gok_less (D : Drawn m fs ss sp wi C) (hS : Sim (lessG C wi (fs.zip ss) ++ unG (fs.zip ss)) gs) (U : Up gs) : ∀ g ∈ gs, g.2.length ≤ 1000 ∧ GOk (3 * m + 6) g := fun g hg => by
  obtain ⟨c, h1, pm⟩ := hS.mem (t := g.1) (d := g.2) hg
  have A := D.le.apart
  have a := D.ad.lt
  have b := D.ad.lc
  have pf : ∀ p ∈ fs.zip ss, p.1 < 3 * m + 6 ∧ p.2 < 3 * m + 6 := fun p hp => ⟨D.bf _ (List.of_mem_zip hp).1, D.bs _ (List.of_mem_zip hp).2⟩
  have one : ∀ p ∈ fs.zip ss, (g.1, c) = (p.2, [(p.1, true)]) → g.2.length ≤ 1000 ∧ GOk (3 * m + 6) g := fun p hp e => by
    have e1 : g.1 = p.2 := congrArg Prod.fst e
    have e2 : c = [(p.1, true)] := congrArg Prod.snd e
    refine gok_perm pm (by rw [e1]; exact (pf p hp).2) (fun x hx => ?_) (fun x hx => ?_) (by rw [e2]; exact Nat.le_of_ble_eq_true rfl) (U g hg)
    · rw [e2] at hx
      rw [List.mem_singleton.mp hx]
      exact (pf p hp).1
    · rw [e2] at hx
      rw [List.mem_singleton.mp hx, e1]
      exact A.fs p hp p hp
  rcases List.mem_append.mp h1 with h1 | h1
  · rcases lessG_mem h1 with ⟨h2, p, r, pre, e3, e4⟩ | ⟨p, hp, e⟩
    · have h2 : g.1 = wi := h2
      have e4 : c = C ++ [(p.1, false), (p.2, true)] ++ r.map fun q => (q.2, false) := e4
      have hp : p ∈ fs.zip ss := by rw [e3]; exact List.mem_append_right _ List.mem_cons_self
      have hr : ∀ q ∈ r, q ∈ fs.zip ss := fun q hq => by rw [e3]; exact List.mem_append_right _ (List.mem_cons_of_mem _ hq)
      have lr : r.length ≤ 10 := by
        have := congrArg List.length e3
        rw [List.length_zip, List.length_append, List.length_cons] at this
        omega
      have cases3 : ∀ x ∈ c, x ∈ C ∨ (x.1 = p.1 ∨ x.1 = p.2) ∨ ∃ q ∈ r, x.1 = q.2 := fun x hx => by
        rw [e4] at hx
        rcases List.mem_append.mp hx with h | h
        · rcases List.mem_append.mp h with h | h
          · exact .inl h
          · refine .inr (.inl ?_)
            rcases List.mem_cons.mp h with h | h
            · exact .inl (by rw [h])
            · exact .inr (by rw [List.mem_singleton.mp h])
        · obtain ⟨q, hq, rfl⟩ := List.mem_map.mp h
          exact .inr (.inr ⟨q, hq, rfl⟩)
      refine gok_perm pm (by rw [h2]; exact D.bw) (fun x hx => ?_) (fun x hx => ?_) ?_ (U g hg)
      · rcases cases3 x hx with h | (h | h) | ⟨q, hq, h⟩
        · exact D.bc x h
        · rw [h]; exact (pf p hp).1
        · rw [h]; exact (pf p hp).2
        · rw [h]; exact (pf q (hr q hq)).2
      · rw [h2]
        rcases cases3 x hx with h | (h | h) | ⟨q, hq, h⟩
        · exact (A.cs x h).1
        · rw [h]; exact (A.wf p hp).1
        · rw [h]; exact (A.wf p hp).2
        · rw [h]; exact (A.wf q (hr q hq)).2
      · rw [e4]
        simp
        omega
    · exact one p hp e
  · obtain ⟨p, hp, e⟩ := List.mem_map.mp h1
    exact one p hp e.symm
theorem gl_add (D : Drawn m fs ss sp wi C) (hS : Sim (addG C fs ss) gs) : gs.length ≤ 1000 := by
  rw [← hS.len]
  have h1 := addG_len C fs ss
  have h2 : ss.length * fs.length ≤ 10 * 10 := Nat.mul_le_mul (by rw [D.ad.l]; exact D.ad.lt) D.ad.lt
  omega
theorem gl_less (D : Drawn m fs ss sp wi C) (hS : Sim (lessG C wi (fs.zip ss) ++ unG (fs.zip ss)) gs) : gs.length ≤ 1000 := by
  rw [← hS.len, List.length_append, lessG_len, unG, List.length_map, List.length_zip]
  have := D.ad.lt
  omega
end
def spLaw (K : PySem.W.Frag) : Sp := fun vs H Q _ => ∃ (a : Addr) (ns : List Int), vs = [.ref a] ∧ SqL K H a (ns.map V.int) ∧ ns.length ≤ 63 ∧ ∀ H', Q (.bl true) H'
theorem ne_dr {H : Hp} {dr D : Addr} {us : List Nat} (d : DrawAt H dr) (h : H D = some (.lst (ivs us))) : D ≠ dr := fun z => by
  obtain ⟨c, cells, pos, rest, seed, I⟩ := d
  rw [z, I.hp] at h
  cases us with
  | nil => cases h
  | cons x r =>
    have := (List.cons.inj (HO.lst.inj (Option.some.inj h))).1
    cases this
theorem ne_new {H : Hp} {dr D : Addr} (d : DrawAt H dr) (h : H D = none) : D ≠ dr := fun z => by
  obtain ⟨o, e⟩ := d.some
  rw [z, e] at h
  cases h
theorem KT.same {H H' : Hp} (k : KT [] H H') : Same H H' := fun b o e => k.kp b o (by simp) e
theorem GS.of {dr : Addr} {H H' : Hp} (d : DrawAt H dr) (k : KT [] H H') : GS dr H H' := ⟨k.mono (fun _ h => (nomatch h)), d.keep k.same, fun c t e => ⟨t, k.same _ _ e⟩⟩
theorem cutV_to (xs : List V) (b : Nat) (hb : b ≤ xs.length) : cutV xs none (some (b : Int)) = xs.take b := by
  unfold cutV
  rw [HT.sIx_nat, HT.sIx_none, Nat.min_eq_left hb]
  rfl
theorem rgV_nat (n : Nat) : rgV 0 (n : Int) = ivs (List.range n) := by
  unfold rgV ivs
  simp
section
variable {P : Program} {w : World} {K : PySem.W.Frag} {mg : Str → Option Value} {base : Heap}
set_option maxHeartbeats 8000000 in
theorem ok_law (T : Txt K mg) : FnOk P w K mg base CX0 7 T.f_law T.d_law ["script"] (spLaw K) := by
  have G_z_draw := ok_z_draw (P := P) (w := w) (base := base) T
  have G_z_take := okG_z_take (P := P) (w := w) (base := base) T
  have G_z_some := ok_z_some (P := P) (w := w) (base := base) T
  have G_z_read := ok_z_read (P := P) (w := w) (base := base) T
  have G_z_turned := ok_z_turned (P := P) (w := w) (base := base) T
  have G_add_into := ok_add_into (P := P) (w := w) (base := base) T
  have G_less_into := ok_less_into (P := P) (w := w) (base := base) T
  have G_circuit_faults := ok_circuit_faults (P := P) (w := w) (base := base) T
  refine T.F_law.ok sc_law (fun vs H Q E h => ?_) (fun cdv A outer s H vs Q E hr h => ?_)
  · obtain ⟨a, ns, rfl, _⟩ := h
    rfl
  · obtain ⟨a, ns, rfl, hS, hlen, q⟩ := h
    have hr : Room 6 _ := hr
    refine ⟨_, (pss_cons (ps_set (i := 1) sc_law.nd rfl (Or.inr rfl) (pe_call G_z_draw (hr.mono (by omega)) (by rfl) T.g_z_draw T.F_z_draw.kp T.b_z_draw .nil pass0 (pa_cons (pv 0) pa_nil)))
      (pss_cons (ps_set (i := 2) sc_law.nd rfl (Or.inl rfl) (pe_op op_add pe_int (pe_call G_z_take (hr.mono (by omega)) (by rfl) T.g_z_take T.F_z_take.kp T.b_z_take .nil pass0 (pa_cons (pv 1) (pa_cons pe_int pa_nil)))))
      (pss_cons (ps_set (i := 3) sc_law.nd rfl (Or.inl rfl) (pe_op op_add (pe_op op_mul pe_int (pv 2)) pe_int))
      (pss_cons (ps_set (i := 4) sc_law.nd rfl (Or.inl rfl) (pe_call G_z_some (hr.mono (by omega)) (by rfl) T.g_z_some T.F_z_some.kp T.b_z_some .nil pass0 (pa_cons (pv 1) (pa_cons (pe_listRg (by rfl) (by rfl) T.m_list (prg_1 (by rfl) T.m_range (pv 3))) (pa_cons (pv 3) pa_nil)))))
      (pss_cons (ps_par3 (i := 5) (j := 6) (l := 7) (by rfl) sc_law.nd rfl rfl rfl (by decide) (by decide) (by decide) rfl rfl rfl (pa_cons (pe_slice sl_list (pv 4) po_none (po_some (pv 2))) (pa_cons (pe_slice sl_list (pv 4) (po_some (pv 2)) (po_some (pe_op op_mul pe_int (pv 2)))) (pa_cons (pe_slice sl_list (pv 4) (po_some (pe_op op_mul pe_int (pv 2))) (po_some (pe_op op_add (pe_op op_mul pe_int (pv 2)) pe_int))) pa_nil))) (by rfl))
      (pss_cons (ps_set (i := 8) sc_law.nd rfl (Or.inl rfl) (pe_ix ix_list (pv 4) (pe_op op_add (pe_op op_mul pe_int (pv 2)) pe_int) (fun _ _ => rfl)))
      (pss_cons (ps_setLc (i := 10) (own := [("one", 9)]) (g := gName 9) rfl sc_law.nd rfl rfl (sw_true rfl rfl rfl (by decide +kernel)) (pi_list (pe_callB cr_sorted (by rfl) T.m_sorted (by decide +kernel) (pa_cons (pe_slice sl_list (pv 4) (po_some (pe_op op_add (pe_op op_mul pe_int (pv 2)) pe_int)) (po_some (pe_op op_add (pe_op op_add (pe_op op_mul pe_int (pv 2)) pe_int) (pe_call G_z_take (hr.mono (by omega)) (by rfl) T.g_z_take T.F_z_take.kp T.b_z_take .nil pass0 (pa_cons (pv 1) (pa_cons pe_int pa_nil)))))) pa_nil))) (blkOk_by (own := [("one", 9)]) (N := N_law) (sc := defScope s_law) (by decide +kernel)) (fun _ _ _ _ _ => (pg_name (i := 9) sc_law.nd rfl (Or.inl rfl))) (fun _ _ _ _ _ => pts_nil) (fun _ _ _ _ _ => (pe_tup (pa_cons (pv 9) (pa_cons (pe_call G_z_take (hr.mono (by omega)) (by rfl) T.g_z_take T.F_z_take.kp T.b_z_take .nil pass0 (pa_cons (pv 1) (pa_cons pe_int pa_nil))) pa_nil)))))
      (pss_cons (ps_set (i := 11) sc_law.nd rfl (Or.inl rfl) (pe_callTy call_tuple_of (by rfl) T.m_tuple (by decide +kernel) (pa_cons (pe_call G_add_into (hr.mono (by omega)) (by rfl) T.g_add_into T.F_add_into.kp T.b_add_into .nil pass0 (pa_cons (pe_callTy call_list_of (by rfl) T.m_list (by decide +kernel) (pa_cons (pv 5) pa_nil)) (pa_cons (pe_callTy call_list_of (by rfl) T.m_list (by decide +kernel) (pa_cons (pv 6) pa_nil)) (pa_cons (pe_callTy call_tuple_of (by rfl) T.m_tuple (by decide +kernel) (pa_cons (pv 10) pa_nil)) pa_nil)))) pa_nil)))
      (pss_cons (ps_set (i := 12) sc_law.nd rfl (Or.inl rfl) (pe_callTy call_tuple_of (by rfl) T.m_tuple (by decide +kernel) (pa_cons (pe_call G_less_into (hr.mono (by omega)) (by rfl) T.g_less_into T.F_less_into.kp T.b_less_into .nil pass0 (pa_cons (pv 8) (pa_cons (pe_callTy call_list_of (by rfl) T.m_list (by decide +kernel) (pa_cons (pv 5) pa_nil)) (pa_cons (pe_callTy call_list_of (by rfl) T.m_list (by decide +kernel) (pa_cons (pv 6) pa_nil)) (pa_cons (pe_callTy call_list_of (by rfl) T.m_list (by decide +kernel) (pa_cons (pv 7) pa_nil)) (pa_cons (pe_callTy call_tuple_of (by rfl) T.m_tuple (by decide +kernel) (pa_cons (pv 10) pa_nil)) pa_nil)))))) pa_nil)))
      (pss_cons (ps_if (PW.pt (pw_or (pt_cmpR (op_neD hr.units) (pe_call G_circuit_faults (hr.mono (by omega)) (by rfl) T.g_circuit_faults T.F_circuit_faults.kp T.b_circuit_faults .nil pass0 (pa_cons (pe_tup (pa_cons (pv 3) (pa_cons (pv 11) pa_nil))) pa_nil)) (pe_lst pa_nil) (nomark _)) (pw_or1 (pt_cmpR (op_neD hr.units) (pe_call G_circuit_faults (hr.mono (by omega)) (by rfl) T.g_circuit_faults T.F_circuit_faults.kp T.b_circuit_faults .nil pass0 (pa_cons (pe_tup (pa_cons (pv 3) (pa_cons (pv 12) pa_nil))) pa_nil)) (pe_lst pa_nil) (nomark _)))))
        (pss_one (ps_ret pe_bl))
        pss_nil)
      (pss_cons (ps_for PassesOwn.never rfl (pi_range1 (by rfl) T.m_range (pa_cons pe_int pa_nil)) (pg_name (i := 13) sc_law.nd rfl (Or.inl rfl))
        (pss_cons (ps_set (i := 15) sc_law.nd rfl (Or.inr rfl) (pe_lc (own := [("k", 14)]) (g := gName 14) (by rfl) sc_law.nd (pi_range1 (by rfl) T.m_range (pa_cons (pv 3) pa_nil)) (blkOk_by (own := [("k", 14)]) (N := N_law) (sc := defScope s_law) (by decide +kernel)) (fun _ _ _ _ _ => (pg_name (i := 14) sc_law.nd rfl (Or.inl rfl))) (fun _ _ _ _ _ => pts_nil) (fun _ _ _ _ _ => (pe_call G_z_take (hr.mono (by omega)) (by rfl) T.g_z_take T.F_z_take.kp T.b_z_take .nil pass0 (pa_cons (pv 1) (pa_cons pe_int pa_nil))))))
        (pss_cons (ps_cut (ps_if (pt_cmpR op_gt (pv 13) pe_int (nomark _))
          (pss_one (ps_for PassesOwn.never rfl (pi_list (pv 10)) (pg_tup (by rfl) (pgs_cons (pg_name (i := 9) sc_law.nd rfl (Or.inl rfl)) (pgs_cons (pg_name (i := 16) sc_law.nd rfl (Or.inl rfl)) pgs_nil)))
            (pss_one (ps_asg (pv 16) (pg_sub (pv 15) (pv 9) set_list)))))
          pss_nil))
        (pss_cons (ps_set (i := 17) sc_law.nd rfl (Or.inl rfl) (pe_cmpR (op_eqD hr.units) (pe_lc (own := [("one", 9), ("value", 16)]) (g := gTup K 2 (gCons (gName 9) (gCons (gName 16) gNil))) (by rfl) sc_law.nd (pi_list (pv 10)) (blkOk_by (own := [("one", 9), ("value", 16)]) (N := N_law) (sc := defScope s_law) (by decide +kernel)) (fun _ _ _ _ _ => (pg_tup (by rfl) (pgs_cons (pg_name (i := 9) sc_law.nd rfl (Or.inl rfl)) (pgs_cons (pg_name (i := 16) sc_law.nd rfl (Or.inl rfl)) pgs_nil)))) (fun _ _ _ _ _ => (pts_one (pt_cmpR op_ne (pe_ix (ixL (K := K) rfl) (pv 15) (pv 9) (fun _ _ => rfl)) (pv 16) (nomark _)))) (fun _ _ _ _ _ => (pv 9))) (pe_lst pa_nil) (nomark _)))
        (pss_cons (ps_set (i := 18) sc_law.nd rfl (Or.inl rfl) (pe_callTy call_list_of (by rfl) T.m_list (by decide +kernel) (pa_cons (pv 15) pa_nil)))
        (pss_cons (ps_cut (ps_if (pt_val (pv 17))
          (pss_cons (ps_set (i := 19) sc_law.nd rfl (Or.inl rfl) (pe_op op_and (pe_op op_add (pe_call G_z_read (hr.mono (by omega)) (by rfl) T.g_z_read T.F_z_read.kp T.b_z_read .nil pass0 (pa_cons (pv 15) (pa_cons (pv 5) pa_nil))) (pe_call G_z_read (hr.mono (by omega)) (by rfl) T.g_z_read T.F_z_read.kp T.b_z_read .nil pass0 (pa_cons (pv 15) (pa_cons (pv 6) pa_nil)))) (pe_op op_sub (pe_op op_shl pe_int (pv 2)) pe_int)))
          (pss_one (ps_for PassesOwn.never rfl (pi_range1 (by rfl) T.m_range (pa_cons (pv 2) pa_nil)) (pg_name (i := 14) sc_law.nd rfl (Or.inl rfl))
            (pss_one (ps_asg (pe_op op_and (pe_op op_shr (pv 19) (pv 14)) pe_int) (pg_sub (pv 18) (pe_ix ix_list (pv 5) (pv 14) (fun _ _ => rfl)) set_list))))))
          pss_nil))
        (pss_cons (ps_if (pt_cmpR (op_neD hr.units) (pe_call G_z_turned (hr.mono (by omega)) (by rfl) T.g_z_turned T.F_z_turned.kp T.b_z_turned .nil pass0 (pa_cons (pv 11) (pa_cons (pv 15) pa_nil))) (pe_callTy call_tuple_of (by rfl) T.m_tuple (by decide +kernel) (pa_cons (pv 18) pa_nil)) (nomark _))
          (pss_one (ps_ret pe_bl))
          pss_nil)
        (pss_cons (ps_for PassesOwn.never rfl (pi_list (pv 7)) (pg_name (i := 9) sc_law.nd rfl (Or.inl rfl))
          (pss_one (ps_asg pe_int (pg_sub (pv 15) (pv 9) set_list))))
        (pss_cons (ps_set (i := 18) sc_law.nd rfl (Or.inl rfl) (pe_callTy call_list_of (by rfl) T.m_list (by decide +kernel) (pa_cons (pv 15) pa_nil)))
        (pss_cons (ps_cut (ps_if (PW.pt (pw_and (pt_val (pv 17)) (pw_and1 (pt_cmpR op_lt (pe_call G_z_read (hr.mono (by omega)) (by rfl) T.g_z_read T.F_z_read.kp T.b_z_read .nil pass0 (pa_cons (pv 15) (pa_cons (pv 5) pa_nil))) (pe_call G_z_read (hr.mono (by omega)) (by rfl) T.g_z_read T.F_z_read.kp T.b_z_read .nil pass0 (pa_cons (pv 15) (pa_cons (pv 6) pa_nil))) (nomark _)))))
          (pss_one (ps_asg (pe_op op_sub pe_int (pe_ix ix_list (pv 18) (pv 8) (fun _ _ => rfl))) (pg_sub (pv 18) (pv 8) set_list)))
          pss_nil))
        (pss_one (ps_if (pt_cmpR (op_neD hr.units) (pe_call G_z_turned (hr.mono (by omega)) (by rfl) T.g_z_turned T.F_z_turned.kp T.b_z_turned .nil pass0 (pa_cons (pv 12) (pa_cons (pv 15) pa_nil))) (pe_callTy call_tuple_of (by rfl) T.m_tuple (by decide +kernel) (pa_cons (pv 18) pa_nil)) (nomark _))
          (pss_one (ps_ret pe_bl))
          pss_nil))))))))))))
      (pss_one (ps_ret pe_bl))))))))))))), ?_⟩
    refine ⟨_, rfl, a, ns, rfl, hS, hlen, fun H1 dr sm ndr D => ?_⟩
    refine ⟨_, rfl, dr, 5, rfl, D, by decide, by decide, fun r H2 r0 r1 g2 => ?_⟩
    obtain ⟨k, rfl⟩ := int_nat r0
    obtain ⟨m, em⟩ : ∃ m : Nat, m = 1 + k := ⟨_, rfl⟩
    have m1 : 1 ≤ m := by omega
    have m5 : m ≤ 5 := by omega
    refine ⟨1, (k : Int), rfl, rfl, ?_⟩
    have e1 : (1 : Int) + (k : Int) = (m : Int) := by omega
    dsimp only
    rw [e1]
    refine ⟨_, rfl, _, _, rfl, rfl, .inl ⟨by decide, by decide⟩, _, _, rfl, rfl, ?_⟩
    dsimp only
    have e2 : (3 : Int) * (m : Int) + 6 = ((3 * m + 6 : Nat) : Int) := by omega
    rw [e2]
    have nd1 : DrawAt H2 dr := g2.d
    refine ⟨_, rfl, _, rfl, _, rfl, RgOk.of_le (by omega) (by omega) (by omega) (by omega), fun l nl => ?_⟩
    rw [rgV_nat] 
    have g3 : GS dr H2 (upd H2 l (.lst (ivs (List.range (3 * m + 6))))) := .new nd1 nl
    refine ⟨_, rfl, dr, l, List.range (3 * m + 6), (by rw [List.length_range]; rfl), g3.d, upd_same, (by rw [List.length_range]; omega), fun O H3 us g4 hO pm => ?_⟩
    have g5 := (g2.trans g3).trans g4
    have lus : us.length = 3 * m + 6 := by rw [pm.length_eq, List.length_range]
    obtain ⟨wi, rest, hwi, hrest, hparts⟩ := parts lus
    have cv1 : cutV (ivs us) none (some (m : Int)) = ivs (us.take m) := by rw [cutV_to _ _ (by rw [ivs_len]; omega), ivs_take]
    have cv2 : cutV (ivs us) (some (m : Int)) (some ((2 : Int) * (m : Int))) = ivs ((us.drop m).take m) := by
      rw [show (2 : Int) * (m : Int) = ((2 * m : Nat) : Int) from by omega, cutV_mid _ _ _ (by rw [ivs_len]; omega) (by omega), ivs_drop, ivs_take]
      congr 2
      omega
    have cv3 : cutV (ivs us) (some ((2 : Int) * (m : Int))) (some ((3 : Int) * (m : Int) + 1)) = ivs ((us.drop (2 * m)).take (m + 1)) := by
      rw [show (2 : Int) * (m : Int) = ((2 * m : Nat) : Int) from by omega, show (3 : Int) * (m : Int) + 1 = ((3 * m + 1 : Nat) : Int) from by omega, cutV_mid _ _ _ (by rw [ivs_len]; omega) (by omega), ivs_drop, ivs_take]
      congr 2
      omega
    have iv1 : atI (ivs us) ((3 : Int) * (m : Int) + 1) = some (.int (wi : Nat)) := by
      rw [show (3 : Int) * (m : Int) + 1 = ((3 * m + 1 : Nat) : Int) from by omega]
      exact ivs_at hwi
    have nOd : O ≠ dr := ne_dr g4.d hO
    refine ⟨_, rfl, _, rfl, (m : Int), rfl, O, _, rfl, SqL.of hO, fun la nla => ?_⟩
    rw [cv1]
    have gA : GS dr H3 (upd H3 la (.lst (ivs (us.take m)))) := .new g4.d nla
    have hO1 := gA.k.kp _ _ (by simp [nOd]) hO
    refine ⟨_, rfl, _, rfl, (m : Int), rfl, _, rfl, _, _, rfl, rfl, .inl ⟨by decide, by decide⟩, _, rfl, O, _, rfl, SqL.of hO1, fun lb nlb => ?_⟩
    rw [cv2]
    have gB : GS dr _ (upd (upd H3 la (.lst (ivs (us.take m)))) lb (.lst (ivs ((us.drop m).take m)))) := .new gA.d nlb
    have hO2 := gB.k.kp _ _ (by simp [nOd]) hO1
    refine ⟨_, rfl, _, rfl, _, _, rfl, rfl, .inl ⟨by decide, by decide⟩, _, rfl, _, rfl, _, _, rfl, rfl, .inl ⟨by decide, by decide⟩, _, _, rfl, rfl, _, rfl, O, _, rfl, SqL.of hO2, fun lp nlp => ?_⟩
    rw [cv3]
    have gC : GS dr _ (upd (upd (upd H3 la (.lst (ivs (us.take m)))) lb (.lst (ivs ((us.drop m).take m)))) lp (.lst (ivs ((us.drop (2 * m)).take (m + 1))))) := .new gB.d nlp
    have hO3 := gC.k.kp _ _ (by simp [nOd]) hO2
    have nad := ne_new g4.d nla
    have nbd := ne_new gA.d nlb
    have npd := ne_new gB.d nlp
    have hla3 := gC.k.kp _ _ (by simp [nad]) (gB.k.kp _ _ (by simp [nad]) (upd_same : (upd H3 la (.lst (ivs (us.take m)))) la = _))
    have hlb3 := gC.k.kp _ _ (by simp [nbd]) (upd_same : (upd (upd H3 la (.lst (ivs (us.take m)))) lb (.lst (ivs ((us.drop m).take m)))) lb = _)
    have hlp3 : (upd (upd (upd H3 la (.lst (ivs (us.take m)))) lb (.lst (ivs ((us.drop m).take m)))) lp (.lst (ivs ((us.drop (2 * m)).take (m + 1))))) lp = _ := upd_same
    have dC := gC.d
    obtain ⟨H4, e4⟩ : ∃ H4, (upd (upd (upd H3 la (.lst (ivs (us.take m)))) lb (.lst (ivs ((us.drop m).take m)))) lp (.lst (ivs ((us.drop (2 * m)).take (m + 1))))) = H4 := ⟨_, rfl⟩
    rw [e4] at hO3 hla3 hlb3 hlp3 dC ⊢
    clear e4 gA gB gC hO1 hO2 nla nlb nlp hO g2 g3 g4 g5
    refine ⟨_, _, _, rfl, ?_⟩
    refine ⟨_, rfl, _, rfl, _, _, rfl, rfl, .inl ⟨by decide, by decide⟩, _, _, rfl, rfl, O, _, _, _, rfl, rfl, SqL.of hO3, iv1, ?_⟩
    -- controls
    refine ⟨_, rfl, _, rfl, _, _, rfl, rfl, .inl ⟨by decide, by decide⟩, _, _, rfl, rfl, _, rfl, _, rfl, _, _, rfl, rfl, .inl ⟨by decide, by decide⟩, _, _, rfl, rfl, _, rfl, dr, 3, rfl, dC, by decide, by decide, fun c H5 c0 c1 g6 => ⟨_, _, rfl, rfl, _, rfl, O, _, rfl, SqL.of (g6.k.kp _ _ (by simp [nOd]) hO3), fun l2 nl2 => ?_⟩⟩
    obtain ⟨cn, rfl⟩ := int_nat c0
    have cv4 : cutV (ivs us) (some ((3 : Int) * (m : Int) + 2)) (some ((3 : Int) * (m : Int) + 2 + (cn : Int))) = ivs (rest.take cn) := by
      rw [show (3 : Int) * (m : Int) + 2 = ((3 * m + 2 : Nat) : Int) from by omega, show ((3 * m + 2 : Nat) : Int) + (cn : Int) = ((3 * m + 2 + cn : Nat) : Int) from by omega, cutV_mid _ _ _ (by rw [ivs_len]; omega) (by omega), ivs_drop, ivs_take, hrest]
      congr 2
      omega
    rw [cv4]
    have hc2 : cn ≤ 2 := by omega
    have g7 : GS dr H5 (upd H5 l2 (.lst (ivs (rest.take cn)))) := .new g6.d nl2
    refine ⟨l2, (rest.take cn).map fun (n : Nat) => (n : Int), rfl, SqL.of (by rw [upd_same, ivs_int]), (by rw [List.length_map, List.length_take]; omega), fun ns' p pms rising np => ?_⟩
    obtain ⟨cw, rfl, hcw⟩ := ints_nat pms
    have lcw : cw.length ≤ 2 := by rw [hcw.length_eq, List.length_take]; omega
    rw [← ivs_int]
    have g8 : GS dr _ (upd (upd H5 l2 (.lst (ivs (rest.take cn)))) p (.lst (ivs cw))) := .new g7.d np
    have g9 := (g6.trans g7).trans g8
    have npd := ne_new g7.d np
    have hp9 : (upd (upd H5 l2 (.lst (ivs (rest.take cn)))) p (.lst (ivs cw))) p = some (.lst (ivs cw)) := upd_same
    obtain ⟨H6, e6⟩ : ∃ H6, upd (upd H5 l2 (.lst (ivs (rest.take cn)))) p (.lst (ivs cw)) = H6 := ⟨_, rfl⟩
    rw [e6] at g9 hp9 ⊢
    clear e6 g8 g7 g6
    refine ⟨p, rfl, ⟨_, SqL.of hp9⟩, fun LC nLC => ?_⟩
    refine lc_it (walk_list (K := K) (a := p) (xs := ivs cw)) (fun i H7 => ∃ cvs C, GS dr H6 H7 ∧ H7 LC = some (.lst cvs) ∧ P2 (PrV H7) cvs C ∧ C.map (·.1) = cw.take i) ?_ ?_ ?_ ?_
    · exact ⟨[], [], .new g9.d nLC, upd_same, .nil, rfl⟩
    · rintro i H7 _ ⟨_, _, g, _⟩
      exact SqL.of (g.k.kp _ _ (by simp [npd]) hp9)
    · rintro i x H7 H8 hi ⟨cvs, C, g, hL, hP, eC⟩ ⟨rfl, hx⟩
      obtain ⟨n, hn, rfl⟩ := ivs_get hx
      refine ⟨rfl, ?_⟩
      refine ⟨_, rfl, _, rfl, dr, 2, rfl, g.d, by decide, by decide, fun r H9 r0 r1 g10 => ⟨sz2, fun t nt => ?_⟩⟩
      obtain ⟨bit, rfl⟩ : ∃ b : Bool, r = b2 b := by
        rcases (by omega : r = 0 ∨ r = 1) with h | h
        · exact ⟨false, h⟩
        · exact ⟨true, h⟩
      have g11 := g10.trans (GS.new g10.d nt (o := .tup [.int n, .int (b2 bit)]))
      have nLd := ne_new g9.d nLC
      have hL9 := g11.k.kp _ _ (by simp [nLd]) hL
      refine ⟨cvs, hL9, ?_, cvs ++ [.ref t], C ++ [(n, bit)], (g.trans g11).late g9.d nLC, upd_same, ?_, ?_⟩
      · have := congrArg List.length eC
        rw [List.length_map, List.length_take] at this
        rw [hP.len]
        exact Nat.lt_of_le_of_lt (by omega : _ ≤ 1000) (by decide)
      · exact ((prs_keep g11.k hP).snoc ⟨t, rfl, upd_same⟩).mono fun _ _ => PrV.put hL9
      · rw [List.map_append, eC, List.take_succ, hn]
        rfl
    · rintro H7 ⟨cvs, C, g, hLC, hP, eC⟩
      rw [ivs_len, List.take_length] at eC
      have W : Drawn m (us.take m) ((us.drop m).take m) ((us.drop (2 * m)).take (m + 1)) wi C := drawn m1 m5 pm hwi hrest hparts hc2 hcw eC
      have g12 := g9.trans g
      have nLd := ne_new g9.d nLC
      have hla := g12.k.kp _ _ (by simp [nad]) hla3
      have hlb := g12.k.kp _ _ (by simp [nbd]) hlb3
      have hlp := g12.k.kp _ _ (by simp [ne_dr dC hlp3]) hlp3
      clear hla3 hlb3 hlp3 hO3 iv1 cv1 cv2 cv3 cv4 hparts hwi hrest
      obtain ⟨fs, efs⟩ : ∃ x, us.take m = x := ⟨_, rfl⟩
      obtain ⟨ss, ess⟩ : ∃ x, (us.drop m).take m = x := ⟨_, rfl⟩
      obtain ⟨sp, esp⟩ : ∃ x, (us.drop (2 * m)).take (m + 1) = x := ⟨_, rfl⟩
      rw [efs] at hla W
      rw [ess] at hlb W
      rw [esp] at hlp W
      have d7 := g.d
      -- adding
      refine ⟨_, rfl, la, _, rfl, .inl (SqL.of hla), fun x1 n1 => ?_⟩
      have q1 := KT.new [] n1 (o := .lst (ivs fs))
      refine ⟨_, rfl, lb, _, rfl, .inl (SqL.of (q1.same _ _ hlb)), fun x2 n2 => ?_⟩
      have q2 := q1.trans (KT.new [] n2 (o := .lst (ivs ss)))
      refine ⟨_, rfl, LC, _, rfl, .inl ⟨SqL.of (q2.same _ _ hLC), fun x3 n3 => ?_⟩⟩
      have q3 := KT.new [] n3 (o := .tup cvs)
      refine ⟨x1, x2, x3, fs, ss, cvs, C, rfl, q3.same _ _ ((KT.new [] n2).same _ _ upd_same), q3.same _ _ upd_same, upd_same, prs_keep (q2.trans q3) hP, W.ad, fun ta H8 avs ags k8 hta hav hsa hua => ⟨_, _, rfl, .inr ⟨SqT.of hta, ?_⟩⟩⟩
      have q4 := (q2.trans q3).trans k8
      -- telling
      refine ⟨_, rfl, _, rfl, la, _, rfl, .inl (SqL.of (q4.same _ _ hla)), fun y1 m1' => ?_⟩
      have r1 := KT.new [] m1' (o := .lst (ivs fs))
      refine ⟨_, rfl, lb, _, rfl, .inl (SqL.of (r1.same _ _ (q4.same _ _ hlb))), fun y2 m2 => ?_⟩
      have r2 := r1.trans (KT.new [] m2 (o := .lst (ivs ss)))
      refine ⟨_, rfl, lp, _, rfl, .inl (SqL.of (r2.same _ _ (q4.same _ _ hlp))), fun y3 m3 => ?_⟩
      have r3 := r2.trans (KT.new [] m3 (o := .lst (ivs sp)))
      refine ⟨_, rfl, LC, _, rfl, .inl ⟨SqL.of (r3.same _ _ (q4.same _ _ hLC)), fun y4 m4 => ?_⟩⟩
      have r4 := KT.new [] m4 (o := .tup cvs)
      have hy2 := r4.same _ _ ((KT.new [] m3 (o := .lst (ivs sp))).same _ _ (upd_same : (upd (upd H8 y1 (.lst (ivs fs))) y2 (.lst (ivs ss))) y2 = _))
      have hy1 := r4.same _ _ ((KT.new [] m3 (o := .lst (ivs sp))).same _ _ ((KT.new [] m2 (o := .lst (ivs ss))).same _ _ (upd_same : (upd H8 y1 (.lst (ivs fs))) y1 = _)))
      refine ⟨wi, y1, y2, y3, y4, fs, ss, cvs, C, rfl, hy1, hy2, upd_same, prs_keep (q4.trans (r3.trans r4)) hP, W.le, fun tt H9 tvs tgs k9 htt htv hst hut => ⟨_, _, rfl, .inr ⟨SqT.of htt, ?_⟩⟩⟩
      have r5 := (r3.trans r4).trans k9
      have oka := gok_add W hsa hua
      have okt := gok_less W hst hut
      have I9 : Inst H9 dr m fs ss sp wi C la lb lp LC ta tt := {
        d := (GS.of d7 (q4.trans r5)).d
        ha := ⟨(q4.trans r5).same _ _ hla, nad⟩
        hb := ⟨(q4.trans r5).same _ _ hlb, nbd⟩
        hp := ⟨(q4.trans r5).same _ _ hlp, ne_dr d7 hlp⟩
        hc := ⟨cvs, (q4.trans r5).same _ _ hLC, nLd, prs_keep (q4.trans r5) hP⟩
        ta := ⟨avs, ags, r5.tp _ _ hta, gts_keep r5 hav, hsa, gok_in oka, fun g hg => (oka g hg).1⟩
        tt := ⟨tvs, tgs, htt, htv, hst, gok_in okt, fun g hg => (okt g hg).1⟩ }
      -- no faults
      refine ⟨_, rfl, _, rfl, sz2, fun z1 o1 => ?_⟩
      have s1 := KT.new [] o1 (o := .tup [.int ((3 * m + 6 : Nat) : Int), .ref ta])
      refine ⟨z1, ta, avs, ags, 3 * m + 6, rfl, upd_same, s1.tp _ _ (r5.tp _ _ hta), gts_keep (r5.trans s1) hav, gl_add W hsa, oka, fun z2 H10 k10 hz2 => ?_⟩
      refine ⟨Nat.zero_le _, fun z3 o3 => ?_⟩
      have s3 := KT.new [] o3 (o := .lst [])
      refine ⟨.list [], .list [], .lst (SqL.of (s3.same _ _ hz2)) .nil, .lst (SqL.of upd_same) .nil, shaped_nil, shaped_nil, _, rfl, ite_f (by decide) ?_⟩
      have s13 := (s1.trans k10).trans s3
      refine ⟨_, rfl, _, rfl, sz2, fun w1 p1 => ?_⟩
      have t1 := KT.new [] p1 (o := .tup [.int ((3 * m + 6 : Nat) : Int), .ref tt])
      refine ⟨w1, tt, tvs, tgs, 3 * m + 6, rfl, upd_same, t1.tp _ _ (s13.tp _ _ htt), gts_keep (s13.trans t1) htv, gl_less W hst, okt, fun w2 H11 k11 hw2 => ?_⟩
      refine ⟨Nat.zero_le _, fun w3 p3 => ?_⟩
      have t3 := KT.new [] p3 (o := .lst [])
      refine ⟨.list [], .list [], .lst (SqL.of (t3.same _ _ hw2)) .nil, .lst (SqL.of upd_same) .nil, shaped_nil, shaped_nil, _, rfl, ite_f (by decide) ?_⟩
      have I := I9.keep (GS.of I9.d (s13.trans ((t1.trans k11).trans t3)))
      obtain ⟨H12, e12⟩ : ∃ x, upd H11 w3 (.lst []) = x := ⟨_, rfl⟩
      rw [e12] at I ⊢
      clear I9
      -- the turns
      refine ⟨8, rfl, by decide, by decide, for_range (n := 8) (fun i σ Hb => ∃ (x9 x13 x14 x15 x16 x17 x18 x19 : Option V), σ = [some (.ref a), some (.ref dr), some (.int (m : Nat)), some (.int ((3 * m + 6 : Nat) : Int)), some (.ref O), some (.ref la), some (.ref lb), some (.ref lp), some (.int (wi : Nat)), x9, some (.ref LC), some (.ref ta), some (.ref tt), x13, x14, x15, x16, x17, x18, x19] ∧ Inst Hb dr m fs ss sp wi C la lb lp LC ta tt) ?_ ?_ ?_⟩
      · exact ⟨_, _, _, _, _, _, _, _, rfl, I⟩
      · rintro i σ Hb hi ⟨x9, x13, x14, x15, x16, x17, x18, x19, rfl, I⟩
        -- bits
        refine ⟨_, rfl, ((3 * m + 6 : Nat) : Int), rfl, by omega, by omega, fun B nB => ?_⟩
        rw [Int.toNat_natCast]
        have nBd := ne_new I.d nB
        refine lc_range (fun j H1 => ∃ bs : List Bool, GS dr Hb H1 ∧ H1 B = some (.lst (bvs bs)) ∧ bs.length = j) ?_ ?_ ?_
        · exact ⟨[], .new I.d nB, upd_same, rfl⟩
        · rintro j H1 hj ⟨bs, g, hB, lb⟩
          refine ⟨rfl, _, rfl, dr, 2, rfl, g.d, by decide, by decide, fun r H2 r0 r1 g2 => ?_⟩
          obtain ⟨bit, rfl⟩ : ∃ b : Bool, r = b2 b := by
            rcases (by omega : r = 0 ∨ r = 1) with h | h
            · exact ⟨false, h⟩
            · exact ⟨true, h⟩
          refine ⟨_, g2.k.kp _ _ (by simp [nBd]) hB, ?_, bs ++ [bit], (g.trans g2).late I.d nB, ?_, ?_⟩
          · rw [bvs_len, lb]
            exact Nat.lt_of_le_of_lt (by omega : _ ≤ 1000) (by decide)
          · rw [upd_same, bvs, bvs, List.map_append]
            rfl
          · rw [List.length_append, lb]
            rfl
        rintro Hc ⟨bs0, gc, hB0, lb0⟩
        -- the controls' bits
        refine ⟨fun σ' H' => ∃ (y9 y16 : Option V) (bs : List Bool), σ' = [some (.ref a), some (.ref dr), some (.int (m : Nat)), some (.int ((3 * m + 6 : Nat) : Int)), some (.ref O), some (.ref la), some (.ref lb), some (.ref lp), some (.int (wi : Nat)), y9, some (.ref LC), some (.ref ta), some (.ref tt), some (.int (0 + (i : Nat))), x14, some (.ref B), y16, x17, x18, x19] ∧ GS dr Hb H' ∧ H' B = some (.lst (bvs bs)) ∧ bs.length = 3 * m + 6, ?_, ?_⟩
        · refine ⟨_, rfl, _, _, rfl, rfl, _, rfl, ite2 (fun e => ?_) (fun e => ?_)⟩
          · obtain ⟨cvs, hcL, hcN, hcP⟩ := I.hc
            refine ⟨_, rfl, LC, rfl, ⟨_, SqL.of (gc.k.kp _ _ (by simp [hcN]) hcL)⟩, ?_⟩
            refine for_it (walk_list (K := K) (a := LC) (xs := cvs)) (fun j σ' H' => ∃ (y9 y16 : Option V) (bs : List Bool), σ' = [some (.ref a), some (.ref dr), some (.int (m : Nat)), some (.int ((3 * m + 6 : Nat) : Int)), some (.ref O), some (.ref la), some (.ref lb), some (.ref lp), some (.int (wi : Nat)), y9, some (.ref LC), some (.ref ta), some (.ref tt), some (.int (0 + (i : Nat))), x14, some (.ref B), y16, x17, x18, x19] ∧ GS dr Hb H' ∧ H' B = some (.lst (bvs bs)) ∧ bs.length = 3 * m + 6) ?_ ?_ ?_ ?_
            · exact ⟨_, _, bs0, rfl, gc, hB0, lb0⟩
            · rintro j σ' H' _ ⟨y9, y16, bs, rfl, g, hB, lb⟩
              exact SqL.of (g.k.kp _ _ (by simp [hcN]) hcL)
            · rintro j x σ' H' H'' hj ⟨y9, y16, bs, rfl, g, hB, lb⟩ ⟨rfl, hx⟩
              obtain ⟨c, hc1, t2, rfl, ht2⟩ := hcP.get hx
              have hcb := W.bc c (List.mem_of_getElem? hc1)
              refine ⟨t2, _, rfl, SqT.of (g.k.tp _ _ ht2), rfl, _, _, rfl, _, _, rfl, rfl, ?_⟩
              refine ⟨_, rfl, _, rfl, _, rfl, B, _, _, c.1, rfl, rfl, hB, ixn_nat (by rw [bvs_len, lb]; exact hcb), ?_⟩
              refine ⟨_, _, bs.set c.1 c.2, rfl, g.late I.d nB, ?_, ?_⟩
              · rw [upd_same, bvs_set]
              · rw [List.length_set, lb]
            · rintro σ' H' ⟨y9, y16, bs, rfl, g, hB, lb⟩
              exact ⟨_, _, bs, rfl, g, hB, lb⟩
          · exact ⟨_, _, bs0, rfl, gc, hB0, lb0⟩
        rintro σ Hd ⟨y9, y16, bs, rfl, gd, hB, lbs⟩
        clear hB0 lb0 gc
        obtain ⟨cvs, hcL, hcN, hcP⟩ := I.hc
        -- held
        refine ⟨_, rfl, LC, rfl, ⟨_, SqL.of (gd.k.kp _ _ (by simp [hcN]) hcL)⟩, fun D nD => ?_⟩
        have nBD : B ≠ D := ne_of_none hB nD
        refine lc_it (walk_list (K := K) (a := LC) (xs := cvs)) (fun j H3 => ∃ ns : List Nat, KT [] Hd H3 ∧ H3 D = some (.lst (ivs ns)) ∧ ns.isEmpty = holds (C.take j) (st bs) ∧ ns.length ≤ j) ?_ ?_ ?_ ?_
        · exact ⟨[], KT.new _ nD, upd_same, rfl, Nat.le_refl _⟩
        · rintro j H3 _ ⟨ns, k3, _⟩
          exact SqL.of (k3.same _ _ (gd.k.kp _ _ (by simp [hcN]) hcL))
        · rintro j x H3 H4 hj ⟨ns, k3, hD, hns, hnl⟩ ⟨rfl, hx⟩
          obtain ⟨c, hc1, t2, rfl, ht2⟩ := hcP.get hx
          have hci := W.bc c (List.mem_of_getElem? hc1)
          have hjl : j < C.length := by rw [← hcP.len]; exact hj
          have lC := W.ad.lc
          have eh : holds (C.take (j + 1)) (st bs) = (holds (C.take j) (st bs) && (st bs c.1 == c.2)) := by
            rw [List.take_succ, hc1, holds_app]
            show (_ && holds [c] (st bs)) = _
            rw [holds_cons]
            show (_ && (_ && true)) = _
            rw [Bool.and_true]
          refine ⟨t2, _, rfl, SqT.of (k3.tp _ _ (gd.k.tp _ _ ht2)), rfl, _, _, rfl, _, _, rfl, rfl, by rfl, ?_⟩
          refine ⟨_, rfl, _, rfl, B, _, _, _, rfl, rfl, SqL.of (k3.same _ _ hB), atI_nat (bvs_get (by rw [lbs]; exact hci)), _, rfl, rfl, _, rfl, ?_⟩
          by_cases e : st bs c.1 = c.2
          · refine ite_f (not_bl ?_) ⟨ns, k3, hD, ?_, by omega⟩
            · show (!decide (V.int (b2 (st bs c.1)) = V.int (b2 c.2))) = false
              rw [e]
              simp
            · rw [eh, hns, e]
              simp
          · refine ite_t ?_ ⟨_, rfl, _, hD, ?_, ns ++ [c.1], k3.late nD, ?_, ?_, ?_⟩
            · show (!decide (V.int (b2 (st bs c.1)) = V.int (b2 c.2))) = true
              rw [decide_eq_false (fun z => e (b2_inj.mp (V.int.inj z)))]
              rfl
            · rw [ivs_len]
              exact Nat.lt_of_le_of_lt (by omega : _ ≤ 1000) (by decide)
            · rw [upd_same, ivs_snoc]
            · have e3 : (st bs c.1 == c.2) = false := by
                rw [beq_eq_false_iff_ne]
                exact e
              rw [eh, e3, Bool.and_false]
              simp
            · rw [List.length_append]
              simp
              omega
        rintro He ⟨ns, k3, hD, hns, _⟩
        rw [hcP.len, List.take_length] at hns
        refine ⟨Nat.zero_le _, fun l nl => ?_⟩
        have kl := KT.new [] nl (o := .lst [])
        refine ⟨.list ((ns.map fun (n : Nat) => (n : Int)).map PyData.int), .list [], .lst (SqL.of (kl.same _ _ hD)) (by rw [ivs_int]; exact dp_ints _), .lst (SqL.of upd_same) .nil, shaped_ints _, shaped_nil, ?_⟩
        have eE : PyData.eqv (.list ((ns.map fun (n : Nat) => (n : Int)).map PyData.int)) (.list []) = holds C (st bs) := by
          rw [eqv_nil, ← hns]
          cases ns <;> rfl
        rw [eE]
        have k4 := k3.trans kl
        have ge := gd.trans (GS.of gd.d k4)
        have hBe := k4.same _ _ hB
        obtain ⟨Hf, ef⟩ : ∃ x, upd He l (.lst []) = x := ⟨_, rfl⟩
        rw [ef] at ge hBe ⊢
        clear k4 kl k3 hD hns ef
        -- due
        refine ⟨_, rfl, B, _, rfl, .inl (SqL.of hBe), fun U nU => ?_⟩
        have gU := ge.trans (GS.new ge.d nU (o := .lst (bvs bs)))
        have nUb : Hb U = none := by
          cases hz : Hb U with
          | none => rfl
          | some o =>
            obtain ⟨o', e'⟩ := ge.k.th _ _ hz
            rw [nU] at e'
            cases e'
        have nUd := ne_new I.d nUb
        have nUB : U ≠ B := fun z => by rw [z, hBe] at nU; cases nU
        have hBU := (KT.new [] nU (o := .lst (bvs bs))).same _ _ hBe
        have hUU : (upd Hf U (.lst (bvs bs))) U = some (.lst (bvs bs)) := upd_same
        obtain ⟨Hg, eg⟩ : ∃ x, upd Hf U (.lst (bvs bs)) = x := ⟨_, rfl⟩
        rw [eg] at gU hBU hUU ⊢
        clear eg hBe ge nU
        have laU : la ≠ B ∧ la ≠ U := ⟨ne_of_none I.ha.1 nB, ne_of_none I.ha.1 nUb⟩
        have nfs : 2 ^ fs.length = 2 ^ m := by rw [W.lf]
        obtain ⟨N, eN⟩ : ∃ N, (val fs (st bs) + val ss (st bs)) % 2 ^ m = N := ⟨_, rfl⟩
        have bfs : ∀ x ∈ fs, x < bs.length := fun x hx => by rw [lbs]; exact W.bf x hx
        have bss : ∀ x ∈ ss, x < bs.length := fun x hx => by rw [lbs]; exact W.bs x hx
        refine ⟨fun σ' H' => ∃ (y14 y19 : Option V), σ' = [some (.ref a), some (.ref dr), some (.int (m : Nat)), some (.int ((3 * m + 6 : Nat) : Int)), some (.ref O), some (.ref la), some (.ref lb), some (.ref lp), some (.int (wi : Nat)), y9, some (.ref LC), some (.ref ta), some (.ref tt), some (.int (0 + (i : Nat))), y14, some (.ref B), y16, some (.bl (holds C (st bs))), some (.ref U), y19] ∧ GS dr Hb H' ∧ H' B = some (.lst (bvs bs)) ∧ H' U = some (.lst (bvs (if holds C (st bs) then putL fs N bs else bs))), ?_, ?_⟩
        · refine ⟨_, rfl, _, rfl, ?_⟩
          cases hh : holds C (st bs) with
          | false => exact ite_f (by decide) ⟨_, _, rfl, gU, hBU, by rw [hUU]; rfl⟩
          | true =>
            refine ite_t rfl ?_
            refine ⟨_, rfl, _, rfl, B, la, bs, fs, rfl, hBU, gU.k.kp _ _ (by simp [nad]) I.ha.1, bfs, by rw [W.lf]; omega, fun Hh kh => ?_⟩
            refine ⟨_, rfl, _, rfl, B, lb, bs, ss, rfl, kh.same _ _ hBU, kh.same _ _ (gU.k.kp _ _ (by simp [nbd]) I.hb.1), bss, by rw [W.ad.l, W.lf]; omega, fun Hi ki => ?_⟩
            have kk := kh.trans ki
            have gi := gU.trans (GS.of gU.d kk)
            refine ⟨_, _, rfl, rfl, _, rfl, _, _, rfl, rfl, ⟨by omega, by omega, by decide⟩, _, _, rfl, rfl, _, _, rfl, rfl, ?_⟩
            have eS : (Builtin.bitAnd (((val fs (st bs) : Nat) : Int) + ((val ss (st bs) : Nat) : Int)) ((1 : Int) * 2 ^ (((m : Nat) : Int)).toNat - 1)) = ((N : Nat) : Int) := by
              have h1 : (1 : Int) * 2 ^ (((m : Nat) : Int)).toNat - 1 = ((2 ^ m - 1 : Nat) : Int) := by
                have hp : 1 ≤ 2 ^ m := Nat.one_le_two_pow
                rw [Int.toNat_natCast, Int.one_mul]
                push_cast [hp]
                omega
              rw [h1, ← Int.natCast_add, bitAnd_nat, Nat.and_two_pow_sub_one_eq_mod, eN]
            dsimp only
            rw [eS]
            have hBi := kk.same _ _ hBU
            have hUi := kk.same _ _ hUU
            refine ⟨_, rfl, ((m : Nat) : Int), rfl, by omega, by omega, ?_⟩
            rw [Int.toNat_natCast]
            refine for_range (n := m) (fun k σ' H' => ∃ (y14 : Option V) (cur : List Bool), σ' = [some (.ref a), some (.ref dr), some (.int (m : Nat)), some (.int ((3 * m + 6 : Nat) : Int)), some (.ref O), some (.ref la), some (.ref lb), some (.ref lp), some (.int (wi : Nat)), y9, some (.ref LC), some (.ref ta), some (.ref tt), some (.int (0 + (i : Nat))), y14, some (.ref B), y16, some (.bl true), some (.ref U), some (.int (N : Nat))] ∧ GS dr Hb H' ∧ H' B = some (.lst (bvs bs)) ∧ H' U = some (.lst (bvs cur)) ∧ cur.length = 3 * m + 6 ∧ putL (fs.drop k) (N / 2 ^ k) cur = putL fs N bs) ?_ ?_ ?_
            · exact ⟨x14, bs, rfl, gi, hBi, hUi, lbs, by rw [List.drop_zero, Nat.pow_zero, Nat.div_one]⟩
            · rintro k σ' H' hk ⟨y14, cur, rfl, g, hB', hU', lc, ep⟩
              have hkf : k < fs.length := by rw [W.lf]; exact hk
              have hfk : fs[k]? = some fs[k] := List.getElem?_eq_getElem hkf
              have hfb := W.bf _ (List.mem_of_getElem? hfk)
              rw [Int.zero_add]
              refine ⟨_, rfl, _, rfl, _, _, rfl, rfl, (by omega), _, _, rfl, rfl, _, rfl, _, rfl, _, rfl, la, _, _, _, rfl, rfl, SqL.of (g.k.kp _ _ (by simp [nad]) I.ha.1), ivs_at hfk, U, _, _, fs[k], rfl, rfl, hU', ixn_nat (by rw [bvs_len, lc]; exact hfb), ?_⟩
              have eb : Builtin.bitAnd (((N : Nat) : Int) / 2 ^ (((k : Nat) : Int)).toNat) 1 = b2 ((N / 2 ^ k) % 2 == 1) := by
                have h1 : ((N : Nat) : Int) / 2 ^ (((k : Nat) : Int)).toNat = ((N / 2 ^ k : Nat) : Int) := by
                  rw [Int.toNat_natCast]
                  push_cast
                  rfl
                rw [h1, show (1 : Int) = ((1 : Nat) : Int) from rfl, bitAnd_nat, Nat.and_one_is_mod]
                rcases (by omega : N / 2 ^ k % 2 = 0 ∨ N / 2 ^ k % 2 = 1) with h | h <;> rw [h] <;> rfl
              dsimp only
              rw [eb]
              refine ⟨_, cur.set fs[k] ((N / 2 ^ k) % 2 == 1), rfl, g.late I.d nUb, ?_, ?_, ?_, ?_⟩
              · rw [upd_ne nUB.symm]
                exact hB'
              · rw [upd_same, bvs_set]
              · rw [List.length_set, lc]
              · rw [← ep]
                have h1 : k < fs.length := by rw [W.lf]; exact hk
                rw [List.drop_eq_getElem_cons h1, putL, Nat.div_div_eq_div_mul, ← Nat.pow_succ]
            · rintro σ' H' ⟨y14, cur, rfl, g, hB', hU', lc, ep⟩
              refine ⟨_, _, rfl, g, hB', ?_⟩
              rw [List.drop_of_length_le (by rw [W.lf]; exact Nat.le_refl _)] at ep
              rw [if_pos rfl, ← ep]
              exact hU'
        rintro σ Hj ⟨y14, y19, rfl, gj, hBj, hUj⟩
        -- _law_turned(adding, bits) != tuple(due)
        obtain ⟨avs, ags, hta, hav, hsa, hina, hla1⟩ := (I.keep gj).ta
        have erow : runL ags bs = if holds C (st bs) then putL fs N bs else bs := by
          have := add_row hsa (bs := bs) W.ad.nt W.ad.ct W.ad.st W.ad.l bfs
          rw [nfs, eN] at this
          exact this
        refine ⟨_, rfl, _, rfl, ta, B, avs, ags, bs, rfl, hta, hav, hBj, (by rw [lbs]; exact hina), hla1, fun t1 Hk kk ht1 => ?_⟩
        refine ⟨_, rfl, U, _, rfl, .inl ⟨SqL.of (kk.same _ _ hUj), fun t2 nt2 => ?_⟩⟩
        have kt2 := KT.new [] nt2 (o := .tup (bvs (if holds C (st bs) then putL fs N bs else bs)))
        refine ⟨.tuple ((((if holds C (st bs) then putL fs N bs else bs)).map b2).map PyData.int), .tuple ((((if holds C (st bs) then putL fs N bs else bs)).map b2).map PyData.int), .tup (SqT.of (kt2.tp _ _ (by rw [ht1, erow]))) (by rw [bvs_int]; exact dp_ints _), .tup (SqT.of upd_same) (by rw [bvs_int]; exact dp_ints _), shaped_intsT _, shaped_intsT _, _, rfl, ?_⟩
        rw [SeqAt.eqv_refl _ (SeqAt.canLay_of_shaped (shaped_intsT _))]
        refine ite_f (by decide) ?_
        have gm := gj.trans (GS.of gj.d (kk.trans kt2))
        have hBm := (kk.trans kt2).same _ _ hBj
        obtain ⟨Hm, em⟩ : ∃ x, upd Hk t2 (.tup (bvs (if holds C (st bs) then putL fs N bs else bs))) = x := ⟨_, rfl⟩
        rw [em] at gm hBm ⊢
        clear em kt2 kk hta hav ht1 hUj hBj gj
        -- for one in spare: bits[one] = 0
        refine ⟨_, rfl, lp, rfl, ⟨_, SqL.of (gm.k.kp _ _ (by simp [ne_dr I.d I.hp.1]) I.hp.1)⟩, ?_⟩
        refine for_it (walk_list (K := K) (a := lp) (xs := ivs sp)) (fun k σ' H' => ∃ (z9 : Option V) (cur : List Bool), σ' = [some (.ref a), some (.ref dr), some (.int (m : Nat)), some (.int ((3 * m + 6 : Nat) : Int)), some (.ref O), some (.ref la), some (.ref lb), some (.ref lp), some (.int (wi : Nat)), z9, some (.ref LC), some (.ref ta), some (.ref tt), some (.int (0 + (i : Nat))), y14, some (.ref B), y16, some (.bl (holds C (st bs))), some (.ref U), y19] ∧ GS dr Hb H' ∧ H' B = some (.lst (bvs cur)) ∧ cur.length = 3 * m + 6 ∧ ∀ c, c ∉ sp → st cur c = st bs c) ?_ ?_ ?_ ?_
        · exact ⟨_, bs, rfl, gm, hBm, lbs, fun _ _ => rfl⟩
        · rintro k σ' H' _ ⟨z9, cur, rfl, g, _⟩
          exact SqL.of (g.k.kp _ _ (by simp [ne_dr I.d I.hp.1]) I.hp.1)
        · rintro k x σ' H' H'' hk ⟨z9, cur, rfl, g, hB', lc, hs⟩ ⟨rfl, hx⟩
          obtain ⟨n, hn, rfl⟩ := ivs_get hx
          have hns := List.mem_of_getElem? hn
          have hnb := W.bp n hns
          refine ⟨_, rfl, _, rfl, B, _, _, n, rfl, rfl, hB', ixn_nat (by rw [bvs_len, lc]; exact hnb), ?_⟩
          refine ⟨_, cur.set n false, rfl, g.late I.d nB, ?_, ?_, ?_⟩
          · rw [upd_same, ← bvs_set]
            rfl
          · rw [List.length_set, lc]
          · intro c hc
            rw [st_set (by rw [lc]; exact hnb), ← hs c hc]
            exact if_neg (fun z => hc (by rw [z]; exact hns))
        rintro σ Hn ⟨z9, bs2, rfl, gn, hBn, lbs2, hs2⟩
        have eh2 : holds C (st bs2) = holds C (st bs) := holds_eq fun c hc => hs2 _ (W.cp c hc)
        clear hBm gm
        -- due = list(bits)
        refine ⟨_, rfl, B, _, rfl, .inl (SqL.of hBn), fun U2 nU2 => ?_⟩
        have nU2b : Hb U2 = none := by
          cases hz : Hb U2 with
          | none => rfl
          | some o =>
            obtain ⟨o', e'⟩ := gn.k.th _ _ hz
            rw [nU2] at e'
            cases e'
        have nU2B : U2 ≠ B := fun z => by rw [z, hBn] at nU2; cases nU2
        have gU2 := gn.trans (GS.new gn.d nU2 (o := .lst (bvs bs2)))
        have hBU2 := (KT.new [] nU2 (o := .lst (bvs bs2))).same _ _ hBn
        have hUU2 : (upd Hn U2 (.lst (bvs bs2))) U2 = some (.lst (bvs bs2)) := upd_same
        obtain ⟨Hp, ep⟩ : ∃ x, upd Hn U2 (.lst (bvs bs2)) = x := ⟨_, rfl⟩
        rw [ep] at gU2 hBU2 hUU2 ⊢
        clear ep hBn gn nU2
        have bfs2 : ∀ x ∈ fs, x < bs2.length := fun x hx => by rw [lbs2]; exact W.bf x hx
        have bss2 : ∀ x ∈ ss, x < bs2.length := fun x hx => by rw [lbs2]; exact W.bs x hx
        have hwb : wi < bs2.length := by rw [lbs2]; exact W.bw
        obtain ⟨due2, ed2⟩ : ∃ x, (if holds C (st bs2) && decide (val fs (st bs2) < val ss (st bs2)) then bs2.set wi (!st bs2 wi) else bs2) = x := ⟨_, rfl⟩
        refine ⟨fun σ' H' => σ' = [some (.ref a), some (.ref dr), some (.int (m : Nat)), some (.int ((3 * m + 6 : Nat) : Int)), some (.ref O), some (.ref la), some (.ref lb), some (.ref lp), some (.int (wi : Nat)), z9, some (.ref LC), some (.ref ta), some (.ref tt), some (.int (0 + (i : Nat))), y14, some (.ref B), y16, some (.bl (holds C (st bs))), some (.ref U2), y19] ∧ GS dr Hb H' ∧ H' B = some (.lst (bvs bs2)) ∧ H' U2 = some (.lst (bvs due2)), ?_, ?_⟩
        · refine ⟨_, rfl, _, rfl, ?_⟩
          cases hh : holds C (st bs) with
          | false =>
            refine ite_f (by decide) (ite_f (by decide) ⟨rfl, gU2, hBU2, ?_⟩)
            rw [hUU2, ← ed2, eh2, hh]
            rfl
          | true =>
            refine ite_t rfl ?_
            refine ⟨_, rfl, _, rfl, B, la, bs2, fs, rfl, hBU2, gU2.k.kp _ _ (by simp [nad]) I.ha.1, bfs2, by rw [W.lf]; omega, fun Hq kq => ?_⟩
            refine ⟨_, rfl, _, rfl, B, lb, bs2, ss, rfl, kq.same _ _ hBU2, kq.same _ _ (gU2.k.kp _ _ (by simp [nbd]) I.hb.1), bss2, by rw [W.ad.l, W.lf]; omega, fun Hr kr => ?_⟩
            have kk := kq.trans kr
            have gr := gU2.trans (GS.of gU2.d kk)
            refine ⟨_, _, rfl, rfl, _, rfl, ?_⟩
            by_cases hlt : val fs (st bs2) < val ss (st bs2)
            · refine ite_t (decide_eq_true (Int.ofNat_lt.mpr hlt)) ?_
              refine ⟨_, rfl, _, rfl, U2, _, _, _, rfl, rfl, SqL.of (kk.same _ _ hUU2), atI_nat (bvs_get hwb), _, _, rfl, rfl, _, rfl, _, rfl, U2, _, _, wi, rfl, rfl, kk.same _ _ hUU2, ixn_nat (by rw [bvs_len]; exact hwb), ?_⟩
              refine ⟨rfl, gr.late I.d nU2b, ?_, ?_⟩
              · rw [upd_ne nU2B.symm]
                exact kk.same _ _ hBU2
              · rw [upd_same, ← ed2, eh2, hh, decide_eq_true hlt]
                show some (HO.lst ((bvs bs2).set wi (V.int (1 - b2 (st bs2 wi))))) = _
                rw [b2_not, bvs_set]
                rfl
            · refine ite_f (by rw [decide_eq_false (fun z => hlt (Int.ofNat_lt.mp z))]; decide) ?_
              refine ⟨rfl, gr, kk.same _ _ hBU2, ?_⟩
              rw [kk.same _ _ hUU2, ← ed2, decide_eq_false hlt, Bool.and_false]
              rfl
        rintro σ Hs ⟨rfl, gs', hBs, hUs⟩
        obtain ⟨tvs, tgs, htt, htv, hst, hint, hlt1⟩ := (I.keep gs').tt
        have erow2 : runL tgs bs2 = due2 := by
          have z := zip_map2 W.ad.l
          have := less_row hst (bs := bs2) W.le.apart hwb (fun p hp => bss2 _ (List.of_mem_zip hp).2)
          rw [z.1, z.2, ed2] at this
          exact this
        refine ⟨_, rfl, _, rfl, tt, B, tvs, tgs, bs2, rfl, htt, htv, hBs, (by rw [lbs2]; exact hint), hlt1, fun t1 Ht kk ht1 => ?_⟩
        refine ⟨_, rfl, U2, _, rfl, .inl ⟨SqL.of (kk.same _ _ hUs), fun t2 nt2 => ?_⟩⟩
        have kt2 := KT.new [] nt2 (o := .tup (bvs due2))
        refine ⟨.tuple ((due2.map b2).map PyData.int), .tuple ((due2.map b2).map PyData.int), .tup (SqT.of (kt2.tp _ _ (by rw [ht1, erow2]))) (by rw [bvs_int]; exact dp_ints _), .tup (SqT.of upd_same) (by rw [bvs_int]; exact dp_ints _), shaped_intsT _, shaped_intsT _, _, rfl, ?_⟩
        rw [SeqAt.eqv_refl _ (SeqAt.canLay_of_shaped (shaped_intsT _))]
        refine ite_f (by decide) ?_
        exact ⟨_, _, _, _, _, _, _, _, rfl, I.keep (gs'.trans (GS.of gs'.d (kk.trans kt2)))⟩
      · rintro σ Hb _
        exact q _
end

end My

set_option Elab.async false
set_option linter.all false
set_option maxRecDepth 100000
namespace My
open PySem PySem.Spec PyProof.Rows L2
theorem all_mk {l : PySem.W.OpenLaw} {w : World} {K : PySem.W.Frag} {h : Heap} {mg : Str → Option Value} {fa : Addr} (X : K.In h) (G : h.Ns mainGlobals mg) (hfa : mg "law" = some (.ref fa))
    {f0 : Addr} {od0 an0 : Option Addr} {sl0 : Array (Option Value)} {oc0 kV0 dc0 pm0 cd0 ct0 : Value}
    {f1 : Addr} {od1 an1 : Option Addr} {sl1 : Array (Option Value)} {oc1 kV1 dc1 pm1 cd1 ct1 : Value}
    {f2 : Addr} {od2 an2 : Option Addr} {sl2 : Array (Option Value)} {oc2 kV2 dc2 pm2 cd2 ct2 : Value}
    {f3 : Addr} {od3 an3 : Option Addr} {sl3 : Array (Option Value)} {oc3 kV3 dc3 pm3 cd3 ct3 : Value}
    {f4 : Addr} {od4 an4 : Option Addr} {sl4 : Array (Option Value)} {oc4 kV4 dc4 pm4 cd4 ct4 : Value}
    {f5 : Addr} {od5 an5 : Option Addr} {sl5 : Array (Option Value)} {oc5 kV5 dc5 pm5 cd5 ct5 : Value}
    {f6 : Addr} {od6 an6 : Option Addr} {sl6 : Array (Option Value)} {oc6 kV6 dc6 pm6 cd6 ct6 : Value}
    {f7 : Addr} {od7 an7 : Option Addr} {sl7 : Array (Option Value)} {oc7 kV7 dc7 pm7 cd7 ct7 : Value}
    {f8 : Addr} {od8 an8 : Option Addr} {sl8 : Array (Option Value)} {oc8 kV8 dc8 pm8 cd8 ct8 : Value}
    {f9 : Addr} {od9 an9 : Option Addr} {sl9 : Array (Option Value)} {oc9 kV9 dc9 pm9 cd9 ct9 : Value}
    {f10 : Addr} {od10 an10 : Option Addr} {sl10 : Array (Option Value)} {oc10 kV10 dc10 pm10 cd10 ct10 : Value}
    {f11 : Addr} {od11 an11 : Option Addr} {sl11 : Array (Option Value)} {oc11 kV11 dc11 pm11 cd11 ct11 : Value}
    {f12 : Addr} {od12 an12 : Option Addr} {sl12 : Array (Option Value)} {oc12 kV12 dc12 pm12 cd12 ct12 : Value}
    {f13 : Addr} {od13 an13 : Option Addr} {sl13 : Array (Option Value)} {oc13 kV13 dc13 pm13 cd13 ct13 : Value}
    {f14 : Addr} {od14 an14 : Option Addr} {sl14 : Array (Option Value)} {oc14 kV14 dc14 pm14 cd14 ct14 : Value}
    {f15 : Addr} {od15 an15 : Option Addr} {sl15 : Array (Option Value)} {oc15 kV15 dc15 pm15 cd15 ct15 : Value}
    {f16 : Addr} {od16 an16 : Option Addr} {sl16 : Array (Option Value)} {oc16 kV16 dc16 pm16 cd16 ct16 : Value}
    {f17 : Addr} {od17 an17 : Option Addr} {sl17 : Array (Option Value)} {oc17 kV17 dc17 pm17 cd17 ct17 : Value}
    {f18 : Addr} {od18 an18 : Option Addr} {sl18 : Array (Option Value)} {oc18 kV18 dc18 pm18 cd18 ct18 : Value}
    {f19 : Addr} {od19 an19 : Option Addr} {sl19 : Array (Option Value)} {oc19 kV19 dc19 pm19 cd19 ct19 : Value}
    {f20 : Addr} {od20 an20 : Option Addr} {sl20 : Array (Option Value)} {oc20 kV20 dc20 pm20 cd20 ct20 : Value}
    (a0 : PySem.W.nsIn K mainGlobals "is_whole" = some (some (.ref f0))) (l0 : K.lookup f0 = some ⟨oc0, od0, .func (PySem.W.fnOf "is_whole" "is_whole" (defArgs s_is_whole) (defBody s_is_whole) (defScope s_is_whole) .none kV0 dc0 pm0 an0 cd0 ct0), sl0⟩) (c0 : PySem.W.codeIn K cd0 "is_whole" = true) (k0 : PySem.W.keepIn K (.ref f0) = true)
    (a1 : PySem.W.nsIn K mainGlobals "is_integer" = some (some (.ref f1))) (l1 : K.lookup f1 = some ⟨oc1, od1, .func (PySem.W.fnOf "is_integer" "is_integer" (defArgs s_is_integer) (defBody s_is_integer) (defScope s_is_integer) .none kV1 dc1 pm1 an1 cd1 ct1), sl1⟩) (c1 : PySem.W.codeIn K cd1 "is_integer" = true) (k1 : PySem.W.keepIn K (.ref f1) = true)
    (a2 : PySem.W.nsIn K mainGlobals "is_count" = some (some (.ref f2))) (l2 : K.lookup f2 = some ⟨oc2, od2, .func (PySem.W.fnOf "is_count" "is_count" (defArgs s_is_count) (defBody s_is_count) (defScope s_is_count) .none kV2 dc2 pm2 an2 cd2 ct2), sl2⟩) (c2 : PySem.W.codeIn K cd2 "is_count" = true) (k2 : PySem.W.keepIn K (.ref f2) = true)
    (a3 : PySem.W.nsIn K mainGlobals "is_pair" = some (some (.ref f3))) (l3 : K.lookup f3 = some ⟨oc3, od3, .func (PySem.W.fnOf "is_pair" "is_pair" (defArgs s_is_pair) (defBody s_is_pair) (defScope s_is_pair) .none kV3 dc3 pm3 an3 cd3 ct3), sl3⟩) (c3 : PySem.W.codeIn K cd3 "is_pair" = true) (k3 : PySem.W.keepIn K (.ref f3) = true)
    (a4 : PySem.W.nsIn K mainGlobals "is_control" = some (some (.ref f4))) (l4 : K.lookup f4 = some ⟨oc4, od4, .func (PySem.W.fnOf "is_control" "is_control" (defArgs s_is_control) (defBody s_is_control) (defScope s_is_control) .none kV4 dc4 pm4 an4 cd4 ct4), sl4⟩) (c4 : PySem.W.codeIn K cd4 "is_control" = true) (k4 : PySem.W.keepIn K (.ref f4) = true)
    (a5 : PySem.W.nsIn K mainGlobals "wires_of" = some (some (.ref f5))) (l5 : K.lookup f5 = some ⟨oc5, od5, .func (PySem.W.fnOf "wires_of" "wires_of" (defArgs s_wires_of) (defBody s_wires_of) (defScope s_wires_of) .none kV5 dc5 pm5 an5 cd5 ct5), sl5⟩) (c5 : PySem.W.codeIn K cd5 "wires_of" = true) (k5 : PySem.W.keepIn K (.ref f5) = true)
    (a6 : PySem.W.nsIn K mainGlobals "is_gate" = some (some (.ref f6))) (l6 : K.lookup f6 = some ⟨oc6, od6, .func (PySem.W.fnOf "is_gate" "is_gate" (defArgs s_is_gate) (defBody s_is_gate) (defScope s_is_gate) .none kV6 dc6 pm6 an6 cd6 ct6), sl6⟩) (c6 : PySem.W.codeIn K cd6 "is_gate" = true) (k6 : PySem.W.keepIn K (.ref f6) = true)
    (a7 : PySem.W.nsIn K mainGlobals "gate_fault" = some (some (.ref f7))) (l7 : K.lookup f7 = some ⟨oc7, od7, .func (PySem.W.fnOf "gate_fault" "gate_fault" (defArgs s_gate_fault) (defBody s_gate_fault) (defScope s_gate_fault) .none kV7 dc7 pm7 an7 cd7 ct7), sl7⟩) (c7 : PySem.W.codeIn K cd7 "gate_fault" = true) (k7 : PySem.W.keepIn K (.ref f7) = true)
    (a8 : PySem.W.nsIn K mainGlobals "circuit_faults" = some (some (.ref f8))) (l8 : K.lookup f8 = some ⟨oc8, od8, .func (PySem.W.fnOf "circuit_faults" "circuit_faults" (defArgs s_circuit_faults) (defBody s_circuit_faults) (defScope s_circuit_faults) .none kV8 dc8 pm8 an8 cd8 ct8), sl8⟩) (c8 : PySem.W.codeIn K cd8 "circuit_faults" = true) (k8 : PySem.W.keepIn K (.ref f8) = true)
    (a9 : PySem.W.nsIn K mainGlobals "wire_bits" = some (some (.ref f9))) (l9 : K.lookup f9 = some ⟨oc9, od9, .func (PySem.W.fnOf "wire_bits" "wire_bits" (defArgs s_wire_bits) (defBody s_wire_bits) (defScope s_wire_bits) .none kV9 dc9 pm9 an9 cd9 ct9), sl9⟩) (c9 : PySem.W.codeIn K cd9 "wire_bits" = true) (k9 : PySem.W.keepIn K (.ref f9) = true)
    (a10 : PySem.W.nsIn K mainGlobals "controls_of" = some (some (.ref f10))) (l10 : K.lookup f10 = some ⟨oc10, od10, .func (PySem.W.fnOf "controls_of" "controls_of" (defArgs s_controls_of) (defBody s_controls_of) (defScope s_controls_of) .none kV10 dc10 pm10 an10 cd10 ct10), sl10⟩) (c10 : PySem.W.codeIn K cd10 "controls_of" = true) (k10 : PySem.W.keepIn K (.ref f10) = true)
    (a11 : PySem.W.nsIn K mainGlobals "gates_if" = some (some (.ref f11))) (l11 : K.lookup f11 = some ⟨oc11, od11, .func (PySem.W.fnOf "gates_if" "gates_if" (defArgs s_gates_if) (defBody s_gates_if) (defScope s_gates_if) .none kV11 dc11 pm11 an11 cd11 ct11), sl11⟩) (c11 : PySem.W.codeIn K cd11 "gates_if" = true) (k11 : PySem.W.keepIn K (.ref f11) = true)
    (a12 : PySem.W.nsIn K mainGlobals "adding_gates" = some (some (.ref f12))) (l12 : K.lookup f12 = some ⟨oc12, od12, .func (PySem.W.fnOf "adding_gates" "adding_gates" (defArgs s_adding_gates) (defBody s_adding_gates) (defScope s_adding_gates) .none kV12 dc12 pm12 an12 cd12 ct12), sl12⟩) (c12 : PySem.W.codeIn K cd12 "adding_gates" = true) (k12 : PySem.W.keepIn K (.ref f12) = true)
    (a13 : PySem.W.nsIn K mainGlobals "add_into" = some (some (.ref f13))) (l13 : K.lookup f13 = some ⟨oc13, od13, .func (PySem.W.fnOf "add_into" "add_into" (defArgs s_add_into) (defBody s_add_into) (defScope s_add_into) .none kV13 dc13 pm13 an13 cd13 ct13), sl13⟩) (c13 : PySem.W.codeIn K cd13 "add_into" = true) (k13 : PySem.W.keepIn K (.ref f13) = true)
    (a14 : PySem.W.nsIn K mainGlobals "less_into" = some (some (.ref f14))) (l14 : K.lookup f14 = some ⟨oc14, od14, .func (PySem.W.fnOf "less_into" "less_into" (defArgs s_less_into) (defBody s_less_into) (defScope s_less_into) .none kV14 dc14 pm14 an14 cd14 ct14), sl14⟩) (c14 : PySem.W.codeIn K cd14 "less_into" = true) (k14 : PySem.W.keepIn K (.ref f14) = true)
    (a15 : PySem.W.nsIn K mainGlobals "_law_draw" = some (some (.ref f15))) (l15 : K.lookup f15 = some ⟨oc15, od15, .func (PySem.W.fnOf "_law_draw" "_law_draw" (defArgs s_z_draw) (defBody s_z_draw) (defScope s_z_draw) .none kV15 dc15 pm15 an15 cd15 ct15), sl15⟩) (c15 : PySem.W.codeIn K cd15 "_law_draw" = true) (k15 : PySem.W.keepIn K (.ref f15) = true)
    (a16 : PySem.W.nsIn K mainGlobals "_law_take" = some (some (.ref f16))) (l16 : K.lookup f16 = some ⟨oc16, od16, .func (PySem.W.fnOf "_law_take" "_law_take" (defArgs s_z_take) (defBody s_z_take) (defScope s_z_take) .none kV16 dc16 pm16 an16 cd16 ct16), sl16⟩) (c16 : PySem.W.codeIn K cd16 "_law_take" = true) (k16 : PySem.W.keepIn K (.ref f16) = true)
    (a17 : PySem.W.nsIn K mainGlobals "_law_turned" = some (some (.ref f17))) (l17 : K.lookup f17 = some ⟨oc17, od17, .func (PySem.W.fnOf "_law_turned" "_law_turned" (defArgs s_z_turned) (defBody s_z_turned) (defScope s_z_turned) .none kV17 dc17 pm17 an17 cd17 ct17), sl17⟩) (c17 : PySem.W.codeIn K cd17 "_law_turned" = true) (k17 : PySem.W.keepIn K (.ref f17) = true)
    (a18 : PySem.W.nsIn K mainGlobals "_law_some" = some (some (.ref f18))) (l18 : K.lookup f18 = some ⟨oc18, od18, .func (PySem.W.fnOf "_law_some" "_law_some" (defArgs s_z_some) (defBody s_z_some) (defScope s_z_some) .none kV18 dc18 pm18 an18 cd18 ct18), sl18⟩) (c18 : PySem.W.codeIn K cd18 "_law_some" = true) (k18 : PySem.W.keepIn K (.ref f18) = true)
    (a19 : PySem.W.nsIn K mainGlobals "_law_read" = some (some (.ref f19))) (l19 : K.lookup f19 = some ⟨oc19, od19, .func (PySem.W.fnOf "_law_read" "_law_read" (defArgs s_z_read) (defBody s_z_read) (defScope s_z_read) .none kV19 dc19 pm19 an19 cd19 ct19), sl19⟩) (c19 : PySem.W.codeIn K cd19 "_law_read" = true) (k19 : PySem.W.keepIn K (.ref f19) = true)
    (a20 : PySem.W.nsIn K mainGlobals "law" = some (some (.ref f20))) (l20 : K.lookup f20 = some ⟨oc20, od20, .func (PySem.W.fnOf "law" "law" (defArgs s_law) (defBody s_law) (defScope s_law) .none kV20 dc20 pm20 an20 cd20 ct20), sl20⟩) (c20 : PySem.W.codeIn K cd20 "law" = true) (k20 : PySem.W.keepIn K (.ref f20) = true)
    (z0 : PySem.W.nsIn K mainGlobals "abs" = some none)
    (z1 : PySem.W.nsIn K mainGlobals "all" = some none)
    (z2 : PySem.W.nsIn K mainGlobals "bool" = some none)
    (z3 : PySem.W.nsIn K mainGlobals "enumerate" = some none)
    (z4 : PySem.W.nsIn K mainGlobals "int" = some none)
    (z5 : PySem.W.nsIn K mainGlobals "isinstance" = some none)
    (z6 : PySem.W.nsIn K mainGlobals "len" = some none)
    (z7 : PySem.W.nsIn K mainGlobals "list" = some none)
    (z8 : PySem.W.nsIn K mainGlobals "range" = some none)
    (z9 : PySem.W.nsIn K mainGlobals "sorted" = some none)
    (z10 : PySem.W.nsIn K mainGlobals "sum" = some none)
    (z11 : PySem.W.nsIn K mainGlobals "tuple" = some none)
    (z12 : PySem.W.nsIn K mainGlobals "zip" = some none)
    : ∃ fd : FuncData, (∀ (s : Shared) (v : Value), BindsTo s fd ⟨[v], []⟩ [("script", v)]) ∧ ∀ base : Heap, K.In base → base.Ns mainGlobals mg → FnOk l.prog w K mg base CX0 7 fa fd ["script"] (spLaw K) := by
  have e := hfa.symm.trans (PySem.W.mg_of X G a20)
  cases e
  have F0 := fun_mk (st := s_is_whole) l0 c0 k0
  have F1 := fun_mk (st := s_is_integer) l1 c1 k1
  have F2 := fun_mk (st := s_is_count) l2 c2 k2
  have F3 := fun_mk (st := s_is_pair) l3 c3 k3
  have F4 := fun_mk (st := s_is_control) l4 c4 k4
  have F5 := fun_mk (st := s_wires_of) l5 c5 k5
  have F6 := fun_mk (st := s_is_gate) l6 c6 k6
  have F7 := fun_mk (st := s_gate_fault) l7 c7 k7
  have F8 := fun_mk (st := s_circuit_faults) l8 c8 k8
  have F9 := fun_mk (st := s_wire_bits) l9 c9 k9
  have F10 := fun_mk (st := s_controls_of) l10 c10 k10
  have F11 := fun_mk (st := s_gates_if) l11 c11 k11
  have F12 := fun_mk (st := s_adding_gates) l12 c12 k12
  have F13 := fun_mk (st := s_add_into) l13 c13 k13
  have F14 := fun_mk (st := s_less_into) l14 c14 k14
  have F15 := fun_mk (st := s_z_draw) l15 c15 k15
  have F16 := fun_mk (st := s_z_take) l16 c16 k16
  have F17 := fun_mk (st := s_z_turned) l17 c17 k17
  have F18 := fun_mk (st := s_z_some) l18 c18 k18
  have F19 := fun_mk (st := s_z_read) l19 c19 k19
  have F20 := fun_mk (st := s_law) l20 c20 k20
  have b0 := F0.binds (ps := ["value"]) fun _ _ _ _ _ _ us hl => match us, hl with | [_], _ => rfl
  have b1 := F1.binds (ps := ["value", "low", "high"]) fun _ _ _ _ _ _ us hl => match us, hl with | [_, _, _], _ => rfl
  have b2 := F2.binds (ps := ["value"]) fun _ _ _ _ _ _ us hl => match us, hl with | [_], _ => rfl
  have b3 := F3.binds (ps := ["value"]) fun _ _ _ _ _ _ us hl => match us, hl with | [_], _ => rfl
  have b4 := F4.binds (ps := ["value"]) fun _ _ _ _ _ _ us hl => match us, hl with | [_], _ => rfl
  have b5 := F5.binds (ps := ["gate"]) fun _ _ _ _ _ _ us hl => match us, hl with | [_], _ => rfl
  have b6 := F6.binds (ps := ["value"]) fun _ _ _ _ _ _ us hl => match us, hl with | [_], _ => rfl
  have b7 := F7.binds (ps := ["wires", "value"]) fun _ _ _ _ _ _ us hl => match us, hl with | [_, _], _ => rfl
  have b8 := F8.binds (ps := ["value"]) fun _ _ _ _ _ _ us hl => match us, hl with | [_], _ => rfl
  have b9 := F9.binds (ps := ["wires"]) fun _ _ _ _ _ _ us hl => match us, hl with | [_], _ => rfl
  have b10 := F10.binds (ps := ["bits"]) fun _ _ _ _ _ _ us hl => match us, hl with | [_], _ => rfl
  have b11 := F11.binds (ps := ["target", "bits"]) fun _ _ _ _ _ _ us hl => match us, hl with | [_, _], _ => rfl
  have b12 := F12.binds (ps := ["target", "conditions"]) fun _ _ _ _ _ _ us hl => match us, hl with | [_, _], _ => rfl
  have b13 := F13.binds (ps := ["target", "source", "controls"]) fun _ _ _ _ _ _ us hl => match us, hl with | [_, _, _], _ => rfl
  have b14 := F14.binds (ps := ["wire", "first", "second", "spare", "controls"]) fun _ _ _ _ _ _ us hl => match us, hl with | [_, _, _, _, _], _ => rfl
  have b15 := F15.binds (ps := ["script"]) fun _ _ _ _ _ _ us hl => match us, hl with | [_], _ => rfl
  have b16 := F16.binds (ps := ["draw", "many"]) fun _ _ _ _ _ _ us hl => match us, hl with | [_, _], _ => rfl
  have b17 := F17.binds (ps := ["gates", "bits"]) fun _ _ _ _ _ _ us hl => match us, hl with | [_, _], _ => rfl
  have b18 := F18.binds (ps := ["draw", "wires", "many"]) fun _ _ _ _ _ _ us hl => match us, hl with | [_, _, _], _ => rfl
  have b19 := F19.binds (ps := ["bits", "wires"]) fun _ _ _ _ _ _ us hl => match us, hl with | [_, _], _ => rfl
  let T : Txt K mg := ⟨f0, _, F0, PySem.W.mg_of X G a0, b0, f1, _, F1, PySem.W.mg_of X G a1, b1, f2, _, F2, PySem.W.mg_of X G a2, b2, f3, _, F3, PySem.W.mg_of X G a3, b3, f4, _, F4, PySem.W.mg_of X G a4, b4, f5, _, F5, PySem.W.mg_of X G a5, b5, f6, _, F6, PySem.W.mg_of X G a6, b6, f7, _, F7, PySem.W.mg_of X G a7, b7, f8, _, F8, PySem.W.mg_of X G a8, b8, f9, _, F9, PySem.W.mg_of X G a9, b9, f10, _, F10, PySem.W.mg_of X G a10, b10, f11, _, F11, PySem.W.mg_of X G a11, b11, f12, _, F12, PySem.W.mg_of X G a12, b12, f13, _, F13, PySem.W.mg_of X G a13, b13, f14, _, F14, PySem.W.mg_of X G a14, b14, f15, _, F15, PySem.W.mg_of X G a15, b15, f16, _, F16, PySem.W.mg_of X G a16, b16, f17, _, F17, PySem.W.mg_of X G a17, b17, f18, _, F18, PySem.W.mg_of X G a18, b18, f19, _, F19, PySem.W.mg_of X G a19, b19, fa, _, F20, PySem.W.mg_of X G a20, PySem.W.mg_none_of X G z0, PySem.W.mg_none_of X G z1, PySem.W.mg_none_of X G z2, PySem.W.mg_none_of X G z3, PySem.W.mg_none_of X G z4, PySem.W.mg_none_of X G z5, PySem.W.mg_none_of X G z6, PySem.W.mg_none_of X G z7, PySem.W.mg_none_of X G z8, PySem.W.mg_none_of X G z9, PySem.W.mg_none_of X G z10, PySem.W.mg_none_of X G z11, PySem.W.mg_none_of X G z12⟩
  exact ⟨PySem.W.fnOf "law" "law" (defArgs s_law) (defBody s_law) (defScope s_law) .none kV20 dc20 pm20 an20 cd20 ct20, fun s v => .of_eq rfl, fun base _ _ => ok_law T⟩
end My
open PySem PySem.W PyProof.Rows
set_option maxRecDepth 100000 in
set_option maxHeartbeats 0 in
theorem PySem.Challenge.cw_backrun_k42_adders_and_comparisons_holds : PySem.Challenge.rw_backrun_k42_adders_and_comparisons.Holds := by
  w_on; o_law; k_head; (case hw => w_witness2)
  k_fill
  refine L2.walk_of (l := PySem.Challenge.rw_backrun_k42_adders_and_comparisons) (n := 63) (k := 7) (x := "script") (CX := fun _ => L2.CX0) (sp := fun w => My.spLaw _) rfl (by decide) rfl ⟨rfl, by decide, by decide⟩ (fun w h Y => PySem.W.kIn_of Y) ?F (fun _ _ a ns hl _ hS => ⟨a, ns, rfl, hS, hl, fun _ => rfl⟩) (fun _ _ _ _ _ h => h)
  case F =>
    intro w mg fa h KX G hmg
    refine' My.all_mk KX G hmg ?a0 ?l0 ?c0 ?k0 ?a1 ?l1 ?c1 ?k1 ?a2 ?l2 ?c2 ?k2 ?a3 ?l3 ?c3 ?k3 ?a4 ?l4 ?c4 ?k4 ?a5 ?l5 ?c5 ?k5 ?a6 ?l6 ?c6 ?k6 ?a7 ?l7 ?c7 ?k7 ?a8 ?l8 ?c8 ?k8 ?a9 ?l9 ?c9 ?k9 ?a10 ?l10 ?c10 ?k10 ?a11 ?l11 ?c11 ?k11 ?a12 ?l12 ?c12 ?k12 ?a13 ?l13 ?c13 ?k13 ?a14 ?l14 ?c14 ?k14 ?a15 ?l15 ?c15 ?k15 ?a16 ?l16 ?c16 ?k16 ?a17 ?l17 ?c17 ?k17 ?a18 ?l18 ?c18 ?k18 ?a19 ?l19 ?c19 ?k19 ?a20 ?l20 ?c20 ?k20 ?z0 ?z1 ?z2 ?z3 ?z4 ?z5 ?z6 ?z7 ?z8 ?z9 ?z10 ?z11 ?z12
    (case a0 => k_is)
    (case l0 => k_is)
    (case c0 => k_is)
    (case k0 => k_is)
    (case a1 => k_is)
    (case l1 => k_is)
    (case c1 => k_is)
    (case k1 => k_is)
    (case a2 => k_is)
    (case l2 => k_is)
    (case c2 => k_is)
    (case k2 => k_is)
    (case a3 => k_is)
    (case l3 => k_is)
    (case c3 => k_is)
    (case k3 => k_is)
    (case a4 => k_is)
    (case l4 => k_is)
    (case c4 => k_is)
    (case k4 => k_is)
    (case a5 => k_is)
    (case l5 => k_is)
    (case c5 => k_is)
    (case k5 => k_is)
    (case a6 => k_is)
    (case l6 => k_is)
    (case c6 => k_is)
    (case k6 => k_is)
    (case a7 => k_is)
    (case l7 => k_is)
    (case c7 => k_is)
    (case k7 => k_is)
    (case a8 => k_is)
    (case l8 => k_is)
    (case c8 => k_is)
    (case k8 => k_is)
    (case a9 => k_is)
    (case l9 => k_is)
    (case c9 => k_is)
    (case k9 => k_is)
    (case a10 => k_is)
    (case l10 => k_is)
    (case c10 => k_is)
    (case k10 => k_is)
    (case a11 => k_is)
    (case l11 => k_is)
    (case c11 => k_is)
    (case k11 => k_is)
    (case a12 => k_is)
    (case l12 => k_is)
    (case c12 => k_is)
    (case k12 => k_is)
    (case a13 => k_is)
    (case l13 => k_is)
    (case c13 => k_is)
    (case k13 => k_is)
    (case a14 => k_is)
    (case l14 => k_is)
    (case c14 => k_is)
    (case k14 => k_is)
    (case a15 => k_is)
    (case l15 => k_is)
    (case c15 => k_is)
    (case k15 => k_is)
    (case a16 => k_is)
    (case l16 => k_is)
    (case c16 => k_is)
    (case k16 => k_is)
    (case a17 => k_is)
    (case l17 => k_is)
    (case c17 => k_is)
    (case k17 => k_is)
    (case a18 => k_is)
    (case l18 => k_is)
    (case c18 => k_is)
    (case k18 => k_is)
    (case a19 => k_is)
    (case l19 => k_is)
    (case c19 => k_is)
    (case k19 => k_is)
    (case a20 => k_is)
    (case l20 => k_is)
    (case c20 => k_is)
    (case k20 => k_is)
    (case z0 => k_is)
    (case z1 => k_is)
    (case z2 => k_is)
    (case z3 => k_is)
    (case z4 => k_is)
    (case z5 => k_is)
    (case z6 => k_is)
    (case z7 => k_is)
    (case z8 => k_is)
    (case z9 => k_is)
    (case z10 => k_is)
    (case z11 => k_is)
    (case z12 => k_is)

