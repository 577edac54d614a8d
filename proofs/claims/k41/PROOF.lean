import PyProof.Rows.All
import Wide.All
import OpenK.AllK
import Wide.FinOn
import HandS.ForMost
import HandS.Wide
import HandS.IsInst
import KE.KBits
import KE.OsArith
import HandS.AnyAll
import HandS.GenOver
import HandS.GenList
import HandS.Nested
import PyProof.GenQ
import HandS.TupAny
import HandS.TupMul
import HandS.Zip
import HandS.Style
import HandS.EndTab
import KE.KNestM
import HandS.Walk
import KE.GoesEnum
import HandS.Zip0
import KE.KDictZip
import HandS.Conv
import HandS.SortRule
import HandS.Rev
import HandS.WideBits
import PySem.Challenge.RW_backrun_k41_tables_and_circuits_for_them
set_option Elab.async false
set_option linter.all false
set_option maxRecDepth 100000
/-! what serves every law: cuts, heaps that change at one place, the law's own draw -/
namespace My
open PySem PySem.Spec PyProof.Rows L2
/-! ### cuts -/
section
variable {X : Cx}
theorem ps_cut {st : Stmt} {t : TS} (h : PS X st t) : PS X st (fun D σ H => ∃ J : L2.St → Hp → Prop, t { D with nx := J } σ H ∧ ∀ σ' H', J σ' H' → D.nx σ' H') := by
  refine ⟨fun pins s σ H D I hh => ?_⟩
  obtain ⟨J, h1, h2⟩ := hh
  refine thn (h.run pins s σ H _ I h1) fun f s' z => ?_
  cases f with
  | next => obtain ⟨σ', H', I', j⟩ := z; exact ⟨σ', H', I', h2 σ' H' j⟩
  | brk => exact z
  | cont => exact z
  | ret v => exact z
theorem pe_cut {e : Expr} {t : TE} (h : PE X e t) : PE X e (fun σ H Q => ∃ J : V → Hp → Prop, t σ H J ∧ ∀ v H', J v H' → Q v H') := by
  refine ⟨fun pins s σ H Q I hh => ?_⟩
  obtain ⟨J, h1, h2⟩ := hh
  refine thn (h.run pins s σ H _ I h1) fun u s' ⟨v, H', I', r, j⟩ => ⟨v, H', I', r, h2 v H' j⟩
theorem pt_cut {e : Expr} {t : TT} (h : PT X e t) : PT X e (fun σ H Q => ∃ J : Bool → Hp → Prop, t σ H J ∧ ∀ b H', J b H' → Q b H') := by
  refine ⟨fun pins s σ H Q I hh => ?_⟩
  obtain ⟨J, h1, h2⟩ := hh
  refine thn (h.run pins s σ H _ I h1) fun u s' ⟨H', I', j⟩ => ⟨H', I', h2 u H' j⟩
end
/-! ### heaps -/
theorem same_upd {H : Hp} {p : Addr} {o : HO} (h : H p = none) : Same H (upd H p o) := fun b x e => by
  rw [upd_ne (ne_of_none e h)]
  exact e
/-- all but what stands at p stays -/
def KeepBut (p : Addr) (H H' : Hp) : Prop := ∀ b o, b ≠ p → H b = some o → H' b = some o
theorem KeepBut.refl (p : Addr) (H : Hp) : KeepBut p H H := fun _ _ _ e => e
theorem KeepBut.trans {p : Addr} {H H1 H2 : Hp} (a : KeepBut p H H1) (b : KeepBut p H1 H2) : KeepBut p H H2 := fun c o n e => b c o n (a c o n e)
theorem KeepBut.put (p : Addr) (H : Hp) (o : HO) : KeepBut p H (upd H p o) := fun b x n e => by
  rw [upd_ne n]
  exact e
theorem KeepBut.same {p : Addr} {H H1 : Hp} (a : Same H H1) : KeepBut p H H1 := fun c o _ e => a c o e
theorem KeepBut.new {p q : Addr} {H H1 : Hp} {o : HO} (a : KeepBut p H H1) (h : H1 q = none) : KeepBut p H (upd H1 q o) := a.trans (.same (same_upd h))
/-! ### the law's draw: [cells, place, rest, seed] -/
structure DrawIs (H : Hp) (p c : Addr) (cells : List Int) (pos rest seed : Int) : Prop where
  hp : H p = some (.lst [.ref c, .int pos, .int rest, .int seed])
  hc : H c = some (.lst (cells.map V.int))
  nn : ∀ x ∈ cells, 0 ≤ x
  po : -1 ≤ pos
  re : 0 ≤ rest
  s0 : 0 ≤ seed
  s1 : seed < 2147483647
def DrawAt (H : Hp) (p : Addr) : Prop := ∃ c cells pos rest seed, DrawIs H p c cells pos rest seed
theorem DrawIs.ne {H : Hp} {p c : Addr} {cells : List Int} {pos rest seed : Int} (D : DrawIs H p c cells pos rest seed) : c ≠ p := ne_of D.hc D.hp (by
  intro z
  cases cells with
  | nil => cases z
  | cons x r => cases z)
theorem DrawIs.put {H : Hp} {p c : Addr} {cells : List Int} {pos rest seed pos' rest' seed' : Int} (D : DrawIs H p c cells pos rest seed) (h1 : -1 ≤ pos') (h2 : 0 ≤ rest') (h3 : 0 ≤ seed') (h4 : seed' < 2147483647) :
    DrawIs (upd H p (.lst [.ref c, .int pos', .int rest', .int seed'])) p c cells pos' rest' seed' :=
  ⟨upd_same, by rw [upd_ne D.ne]; exact D.hc, D.nn, h1, h2, h3, h4⟩
theorem DrawIs.keep {H H' : Hp} {p c : Addr} {cells : List Int} {pos rest seed : Int} (D : DrawIs H p c cells pos rest seed) (k : Same H H') : DrawIs H' p c cells pos rest seed :=
  ⟨k _ _ D.hp, k _ _ D.hc, D.nn, D.po, D.re, D.s0, D.s1⟩
theorem DrawAt.keep {H H' : Hp} {p : Addr} (D : DrawAt H p) (k : Same H H') : DrawAt H' p := by
  obtain ⟨c, cells, pos, rest, seed, d⟩ := D
  exact ⟨c, cells, pos, rest, seed, d.keep k⟩
theorem DrawAt.some {H : Hp} {p : Addr} (D : DrawAt H p) : ∃ o, H p = some o := by
  obtain ⟨c, cells, pos, rest, seed, d⟩ := D
  exact ⟨_, d.hp⟩
theorem DrawAt.upd {H : Hp} {p q : Addr} {o : HO} (D : DrawAt H p) (h : H q = none) : DrawAt (upd H q o) p := D.keep (same_upd h)
/-! ### numbers -/
theorem int_nat {i : Int} (h : 0 ≤ i) : ∃ n : Nat, i = (n : Int) := ⟨i.toNat, by omega⟩
theorem fmod_lo {a b : Int} (h : 0 < b) : 0 ≤ a.fmod b := Int.fmod_nonneg_of_pos a h
theorem fmod_hi {a b : Int} (h : 0 < b) : a.fmod b < b := Int.fmod_lt_of_pos a h
theorem fmod_e {a b : Int} (h : 0 < b) : a.fmod b = a % b := Int.fmod_eq_emod_of_nonneg a (by omega)
theorem div_lo {a b : Int} (h : 0 ≤ a) (hb : 0 < b) : 0 ≤ a / b := Int.ediv_nonneg h (by omega)
end My
namespace My
open PySem PySem.Spec PyProof.Rows L2
/-! ### a written tuple of the top -/
theorem rel_abs : ∀ {u : Value} {x : V}, absV u = some x → RelV x u
  | .none, _, h => by cases h; rfl
  | .bool _, _, h => by cases h; rfl
  | .int _ t, _, h => by cases h; exact ⟨t, rfl⟩
  | .str _ t, _, h => by cases h; exact ⟨t, rfl⟩
  | .bytes _ t, _, h => by cases h; exact ⟨t, rfl⟩
  | .float _ t, _, h => by cases h; exact ⟨t, rfl⟩
  | .ref _, _, h => by cases h; rfl
  | .type _, _, h => by cases h; rfl
theorem vals_abs : ∀ {us : List Value} {xs : List V}, us.mapM absV = some xs → Vals xs us
  | [], xs, h => by
    cases h
    exact .nil
  | u :: us, xs, h => by
    rw [List.mapM_cons] at h
    cases e : absV u with
    | none => rw [e] at h; cases h
    | some x =>
      rw [e] at h
      cases e2 : us.mapM absV with
      | none => rw [e2] at h; cases h
      | some ys =>
        rw [e2] at h
        cases h
        exact .cons (rel_abs e) (vals_abs e2)
theorem sqT_k {K : PySem.W.Frag} {H : Hp} {a : Addr} {d : Option Addr} {its : Array Value} {n : Nat} {sl : Array (Option Value)} {xs : List V} (l : K.lookup a = some ⟨.type "tuple", d, .seq its n, sl⟩) (h : its.toList.mapM absV = some xs) (z : its.size ≤ sizeLine) : SqT K H a xs :=
  .inr ⟨_, its, n, l, rfl, rfl, z, vals_abs h⟩
end My

set_option Elab.async false
set_option linter.all false
/-! words: the ten ops by bits and by whole numbers -/
namespace My
open PySem PySem.Spec PyProof.Rows L2
theorem bit_and (a b k : Nat) : (a &&& b) / 2 ^ k % 2 = if a / 2 ^ k % 2 + b / 2 ^ k % 2 = 2 then 1 else 0 := by
  have h := Nat.testBit_and a b k
  rw [Nat.testBit_eq_decide_div_mod_eq, Nat.testBit_eq_decide_div_mod_eq, Nat.testBit_eq_decide_div_mod_eq] at h
  have h1 := Nat.mod_lt (a / 2 ^ k) (show 2 > 0 by decide)
  have h2 := Nat.mod_lt (b / 2 ^ k) (show 2 > 0 by decide)
  have h3 := Nat.mod_lt ((a &&& b) / 2 ^ k) (show 2 > 0 by decide)
  have h4 : ((a &&& b) / 2 ^ k % 2 = 1) ↔ (a / 2 ^ k % 2 = 1 ∧ b / 2 ^ k % 2 = 1) := by
    rw [← decide_eq_true_iff (p := (a &&& b) / 2 ^ k % 2 = 1), h, Bool.and_eq_true, decide_eq_true_iff, decide_eq_true_iff]
  split <;> omega
theorem bit_or (a b k : Nat) : (a ||| b) / 2 ^ k % 2 = if 0 < a / 2 ^ k % 2 + b / 2 ^ k % 2 then 1 else 0 := by
  have h := Nat.testBit_or a b k
  rw [Nat.testBit_eq_decide_div_mod_eq, Nat.testBit_eq_decide_div_mod_eq, Nat.testBit_eq_decide_div_mod_eq] at h
  have h1 := Nat.mod_lt (a / 2 ^ k) (show 2 > 0 by decide)
  have h2 := Nat.mod_lt (b / 2 ^ k) (show 2 > 0 by decide)
  have h3 := Nat.mod_lt ((a ||| b) / 2 ^ k) (show 2 > 0 by decide)
  have h4 : ((a ||| b) / 2 ^ k % 2 = 1) ↔ (a / 2 ^ k % 2 = 1 ∨ b / 2 ^ k % 2 = 1) := by
    rw [← decide_eq_true_iff (p := (a ||| b) / 2 ^ k % 2 = 1), h, Bool.or_eq_true, decide_eq_true_iff, decide_eq_true_iff]
  split <;> omega
theorem bit_xor (a b k : Nat) : (a ^^^ b) / 2 ^ k % 2 = if a / 2 ^ k % 2 + b / 2 ^ k % 2 = 1 then 1 else 0 := by
  have h := Nat.testBit_xor (x := a) (y := b) (i := k)
  rw [Nat.testBit_eq_decide_div_mod_eq, Nat.testBit_eq_decide_div_mod_eq, Nat.testBit_eq_decide_div_mod_eq] at h
  have h1 := Nat.mod_lt (a / 2 ^ k) (show 2 > 0 by decide)
  have h2 := Nat.mod_lt (b / 2 ^ k) (show 2 > 0 by decide)
  have h3 := Nat.mod_lt ((a ^^^ b) / 2 ^ k) (show 2 > 0 by decide)
  by_cases c1 : a / 2 ^ k % 2 = 1 <;> by_cases c2 : b / 2 ^ k % 2 = 1 <;> by_cases c3 : (a ^^^ b) / 2 ^ k % 2 = 1 <;> simp [c1, c2, c3] at h ⊢ <;> first | omega | (split <;> omega)
/-- and, or, xor of two numbers by their name -/
def bitF (op : Str) (a b : Nat) : Nat := if op = "and" then a &&& b else if op = "or" then a ||| b else a ^^^ b
/-- does the bit count -/
def bitC (op : Str) (both : Int) : Bool := if op = "and" then decide (both = 2) else if op = "or" then decide (0 < both) else decide (both = 1)
theorem bitF_step (op : Str) (a b k : Nat) : ((bitF op a b % 2 ^ (k + 1) : Nat) : Int) = ((bitF op a b % 2 ^ k : Nat) : Int) + (if bitC op (((a / 2 ^ k % 2 : Nat) : Int) + ((b / 2 ^ k % 2 : Nat) : Int)) = true then (2 : Int) ^ k else 0) := by
  have e : bitF op a b / 2 ^ k % 2 = if bitC op (((a / 2 ^ k % 2 : Nat) : Int) + ((b / 2 ^ k % 2 : Nat) : Int)) = true then 1 else 0 := by
    unfold bitF bitC
    by_cases c1 : op = "and"
    · rw [if_pos c1, if_pos c1, bit_and]
      simp only [decide_eq_true_eq]
      split <;> split <;> omega
    · rw [if_neg c1, if_neg c1]
      by_cases c2 : op = "or"
      · rw [if_pos c2, if_pos c2, bit_or]
        simp only [decide_eq_true_eq]
        split <;> split <;> omega
      · rw [if_neg c2, if_neg c2, bit_xor]
        simp only [decide_eq_true_eq]
        split <;> split <;> omega
  rw [Nat.mod_pow_succ, e]
  have hk : ((2 ^ k : Nat) : Int) = (2 : Int) ^ k := PySem.W.kbt_cast k
  split
  · rw [Nat.mul_one]; omega
  · rw [Nat.mul_zero]; omega
theorem bitF_lt (op : Str) {a b n : Nat} (ha : a < 2 ^ n) (hb : b < 2 ^ n) : bitF op a b < 2 ^ n := by
  unfold bitF
  split
  · exact Nat.and_lt_two_pow a hb
  · split
    · exact Nat.or_lt_two_pow ha hb
    · exact Nat.xor_lt_two_pow ha hb
theorem bitOr_nat (a b : Nat) : Builtin.bitOr (a : Int) (b : Int) = ((a ||| b : Nat) : Int) := by
  show Spec.bitOr (a : Int) (b : Int) = _
  have h1 : ¬ (0 ≤ -(a : Int) - 1) := by omega
  have h2 : ¬ (0 ≤ -(b : Int) - 1) := by omega
  have e1 : (-(-(a : Int) - 1) - 1).toNat = a := by omega
  have e2 : (-(-(b : Int) - 1) - 1).toNat = b := by omega
  unfold Spec.bitOr Spec.bitAnd Spec.bitNot
  rw [decide_eq_false h1, decide_eq_false h2]
  show -(-(((-(-(a : Int) - 1) - 1).toNat ||| (-(-(b : Int) - 1) - 1).toNat : Nat) : Int) - 1) - 1 = _
  rw [e1, e2]
  omega
theorem bitAnd_nat (a b : Nat) : Builtin.bitAnd (a : Int) (b : Int) = ((a &&& b : Nat) : Int) := PySem.W.os_band a b
theorem or_sub_and (a b : Nat) : (a ||| b) - (a &&& b) = a ^^^ b ∧ (a &&& b) ≤ (a ||| b) := by
  -- by bits from below
  have key : ∀ n : Nat, ∀ a b : Nat, a < 2 ^ n → b < 2 ^ n → (a ||| b) = (a ^^^ b) + (a &&& b) := by
    intro n
    induction n with
    | zero =>
      intro a b ha hb
      have : a = 0 := by omega
      have : b = 0 := by omega
      subst_vars
      rfl
    | succ n ih =>
      intro a b ha hb
      have h1 := bit_and a b 0
      have h2 := bit_or a b 0
      have h3 := bit_xor a b 0
      have e1 : (a &&& b) / 2 = (a / 2) &&& (b / 2) := Nat.and_div_two
      have e2 : (a ||| b) / 2 = (a / 2) ||| (b / 2) := Nat.or_div_two
      have e3 : (a ^^^ b) / 2 = (a / 2) ^^^ (b / 2) := Nat.xor_div_two
      have hp : 2 ^ (n + 1) = 2 ^ n * 2 := Nat.pow_succ ..
      have := ih (a / 2) (b / 2) (by omega) (by omega)
      simp only [Nat.pow_zero, Nat.div_one] at h1 h2 h3
      have m1 := Nat.mod_lt a (show 2 > 0 by decide)
      have m2 := Nat.mod_lt b (show 2 > 0 by decide)
      split at h1 <;> split at h2 <;> split at h3 <;> omega
  have hm : ∀ a : Nat, a < 2 ^ a := fun a => Nat.lt_two_pow_self
  have ha : a < 2 ^ (a + b) := Nat.lt_of_lt_of_le (hm a) (Nat.pow_le_pow_right (by decide) (by omega))
  have hb : b < 2 ^ (a + b) := Nat.lt_of_lt_of_le (hm b) (Nat.pow_le_pow_right (by decide) (by omega))
  have := key (a + b) a b ha hb
  omega
theorem bitXor_nat (a b : Nat) : Builtin.bitXor (a : Int) (b : Int) = ((a ^^^ b : Nat) : Int) := by
  show Builtin.bitOr (a : Int) (b : Int) - Builtin.bitAnd (a : Int) (b : Int) = _
  rw [bitOr_nat, bitAnd_nat]
  have := or_sub_and a b
  omega
/-- the word of an op, as the document has it -/
def cmpS (op : Str) (n : Nat) (x y : Int) : Int :=
  if op = "add" then (x + y) % 2 ^ n else if op = "sub" then (x - y) % 2 ^ n else if op = "mul" then (x * y) % 2 ^ n
  else if op = "and" then Builtin.bitAnd x y else if op = "or" then Builtin.bitOr x y else if op = "xor" then Builtin.bitXor x y
  else if op = "less" then (if x < y then 1 else 0) else if op = "equal" then (if x = y then 1 else 0)
  else if (n : Int) ≤ y then 0 else if op = "shl" then (x * 2 ^ y.toNat) % 2 ^ n else x / 2 ^ y.toNat
theorem bitF_cmp {op : Str} (h : op = "and" ∨ op = "or" ∨ op = "xor") (n a b : Nat) : cmpS op n (a : Int) (b : Int) = ((bitF op a b : Nat) : Int) := by
  rcases h with rfl | rfl | rfl
  · exact bitAnd_nat a b
  · exact bitOr_nat a b
  · exact bitXor_nat a b
end My

set_option Elab.async false
set_option linter.all false
set_option maxRecDepth 100000
set_option maxHeartbeats 4000000
/-! all(e for x in xs), any(e for x in xs): the element any expression that gives a truth value, calls of own defs too -/
namespace My
open PySem PySem.Spec PyProof.Rows L2 GxR NdefX GenW
/-- the context of the generator's frame -/
def gcx (X : Cx) (s : Shared) (H : Hp) (A : Around) (N : List Str) (cenv : Env) (fp : List Addr) : Cx :=
  { X with A := A, N := N, s_0 := s, H_0 := H, env := cenv, outer := X.stack, stack := cenv :: X.stack, ex := fp, fn := fun _ => false, calm := true, pn := [], xe := fun _ _ => False }
/-- the names that the element reads of the def around it, with their slots there -/
def Caps (X : Cx) (scope : Scope) : List (Str × Nat) → Prop
  | [] => True
  | p :: r => (X.N[p.2]? = some p.1 ∧ scope.names.lookup p.1 = some .free ∧ (X.env.scope.names.lookup p.1 = some .cell ∨ X.env.scope.names.lookup p.1 = some .free)) ∧ Caps X scope r
def gσ (σ : L2.St) (own : List (Str × Nat)) (v : Option V) : L2.St := v :: own.map fun p => (σ[p.2]?).getD none
def gN (x : Str) (own : List (Str × Nat)) : List Str := x :: own.map (·.1)
theorem caps_at {X : Cx} {scope : Scope} : ∀ {own : List (Str × Nat)} {i : Nat} {p : Str × Nat}, Caps X scope own → own[i]? = some p → X.N[p.2]? = some p.1 ∧ scope.names.lookup p.1 = some .free ∧ (X.env.scope.names.lookup p.1 = some .cell ∨ X.env.scope.names.lookup p.1 = some .free)
  | [], _, _, _, e => by simp at e
  | q :: r, 0, p, h, e => by simp at e; subst e; exact h.1
  | q :: r, i + 1, p, h, e => caps_at (own := r) (i := i) h.2 (by simpa using e)
section
variable {X : Cx} {pins : List (Addr × Obj)} {σ : L2.St} {H : Hp} {s s' : Shared}
/-- the heap as it was -/
theorem inv_same (I : Inv X pins σ H s) (h : s'.heap = s.heap) (ho : s'.os = s.os) (hb : AllBare s'.gens) : Inv X pins σ H s' := by
  obtain ⟨hh, g, d, t, o⟩ := s'
  obtain rfl : hh = s.heap := h
  obtain rfl : o = s.os := ho
  exact I.step (g' := g) (d' := d) (t' := t) (ch := []) (fun _ z => nomatch z) (fun _ _ _ _ _ e _ => e) (fun _ o _ _ _ e _ => ⟨o.slots, e⟩) (fun _ _ _ _ n => n) (fun _ o _ e => ⟨o, e⟩) (fun _ _ e => e) (fun _ _ _ e => e)
    (fun b ps e => ⟨#[], by rw [e]; simp⟩) (fun _ hm => hm) I.hok hb
/-- the frame of the generator begins -/
theorem gen_start {it a : Addr} {go : Obj} {fp : List Addr} {scope : Scope} {x : Str} {own : List (Str × Nat)} {A : Around} {h' : Heap} {bi : Addr} {code : Value} {gg : Array GenState} {tk : Nat}
    (I : Inv X pins σ H s) (hfp : ∀ b ∈ fp, FpOk X pins H b ∧ b < s.heap.objs.size) (S : GenS X.env scope x) (hc : Caps X scope own) (hA : A.handled = none) (hF : A.frames = some (genEnv scope (cloFrom X.env.cells scope.names []) s.heap.objs.size code bi X.env :: X.stack)) (hbi : bi = builtinsNs)
    (hn : h'.Ns s.heap.objs.size fun y => if y = ".0" then some (.ref it) else none) (kp : ∀ b o, s.heap.get? b = some o → (h'.push go).get? b = some o) (hsz : h'.objs.size = s.heap.objs.size + 1) (ha : a = h'.objs.size) (hnc : ∀ v, go.data ≠ .cell v) (hfr : go.isFreed = false) (hg : AllBare gg) :
    Inv (gcx X s H A (gN x own) (genEnv scope (cloFrom X.env.cells scope.names []) s.heap.objs.size code bi X.env) fp) [(a, go)] (gσ σ own none) H { s with gens := gg, toks := tk, heap := h'.push go } := by
  have cm : ∀ {y c}, (cloFrom X.env.cells scope.names []).lookup y = some c → X.env.cells.lookup y = some c := fun {y c} e => clo_cm S.free e
  have okB : (gcx X s H A (gN x own) (genEnv scope (cloFrom X.env.cells scope.names []) s.heap.objs.size code bi X.env) fp).Ok := by
    refine ⟨I.ok.mod, S.kind, I.ok.glob, hbi, Nat.le_refl _, fun y z c e1 e2 => I.ok.inj y z c (cm e1) (cm e2), fun y hy => ?_, fun y c z _ => (by cases z), fun _ => hA, hF, .inr ⟨rfl, rfl⟩, fun b hb => ⟨Nat.ne_of_lt (hfp b hb).2, fun y c e z => (hfp b hb).1.2.2.2.2.1 y c (cm e) z⟩,
      I.bs, Nat.le_trans I.ok.bsz I.sz, fun b o e hb => ?_, fun b hb z => ?_, I.stack, I.stkFree⟩
    · have hy : scope.names.lookup y = some .cell ∨ scope.names.lookup y = some .free := hy
      rcases hy with hy | hy
      · exact absurd rfl (S.cell _ (PySem.mem_of_lookup hy))
      · obtain ⟨c, e⟩ := S.free _ (PySem.mem_of_lookup hy) rfl
        exact ⟨c, clo_has S.free (PySem.mem_of_lookup hy) e⟩
    · rcases (hfp b hb).1.2.2.2.1 with z | z
      · exact I.ok.noex b o e z
      · exact absurd (Nat.lt_of_lt_of_le (Heap.lt_size e) (Nat.le_trans I.ok.bsz z)) (Nat.lt_irrefl _)
    · rcases List.mem_cons.mp (I.stkSub b z) with z | z
      · exact (hfp b hb).1.2.1 z
      · exact (hfp b hb).1.2.2.1 z
  refine ⟨okB, rfl, hg, Un.kept kp, ⟨_, hn.push _, fun i y v e1 e2 _ => ?_⟩, fun y c e => ?_, I.hok.fresh (Nat.le_refl _), fun y c e => I.freeC y c (cm e), fun p hp => ?_, I.hok.kept kp, ?_⟩
  · cases i with
    | zero => cases e2
    | succ i =>
      have e1 : (own.map (·.1))[i]? = some y := e1
      have e2 : (own.map fun p => (σ[p.2]?).getD none)[i]? = some (some v) := e2
      rw [List.getElem?_map] at e1 e2
      cases q : own[i]? with
      | none => rw [q] at e1; cases e1
      | some p =>
        rw [q] at e1 e2
        cases e1
        obtain ⟨hN, hf, hk⟩ := caps_at hc q
        have e3 : σ[p.2]? = some (some v) := by
          have e2 : some ((σ[p.2]?).getD none) = some (some v) := e2
          cases r : σ[p.2]? with
          | none => rw [r] at e2; cases e2
          | some u => rw [r] at e2; exact e2
        obtain ⟨m, _, hl⟩ := I.loc
        obtain ⟨u, r, lk⟩ := hl p.2 p.1 v hN e3 (.inr hk)
        refine ⟨u, r, .inr ⟨.inr hf, ?_⟩⟩
        rcases lk with ⟨k, _⟩ | ⟨_, c, e, o, ho, hd⟩
        · have k : X.env.scope.names.lookup p.1 = some .local := k
          rcases hk with hk | hk <;> (rw [hk] at k; cases k)
        · exact ⟨c, clo_has S.free (PySem.mem_of_lookup hf) e, o, kp c o ho, hd⟩
  · obtain ⟨v, o, ho, hd⟩ := I.cell y c (cm e)
    exact ⟨v, o, kp c o ho, hd⟩
  · have hp : p = (a, go) := by simpa [gcx] using hp
    subst hp
    refine ⟨?_, I.hok.fresh (by rw [ha, hsz]; exact Nat.le_succ _), ?_, fun z => ?_, hnc⟩
    · show (h'.push go).get? a = some go
      rw [ha]
      exact Heap.get?_push_size _ hfr
    · show a ≠ s.heap.objs.size
      rw [ha, hsz]
      exact Nat.succ_ne_self _
    · have hlt : ∀ b, b ∈ frs X.stack → b < s.heap.objs.size := fun b hb => by
        rcases List.mem_cons.mp (I.stkSub b hb) with y | y
        · rw [y]; exact I.lt
        · by_cases q : b < s.heap.objs.size
          · exact q
          · exact absurd y (I.nofs (Nat.le_of_not_lt q))
      have q := hlt a z
      rw [ha, hsz] at q
      exact absurd q (Nat.not_lt.mpr (Nat.le_succ _))
  · simp [gσ, gN, gcx]
end

theorem bne_of : ∀ {a b : Bool}, ¬ a = b → a = !b
  | true, true, h => absurd rfl h
  | true, false, _ => rfl
  | false, true, _ => rfl
  | false, false, h => absurd rfl h
/-! ### the generator's turns -/
section
variable {X : Cx} {al : Bool} {W : Nat → Nat → Hp → Prop} {QF : V → Hp → Prop}
/-- what a turn hands out: the answer is settled, or it goes on -/
def YAll (X' : Cx) (pn : List (Addr × Obj)) (al : Bool) (QF : V → Hp → Prop) : Protocol := fun _ _ v s kap =>
  ∃ σ H, Inv X' pn σ H s ∧ ((v = .bool (!al) ∧ QF (.bl (!al)) H) ∨ (v = .bool al ∧ ∀ s', s'.heap = s.heap → s'.os = s.os → AllBare s'.gens → kap (.send .none) s'))
def PAll (X' : Cx) (pn : List (Addr × Obj)) (al : Bool) (QF : V → Hp → Prop) (_ : Nat) (_ s : Shared) : Prop := ∃ σ H, Inv X' pn σ H s ∧ QF (.bl al) H
/-- one turn of the reading -/
def TAll (σ : L2.St) (own : List (Str × Nat)) (te : TE) (al : Bool) (J : It) (W : Nat → Nat → Hp → Prop) (QF : V → Hp → Prop) : Prop := ∀ i m H, W i m H →
  (J.stop i H ∧ QF (.bl al) H) ∨ (J.go i H ∧ ∃ Nx : Hp → Prop, (∀ H', Nx H' → ∃ m', m' < m ∧ W (i + 1) m' H') ∧ ∀ v H', J.yld i H v H' → te (gσ σ own (some v)) H' fun y H2 => ∃ b, y = .bl b ∧ if b = al then Nx H2 else QF (.bl (!al)) H2)
theorem seg_all {A : Around} {elt iter : Expr} {x : Str} {px gpos : Pos} {scope : Scope} {cenv : Env} {s₁ : Shared} {H₁ : Hp} {own : List (Str × Nat)} {fp : List Addr} {it : Addr} {a : Addr} {go : Obj} {J : It} {tn : Nat → Heap → Prop} {σ : L2.St} {te : TE}
    (hsc : cenv.scope = scope) (hx : scope.names.lookup x = some .local) (hco : scope.isCoroutine = false) (hnd : (gN x own).Nodup) (haf : ∀ b ∈ fp, a ≠ b)
    (T : Turn X.prog X.w X.K (.Name x px) J fp it tn)
    (he : PE (gcx X s₁ H₁ (A.over (.compLoop (.GeneratorExp elt [⟨.Name x px, iter, [], 0⟩] scope gpos) 0 (.ref it) .none cenv) []) (gN x own) cenv fp) elt te)
    (turn : TAll σ own te al J W QF) : ∀ (m n i : Nat) (s₀ s : Shared) (H : Hp) (v₀ : Option V), m < n →
      Inv (gcx X s₁ H₁ (A.over (.compLoop (.GeneratorExp elt [⟨.Name x px, iter, [], 0⟩] scope gpos) 0 (.ref it) .none cenv) []) (gN x own) cenv fp) [(a, go)] (gσ σ own v₀) H s → tn i s.heap → (∀ b ∈ fp, H b = none) → W i m H →
      Seg (model X.prog X.w) A (fun n s₀ r s₂ => r = .ok .next ∧ PAll (gcx X s₁ H₁ (A.over (.compLoop (.GeneratorExp elt [⟨.Name x px, iter, [], 0⟩] scope gpos) 0 (.ref it) .none cenv) []) (gN x own) cenv fp) [(a, go)] al QF n s₀ s₂)
        (YAll (gcx X s₁ H₁ (A.over (.compLoop (.GeneratorExp elt [⟨.Name x px, iter, [], 0⟩] scope gpos) 0 (.ref it) .none cenv) []) (gN x own) cenv fp) [(a, go)] al QF) n s₀
        (.compLoop (.GeneratorExp elt [⟨.Name x px, iter, [], 0⟩] scope gpos) 0 (.ref it) .none cenv)
        ((model X.prog X.w).den (.compLoop (.GeneratorExp elt [⟨.Name x px, iter, [], 0⟩] scope gpos) 0 (.ref it) .none cenv)) [] s := by
  generalize hcd : (Code.compLoop (.GeneratorExp elt [⟨.Name x px, iter, [], 0⟩] scope gpos) 0 (.ref it) .none cenv) = cd at *
  have hcalm : ∀ (Y : Cx), (gcx X s₁ H₁ (A.over cd []) (gN x own) cenv fp).calm = true := fun _ => rfl
  intro m
  induction m using Nat.strongRecOn with
  | _ m ih =>
    intro n i s₀ s H v₀ hmn I st hfn w
    have stat : ∀ {σ' : L2.St} {H' : Hp} {s' : Shared}, Inv (gcx X s₁ H₁ (A.over cd []) (gN x own) cenv fp) [(a, go)] σ' H' s' → (∀ b ∈ fp, H' b = none) → ∀ b ∈ fp, FpOk (gcx X s₁ H₁ (A.over cd []) (gN x own) cenv fp) [(a, go)] H' b := fun {σ' H' s'} I' hn b hb =>
      ⟨hn b hb, (I'.ok.exf b hb).1, I'.ok.exfs b hb, .inl hb, fun x c e => (I'.ok.exf b hb).2 x c e, fun p hp => by
        have hp : p = (a, go) := by simpa [gcx] using hp
        rw [hp]
        exact haf b hb⟩
    have den : (model X.prog X.w).den cd = (compTurn (.GeneratorExp elt [⟨.Name x px, iter, [], 0⟩] scope gpos) 0 (.ref it) .none cenv).onRaise (leaving cenv) := by rw [← hcd]; rfl
    rw [den, compTurn_gen, Sem.onRaise_eq_wrap, hcd]
    refine seg_bind_wrap (wpAny_standAt ?_)
    rcases turn i m H w with ⟨stop, qq⟩ | ⟨gg, Nx, hNx, step⟩
    · refine seg_bind_wrap (thnF (T.done (gcx X s₁ H₁ (A.over cd []) (gN x own) cenv fp) rfl rfl rfl rfl i [(a, go)] s _ H (fun _ _ => False) I (stat I hfn) st stop) fun r s2 ⟨hr, I2⟩ => ?_)
      subst hr
      exact seg_end (.ok .next) ⟨rfl, _, H, I2, qq⟩
    · refine seg_bind_wrap (thnF (T.item (gcx X s₁ H₁ (A.over cd []) (gN x own) cenv fp) rfl rfl rfl rfl i [(a, go)] s _ H (fun _ _ => False) I (stat I hfn) st gg) fun r s2 ⟨u, hr, h2⟩ => ?_)
      subst hr
      refine seg_bind_wrap (thnF h2 fun _ s3 ⟨v, H3, I3, r3, y3, st3, n3⟩ => ?_)
      have I3' := I3.pinned (stat I3 n3) (T.obj _ _ st3)
      have hsx : cenv.scope.names.lookup x = some .local := by rw [hsc]; exact hx
      refine seg_bind_wrap (wpAny_assign_Name (store_ok (i := 0) (x := x) I3' hnd rfl (.inl hsx) r3 (fun s4 I4 => ?_) (.inr hsx)))
      have I4 : Inv (gcx X s₁ H₁ (A.over cd []) (gN x own) cenv fp) ([(a, go)] ++ pinsAt fp s3.heap) (gσ σ own (some v)) H3 s4 := I4
      refine seg_bind_wrap (wpAny_tests_nil ?_)
      simp only [if_true]
      have hy : ∀ v, yieldOut cenv v = yieldValue v := fun v => by simp only [yieldOut, hsc, hco, Bool.false_eq_true, if_false]
      simp only [hy]
      rw [Sem.bind_eq_wrap', Sem.bind_eq_wrap', Sem.wrap_wrap, Sem.wrap_wrap]
      refine seg_wrap (thnF (he.run _ s4 _ H3 _ I4 (step v H3 y3)) fun y s5 ⟨z, H5, I5, r5, b, hz, q5⟩ => ?_)
      subst hz
      obtain rfl : y = .bool b := r5
      obtain ⟨k, rfl⟩ : ∃ k, n = k + 1 := ⟨n - 1, by omega⟩
      refine seg_at (seg_yield rfl rfl rfl ⟨_, H5, I5.unpinned, ?_⟩)
      by_cases hb : b = al
      · subst hb
        rw [if_pos rfl] at q5
        obtain ⟨m', hm', w'⟩ := hNx H5 q5
        refine .inr ⟨rfl, fun s6 e6 o6 b6 => ?_⟩
        have pin' : ∀ b ∈ fp, ∀ o, s3.heap.get? b = some o → s5.heap.get? b = some o ∧ H5 b = none := fun b hb o e =>
          let z := I5.pin (b, o) (List.mem_append_right _ (List.mem_append_right _ (mem_pinsAt hb e)))
          ⟨z.1, z.2.1⟩
        refine seg_again (c' := cd) (by rw [← hcd]; rfl) (ih m' hm' k (i + 1) _ s6 H5 (some v) (by omega) (inv_same I5.unpinned e6 o6 b6) (T.keep _ _ _ st3 fun b hb o e => by rw [e6]; exact (pin' b hb o e).1) (fun b hb => ?_) w')
        obtain ⟨o, e, _⟩ := T.obj _ _ st3 b hb
        exact (pin' b hb o e).2
      · rw [if_neg hb] at q5
        have e : b = !al := bne_of hb
        exact .inl ⟨by rw [e], q5⟩
end
end My

set_option Elab.async false
set_option linter.all false
set_option maxRecDepth 100000
set_option maxHeartbeats 4000000
namespace My
open PySem PySem.Spec PyProof.Rows L2 GxR NdefX GenW
section
variable {Y : Cx} {QF : V → Hp → Prop} {a : Addr} {go : Obj} {g : Nat} {A0 : Around} {Re : Result → Shared → Prop}
theorem pull_all {al : Bool} {n : Nat} {s : Shared} {gs : GenState} {Q : Option Value → Shared → Prop} {E : Value → Shared → Prop} (hh : A0.handled = none) (hroom : A0.depth < recursionLimit) (hgen : ∀ h : Heap, h.get? a = some go → h.IsGen a g)
    (hgs : s.gens[g]? = some gs) (hI : ∃ σ H, Inv Y [(a, go)] σ H s)
    (hgo : gs.Goes (model Y.prog Y.w) A0.in1 (fun n s₀ r s₁ => r = .ok .next ∧ PAll Y [(a, go)] al QF n s₀ s₁) (YAll Y [(a, go)] al QF) n (.send .none) (s.setGen g .running))
    (hN : ∀ σ H s', Inv Y [(a, go)] σ H s' → QF (.bl al) H → Q none s') (hS : ∀ σ H s', Inv Y [(a, go)] σ H s' → QF (.bl (!al)) H → Q (some (.bool (!al))) s')
    (hG : ∀ m gs' s', n = m + 1 → s'.gens[g]? = some gs' → (∃ σ H, Inv Y [(a, go)] σ H s') →
      gs'.Goes (model Y.prog Y.w) A0.in1 (fun n s₀ r s₁ => r = .ok .next ∧ PAll Y [(a, go)] al QF n s₀ s₁) (YAll Y [(a, go)] al QF) m (.send .none) (s'.setGen g .running) → Q (some (.bool al)) s') :
    wpAny (model Y.prog Y.w) A0 (pyNext (.ref a)) Q E s := by
  obtain ⟨σ, H, I⟩ := hI
  have hlt : g + 1 ≤ s.gens.size := by
    obtain ⟨h, _⟩ := Array.getElem?_eq_some_iff.mp hgs
    exact h
  refine wpAny_gsz hlt ?_
  refine wpAny_pyNext_genexpQ (P := PAll Y [(a, go)] al QF) hh I.nolimit hroom (hgen _ (I.pin (a, go) (List.mem_append_right _ List.mem_cons_self)).1) hgs hgo (fun v s₁ gs' hb hy => ?_) (fun s₁ hp h' hk => ?_)
  · intro hz
    obtain ⟨σ1, H1, I1, hv⟩ := hy
    have I2 : Inv Y [(a, go)] σ1 H1 (s₁.setGen g gs') := inv_same I1 rfl rfl (allBare_setGen I1.bare hb)
    rcases hv with ⟨rfl, q⟩ | ⟨rfl, kap⟩
    · exact hS _ _ _ I2 q
    · have e := kap ((s₁.setGen g gs').setGen g .running) rfl rfl (allBare_setGen I2.bare rfl)
      cases n with
      | zero => exact e.elim
      | succ m =>
        have hz' : g < s₁.gens.size := by
          rw [setGen_size] at hz
          exact hz
        exact hG m gs' _ rfl (setGen_at hz') ⟨_, _, I2⟩ e
  · intro _
    obtain ⟨σ1, H1, I1, q⟩ := hp
    exact hN σ1 H1 _ ((inv_same (s' := s₁.setGen g .finished) I1 rfl rfl (allBare_setGen I1.bare rfl)).kept (t' := s₁.toks) hk) q
theorem all_turns (hh : A0.handled = none) (hroom : A0.depth < recursionLimit) (hgen : ∀ h : Heap, h.get? a = some go → h.IsGen a g)
    (hR : ∀ σ H b s, Inv Y [(a, go)] σ H s → QF (.bl b) H → Re (.ok (.ret (.bool b))) s) : ∀ (n : Nat) (s : Shared) (gs : GenState), s.gens[g]? = some gs → (∃ σ H, Inv Y [(a, go)] σ H s) →
      gs.Goes (model Y.prog Y.w) A0.in1.in1 (fun n s₀ r s₁ => r = .ok .next ∧ PAll Y [(a, go)] true QF n s₀ s₁) (YAll Y [(a, go)] true QF) n (.send .none) (s.setGen g .running) →
      codeAny (model Y.prog Y.w) A0 (.builtin "all.loop" ⟨[.ref a], []⟩) Re s := by
  intro n
  induction n with
  | zero =>
    intro s gs hgs hI hgo
    refine codeAny_builtin F.entry_all_loop ?_
    rw [Around.under_plainId F.plain_all_loop _]
    show wpAny _ A0.in1 (pyNext (.ref a) >>= _) _ _ s
    refine wpAny_bind (pull_all (A0 := A0.in1) hh hroom hgen hgs hI hgo (fun σ H s' I q => ?_) (fun σ H s' I q => ?_) fun m gs' s' e _ _ _ => ?_)
    · exact wpAny_bind (wpAny_rule (wpAny_pure (hR σ H true s' I q)))
    · refine wpAny_bind (wpAny_holding (wpAny_truthy_bool ?_))
      refine wpAny_bind (wpAny_letGo ?_)
      exact wpAny_bind (wpAny_rule (wpAny_pure (hR σ H false s' I q)))
    · cases e
  | succ n ih =>
    intro s gs hgs hI hgo
    refine codeAny_builtin F.entry_all_loop ?_
    rw [Around.under_plainId F.plain_all_loop _]
    show wpAny _ A0.in1 (pyNext (.ref a) >>= _) _ _ s
    refine wpAny_bind (pull_all (A0 := A0.in1) hh hroom hgen hgs hI hgo (fun σ H s' I q => ?_) (fun σ H s' I q => ?_) fun m gs' s' e h1 h2 h3 => ?_)
    · exact wpAny_bind (wpAny_rule (wpAny_pure (hR σ H true s' I q)))
    · refine wpAny_bind (wpAny_holding (wpAny_truthy_bool ?_))
      refine wpAny_bind (wpAny_letGo ?_)
      exact wpAny_bind (wpAny_rule (wpAny_pure (hR σ H false s' I q)))
    · obtain rfl : n = m := Nat.succ.inj e
      refine wpAny_bind (wpAny_holding (wpAny_truthy_bool ?_))
      refine wpAny_bind (wpAny_letGo ?_)
      exact wpAny_pure ⟨plainId_quiet F.plain_all_loop _, ih s' gs' h1 h2 h3⟩
theorem any_turns (hh : A0.handled = none) (hroom : A0.depth < recursionLimit) (hgen : ∀ h : Heap, h.get? a = some go → h.IsGen a g)
    (hR : ∀ σ H b s, Inv Y [(a, go)] σ H s → QF (.bl b) H → Re (.ok (.ret (.bool b))) s) : ∀ (n : Nat) (s : Shared) (gs : GenState), s.gens[g]? = some gs → (∃ σ H, Inv Y [(a, go)] σ H s) →
      gs.Goes (model Y.prog Y.w) A0.in1.in1 (fun n s₀ r s₁ => r = .ok .next ∧ PAll Y [(a, go)] false QF n s₀ s₁) (YAll Y [(a, go)] false QF) n (.send .none) (s.setGen g .running) →
      codeAny (model Y.prog Y.w) A0 (.builtin "any.loop" ⟨[.ref a], []⟩) Re s := by
  intro n
  induction n with
  | zero =>
    intro s gs hgs hI hgo
    refine codeAny_builtin F.entry_any_loop ?_
    rw [Around.under_plainId F.plain_any_loop _]
    show wpAny _ A0.in1 (pyNext (.ref a) >>= _) _ _ s
    refine wpAny_bind (pull_all (A0 := A0.in1) hh hroom hgen hgs hI hgo (fun σ H s' I q => ?_) (fun σ H s' I q => ?_) fun m gs' s' e _ _ _ => ?_)
    · exact wpAny_bind (wpAny_rule (wpAny_pure (hR σ H false s' I q)))
    · refine wpAny_bind (wpAny_holding (wpAny_truthy_bool ?_))
      refine wpAny_bind (wpAny_letGo ?_)
      exact wpAny_bind (wpAny_rule (wpAny_pure (hR σ H true s' I q)))
    · cases e
  | succ n ih =>
    intro s gs hgs hI hgo
    refine codeAny_builtin F.entry_any_loop ?_
    rw [Around.under_plainId F.plain_any_loop _]
    show wpAny _ A0.in1 (pyNext (.ref a) >>= _) _ _ s
    refine wpAny_bind (pull_all (A0 := A0.in1) hh hroom hgen hgs hI hgo (fun σ H s' I q => ?_) (fun σ H s' I q => ?_) fun m gs' s' e h1 h2 h3 => ?_)
    · exact wpAny_bind (wpAny_rule (wpAny_pure (hR σ H false s' I q)))
    · refine wpAny_bind (wpAny_holding (wpAny_truthy_bool ?_))
      refine wpAny_bind (wpAny_letGo ?_)
      exact wpAny_bind (wpAny_rule (wpAny_pure (hR σ H true s' I q)))
    · obtain rfl : n = m := Nat.succ.inj e
      refine wpAny_bind (wpAny_holding (wpAny_truthy_bool ?_))
      refine wpAny_bind (wpAny_letGo ?_)
      exact wpAny_pure ⟨plainId_quiet F.plain_any_loop _, ih s' gs' h1 h2 h3⟩
end
end My

set_option Elab.async false
set_option linter.all false
set_option maxRecDepth 100000
set_option maxHeartbeats 4000000
namespace My
open PySem PySem.Spec PyProof.Rows L2 GxR NdefX GenW
/-- all(e for x in ..): P the def's table of code objects; W by the turn and a measure -/
def tGen (al : Bool) (P : Addr) (wi : TI) (own : List (Str × Nat)) (te : TE) : TE := fun σ H Q => wi σ H fun J H1 => TabG H1 P ∧ ∀ H2, Tabbed P H1 H2 → ∃ W : Nat → Nat → Hp → Prop, (∃ m, W 0 m H2) ∧ TAll σ own te al J W Q
/-- the generator's scope is in order -/
def genOk (scope : Scope) (x : Str) : Bool := scope.kind == .function && !scope.isCoroutine && scope.names.all (fun y => y.2 != .cell) && scope.names.lookup (".0" : Str) == some NameKind.local && scope.names.lookup x == some NameKind.local
def freeOk (sc scope : Scope) : Bool := scope.names.all fun y => y.2 != .free || sc.names.lookup y.1 == some NameKind.cell || sc.names.lookup y.1 == some NameKind.free
theorem gens_of {env : Env} {scope : Scope} {x : Str} (h : genOk scope x = true) (hf : freeOk env.scope scope = true) (has : ∀ y, (env.kindOf y = some .cell ∨ env.kindOf y = some .free) → ∃ c, env.cells.lookup y = some c) : GenS env scope x := by
  unfold genOk at h
  simp only [Bool.and_eq_true, beq_iff_eq, Bool.not_eq_true', List.all_eq_true, bne_iff_ne] at h
  obtain ⟨⟨⟨⟨h1, h2⟩, h3⟩, h4⟩, h5⟩ := h
  refine ⟨h1, h2, h3, h4, h5, fun y hy e => ?_⟩
  unfold freeOk at hf
  have q := List.all_eq_true.mp hf y hy
  simp only [Bool.or_eq_true, bne_iff_ne, beq_iff_eq] at q
  refine has y.1 ?_
  rcases q with (q | q) | q
  · exact absurd e q
  · exact .inl q
  · exact .inr q
section
variable {X : Cx} {pins : List (Addr × Obj)} {σ : L2.St} {H : Hp} {s : Shared}
theorem gen_made {al : Bool} {c P : Addr} {elt iter : Expr} {x : Str} {px gpos : Pos} {scope : Scope} {wi : TI} {te : TE} {own : List (Str × Nat)} {k : Nat} {Q : VK} {Q' : Value → Shared → Prop}
    (hr : Room (k + 1) X.A) (hcalm : X.calm = true) (TB : TabB X.base X.mg c P) (hcode : X.env.code = .ref c) (S : GenS X.env scope x) (hc : Caps X scope own) (hnd : (gN x own).Nodup) (hi : PI X (.Name x px) iter wi)
    (he : ∀ (s : Shared) (H : Hp) (A : Around) (cl : List (Str × Addr)) (C : Addr) (code : Value) (bi : Addr) (fp : List Addr), Room k A → PE (gcx X s H A (gN x own) (genEnv scope cl C code bi X.env) fp) elt te)
    (hs : ∀ v, genFold iter X.env v = pure v) (I : Inv X pins σ H s) (h : tGen al P wi own te σ H Q)
    (hQ : ∀ (Y : Cx) (a g : Nat) (go : Obj) (n : Nat) (cs : Code) (s5 : Shared), Y.prog = X.prog → Y.w = X.w → (∀ h : Heap, h.get? a = some go → h.IsGen a g) → s5.gens[g]? = some (.fresh cs) → (∃ σ H, Inv Y [(a, go)] σ H s5) → s5.heap.IsGen a g →
      GenState.Goes (model X.prog X.w) X.A.in1.in1 (fun n s₀ r s₁ => r = .ok .next ∧ PAll Y [(a, go)] al Q n s₀ s₁) (YAll Y [(a, go)] al Q) n (.fresh cs) (.send .none) (s5.setGen g .running) →
      (∀ σ' H' s', Inv Y [(a, go)] σ' H' s' → Inv X pins σ H' s') → Q' (.ref a) s5) :
    wpAny (model X.prog X.w) X.A (eval (.GeneratorExp elt [⟨.Name x px, iter, [], 0⟩] scope gpos) X.env) Q' X.xe s := by
  refine wpAny_GeneratorExp_make S.co (closure_ok S.free) S.cell S.dot S.kind (by have := hr.dp; omega) ?_ hs
  refine thn (hi.run pins s σ H _ I h) fun xv s1 hx => thn hx fun itv s2 h2 => ?_
  obtain ⟨it, fp, tn, J, H2, e, I2, T, st2, f2, ⟨ps, hP, ht⟩, q⟩ := h2
  subst e
  refine ⟨I2.nolimit, ?_⟩
  have hPs : s2.heap.get? P = some { cls := .none, data := .fields ps } := I2.hok P _ hP
  have cd : PySem.W.CodeHd s2.heap c P := TB.code.keeps fun b u e => I2.bk b u e
  have nP : ∀ b ∈ fp, b ≠ P := fun b hb z => by
    have := (f2 b hb).1
    rw [z, hP] at this
    cases this
  have cont : ∀ (code : Value) (s3 : Shared) (H3 : Hp), Inv X pins σ H3 s3 → Tabbed P H2 H3 → (∀ b u, b ≠ P → s2.heap.get? b = some u → s3.heap.get? b = some u) →
      wpAny (model X.prog X.w) X.A (builtinsFor X.env.globals X.env.builtins) (fun bi s₄ =>
        ∀ h', h'.Ns s₄.heap.objs.size (fun y => if y = ".0" then some (.ref it) else none) → Heap.SameBut s₄.heap.objs.size (s₄.heap.push { cls := .type "frame", data := .dict #[] }) h' →
          Q' (.ref h'.objs.size) { s₄ with
            gens := s₄.gens.push (.fresh (.compStart (.GeneratorExp elt [⟨.Name x px, iter, [], 0⟩] scope gpos) 0 (.ref it) .none (genEnv scope (cloFrom X.env.cells scope.names []) s₄.heap.objs.size code bi X.env))),
            toks := s₄.toks + 1 + 1 + 1,
            heap := h'.push { cls := .type "generator", data := .fields #[.int s₄.gens.size 0, .str "<genexpr>" (s₄.toks + 1), .str (X.env.qual ++ "<genexpr>") (s₄.toks + 1 + 1)] } }) X.xe s3 := by
    intro code s3 H3 I3 hT kp3
    obtain ⟨bm, ob, e1, e2, e3, e4, e5, e6, e7, e8⟩ := TB.bm
    refine wpAny_builtinsFor (m := X.mg) (by rw [I3.ok.glob]; exact I3.mod.glob.keeps I3.bk) e1 e2 (I3.bk _ _ e5) e6 e7 e8 ?_
    intro h' hn' hs'
    have keep' : ∀ b o, s3.heap.get? b = some o → h'.get? b = some o := fun b o e => hs'.extBut b o (Nat.ne_of_lt (Heap.lt_size e)) (Heap.get?_push_of_some _ e)
    have hsz : h'.objs.size = s3.heap.objs.size + 1 := by rw [hs'.1, Heap.size_push]
    have ffp : ∀ b ∈ fp, FpOk X pins H3 b ∧ b < s3.heap.objs.size := fun b hb => by
      obtain ⟨o, e, _⟩ := T.obj _ _ st2 b hb
      exact ⟨⟨by rw [hT.2 b (nP b hb)]; exact (f2 b hb).1, (f2 b hb).2⟩, Heap.lt_size (kp3 b o (nP b hb) e)⟩
    have st3 : tn 0 s3.heap := T.keep _ _ _ st2 fun b hb o e => kp3 b o (nP b hb) e
    obtain ⟨W, ⟨m0, w0⟩, turn⟩ := q H3 hT
    generalize hgo : ({ cls := .type "generator", data := .fields #[.int s3.gens.size 0, .str "<genexpr>" (s3.toks + 1), .str (X.env.qual ++ "<genexpr>") (s3.toks + 1 + 1)] } : Obj) = go
    have kp5 : ∀ b o, s3.heap.get? b = some o → (h'.push go).get? b = some o := fun b o e => Heap.get?_push_of_some _ (keep' b o e)
    have hisg : ∀ h : Heap, h.get? h'.objs.size = some go → h.IsGen h'.objs.size s3.gens.size := fun h e => ⟨go, _, _, e, by rw [← hgo], by rw [← hgo], by rw [← hgo]⟩
    have hA : (X.A.in1.in1.over (.compLoop (.GeneratorExp elt [⟨.Name x px, iter, [], 0⟩] scope gpos) 0 (.ref it) .none (genEnv scope (cloFrom X.env.cells scope.names []) s3.heap.objs.size code builtinsNs X.env)) []).frames = some (genEnv scope (cloFrom X.env.cells scope.names []) s3.heap.objs.size code builtinsNs X.env :: X.stack) := by
      show pushEnvs [genEnv scope (cloFrom X.env.cells scope.names []) s3.heap.objs.size code builtinsNs X.env] (pushEnvs [] X.A.frames) = _
      rw [I3.ok.frames]
      rfl
    have hRm : Room k (X.A.in1.in1.over (.compLoop (.GeneratorExp elt [⟨.Name x px, iter, [], 0⟩] scope gpos) 0 (.ref it) .none (genEnv scope (cloFrom X.env.cells scope.names []) s3.heap.objs.size code builtinsNs X.env)) []) := by
      have d := hr.dp
      have u := hr.un
      refine ⟨hr.hd, ?_, ?_⟩
      · show X.A.depth + 0 + 1 + 3 * k + 5 < _
        omega
      · show X.A.units + 1 + 1 + 0 + 3 + 16 * k + 200 < _
        omega
    have I5 := gen_start (it := it) (a := h'.objs.size) (go := go) (fp := fp) (own := own) (A := X.A.in1.in1.over (.compLoop (.GeneratorExp elt [⟨.Name x px, iter, [], 0⟩] scope gpos) 0 (.ref it) .none (genEnv scope (cloFrom X.env.cells scope.names []) s3.heap.objs.size code builtinsNs X.env)) [])
      (gg := s3.gens.push (.fresh (.compStart (.GeneratorExp elt [⟨.Name x px, iter, [], 0⟩] scope gpos) 0 (.ref it) .none (genEnv scope (cloFrom X.env.cells scope.names []) s3.heap.objs.size code builtinsNs X.env)))) (tk := s3.toks + 1 + 1 + 1)
      I3 ffp S hc hr.hd hA rfl hn' kp5 hsz rfl (fun v z => by rw [← hgo] at z; cases z) (by rw [← hgo]; rfl) (I3.bare.push rfl)
    have haf : ∀ b ∈ fp, h'.objs.size ≠ b := fun b hb z => by
      have := (ffp b hb).2
      rw [← z, hsz] at this
      exact absurd this (Nat.not_lt.mpr (Nat.le_succ _))
    refine hQ (gcx X s3 H3 (X.A.in1.in1.over (.compLoop (.GeneratorExp elt [⟨.Name x px, iter, [], 0⟩] scope gpos) 0 (.ref it) .none (genEnv scope (cloFrom X.env.cells scope.names []) s3.heap.objs.size code builtinsNs X.env)) []) (gN x own) (genEnv scope (cloFrom X.env.cells scope.names []) s3.heap.objs.size code builtinsNs X.env) fp) h'.objs.size s3.gens.size go (m0 + 1) _ _ rfl rfl hisg (Array.getElem?_push_size ..) ⟨_, _, I5⟩ (hisg _ (Heap.get?_push_size _ (by rw [← hgo]; rfl))) ⟨rfl, ?_⟩ (fun σ' H' s' I6 => ?_)
    · have loop := seg_all (X := X) (A := X.A.in1.in1) (al := al) (W := W) (QF := Q) (elt := elt) (iter := iter) (x := x) (px := px) (gpos := gpos) (scope := scope) (cenv := genEnv scope (cloFrom X.env.cells scope.names []) s3.heap.objs.size code builtinsNs X.env)
        (s₁ := s3) (H₁ := H3) (own := own) (fp := fp) (it := it) (a := h'.objs.size) (go := go) (J := J) (tn := tn) (σ := σ) (te := te) rfl S.loc S.co hnd haf T (he _ _ _ _ _ _ _ _ hRm) turn m0 (m0 + 1) 0
      have st5 : tn 0 (h'.push go) := T.keep _ _ _ st3 fun b _ o e => kp5 b o e
      have nf5 : ∀ b ∈ fp, H3 b = none := fun b hb => (ffp b hb).1.1
      generalize hs5 : ({ s3 with gens := s3.gens.push (.fresh (.compStart (.GeneratorExp elt [⟨.Name x px, iter, [], 0⟩] scope gpos) 0 (.ref it) .none (genEnv scope (cloFrom X.env.cells scope.names []) s3.heap.objs.size code builtinsNs X.env))), toks := s3.toks + 1 + 1 + 1, heap := h'.push go } : Shared) = s5 at I5 ⊢
      have h5 : s5.heap = h'.push go := by rw [← hs5]
      have I5' := inv_same (s' := s5.setGen s3.gens.size .running) I5 rfl rfl (allBare_setGen I5.bare rfl)
      have lp := loop (s5.setGen s3.gens.size .running) (s5.setGen s3.gens.size .running) H3 none (Nat.lt_succ_self _) I5' (by show tn 0 s5.heap; rw [h5]; exact st5) nf5 w0
      show Seg _ _ _ _ _ _ _ ((compStart (.GeneratorExp elt [⟨.Name x px, iter, [], 0⟩] scope gpos) 0 (.ref it) .none (genEnv scope (cloFrom X.env.cells scope.names []) s3.heap.objs.size code builtinsNs X.env)).onRaise (leaving (genEnv scope (cloFrom X.env.cells scope.names []) s3.heap.objs.size code builtinsNs X.env))) [] _
      unfold compStart
      rw [Sem.onRaise_eq_wrap]
      show Seg _ _ _ _ _ _ _ ((ask >>= _).wrap _ _ _ _) [] _
      refine seg_bind_wrap (wpAny_askSetting ?_)
      have slf : tn 0 (s5.setGen s3.gens.size .running).heap := by
        show tn 0 s5.heap
        rw [h5]
        exact st5
      split
      · exact seg_again rfl lp
      · first
          | exact seg_bind_wrap (wpAny_rule (seg_bind_wrap (wpAny_standAt (seg_bind_wrap (T.self _ 0 _ _ _ slf (seg_again rfl lp))))))
          | (refine seg_bind_wrap (wpAny_rule ?_); show Seg _ _ _ _ _ _ _ ((standAt iter.pos >>= _).wrap _ _ _ _) [] _; exact seg_bind_wrap (wpAny_standAt (seg_bind_wrap (T.self _ 0 _ _ _ slf (seg_again rfl lp)))))
    · exact I3.call' (ch := fp) I6.os I6.base I6.hok I6.bare fun b hb => ⟨(ffp b hb).1.2.2.2.1, (ffp b hb).1.2.1, (ffp b hb).1.2.2.2.2.1, (ffp b hb).1.2.2.2.2.2⟩
  cases hf : codeAmong gpos ps.toList with
  | none =>
    refine wpAny_genexprCodeX hcode (cd.code hPs ht) (cd.tab hPs) hf fun c' h3 tk hx hge hlt hco' _ htab' _ => ?_
    obtain ⟨o1, vs, f1, tf, fl, tg, inF, tx, tt, op, _, _, _, _, _, _, _, _, _, htr, _⟩ := hco'
    have I3 := inv_tab (g' := s2.gens) (d' := s2.drawn) (t' := tk) I2 hP (fun b o hb e => hx b o hb e) htab'.2 I2.bare
    exact cont _ _ _ I3 ⟨⟨_, upd_same, htr⟩, fun b hb => upd_ne hb⟩ fun b u hb e => hx b u hb e
  | some cv =>
    refine wpAny_genexprCode_hit hcode (cd.code hPs ht) hf ?_
    exact cont cv s2 H2 I2 ⟨⟨ps, hP, ht⟩, fun _ _ => rfl⟩ fun _ _ _ e => e
theorem pe_allG {c P : Addr} {elt iter : Expr} {x : Str} {px p pos gpos : Pos} {scope : Scope} {wi : TI} {te : TE} (own : List (Str × Nat)) {k : Nat}
    (hr : Room (k + 1) X.A) (hg : Gl X "all") (hm : X.mg "all" = none) (TB : TabB X.base X.mg c P) (hcode : X.env.code = .ref c) (gk : genOk scope x = true) (fk : freeOk X.env.scope scope = true) (hc : Caps X scope own) (hnd : (gN x own).Nodup) (hcalm : X.calm = true) (hi : PI X (.Name x px) iter wi)
    (he : ∀ (s : Shared) (H : Hp) (A : Around) (cl : List (Str × Addr)) (C : Addr) (code : Value) (bi : Addr) (fp : List Addr), Room k A → PE (gcx X s H A (gN x own) (genEnv scope cl C code bi X.env) fp) elt te)
    (hs : ∀ v, genFold iter X.env v = pure v := by intro _; rfl)
    (hE : starEach [.GeneratorExp elt [⟨.Name x px, iter, [], 0⟩] scope gpos] X.env = (false, eval (.GeneratorExp elt [⟨.Name x px, iter, [], 0⟩] scope gpos) X.env) :: starEach [] X.env := by rfl) :
    PE X (.Call (.Name "all" p) [.GeneratorExp elt [⟨.Name x px, iter, [], 0⟩] scope gpos] [] pos) (tGen true P wi own te) := by
  refine ⟨fun pins s σ H Q I h => ?_⟩
  refine wpAny_Call_Name_kw (ld_blt I hg hm (by decide +kernel : bootBuiltins "all" = some (.builtin "all")) ?_)
  refine PyProof.Rows.callWith_builtin1 ?_ hE (by rfl)
  rw [hE]
  show wpAny _ _ (spliced ((false, eval (.GeneratorExp elt [⟨.Name x px, iter, [], 0⟩] scope gpos) X.env) :: backTo pos (starEach [] X.env))) _ _ s
  refine Calls.spliced_cons (gen_made hr hcalm TB hcode (gens_of gk fk I.ok.has) hc hnd hi he hs I h fun Y a g go n cs s5 hp hw hgen hgs hI hisg hgo hback => ?_)
  refine Calls.spliced_nil ?_
  refine call_function_tree F.kind_all F.plain_all F.entry_all (F.args_all1 _) ?_
  unfold Builtin.«all»
  refine wpAny_bind (m := oneArg "all" _) (wpAny_pure ?_)
  refine wpAny_bind (wpAny_pyIter_gen hisg ?_)
  rw [← hp, ← hw] at hgo ⊢
  exact wpAny_pure ⟨plainId_quiet F.plain_all_loop _, all_turns (A0 := X.A) (QF := Q) hr.hd (by have := hr.dp; omega) hgen (fun σ' H' b s6 I6 q => ⟨.bl b, H', hback _ _ _ I6, rfl, q⟩) n s5 _ hgs hI hgo⟩
theorem pe_anyG {c P : Addr} {elt iter : Expr} {x : Str} {px p pos gpos : Pos} {scope : Scope} {wi : TI} {te : TE} (own : List (Str × Nat)) {k : Nat}
    (hr : Room (k + 1) X.A) (hg : Gl X "any") (hm : X.mg "any" = none) (TB : TabB X.base X.mg c P) (hcode : X.env.code = .ref c) (gk : genOk scope x = true) (fk : freeOk X.env.scope scope = true) (hc : Caps X scope own) (hnd : (gN x own).Nodup) (hcalm : X.calm = true) (hi : PI X (.Name x px) iter wi)
    (he : ∀ (s : Shared) (H : Hp) (A : Around) (cl : List (Str × Addr)) (C : Addr) (code : Value) (bi : Addr) (fp : List Addr), Room k A → PE (gcx X s H A (gN x own) (genEnv scope cl C code bi X.env) fp) elt te)
    (hs : ∀ v, genFold iter X.env v = pure v := by intro _; rfl)
    (hE : starEach [.GeneratorExp elt [⟨.Name x px, iter, [], 0⟩] scope gpos] X.env = (false, eval (.GeneratorExp elt [⟨.Name x px, iter, [], 0⟩] scope gpos) X.env) :: starEach [] X.env := by rfl) :
    PE X (.Call (.Name "any" p) [.GeneratorExp elt [⟨.Name x px, iter, [], 0⟩] scope gpos] [] pos) (tGen false P wi own te) := by
  refine ⟨fun pins s σ H Q I h => ?_⟩
  refine wpAny_Call_Name_kw (ld_blt I hg hm (by decide +kernel : bootBuiltins "any" = some (.builtin "any")) ?_)
  refine PyProof.Rows.callWith_builtin1 ?_ hE (by rfl)
  rw [hE]
  show wpAny _ _ (spliced ((false, eval (.GeneratorExp elt [⟨.Name x px, iter, [], 0⟩] scope gpos) X.env) :: backTo pos (starEach [] X.env))) _ _ s
  refine Calls.spliced_cons (gen_made hr hcalm TB hcode (gens_of gk fk I.ok.has) hc hnd hi he hs I h fun Y a g go n cs s5 hp hw hgen hgs hI hisg hgo hback => ?_)
  refine Calls.spliced_nil ?_
  refine call_function_tree F.kind_any F.plain_any F.entry_any (F.args_any1 _) ?_
  unfold Builtin.«any»
  refine wpAny_bind (m := oneArg "any" _) (wpAny_pure ?_)
  refine wpAny_bind (wpAny_pyIter_gen hisg ?_)
  rw [← hp, ← hw] at hgo ⊢
  exact wpAny_pure ⟨plainId_quiet F.plain_any_loop _, any_turns (A0 := X.A) (QF := Q) hr.hd (by have := hr.dp; omega) hgen (fun σ' H' b s6 I6 q => ⟨.bl b, H', hback _ _ _ I6, rfl, q⟩) n s5 _ hgs hI hgo⟩
end
/-! ### a def whose code object is known -/
structure FunC (K : PySem.W.Frag) (x qual : Str) (st : Stmt) (f : Addr) (fd : FuncData) (c : Addr) : Prop where
  ex : ∃ (oc : Value) (od : Option Addr) (kV doc pm : Value) (an : Option Addr) (ct : Value) (osl : Array (Option Value)),
    fd = PySem.W.fnOf x qual (defArgs st) (defBody st) (defScope st) .none kV doc pm an (.ref c) ct ∧ K.lookup f = some ⟨oc, od, .func fd, osl⟩ ∧ PySem.W.codeIn K (.ref c) qual = true
  kp : PySem.W.keepIn K (.ref f) = true
section
variable {P : Program} {w : World} {K : PySem.W.Frag} {mg : Str → Option Value} {base : Heap}
theorem FunC.fun {x qual : Str} {st : Stmt} {f : Addr} {fd : FuncData} {c : Addr} (F : FunC K x qual st f fd c) : Fun K x qual st f fd :=
  ⟨let ⟨oc, od, kV, doc, pm, an, ct, osl, h⟩ := F.ex; ⟨oc, od, kV, doc, pm, an, .ref c, ct, osl, h⟩, F.kp⟩
theorem FunC.ok {x qual : Str} {st : Stmt} {f : Addr} {fd : FuncData} {c : Addr} {N ps : List Str} {k : Nat} {sp : Sp} (F : FunC K x qual st f fd c) (S : FnScope N ps (defScope st)) (len : ∀ vs H Q E, sp vs H Q E → vs.length = ps.length)
    (hbody : ∀ (A : Around) (outer : List Env) (s : Shared) (H : Hp) (vs : List V) (Q : VK) (E : XK), Room k (A.deeper (envOfC qual (defScope st) s.heap.objs.size f (.ref c))) → sp vs H Q E →
      ∃ t, PSs (cxOf CX0 P w K mg base N qual (defScope st) f (.ref c) A outer s H E).nox (defBody st) t ∧ t { nx := fun _ H' => Q .non H', rt := Q } (start N vs) H) : FnOk P w K mg base CX0 (k + 1) f fd ps sp := by
  obtain ⟨oc, od, kV, doc, pm, an, ct, osl, e, lk, hcd⟩ := F.ex
  cases e
  refine fn_of lk hcd S len fun A outer s H vs Q E hr hsp => ?_
  obtain ⟨t, h, q⟩ := hbody A outer s H vs Q E hr hsp
  exact ⟨t, h.nox, q⟩
theorem func_mk {x qual : Str} {st : Stmt} {f c : Addr} {oc : Value} {od an : Option Addr} {osl : Array (Option Value)} {kV doc pm ct : Value} (l : K.lookup f = some ⟨oc, od, .func (PySem.W.fnOf x qual (defArgs st) (defBody st) (defScope st) .none kV doc pm an (.ref c) ct), osl⟩)
    (h : PySem.W.codeIn K (.ref c) qual = true) (k : PySem.W.keepIn K (.ref f) = true) : FunC K x qual st f (PySem.W.fnOf x qual (defArgs st) (defBody st) (defScope st) .none kV doc pm an (.ref c) ct) c := ⟨⟨oc, od, kV, doc, pm, an, ct, osl, rfl, l, h⟩, k⟩
end
end My

set_option Elab.async false
set_option linter.all false
set_option maxRecDepth 100000
/-! data of ints, texts, truth values, None and tuples; heaps that keep all but some places -/
namespace My
open PySem PySem.Spec PyProof.Rows L2
/-! ### what is kept -/
structure KT (S : List Addr) (H H' : Hp) : Prop where
  kp : ∀ b o, b ∉ S → H b = some o → H' b = some o
  tp : ∀ b xs, H b = some (.tup xs) → H' b = some (.tup xs)
  fz : ∀ b o u, H b = some (.frz o u) → H' b = some (.frz o u)
  th : ∀ b o, H b = some o → ∃ o', H' b = some o'
  hd : ∀ b c t, H b = some (.lst (.ref c :: t)) → ∃ t', H' b = some (.lst (.ref c :: t'))
section
variable {S S' : List Addr} {H H1 H2 H' : Hp} {K : PySem.W.Frag}
theorem KT.refl (S : List Addr) (H : Hp) : KT S H H := ⟨fun _ _ _ e => e, fun _ _ e => e, fun _ _ _ e => e, fun _ o e => ⟨o, e⟩, fun _ _ t e => ⟨t, e⟩⟩
theorem KT.trans (a : KT S H H1) (b : KT S H1 H2) : KT S H H2 :=
  ⟨fun c o n e => b.kp c o n (a.kp c o n e), fun c xs e => b.tp c xs (a.tp c xs e), fun c o u e => b.fz c o u (a.fz c o u e), fun c o e => let ⟨o', e'⟩ := a.th c o e; b.th c o' e', fun c d t e => let ⟨t', e'⟩ := a.hd c d t e; b.hd c d t' e'⟩
theorem KT.mono (a : KT S H H1) (h : ∀ b ∈ S, b ∈ S') : KT S' H H1 := ⟨fun b o n e => a.kp b o (fun z => n (h b z)) e, a.tp, a.fz, a.th, a.hd⟩
theorem KT.new (S : List Addr) {p : Addr} {o : HO} (h : H p = none) : KT S H (upd H p o) :=
  ⟨fun b x _ e => by rw [upd_ne (ne_of_none e h)]; exact e, fun b x e => by rw [upd_ne (ne_of_none e h)]; exact e, fun b x u e => by rw [upd_ne (ne_of_none e h)]; exact e, fun b x e => ⟨x, by rw [upd_ne (ne_of_none e h)]; exact e⟩, fun b c t e => ⟨t, by rw [upd_ne (ne_of_none e h)]; exact e⟩⟩
theorem KT.of_same (a : Same H H1) : KT S H H1 := ⟨fun b o _ e => a b o e, fun b xs e => a b _ e, fun b o u e => a b _ e, fun b o e => ⟨o, a b o e⟩, fun b c t e => ⟨t, a b _ e⟩⟩
/-- a place changes that is no tuple and not locked -/
theorem KT.put {p : Addr} {u o : HO} (hp : p ∈ S) (h : H p = some u) (h1 : ∀ xs, u ≠ .tup xs) (h2 : ∀ o v, u ≠ .frz o v) (h3 : ∀ xs, u ≠ .lst xs) : KT S H (upd H p o) :=
  ⟨fun b x n e => by rw [upd_ne (fun z => n (by rw [z]; exact hp))]; exact e, fun b x e => by
    rw [upd_ne (fun z => by rw [z, h] at e; exact h1 x (Option.some.inj e))]; exact e, fun b x v e => by
    rw [upd_ne (fun z => by rw [z, h] at e; exact h2 x v (Option.some.inj e))]; exact e, fun b x e => by
    by_cases z : b = p
    · exact ⟨o, by rw [z, upd_same]⟩
    · exact ⟨x, by rw [upd_ne z]; exact e⟩, fun b c t e => ⟨t, by rw [upd_ne (fun z => by rw [z, h] at e; exact h3 _ (Option.some.inj e))]; exact e⟩⟩
/-- a place changes that did not stand at the start -/
theorem KT.late {p : Addr} {o : HO} (a : KT S H H1) (h : H p = none) : KT S H (upd H1 p o) :=
  ⟨fun b x n e => by rw [upd_ne (ne_of_none e h)]; exact a.kp b x n e, fun b x e => by rw [upd_ne (ne_of_none e h)]; exact a.tp b x e, fun b x u e => by rw [upd_ne (ne_of_none e h)]; exact a.fz b x u e,
    fun b x e => by rw [upd_ne (ne_of_none e h)]; exact a.th b x e, fun b c t e => by rw [upd_ne (ne_of_none e h)]; exact a.hd b c t e⟩
theorem KT.free (a : KT S H H1) {p : Addr} (h : H1 p = none) : H p = none := by
  cases q : H p with
  | none => rfl
  | some o =>
    obtain ⟨o', e⟩ := a.th p o q
    rw [h] at e
    cases e
theorem KT.tab {P : Addr} (h : GxR.Tabbed P H H1) (t : GxR.TabG H P) (hP : P ∈ S) : KT S H H1 := by
  obtain ⟨ps, e, _⟩ := t
  obtain ⟨⟨ps', e', _⟩, k⟩ := h
  have ne : ∀ b o, H b = some o → (∀ q, o ≠ .tbl q) → b ≠ P := fun b o q n z => by rw [z, e] at q; exact n ps (Option.some.inj q).symm
  refine ⟨fun b o n q => ?_, fun b xs q => ?_, fun b o u q => ?_, fun b o q => ?_, fun b c t q => ⟨t, by rw [k b (ne b _ q (fun _ z => by cases z))]; exact q⟩⟩
  · rw [k b (fun z => n (by rw [z]; exact hP))]; exact q
  · rw [k b (ne b _ q (fun _ z => by cases z))]; exact q
  · rw [k b (ne b _ q (fun _ z => by cases z))]; exact q
  · by_cases z : b = P
    · exact ⟨_, by rw [z]; exact e'⟩
    · exact ⟨o, by rw [k b z]; exact q⟩
theorem KT.sqT (a : KT S H H1) {p : Addr} {xs : List V} (h : SqT K H p xs) : SqT K H1 p xs := by
  rcases h with (h | ⟨o, h⟩) | h
  · exact .inl (.inl (a.tp _ _ h))
  · exact .inl (.inr ⟨o, a.fz _ _ _ h⟩)
  · exact .inr h
theorem KT.sqL (a : KT S H H1) {p : Addr} {xs : List V} (n : p ∉ S) (h : SqL K H p xs) : SqL K H1 p xs := by
  rcases h with (h | ⟨o, h⟩) | h
  · exact .inl (.inl (a.kp _ _ n h))
  · exact .inl (.inr ⟨o, a.fz _ _ _ h⟩)
  · exact .inr h
end
/-! ### data -/
mutual
inductive Rp (K : PySem.W.Frag) (H : Hp) : V → PyData → Prop
  | non : Rp K H .non .none
  | bl (b : Bool) : Rp K H (.bl b) (.bool b)
  | int (i : Int) : Rp K H (.int i) (.int i)
  | str (x : Str) : Rp K H (.str x) (.str x)
  | tup {a : Addr} {xs : List V} {ds : List PyData} : SqT K H a xs → RpA K H xs ds → Rp K H (.ref a) (.tuple ds)
inductive RpA (K : PySem.W.Frag) (H : Hp) : List V → List PyData → Prop
  | nil : RpA K H [] []
  | cons {v : V} {vs : List V} {d : PyData} {ds : List PyData} : Rp K H v d → RpA K H vs ds → RpA K H (v :: vs) (d :: ds)
end
section
variable {K : PySem.W.Frag} {S : List Addr} {H H' : Hp}
mutual
theorem Rp.keep (k : KT S H H') : ∀ {d : PyData} {v : V}, Rp K H v d → Rp K H' v d
  | .none, _, h => by cases h; exact .non
  | .bool b, _, h => by cases h; exact .bl b
  | .int i, _, h => by cases h; exact .int i
  | .str x, _, h => by cases h; exact .str x
  | .list ds, _, h => by cases h
  | .dict ds, _, h => by cases h
  | .tuple ds, _, h => by
    cases h with
    | tup hs ha => exact .tup (k.sqT hs) (RpA.keep k ha)
theorem RpA.keep (k : KT S H H') : ∀ {ds : List PyData} {vs : List V}, RpA K H vs ds → RpA K H' vs ds
  | [], _, h => by cases h; exact .nil
  | d :: ds, _, h => by
    cases h with
    | cons h1 h2 => exact .cons (Rp.keep k h1) (RpA.keep k h2)
end
mutual
theorem Rp.dp : ∀ {d : PyData} {v : V}, Rp K H v d → Dp K H v d
  | .none, _, h => by cases h; exact .non
  | .bool b, _, h => by cases h; exact .bl b
  | .int i, _, h => by cases h; exact .int i
  | .str x, _, h => by cases h; exact .str x
  | .list ds, _, h => by cases h
  | .dict ds, _, h => by cases h
  | .tuple ds, _, h => by
    cases h with
    | tup hs ha => exact .tup hs (RpA.dp ha)
theorem RpA.dp : ∀ {ds : List PyData} {vs : List V}, RpA K H vs ds → DpAll K H vs ds
  | [], _, h => by cases h; exact .nil
  | d :: ds, _, h => by
    cases h with
    | cons h1 h2 => exact .cons (Rp.dp h1) (RpA.dp h2)
end
theorem RpA.length : ∀ {ds : List PyData} {vs : List V}, RpA K H vs ds → vs.length = ds.length
  | [], _, h => by cases h; rfl
  | d :: ds, _, h => by
    cases h with
    | cons h1 h2 => rw [List.length_cons, List.length_cons, RpA.length h2]
theorem RpA.get : ∀ {ds : List PyData} {vs : List V} {i : Nat} {v : V}, RpA K H vs ds → vs[i]? = some v → ∃ d, ds[i]? = some d ∧ Rp K H v d
  | [], _, i, v, h, e => by cases h; simp at e
  | d :: ds, _, i, v, h, e => by
    cases h with
    | cons h1 h2 =>
      cases i with
      | zero => simp at e; subst e; exact ⟨d, rfl, h1⟩
      | succ i =>
        obtain ⟨d', e', r⟩ := RpA.get h2 (i := i) (v := v) (by simpa using e)
        exact ⟨d', by simpa using e', r⟩
theorem RpA.app : ∀ {ds es : List PyData} {vs us : List V}, RpA K H vs ds → RpA K H us es → RpA K H (vs ++ us) (ds ++ es)
  | [], _, _, _, h, g => by cases h; exact g
  | d :: ds, _, _, _, h, g => by
    cases h with
    | cons h1 h2 => exact .cons h1 (RpA.app h2 g)
theorem RpA.snoc {ds : List PyData} {vs : List V} {v : V} {d : PyData} (h : RpA K H vs ds) (g : Rp K H v d) : RpA K H (vs ++ [v]) (ds ++ [d]) := h.app (.cons g .nil)
theorem RpA.take : ∀ {ds : List PyData} {vs : List V} (n : Nat), RpA K H vs ds → RpA K H (vs.take n) (ds.take n)
  | _, _, 0, _ => by simp only [List.take_zero]; exact .nil
  | [], _, n + 1, h => by cases h; simp only [List.take_nil]; exact .nil
  | d :: ds, _, n + 1, h => by
    cases h with
    | cons h1 h2 => rw [List.take_succ_cons, List.take_succ_cons]; exact .cons h1 (RpA.take n h2)
theorem RpA.drop : ∀ {ds : List PyData} {vs : List V} (n : Nat), RpA K H vs ds → RpA K H (vs.drop n) (ds.drop n)
  | _, _, 0, h => h
  | [], _, n + 1, h => by cases h; simp only [List.drop_nil]; exact .nil
  | d :: ds, _, n + 1, h => by
    cases h with
    | cons h1 h2 => rw [List.drop_succ_cons, List.drop_succ_cons]; exact RpA.drop n h2
/-- a tuple just made -/
theorem Rp.made {p : Addr} {vs : List V} {ds : List PyData} (hp : H p = none) (h : RpA K H vs ds) : Rp K (upd H p (.tup vs)) (.ref p) (.tuple ds) := .tup (SqT.of upd_same) (h.keep (KT.new [] hp))
theorem Rp.inv {v : V} {ds : List PyData} (h : Rp K H v (.tuple ds)) : ∃ a xs, v = .ref a ∧ SqT K H a xs ∧ RpA K H xs ds := by
  cases h with
  | tup hs ha => exact ⟨_, _, rfl, hs, ha⟩
theorem RpA.inv {vs : List V} {d : PyData} {ds : List PyData} (h : RpA K H vs (d :: ds)) : ∃ v r, vs = v :: r ∧ Rp K H v d ∧ RpA K H r ds := by
  cases h with
  | cons h1 h2 => exact ⟨_, _, rfl, h1, h2⟩
theorem RpA.inv0 {vs : List V} (h : RpA K H vs []) : vs = [] := by cases h; rfl
theorem Rp.sInv {v : V} {x : Str} (h : Rp K H v (.str x)) : v = .str x := by cases h; rfl
theorem Rp.iInv {v : V} {x : Int} (h : Rp K H v (.int x)) : v = .int x := by cases h; rfl
end
end My

set_option Elab.async false
set_option linter.all false
set_option maxRecDepth 100000
set_option maxHeartbeats 4000000
namespace My
open PySem PySem.Spec PyProof.Rows L2
theorem tuple_mul1 (l : Addr) (items : Array Value) (n : Nat) (dd : Option Addr) (sl : Array (Option Value)) (x : Int) (u : Tok) (c0 : (decide (x < -(2 ^ 63)) || decide (x ≥ 2 ^ 63)) = false) (c1 : (items.isEmpty || x == 1) = true) :
    Meets (Builtin.«tuple.__mul__» ⟨[.ref l, .int x u], []⟩) (fun _ R s => s.heap.get? l = some { cls := .type "tuple", dict := dd, data := .seq items n, slots := sl } ∧
      R (.ok (.ret (Value.ref l))) s) :=
  .of_wp fun prog w A R s h => by
    obtain ⟨hp, g, d, tk, os⟩ := s
    obtain ⟨hl, h⟩ := h
    have f1 := AutoSeq1.idx_int
    wp_walk using wpAny_loadPart' hl
    repeat (first
      | (refine wpAny_ite_false (decide_eq_false (by rw [c0]; exact Bool.false_ne_true)) ?_; wp_walk using wpAny_loadPart' hl)
      | (refine wpAny_ite_true (decide_eq_true c1) ?_; wp_walk using wpAny_loadPart' hl))
    exact ⟨_, rfl, h⟩
/-- (x,) * k, k from 1 on: the same tuple for 1, else a new one -/
def rRepZ (K : PySem.W.Frag) : R2 := fun x y H Q => ∃ l k xs, x = .ref l ∧ y = .int k ∧ SqT K H l xs ∧ xs ≠ [] ∧ 1 ≤ k ∧ k ≤ 1000 ∧ xs.length ≤ 1000 ∧ (k = 1 → Q (.ref l) H) ∧ (2 ≤ k → ∀ p, H p = none → Q (.ref p) (upd H p (.tup (List.replicate k.toNat xs).flatten)))
section
variable {X : Cx} {K : PySem.W.Frag}
theorem op_repZ (h : X.K = K) : OpR X (binaryOp .Mult) (rRepZ K) := by
  subst h
  intro pins s σ H x y v u Q I rx ry h
  obtain ⟨l, k, xs, rfl, rfl, hT, hne, h1, h2, hz, q1, q2⟩ := h
  by_cases hk : k = 1
  · subst hk
    have q := q1 rfl
    cases rx
    obtain ⟨t, rfl⟩ := ry
    obtain ⟨its, r, ⟨⟨cls, dd, data, sl⟩, ho, hc, n, hd⟩, hs⟩ := I.tuple hT
    simp only at hc hd
    subst hc hd
    refine wpAny_binaryOp_repeat_ref (T := "tuple") (U := "int") (by decide) ⟨_, ho, rfl⟩ (fun s' => typeIs_int s' 1 t) noFill_tuple_mul F.fills_int_mul F.slot_int_rmul repeat_tuple F.slot_int_index.lookup
      (call_meets F.slot_int_rmul (typeIs_int s 1 t) F.entry_int_rmul (F.args_int_rmul_2 _ _) (int_rmul_tuple 1 t l its.toArray n dd sl)
        ⟨ho, rfl, ⟨_, ho, rfl⟩, call_meets F.slot_tuple_mul ⟨_, ho, rfl⟩ F.entry_tuple_mul (F.args_tuple_mul_2 _ _) (tuple_mul1 l its.toArray n dd sl 1 t (by decide) (by simp)) ⟨ho, ?_⟩⟩)
    exact ⟨.ref l, H, I, rfl, q⟩
  · exact op_repT pins s σ H _ _ v u Q I rx ry ⟨l, k, xs, rfl, rfl, hT, hne, by omega, h2, hz, q2 (by omega)⟩
end
/-- the truth of the name in the i-th slot -/
theorem pt_truthK {X : Cx} {K : PySem.W.Frag} (h : X.K = K) (i : Nat) {x : Str} {pos : Pos} (hN : X.N[i]? = some x := by rfl) (hv : Vis X.env.scope x := by first | exact Or.inl rfl | exact Or.inr (Or.inl rfl) | exact Or.inr (Or.inr rfl)) (hd : (x == ("__debug__" : Str)) = false := by decide)
    (hcd : (x == ("__classdict__" : Str)) = false := by decide) : PT X (.Name x pos) (fun σ H Q => tVar i σ H fun x H' => ∃ k, TruV K x H' k ∧ Q k H') := by
  subst h
  exact pt_truth (pv i hN hv hd hcd) (by intro _; rfl)
end My

set_option Elab.async false
set_option linter.all false
set_option maxRecDepth 100000
/-! the end of a row whose defs hold generator expressions -/
namespace My
open PySem PySem.Spec PyProof.Rows L2
/-- what the head tells of the defs' code objects: their tables are empty -/
def RecTabs (q : Program) (mg : Str → Option Value) (h : Heap) : Prop := ∀ d ∈ recsOf q, ∃ a o fd c P, mg d.name = some (.ref a) ∧ h.get? a = some o ∧ o.data = .func fd ∧ fd.code = .ref c ∧ h.IsCode c P #[] ∧ h.TableAt c P #[]
theorem walk_ofG {l : PySem.W.OpenLaw} {n k : Nat} {q : Program} {loose : List Str} {XP : (Str → Option Value) → Heap → Prop} {YP : World → Heap → Prop} {d : DefRec} {K : Params → PySem.W.Frag} {x : Str}
    (hn : l.most = some n) (hn2 : n ≤ sizeLine) (hdf : d.params.defaults = []) (hr : Room k callerA) (hY : ∀ (w : World) (h : Heap), YP w h → (K w.params).In h)
    (F : ∀ (w : World) (mg : Str → Option Value) (fa : Addr) (h : Heap), (K w.params).In h → h.Ns mainGlobals mg → mg d.name = some (.ref fa) → RecTabs q mg h → LamX.LawAtS l w (K w.params) CX0 k n x mg fa h) :
    PySem.W.WalkO q loose XP YP l.row.toRowW d [] (fun f vs => PySem.call f vs) := by
  refine Att.attach_callB hn hdf fun w s₀ s₁ mg mb fa o pm cd doc a vs ns G Y ho hd hcd hmg hobj hints hlen hbits hg => ?_
  have KX := hY w _ Y
  obtain ⟨fd, cs, sp, hT, nT, C, hb, hsp, hF⟩ := F w mg fa _ KX G.T.g hmg G.T.tab
  exact LamX.law_callTs KX G.T.g G.T.b G.T.builtins G.T.nolimit hg hT nT C G.T.bmain hobj hints (Nat.le_trans hlen hn2) hr hF hb (fun H hH hS => hsp H a ns hlen hbits hH hS) fun H e s' h => h
/-- the table of the code object at c -/
def codeTab (K : PySem.W.Frag) (c : Addr) : Option Addr := match K.lookup c with
  | some ⟨_, _, .fields vs, _⟩ => (match (vs[11]? : Option Value) with | some (.ref P) => some P | _ => none)
  | _ => none
/-- the table of the def that bears this name stands empty -/
theorem tab_of {q : Program} {mg : Str → Option Value} {h : Heap} {K : PySem.W.Frag} {nm : Str} {f c P : Addr} {oc : Value} {od : Option Addr} {fd : FuncData} {osl : Array (Option Value)} (T : RecTabs q mg h) (X : K.In h)
    (hrec : ((recsOf q).any fun e => e.name == nm) = true) (hm : mg nm = some (.ref f)) (lk : K.lookup f = some ⟨oc, od, .func fd, osl⟩) (hc : fd.code = .ref c) (hd : codeTab K c = some P) : h.get? P = some { cls := .none, data := .fields #[] } := by
  obtain ⟨d, hd1, e⟩ := List.any_eq_true.mp hrec
  have e : d.name = nm := beq_iff_eq.mp e
  obtain ⟨a, o, fd', c', P', h1, h2, h3, h4, h5, h6⟩ := T d hd1
  rw [e, hm] at h1
  cases h1
  rw [X _ _ lk] at h2
  cases h2
  cases h3
  rw [hc] at h4
  cases h4
  obtain ⟨⟨oc', vc, e1, _, e3, e4⟩, hP⟩ := h6
  unfold codeTab at hd
  split at hd
  · rename_i vs _ hk
    rw [X _ _ hk] at e1
    cases e1
    cases e3
    rw [e4] at hd
    cases hd
    exact hP
  · cases hd
/-- the code object's fields are in order -/
def hdOk (vs : Array Value) (c P : Addr) : Bool := (match (vs[11]? : Option Value) with | some (.ref P') => P' == P | _ => false) &&
  (match vs.getD 18 .none with | .str _ _ => true | _ => false) && (match vs.getD 7 .none with | .int _ _ => true | _ => false) &&
  (match vs.getD 9 .none with | .bool _ => true | _ => false) && (match vs.getD 10 .none with | .int _ _ => true | _ => false) && c != P
theorem codeHd_mk {K : PySem.W.Frag} {c P : Addr} {vs : Array Value} {dd : Option Addr} {sl : Array (Option Value)} (lk : K.lookup c = some ⟨.type "code", dd, .fields vs, sl⟩) (_ : vs[11]? = some (.ref P)) (h : hdOk vs c P = true) : PySem.W.codeHdIn K c P = true := by
  unfold PySem.W.codeHdIn
  rw [lk]
  exact h
theorem codeTab_mk {K : PySem.W.Frag} {c P : Addr} {vs : Array Value} {dd : Option Addr} {sl : Array (Option Value)} (lk : K.lookup c = some ⟨.type "code", dd, .fields vs, sl⟩) (h : vs[11]? = some (.ref P)) : codeTab K c = some P := by
  unfold codeTab
  rw [lk]
  show (match (vs[11]? : Option Value) with | some (.ref P) => some P | _ => none) = _
  rw [h]
end My

set_option Elab.async false
set_option linter.all false
set_option maxRecDepth 100000
namespace My
open PySem PySem.Spec PyProof.Rows L2
/-! small steps of a reading -/
theorem ite_f {c A B : Prop} [Decidable c] (h : ¬ c) (q : B) : if c then A else B := by rw [if_neg h]; exact q
theorem ite_t {c A B : Prop} [Decidable c] (h : c) (q : A) : if c then A else B := by rw [if_pos h]; exact q
theorem dstr_ne {a b : Str} (h : ¬ a = b) : ¬ decide (V.str a = V.str b) = true := fun z => h (V.str.inj (of_decide_eq_true z))
theorem dstr_eq {a b : Str} (h : a = b) : decide (V.str a = V.str b) = true := decide_eq_true (by rw [h])
theorem dint_ne {a b : Int} (h : ¬ a = b) : ¬ decide (V.int a = V.int b) = true := fun z => h (V.int.inj (of_decide_eq_true z))
theorem dint_eq {a b : Int} (h : a = b) : decide (V.int a = V.int b) = true := decide_eq_true (by rw [h])
theorem dget_s {H : Hp} {a : Addr} {kvs : List (Key × V)} {x : Str} {v : V} (e : H a = some (.dK kvs)) (h : valV kvs (.inr x) = some v) : DGet H a (.str x) (some v) := by
  rw [← h]
  exact DGet.k (k := Sum.inr x) e
theorem dget_f {H : Hp} {a : Addr} {o : Obj} {kvs : List (Key × V)} {x : Str} {v : V} (e : H a = some (.frz o (.dK kvs))) (h : valV kvs (.inr x) = some v) : DGet H a (.str x) (some v) := by
  rw [← h]
  exact .inl ⟨kvs, .inr x, .inr ⟨o, e⟩, rfl, rfl⟩
theorem not_bl {b : Bool} (h : b = false) : ¬ b = true := by rw [h]; exact Bool.false_ne_true
end My
namespace My
open PySem PySem.Spec PyProof.Rows L2
theorem or_bl {a b : Bool} {p : Prop} (h : ¬ a = true) (g : b = true ∨ p) : b = true ∨ p := g
theorem dp_strL {K : PySem.W.Frag} {H : Hp} : ∀ xs : List Str, DpAll K H (xs.map V.str) (xs.map PyData.str)
  | [] => .nil
  | x :: r => .cons (.str x) (dp_strL r)
theorem layAll_strs : ∀ xs : List Str, (∀ x ∈ xs, (PyData.str x).canLay0 = true) → PyData.canLayAll0 (xs.map PyData.str) = true
  | [], _ => rfl
  | x :: r, h => by
    show (PyData.canLay0 (.str x) && PyData.canLayAll0 (r.map PyData.str)) = true
    rw [layAll_strs r (fun y hy => h y (List.mem_cons_of_mem _ hy)), Bool.and_true]
    exact h x List.mem_cons_self
theorem depthAll_strs : ∀ xs : List Str, PyData.depthAll (xs.map PyData.str) = 0
  | [] => rfl
  | x :: r => by
    show max (PyData.depth (.str x)) (PyData.depthAll (r.map PyData.str)) = 0
    rw [depthAll_strs r]
    rfl
theorem shaped_strs (xs : List Str) (h : ∀ x ∈ xs, (PyData.str x).canLay0 = true) : SeqAt.shaped (.list (xs.map PyData.str)) = true := by
  unfold SeqAt.shaped
  rw [Bool.and_eq_true]
  refine ⟨layAll_strs xs h, decide_eq_true ?_⟩
  show PyData.depthAll (xs.map PyData.str) + 1 ≤ 64
  rw [depthAll_strs]
  decide
theorem eqv_nil (xs : List PyData) : PyData.eqv (.list xs) (.list []) = xs.isEmpty := by
  cases xs with
  | nil => rfl
  | cons x r => rfl
/-! a statement laid open -/
theorem seq_asg_op {r : R2} {ta tb : TE} {g : TG} {u : TS} {D : Ends} {σ : L2.St} {H : Hp} (h : ta σ H fun x H1 => tb σ H1 fun y H2 => r x y H2 fun v H3 => g v σ H3 (u D)) : tSeq (tAsg (tOp r ta tb) g) u D σ H := h
theorem seq_asg {te : TE} {g : TG} {u : TS} {D : Ends} {σ : L2.St} {H : Hp} (h : te σ H fun v H3 => g v σ H3 (u D)) : tSeq (tAsg te g) u D σ H := h
theorem seq_any {t u : TS} {D : Ends} {σ : L2.St} {H : Hp} (h : t { D with nx := u D } σ H) : tSeq t u D σ H := h
end My
namespace My
open PySem PySem.Spec PyProof.Rows L2
/-! the same operators, the written part by its name: within a comprehension's block -/
section
variable {X : Cx} {K : PySem.W.Frag}
theorem opNI (h : X.K = K) : OpR X (compareOp .NotIn) (rIn K true) := by subst h; exact op_notIn_seq
theorem opIN (h : X.K = K) : OpR X (compareOp .In) (rIn K false) := by subst h; exact op_in_seq
theorem ixL (h : X.K = K) : IxR X (rIxL K) := by subst h; exact ix_list
theorem ixT (h : X.K = K) : IxR X (rIxT K) := by subst h; exact ix_tup
theorem ixQ (h : X.K = K) : IxR X (rIx K) := by subst h; exact ix_seq
theorem opED (h : X.K = K) (hu : X.A.units + 64 < cLine) : OpR X (compareOp .Eq) (rEqD K) := by subst h; exact op_eqD hu
theorem opND (h : X.K = K) (hu : X.A.units + 64 < cLine) : OpR X (compareOp .NotEq) (rNeD K) := by subst h; exact op_neD hu
theorem slL (h : X.K = K) : SlR X (rSlL K) := by subst h; exact sl_list
theorem slT (h : X.K = K) : SlR X (rSlA K) := by subst h; exact sl_tupA
theorem catT (h : X.K = K) : OpR X (binaryOp .Add) (rCatA K) := by subst h; exact op_catA
theorem lnQ (h : X.K = K) : CallR X (.builtin "len") (fun xs H Q => ∃ p ys, xs = [.ref p] ∧ (SqL K H p ys ∨ SqT K H p ys) ∧ Q (.int ys.length) H) := by subst h; exact call_len_seq
theorem lsO (h : X.K = K) : CallR X (.type "list") (fun xs H Q => ∃ p ys, xs = [.ref p] ∧ (SqL K H p ys ∨ SqT K H p ys) ∧ ∀ l, H l = none → Q (.ref l) (upd H l (.lst ys))) := by subst h; exact call_list_of
theorem tpO (h : X.K = K) : CallR X (.type "tuple") (fun xs H Q => ∃ p ys, xs = [.ref p] ∧ ((SqL K H p ys ∧ ∀ l, H l = none → Q (.ref l) (upd H l (.tup ys))) ∨ (SqT K H p ys ∧ Q (.ref p) H))) := by subst h; exact call_tuple_of
theorem isI (h : X.K = K) : CallR X (.builtin "isinstance") (rIsi K) := by subst h; exact call_isi
end
end My
namespace My
open PySem PySem.Spec PyProof.Rows L2
/-! a walk over a list or a tuple, as it comes -/
section
variable {X : Cx} {tg : Expr}
def iSeq (K : PySem.W.Frag) (tl : TE) : TI := fun σ H R => tl σ H fun x H1 => ∃ (a : Addr) (xs : List V) (G : Hp → Prop), x = .ref a ∧ ((G = fun H => SqL K H a xs) ∨ (G = fun H => SqT K H a xs)) ∧ G H1 ∧ ∀ J, Walk J xs.length G (YAt xs) → R J H1
theorem pi_seq {l : Expr} {tl : TE} (hl : PE X l tl) : PI X tg l (iSeq X.K tl) := by
  refine ⟨fun pins s σ H R I h => ?_⟩
  refine thn (hl.run pins s σ H _ I h) fun v s1 ⟨x, H1, I1, r1, q1⟩ => ?_
  obtain ⟨a, xs, G, e, hG, g1, q⟩ := q1
  subst e
  cases r1
  have fp : ∀ b ∈ [s1.heap.objs.size], FpOk X pins H1 b := fun b hb => by
    rw [List.mem_singleton.mp hb]
    exact I1.fpOk (Nat.le_refl _) (I1.hok.fresh (Nat.le_refl _))
  rcases hG with rfl | rfl
  · have hq : SqL X.K H1 a xs := g1
    obtain ⟨its, _, p, _⟩ := I1.list hq
    refine wpAny_pyIter_list p.isList ?_
    exact ⟨_, _, _, _, H1, rfl, I1.kept (t' := s1.toks) fun b o e => Heap.get?_push_of_some _ e, turn_list a _, ⟨_, Heap.get?_push_size _ rfl, rfl, rfl⟩, fp, q _ walk_list⟩
  · have hq : SqT X.K H1 a xs := g1
    obtain ⟨its, _, p, _⟩ := I1.tuple hq
    refine wpAny_pyIter_tuple (show s1.heap.IsTuple a its.toArray from p) ?_
    exact ⟨_, _, _, _, H1, rfl, I1.kept (t' := s1.toks) fun b o e => Heap.get?_push_of_some _ e, turn_tuple a _, ⟨_, Heap.get?_push_size _ rfl, rfl, rfl⟩, fp, q _ walk_tup⟩
end
theorem lookup_memG {β : Type} {nm : List (Str × β)} (nd : (nm.map (·.1)).Nodup) {x : Str} {s : β} (h : (x, s) ∈ nm) : nm.lookup x = some s := by
  induction nm with
  | nil => cases h
  | cons p r ih =>
    obtain ⟨y, t⟩ := p
    rw [List.map_cons, List.nodup_cons] at nd
    rcases List.mem_cons.mp h with e | h
    · cases e
      rw [List.lookup_cons_self]
    · have ne : ¬ x = y := fun z => nd.1 (by rw [← z]; exact List.mem_map.mpr ⟨_, h, rfl⟩)
      rw [List.lookup_cons]
      have : (x == y) = false := by simpa using ne
      rw [this]
      exact ih nd.2 h
end My

set_option Elab.async false
set_option linter.all false
set_option maxRecDepth 100000
/-! methods of built-in types within a comprehension -/
namespace My
open PySem PySem.Spec PyProof.Rows L2
section
variable {X : Cx} {K : PySem.W.Frag} {o e : Expr} {es : List Expr} {to : TE} {t : TA} {name : Str} {apos cpos : Pos} {T id : String} {r : V → List V → Hp → VK → Prop}
theorem pe_bmK (h : X.K = K) (pa : PlainAttrs T) (slot : Slot T name id) (hty : typeOf (.builtin id) = pure (.type "method_descriptor")) (hm : MtR X id r) (ho : PE X o to) (ha : PA X (e :: es) t) (hbase : attributeBase o name X.env (eval o X.env) = eval o X.env := by rfl)
    (hfew : ((backTo cpos (starEach (e :: es) X.env)).all (fun x => !x.1) && (backToKw cpos (keywordEach [] X.env)).all (fun x => x.1.isSome) && decide ((e :: es).length + ([] : List Keyword).length + (if ([] : List Keyword).isEmpty then 0 else 1) < 30)) = true := by rfl)
    (hline : (apos.endLine == cpos.line) = true := by rfl) (hs : starEach (e :: es) X.env = (false, eval e X.env) :: starEach es X.env := by rfl) (hplain : (backTo cpos (starEach es X.env)).any (·.1) = false := by rfl) :
    PE X (.Call (.Attribute o name apos) (e :: es) [] cpos) (tBM K T r to t) := by
  subst h
  exact pe_bm pa slot hty hm ho ha hbase hfew hline hs hplain
/-- the truth of any expression -/
def tTru (K : PySem.W.Frag) (ta : TE) : TT := fun σ H Q => ta σ H fun x H' => ∃ k, TruV K x H' k ∧ Q k H'
theorem pt_truthE {a : Expr} {ta : TE} (h : X.K = K) (ha : PE X a ta) (he : ∀ whole, isTrue a X.env whole = (do let v ← whole; standAt a.pos; holding [v] (truthy v))) : PT X a (tTru K ta) := by
  subst h
  exact pt_truth ha he
end
end My

set_option Elab.async false
set_option linter.all false
set_option maxRecDepth 100000
set_option maxHeartbeats 2000000
/-! enumerate over a tuple -/
namespace My
open PySem PySem.Spec PyProof.Rows L2
open AutoSeq1 (wpAny_loadPart')
theorem meets_en {v : Value} {o : Obj} {B : Heap → Prop} (b : Begins v o B) : Meets (Builtin.«enumerate.__new__» ⟨[.type "enumerate", v], []⟩)
    (fun _ R s => B s.heap ∧ R (.ok (.ret (.ref (s.heap.push o).objs.size))) { s with heap := (s.heap.push o).push { cls := .type "enumerate", data := .fields #[.none, .bool false, .ref s.heap.objs.size, rawInt 0, .none, .none] } }) :=
  .of_wp fun prog w A R s h => by
    obtain ⟨hp, g, d, tk, os⟩ := s
    obtain ⟨h1, h⟩ := h
    have sb := sub_enumerate
    have it : ∀ {A' : Around} {E : Value → Shared → Prop} {Q : Value → Shared → Prop}, Q (.ref hp.objs.size) ⟨hp.push o, g, d, tk, os⟩ → wpAny (model prog w) A' (pyIter v) Q E ⟨hp, g, d, tk, os⟩ := fun q => b.iter prog w _ _ ⟨hp, g, d, tk, os⟩ _ h1 q
    wp_walk using it
    refine wpAny_stack_any fun u => wpAny_pure ?_
    split
    · rename_i c _ _ _ _ _
      cases (c == Value.type "enumerate") <;> (wp_walk using it; exact ⟨_, rfl, h⟩)
    · wp_walk using it
      exact ⟨_, rfl, h⟩
section
variable {prog : Program} {w : World} {A : Around} {E : Value → Shared → Prop} {s : Shared}
theorem call_en {v : Value} {o : Obj} {B : Heap → Prop} {Q : Value → Shared → Prop} (b : Begins v o B) (h1 : B s.heap)
    (h : ∀ h', IsEnum h' (s.heap.objs.size + 1) s.heap.objs.size 0 .none → h'.get? s.heap.objs.size = some o → (∀ c u, s.heap.get? c = some u → h'.get? c = some u) → Q (.ref (s.heap.objs.size + 1)) { s with heap := h' }) :
    wpAny (model prog w) A (call (.type "enumerate") [v]) Q E s := by
  refine callType_new F.called_enumerate (by decide) (F.typeCall_enumerate_1 _) (F.newCall_enumerate_1 _) (fun u => F.args_object_init_2 u _) F.entry_enumerate_new (meets_en b) ⟨h1, ?_⟩
  have z : (s.heap.push o).objs.size = s.heap.objs.size + 1 := Heap.size_push ..
  have e := Heap.get?_push_size (s.heap.push o) (o := { cls := .type "enumerate", data := .fields #[.none, .bool false, .ref s.heap.objs.size, rawInt 0, .none, .none] }) rfl
  rw [z] at e
  show _ ∧ _
  rw [z]
  exact ⟨⟨_, e, rfl⟩, h _ e (Heap.get?_push_of_some _ (Heap.get?_push_size _ b.free)) fun c u x => Heap.get?_push_of_some _ (Heap.get?_push_of_some _ x)⟩
end
/-- the tuple at a, each item in a new pair -/
def IteT (K : PySem.W.Frag) (a : Addr) : It where
  go := fun i H => ∃ (xs : List V) (x : V), SqT K H a xs ∧ xs[i]? = some x
  yld := fun i H v H' => ∃ T x, v = .ref T ∧ H T = none ∧ H' = upd H T (.tup [.int (i : Nat), x]) ∧ ∀ xs, SqT K H a xs → xs[i]? = some x
  stop := fun i H => ∃ xs : List V, SqT K H a xs ∧ xs.length ≤ i
theorem turn_enT {P : Program} {w : World} {K : PySem.W.Frag} {elts : List Expr} {kk : Nat} {tpos : Pos} (a e it : Addr) (hne : e ≠ it) (hea : e ≠ a) (hai : a ≠ it) :
    Turn P w K (.Tuple elts kk tpos) (IteT K a) [e, it] e (fun i h => (∃ old, IsEnum h e it ((i : Nat) : Int) old) ∧ h.IsTupleIter it a i) where
  mem := List.mem_cons_self
  obj := fun i h st b hb => by
    obtain ⟨⟨old, he⟩, o, ho, _, hd⟩ := st
    rcases List.mem_cons.mp hb with z | z
    · rw [z]; exact ⟨_, he, fun v q => nomatch q⟩
    · rw [List.mem_singleton.mp z]; exact ⟨o, ho, fun v q => by rw [hd] at q; cases q⟩
  keep := fun i h h' ⟨⟨old, he⟩, hi⟩ k => ⟨⟨old, k e (by simp) _ he⟩, hi.at fun o q => k it (by simp) o q⟩
  item := by
    intro X hP hw hK hc i pins s σ H E I hf st hg
    subst hP hw hK
    obtain ⟨⟨old, he⟩, hit⟩ := st
    obtain ⟨xs, x, hq, hx⟩ := hg
    obtain ⟨its, rv, ⟨po, p⟩, hz⟩ := I.tuple hq
    obtain ⟨u, hu, ru⟩ := rv.get hx
    have hi : i < its.toArray.size := by
      rw [List.size_toArray]
      exact (List.getElem?_eq_some_iff.mp hu).1
    have hel := Heap.lt_size he
    have hil : it < s.heap.objs.size := let ⟨_, q, _⟩ := hit; Heap.lt_size q
    have D : Draws X.prog X.w X.A.in1 it [it, a] its.toArray.size (fun i v => its.toArray[i]? = some v) (fun i h => h.IsTupleIter it a i ∧ h.IsTuple a its.toArray) := Draws.tuple (A := X.A.in1) (I.ok.hd hc) it a hai its.toArray
    refine wpAny_pyNext_enum_itemD (n := its.toArray.size) D he ⟨hit, ⟨po, p⟩⟩ hi hne (fun z => (List.mem_cons.mp z).elim hne fun z => hea (List.mem_singleton.mp z)) fun y h' tk hy ho hst hT hsz hk => ?_
    have hy : y = u := by
      have : its.toArray[i]? = some u := by simpa using hu
      exact Option.some.inj (hy.symm.trans this)
    subst hy
    refine ⟨_, rfl, wpAny_letOwnedTupleGo_enum (s := { s with heap := h', toks := tk + 1 }) ho fun h'' he' sb => ?_⟩
    have nT : s.heap.objs.size ≠ e := Nat.ne_of_gt hel
    have hT2 := (sb.2 _ nT).trans hT
    have new : ObjOk X.prog X.w (upd H s.heap.objs.size (.tup [.int (i : Nat), x])) h'' s.heap.objs.size (.tup [.int (i : Nat), x]) :=
      ⟨(by show 2 ≤ sizeLine; decide), [.int i tk, y], .cons ⟨_, rfl⟩ (.cons ru .nil), ⟨_, hT2, rfl, _, rfl⟩⟩
    have I1 : Inv X pins σ (upd H s.heap.objs.size (.tup [.int (i : Nat), x])) { s with heap := h'', toks := tk + 1 } :=
      I.turnedNew (ch := [e, it]) (fun b ob hb q => by
        have n1 : b ≠ e := fun z => hb (by rw [z]; simp)
        have n2 : b ≠ it := fun z => hb (by rw [z]; simp)
        exact (sb.2 b n1).trans (hk b ob n1 n2 q)) hf (Nat.le_refl _) new
    refine ⟨.ref s.heap.objs.size, _, I1, rfl, ⟨_, x, rfl, I.hok.fresh (Nat.le_refl _), rfl, fun ys hy => (I.tuple_inj hy hq) ▸ hx⟩, ⟨⟨y, ?_⟩, hst.1.at fun o q => (sb.2 it (Ne.symm hne)).trans q⟩, fun b hb => ?_⟩
    · have e1 : ((i + 1 : Nat) : Int) = (i : Int) + 1 := by omega
      rw [e1]; exact he'
    · have hb' : b ≠ s.heap.objs.size := by
        rcases List.mem_cons.mp hb with z | z
        · rw [z]; exact Nat.ne_of_lt hel
        · rw [List.mem_singleton.mp z]; exact Nat.ne_of_lt hil
      rw [upd_ne hb']
      exact (hf b hb).1
  done := by
    intro X hP hw hK hc i pins s σ H E I hf st hg
    subst hP hw hK
    obtain ⟨⟨old, he⟩, hit⟩ := st
    obtain ⟨xs, hq, hx⟩ := hg
    obtain ⟨its, rv, ⟨po, p⟩, hz⟩ := I.tuple hq
    obtain ⟨f0, f1, f2, f3, f4, f5⟩ := hf it (by simp)
    have D : wpAny (model X.prog X.w) X.A (pyNext (.ref e)) (fun r s1 => r = none ∧ Inv X pins σ H s1) E s := by
      have hT : s.TypeIs (.ref e) "enumerate" := ⟨_, he, rfl⟩
      unfold pyNext
      refine wpAny_bind (wpAny_attempt (wpAny_callSpecial?_slot (name := Str.ofString "__next__") hT F.slot_enumerate_next (wpAny_call_entry F.slot_enumerate_next hT F.entry_enumerate_next ?_ (F.args_enumerate_next_1 _))))
      show wpAny _ _ (field (.ref e) 2 >>= _) _ _ _
      refine wpAny_bind (wpAny_field he rfl (x := .ref it) rfl (wpAny_bind ?_))
      refine RZ.nextOf_tuple_end (I.ok.hd hc) hit ⟨po, p⟩ (by have := rv.length; simp; omega) fun h' x hx' hs => ?_
      obtain ⟨o, ho, hc'⟩ := hs
      exact wpAny_bind (wpAny_isInstance (T := "StopIteration") (b := true) ⟨o, ho, hc'⟩ isSubtype_stop (wpAny_pure ⟨rfl, I.turned (t' := s.toks) (fun b o hb q => hx' b o hb q) f0 f1 f3 f4 f5⟩))
    exact D
  self := fun A i s Q E st h => let ⟨⟨_, he⟩, _⟩ := st; wpAny_pyIter_enum he h
def iEnT (K : PySem.W.Frag) (ta : TA) : TI := fun σ H R => ta σ H fun vs H1 => ∃ a xs, vs = [.ref a] ∧ SqT K H1 a xs ∧ R (IteT K a) H1
theorem pi_enT {X : Cx} {e : Expr} {ta : TA} {p pos tpos : Pos} {elts : List Expr} {kk : Nat} (hg : Gl X "enumerate") (hm : X.mg "enumerate" = none) (ha : PA X [e] ta) (hs : starEach [e] X.env = [(false, eval e X.env)] := by rfl) :
    PI X (.Tuple elts kk tpos) (.Call (.Name "enumerate" p) [e] [] pos) (iEnT X.K ta) := by
  refine ⟨fun pins s σ H R I h => Call_ (ld_blt I hg hm boot_enumerate (PyProof.Rows.callWith_type1 (thn (ha.run pos pins s σ H _ I h) fun us s1 ⟨vs, H1, I1, r1, q1⟩ => ?_) hs rfl))⟩
  obtain ⟨a, xs, rfl, hq, q⟩ := q1
  cases r1 with
  | cons r rr =>
    cases rr
    cases r
    obtain ⟨its, rv, ⟨po, p'⟩, hz⟩ := I1.tuple hq
    have hal : a < s1.heap.objs.size := let ⟨q', _⟩ := p'; Heap.lt_size q'
    refine call_en (begins_tuple a its.toArray) ⟨po, p'⟩ fun h' he hit hk => wpAny_pyIter_enum he ?_
    refine ⟨s1.heap.objs.size + 1, [s1.heap.objs.size + 1, s1.heap.objs.size], _, _, H1, rfl, I1.kept (t' := s1.toks) hk, turn_enT a (s1.heap.objs.size + 1) s1.heap.objs.size (Nat.succ_ne_self _) (Nat.ne_of_gt (Nat.lt_succ_of_lt hal)) (Nat.ne_of_lt hal), ⟨⟨.none, he⟩, ⟨_, hit, rfl, rfl⟩⟩, fun b hb => ?_, q⟩
    have hle : s1.heap.objs.size ≤ b := by
      rcases List.mem_cons.mp hb with z | z
      · rw [z]; exact Nat.le_add_right _ _
      · rw [List.mem_singleton.mp z]; exact Nat.le_refl _
    exact I1.fpOk hle (I1.hok.fresh hle)
theorem walk_enT {K : PySem.W.Frag} {a : Addr} {xs : List V} : Walk (IteT K a) xs.length (fun H => SqT K H a xs) (YPair (fun i => some (.int (i : Nat))) (fun i => xs[i]?)) where
  goes := fun i _ hi q => ⟨xs, xs[i], q, by simp [hi]⟩
  stops := fun _ q => ⟨xs, q, Nat.le_refl _⟩
  yields := fun i H v H' _ q ⟨T, x, h1, h2, h3, h4⟩ => ⟨T, .int (i : Nat), x, h1, h2, h3, rfl, h4 xs q⟩
end My

set_option Elab.async false
set_option linter.all false
set_option maxRecDepth 100000
set_option maxHeartbeats 4000000
/-! enumerate over a zip of two tuples -/
namespace My
open PySem PySem.Spec PyProof.Rows L2
abbrev ZO (h : Heap) (z TI TO : Addr) (f : Value) (b : Bool) : Prop := h.get? z = some { cls := .type "zip", dict := none, data := .fields #[f, .bool b, .bool false, .ref TI, .ref TO], slots := #[] }
def Fo (f : Value) : Prop := f = .none ∨ ∃ T : Addr, f = rawInt T
structure ZS (h : Heap) (z TI TO i1 i2 a b : Addr) (k : Nat) : Prop where
  zo : ∃ f c, ZO h z TI TO f c ∧ Fo f
  ti : IsPair h TI (.ref i1) (.ref i2)
  to : ∃ x y, IsPair h TO x y
  j1 : h.IsTupleIter i1 a k
  j2 : h.IsTupleIter i2 b k
section
variable {prog : Program} {w : World} {A : Around} {E : Value → Shared → Prop} {s : Shared}
theorem alive_any {a : Addr} {Q : Option Obj → Shared → Prop} (q : Q (s.heap.get? a) s) : wpAny (model prog w) A (loadIfAlive a) Q E s := fun _ _ _ => q
/-- is the owned tuple free: either way -/
theorem own_z {z TI TO : Addr} {f : Value} {c : Bool} {Q : Bool → Shared → Prop} (o : ZO s.heap z TI TO f c) (hf : Fo f) (q1 : Q true s) (q0 : ∀ g, ZO g z TI TO f true → Heap.SameBut z s.heap g → Q false { s with heap := g }) :
    wpAny (model prog w) A (Builtin.SmallTypes.ownedTupleIsFree (.ref z)) Q E s := by
  unfold Builtin.SmallTypes.ownedTupleIsFree
  refine wpAny_bind (wpAny_field o rfl (x := f) rfl ?_)
  rcases hf with rfl | ⟨T, rfl⟩
  · exact wpAny_pure q1
  · show wpAny _ _ (loadIfAlive ((T : Int).toNat) >>= _) _ _ _
    refine wpAny_bind (alive_any ?_)
    cases e : s.heap.get? ((T : Int).toNat) with
    | none =>
      rw [if_pos (show ((none : Option Obj).isNone = true) from rfl)]
      exact wpAny_pure q1
    | some ob =>
      rw [if_neg (by simp)]
      refine wpAny_bind (wpAny_field o rfl (x := .bool c) rfl ?_)
      cases c with
      | true =>
        rw [if_neg (by decide)]
        exact wpAny_pure (q0 s.heap o (Heap.SameBut.refl _ _))
      | false =>
        rw [if_pos (by decide)]
        exact wpAny_bind (wpAny_setField_rec o (by simp) fun g og sg => wpAny_pure (q0 g og sg))
/-- the next pair of a zip -/
theorem zn_item {z TI TO i1 i2 a b : Addr} {k : Nat} {xs ys : Array Value} {x y : Value} {Q : Value → Shared → Prop} (D : ZipApart z TI TO i1 i2 a b) (S : ZS s.heap z TI TO i1 i2 a b k) (ha : s.heap.IsTuple a xs) (hb : s.heap.IsTuple b ys) (ex : xs[k]? = some x) (ey : ys[k]? = some y)
    (q : ∀ g, ZS g z TI TO i1 i2 a b (k + 1) → IsPair g s.heap.objs.size x y → g.objs.size = s.heap.objs.size + 1 → (∀ c o, c ≠ z → c ≠ TO → c ≠ i1 → c ≠ i2 → s.heap.get? c = some o → g.get? c = some o) → Q (.ref s.heap.objs.size) { s with heap := g }) :
    wpAny (model prog w) A (Builtin.SmallTypes.nextOf (.ref z)) Q E s := by
  obtain ⟨⟨f, c, zo, hf⟩, ti, ⟨u, v, to⟩, j1, j2⟩ := S
  have ty : s.TypeIs (.ref z) "zip" := ⟨_, zo, rfl⟩
  unfold Builtin.SmallTypes.nextOf
  refine wpAny_bind (wpAny_callSpecial?_slot (name := Str.ofString "__next__") ty F.slot_zip_next (wpAny_call_entry F.slot_zip_next ty F.entry_zip_next ?_ (F.args_zip_next_1 _)))
  show wpAny _ _ (field (.ref z) 2 >>= _) _ _ s
  refine wpAny_bind (wpAny_field zo rfl (x := .bool false) rfl ?_)
  show wpAny _ _ (field (.ref z) 3 >>= _) _ _ s
  refine wpAny_bind (wpAny_field zo rfl (x := .ref TI) rfl (wpAny_bind (wpAny_seqItems ti rfl ?_)))
  show wpAny _ _ (Builtin.SmallTypes.ownedTupleIsFree (.ref z) >>= _) _ _ s
  refine wpAny_bind (own_z zo hf ?_ fun g1 o1 s1 => ?_)
  · -- free
    simp only [if_true]
    refine wpAny_bind (wpAny_rule (wpAny_bind (wpAny_field zo rfl (x := .ref TO) rfl (wpAny_bind (wpAny_setField_rec zo (by simp) fun g1 o1 s1 => ?_)))))
    replace o1 : ZO g1 z TI TO .ellipsis c := o1
    refine wpAny_bind ?_
    simp only [List.zipIdx_cons, List.zipIdx_nil, List.forIn_cons, List.forIn_nil]
    refine wpAny_bind (wpAny_bind (wpAny_onRaise (wpAny_bind ?_)))
    refine RZ.nextOf_tuple_item (j1.extBut s1.extBut D.i1z) (ha.extBut s1.extBut D.l1z) ex fun g2 k1 s2 => wpAny_pure ?_
    have to2 : IsPair g2 TO u v := s2.extBut _ _ D.TOi1 (s1.extBut _ _ D.TOz to)
    refine wpAny_bind (wpAny_seqItems to2 rfl (wpAny_bind (wpAny_updateSeq_pair to2 fun g3 to3 s3 => wpAny_bind (wpAny_letGo (wpAny_pure ?_)))))
    replace to3 : IsPair g3 TO x v := to3
    refine wpAny_bind (wpAny_bind (wpAny_onRaise (wpAny_bind ?_)))
    refine RZ.nextOf_tuple_item (((j2.extBut s1.extBut D.i2z).extBut s2.extBut D.i12.symm).extBut s3.extBut D.TOi2.symm) (((hb.extBut s1.extBut D.l2z).extBut s2.extBut D.l2i1).extBut s3.extBut D.l2TO) ey fun g4 k2 s4 => wpAny_pure ?_
    have to4 : IsPair g4 TO x v := s4.extBut _ _ D.TOi2 to3
    refine wpAny_bind (wpAny_seqItems to4 rfl (wpAny_bind (wpAny_updateSeq_pair to4 fun g5 to5 s5 => wpAny_bind (wpAny_letGo (wpAny_pure (wpAny_pure ?_))))))
    replace to5 : IsPair g5 TO x y := to5
    refine wpAny_bind (wpAny_seqItems to5 rfl (wpAny_bind (wpAny_newTuple ?_)))
    have sz : g5.objs.size = s.heap.objs.size := by rw [s5.1, s4.1, s3.1, s2.1, s1.1]
    have o5 : ZO g5 z TI TO .ellipsis c := s5.extBut _ _ D.TOz.symm (s4.extBut _ _ D.i2z.symm (s3.extBut _ _ D.TOz.symm (s2.extBut _ _ D.i1z.symm o1)))
    have kp5 : ∀ c o, c ≠ z → c ≠ TO → c ≠ i1 → c ≠ i2 → s.heap.get? c = some o → g5.get? c = some o := fun c o n1 n2 n3 n4 e => s5.extBut _ _ n2 (s4.extBut _ _ n4 (s3.extBut _ _ n2 (s2.extBut _ _ n3 (s1.extBut _ _ n1 e))))
    have k15 : g5.IsTupleIter i1 a (k + 1) := ((k1.extBut s3.extBut D.TOi1.symm).extBut s4.extBut D.i12).extBut s5.extBut D.TOi1.symm
    have k25 : g5.IsTupleIter i2 b (k + 1) := k2.extBut s5.extBut D.TOi2.symm
    have zl := Heap.lt_size o5
    show wpAny _ _ (Builtin.SmallTypes.ownedTupleHandOut (.ref z) (.ref g5.objs.size) >>= _) _ _ _
    refine wpAny_bind ?_
    unfold Builtin.SmallTypes.ownedTupleHandOut
    have o6 : ZO (g5.push { cls := .type "tuple", data := .seq #[x, y] }) z TI TO .ellipsis c := Heap.get?_push_of_some _ o5
    refine wpAny_bind (wpAny_setField_rec o6 (by simp) fun g7 o7 s7 => ?_)
    replace o7 : ZO g7 z TI TO (rawInt g5.objs.size) c := o7
    refine wpAny_setField_rec o7 (by simp) fun g8 o8 s8 => ?_
    replace o8 : ZO g8 z TI TO (rawInt g5.objs.size) false := o8
    have up : ∀ c o, c ≠ z → g5.get? c = some o → g8.get? c = some o := fun c o n e => s8.extBut _ _ n (s7.extBut _ _ n (Heap.get?_push_of_some _ e))
    have new8 : IsPair g8 g5.objs.size x y := s8.extBut _ _ (Nat.ne_of_gt zl) (s7.extBut _ _ (Nat.ne_of_gt zl) (Heap.get?_push_size _ rfl))
    have sz8 : g8.objs.size = g5.objs.size + 1 := by rw [s8.1, s7.1, Heap.size_push]
    rw [sz] at o8 new8 sz8
    refine wpAny_pure ⟨_, rfl, wpAny_pure ?_⟩
    show Q (.ref g5.objs.size) _
    rw [sz]
    exact q g8 ⟨⟨_, _, o8, .inr ⟨_, rfl⟩⟩, up _ _ D.TIz (kp5 _ _ D.TIz D.TITO D.TIi1 D.TIi2 ti), ⟨x, y, up _ _ D.TOz to5⟩, k15.at fun o e => up _ o D.i1z e, k25.at fun o e => up _ o D.i2z e⟩ new8 sz8 fun c o n1 n2 n3 n4 e => up c o n1 (kp5 c o n1 n2 n3 n4 e)
  · simp only [Bool.false_eq_true, if_false]
    refine wpAny_bind ?_
    rw [← Array.forIn_toList]
    simp only [List.forIn_cons, List.forIn_nil]
    refine wpAny_bind (wpAny_bind (wpAny_holding (wpAny_bind ?_)))
    refine RZ.nextOf_tuple_item (s := { s with heap := g1 }) (j1.extBut s1.extBut D.i1z) (ha.extBut s1.extBut D.l1z) ex fun g2 k1 s2 => wpAny_pure (wpAny_pure ?_)
    refine wpAny_bind (wpAny_bind (wpAny_holding (wpAny_bind ?_)))
    refine RZ.nextOf_tuple_item (s := { s with heap := g2 }) ((j2.extBut s1.extBut D.i2z).extBut s2.extBut D.i12.symm) ((hb.extBut s1.extBut D.l2z).extBut s2.extBut D.l2i1) ey fun g3 k2 s3 => wpAny_pure (wpAny_pure (wpAny_pure ?_))
    show wpAny _ _ (newTuple [x, y] >>= _) _ _ _
    refine wpAny_bind (wpAny_newTuple ?_)
    have sz : g3.objs.size = s.heap.objs.size := by rw [s3.1, s2.1, s1.1]
    have o3 : ZO g3 z TI TO f true := s3.extBut _ _ D.i2z.symm (s2.extBut _ _ D.i1z.symm o1)
    have kp : ∀ c o, c ≠ z → c ≠ i1 → c ≠ i2 → s.heap.get? c = some o → g3.get? c = some o := fun c o n1 n2 n3 e => s3.extBut _ _ n3 (s2.extBut _ _ n2 (s1.extBut _ _ n1 e))
    have k13 : g3.IsTupleIter i1 a (k + 1) := k1.extBut s3.extBut D.i12
    refine wpAny_pure ⟨_, rfl, wpAny_pure ?_⟩
    show Q (.ref g3.objs.size) _
    have new : IsPair (g3.push { cls := .type "tuple", data := .seq #[x, y] }) g3.objs.size x y := Heap.get?_push_size _ rfl
    have sz4 : (g3.push { cls := .type "tuple", data := .seq #[x, y] }).objs.size = g3.objs.size + 1 := Heap.size_push ..
    rw [sz] at new sz4 ⊢
    exact q _ ⟨⟨_, _, Heap.get?_push_of_some _ o3, hf⟩, Heap.get?_push_of_some _ (kp _ _ D.TIz D.TIi1 D.TIi2 ti), ⟨u, v, Heap.get?_push_of_some _ (kp _ _ D.TOz D.TOi1 D.TOi2 to)⟩, k13.at fun o e => Heap.get?_push_of_some _ e, k2.at fun o e => Heap.get?_push_of_some _ e⟩ new sz4
      fun c o n1 n2 n3 n4 e => Heap.get?_push_of_some _ (kp c o n1 n3 n4 e)
/-- the end of a zip -/
theorem zn_end {z TI TO i1 i2 a b : Addr} {k : Nat} {xs ys : Array Value} {Q : Value → Shared → Prop} (hh : A.handled = none) (D : ZipApart z TI TO i1 i2 a b) (S : ZS s.heap z TI TO i1 i2 a b k) (ha : s.heap.IsTuple a xs) (hb : s.heap.IsTuple b ys) (en : xs[k]? = none ∨ ys[k]? = none)
    (q : ∀ g e, (∀ c o, c ≠ z → c ≠ TO → c ≠ i1 → c ≠ i2 → s.heap.get? c = some o → g.get? c = some o) → (∃ o, g.get? e = some o ∧ o.cls = .type "StopIteration") → E (.ref e) { s with heap := g }) :
    wpAny (model prog w) A (Builtin.SmallTypes.nextOf (.ref z)) Q E s := by
  obtain ⟨⟨f, c, zo, hf⟩, ti, ⟨u, v, to⟩, j1, j2⟩ := S
  have ty : s.TypeIs (.ref z) "zip" := ⟨_, zo, rfl⟩
  unfold Builtin.SmallTypes.nextOf
  refine wpAny_bind (wpAny_callSpecial?_slot (name := Str.ofString "__next__") ty F.slot_zip_next (wpAny_call_entry F.slot_zip_next ty F.entry_zip_next ?_ (F.args_zip_next_1 _)))
  show wpAny _ _ (field (.ref z) 2 >>= _) _ _ s
  refine wpAny_bind (wpAny_field zo rfl (x := .bool false) rfl ?_)
  show wpAny _ _ (field (.ref z) 3 >>= _) _ _ s
  refine wpAny_bind (wpAny_field zo rfl (x := .ref TI) rfl (wpAny_bind (wpAny_seqItems ti rfl ?_)))
  show wpAny _ _ (Builtin.SmallTypes.ownedTupleIsFree (.ref z) >>= _) _ _ s
  refine wpAny_bind (own_z zo hf ?_ fun g1 o1 s1 => ?_)
  · simp only [if_true]
    refine wpAny_bind (wpAny_rule (wpAny_bind (wpAny_field zo rfl (x := .ref TO) rfl (wpAny_bind (wpAny_setField_rec zo (by simp) fun g1 o1 s1 => ?_)))))
    replace o1 : ZO g1 z TI TO .ellipsis c := o1
    refine wpAny_bind ?_
    simp only [List.zipIdx_cons, List.zipIdx_nil, List.forIn_cons, List.forIn_nil]
    refine wpAny_bind (wpAny_bind (wpAny_onRaise (wpAny_bind ?_)))
    cases ex : xs[k]? with
    | none =>
      refine RZ.nextOf_tuple_end hh (j1.extBut s1.extBut D.i1z) (ha.extBut s1.extBut D.l1z) ex fun g2 e s2 he => ?_
      obtain ⟨oe, hoe, hce⟩ := he
      have o2 : ZO g2 z TI TO .ellipsis c := s2 _ _ D.i1z.symm o1
      have ez : e ≠ z := fun x => by subst x; rw [o2] at hoe; cases hoe; simp at hce
      exact wpAny_setField_rec o2 (by simp) fun g3 _ s3 => q g3 e (fun c o n1 _ n3 _ x => s3.extBut _ _ n1 (s2 _ _ n3 (s1.extBut _ _ n1 x))) ⟨oe, s3.extBut _ _ ez hoe, hce⟩
    | some x =>
      have ey : ys[k]? = none := en.resolve_left (by rw [ex]; simp)
      refine RZ.nextOf_tuple_item (j1.extBut s1.extBut D.i1z) (ha.extBut s1.extBut D.l1z) ex fun g2 k1 s2 => wpAny_pure ?_
      have to2 : IsPair g2 TO u v := s2.extBut _ _ D.TOi1 (s1.extBut _ _ D.TOz to)
      refine wpAny_bind (wpAny_seqItems to2 rfl (wpAny_bind (wpAny_updateSeq_pair to2 fun g3 to3 s3 => wpAny_bind (wpAny_letGo (wpAny_pure ?_)))))
      refine wpAny_bind (wpAny_bind (wpAny_onRaise (wpAny_bind ?_)))
      refine RZ.nextOf_tuple_end hh (((j2.extBut s1.extBut D.i2z).extBut s2.extBut D.i12.symm).extBut s3.extBut D.TOi2.symm) (((hb.extBut s1.extBut D.l2z).extBut s2.extBut D.l2i1).extBut s3.extBut D.l2TO) ey fun g4 e s4 he => ?_
      obtain ⟨oe, hoe, hce⟩ := he
      have o4 : ZO g4 z TI TO .ellipsis c := s4 _ _ D.i2z.symm (s3.extBut _ _ D.TOz.symm (s2.extBut _ _ D.i1z.symm o1))
      have ez : e ≠ z := fun x => by subst x; rw [o4] at hoe; cases hoe; simp at hce
      exact wpAny_setField_rec o4 (by simp) fun g5 _ s5 => q g5 e (fun c o n1 n2 n3 n4 x => s5.extBut _ _ n1 (s4 _ _ n4 (s3.extBut _ _ n2 (s2.extBut _ _ n3 (s1.extBut _ _ n1 x))))) ⟨oe, s5.extBut _ _ ez hoe, hce⟩
  · simp only [Bool.false_eq_true, if_false]
    refine wpAny_bind ?_
    rw [← Array.forIn_toList]
    simp only [List.forIn_cons, List.forIn_nil]
    refine wpAny_bind (wpAny_bind (wpAny_holding (wpAny_bind ?_)))
    cases ex : xs[k]? with
    | none =>
      exact RZ.nextOf_tuple_end (s := { s with heap := g1 }) hh (j1.extBut s1.extBut D.i1z) (ha.extBut s1.extBut D.l1z) ex fun g2 e s2 he => q g2 e (fun c o n1 _ n3 _ x => s2 _ _ n3 (s1.extBut _ _ n1 x)) he
    | some x =>
      have ey : ys[k]? = none := en.resolve_left (by rw [ex]; simp)
      refine RZ.nextOf_tuple_item (s := { s with heap := g1 }) (j1.extBut s1.extBut D.i1z) (ha.extBut s1.extBut D.l1z) ex fun g2 k1 s2 => wpAny_pure (wpAny_pure ?_)
      refine wpAny_bind (wpAny_bind (wpAny_holding (wpAny_bind ?_)))
      exact RZ.nextOf_tuple_end (s := { s with heap := g2 }) hh ((j2.extBut s1.extBut D.i2z).extBut s2.extBut D.i12.symm) ((hb.extBut s1.extBut D.l2z).extBut s2.extBut D.l2i1) ey fun g3 e s3 he => q g3 e (fun c o n1 _ n3 n4 x => s3 _ _ n4 (s2.extBut _ _ n3 (s1.extBut _ _ n1 x))) he
/-- the addresses of an enumeration of a zip -/
structure EApart (e z TI TO i1 i2 a b : Addr) : Prop where
  D : ZipApart z TI TO i1 i2 a b
  ez : e ≠ z
  eI : e ≠ TI
  eO : e ≠ TO
  e1 : e ≠ i1
  e2 : e ≠ i2
  ea : e ≠ a
  eb : e ≠ b
theorem ez_item {e z TI TO i1 i2 a b : Addr} {k : Nat} {xs ys : Array Value} {x y old : Value} {Q : Option Value → Shared → Prop} (D : EApart e z TI TO i1 i2 a b) (he : IsEnum s.heap e z k old) (S : ZS s.heap z TI TO i1 i2 a b k) (ha : s.heap.IsTuple a xs) (hb : s.heap.IsTuple b ys) (ex : xs[k]? = some x) (ey : ys[k]? = some y)
    (q : ∀ g, IsEnumOut g e z ((k : Int) + 1) (.ref s.heap.objs.size) (s.heap.objs.size + 1) → ZS g z TI TO i1 i2 a b (k + 1) → IsPair g s.heap.objs.size x y → g.get? (s.heap.objs.size + 1) = some { cls := .type "tuple", data := .seq #[.int k s.toks, .ref s.heap.objs.size] } →
      (∀ c o, c ≠ e → c ≠ z → c ≠ TO → c ≠ i1 → c ≠ i2 → s.heap.get? c = some o → g.get? c = some o) → Q (some (.ref (s.heap.objs.size + 1))) { s with heap := g, toks := s.toks + 1 }) :
    wpAny (model prog w) A (pyNext (.ref e)) Q E s := by
  obtain ⟨hp, gg, dd, tk, os⟩ := s
  have ty : (Shared.mk hp gg dd tk os).TypeIs (.ref e) "enumerate" := ⟨_, he, rfl⟩
  unfold pyNext
  refine wpAny_bind (wpAny_attempt (wpAny_callSpecial?_slot (name := Str.ofString "__next__") ty F.slot_enumerate_next (wpAny_call_entry F.slot_enumerate_next ty F.entry_enumerate_next ?_ (F.args_enumerate_next_1 _))))
  show wpAny _ _ (field (.ref e) 2 >>= _) _ _ _
  refine wpAny_bind (wpAny_field he rfl (x := .ref z) rfl (wpAny_bind ?_))
  refine zn_item D.D S ha hb ex ey fun g1 S1 new1 sz1 kp1 => ?_
  have el := Heap.lt_size he
  have he1 : IsEnum g1 e z k old := kp1 _ _ D.ez D.eO D.e1 D.e2 he
  show wpAny _ _ (field (.ref e) 3 >>= _) _ _ ⟨g1, gg, dd, tk, os⟩
  refine wpAny_bind (wpAny_field he1 rfl (x := rawInt k) rfl ?_)
  show wpAny _ _ (field (.ref e) 4 >>= _) _ _ ⟨g1, gg, dd, tk, os⟩
  refine wpAny_bind (wpAny_field he1 rfl (x := .none) rfl ?_)
  show wpAny _ _ (mkInt k >>= _) _ _ ⟨g1, gg, dd, tk, os⟩
  refine wpAny_bind (wpAny_mkInt ?_)
  show wpAny _ _ (setField (.ref e) 3 (rawInt ((k : Int) + 1)) >>= _) _ _ ⟨g1, gg, dd, tk + 1, os⟩
  refine wpAny_bind (wpAny_setField_rec he1 (by simp) fun g2 he2 s2 => ?_)
  replace he2 : IsEnum g2 e z ((k : Int) + 1) old := he2
  replace s2 : Heap.SameBut e g1 g2 := s2
  show wpAny _ _ (setField (.ref e) 4 .none >>= _) _ _ ⟨g2, gg, dd, tk + 1, os⟩
  refine wpAny_bind (wpAny_setField_rec he2 (by simp) fun g3 he3 s3 => ?_)
  replace he3 : IsEnum g3 e z ((k : Int) + 1) old := he3
  replace s3 : Heap.SameBut e g2 g3 := s3
  show wpAny _ _ (newTuple [.int k tk, .ref hp.objs.size] >>= _) _ _ ⟨g3, gg, dd, tk + 1, os⟩
  refine wpAny_bind (wpAny_newTuple ?_)
  have z3 : g3.objs.size = hp.objs.size + 1 := by rw [s3.1, s2.1]; exact sz1
  have he4 : IsEnum (g3.push { cls := .type "tuple", data := .seq #[.int k tk, .ref hp.objs.size] }) e z ((k : Int) + 1) old := Heap.get?_push_of_some _ he3
  have new4 : (g3.push { cls := .type "tuple", data := .seq #[.int k tk, .ref hp.objs.size] }).get? (hp.objs.size + 1) = some { cls := .type "tuple", data := .seq #[.int k tk, .ref hp.objs.size] } := by
    rw [← z3]
    exact Heap.get?_push_size _ rfl
  have up4 : ∀ c o, c ≠ e → g1.get? c = some o → (g3.push { cls := .type "tuple", data := .seq #[.int k tk, .ref hp.objs.size] }).get? c = some o := fun c o n h => Heap.get?_push_of_some _ (s3.extBut _ _ n (s2.extBut _ _ n h))
  generalize (g3.push { cls := .type "tuple", data := .seq #[.int k tk, .ref hp.objs.size] }) = g4 at he4 new4 up4
  show wpAny _ _ (Builtin.SmallTypes.ownedTupleIsFree (.ref e) >>= _) _ _ ⟨g4, gg, dd, tk + 1, os⟩
  rw [z3]
  refine wpAny_bind ?_
  unfold Builtin.SmallTypes.ownedTupleIsFree
  refine wpAny_bind (wpAny_field he4 rfl (x := .none) rfl (wpAny_pure ?_))
  simp only [if_true]
  refine wpAny_bind (wpAny_rule (wpAny_bind (wpAny_field he4 rfl (x := old) rfl (wpAny_bind (wpAny_setField_rec he4 (by simp) fun g5 he5 s5 => ?_)))))
  replace he5 : IsEnum g5 e z ((k : Int) + 1) (.ref hp.objs.size) := he5
  replace s5 : Heap.SameBut e g4 g5 := s5
  show wpAny _ _ (Builtin.SmallTypes.ownedTupleHandOut (.ref e) (.ref (hp.objs.size + 1)) >>= _) _ _ ⟨g5, gg, dd, tk + 1, os⟩
  refine wpAny_bind ?_
  unfold Builtin.SmallTypes.ownedTupleHandOut
  refine wpAny_bind (wpAny_setField_rec he5 (by simp) fun g6 he6 s6 => ?_)
  replace he6 : IsEnumOut g6 e z ((k : Int) + 1) (.ref hp.objs.size) (hp.objs.size + 1) := he6
  replace s6 : Heap.SameBut e g5 g6 := s6
  refine wpAny_setField_rec he6 (by simp) fun g7 he7 s7 => ?_
  replace he7 : IsEnumOut g7 e z ((k : Int) + 1) (.ref hp.objs.size) (hp.objs.size + 1) := he7
  replace s7 : Heap.SameBut e g6 g7 := s7
  have up7 : ∀ c o, c ≠ e → g1.get? c = some o → g7.get? c = some o := fun c o n h => s7.extBut _ _ n (s6.extBut _ _ n (s5.extBut _ _ n (up4 c o n h)))
  refine wpAny_bind (wpAny_letGo (wpAny_pure ⟨_, rfl, wpAny_pure (q g7 he7 ?_ ?_ ?_ ?_)⟩))
  · obtain ⟨⟨f, c, zo, hf⟩, ti, ⟨u, v, to⟩, j1, j2⟩ := S1
    exact ⟨⟨f, c, up7 _ _ D.ez.symm zo, hf⟩, up7 _ _ D.eI.symm ti, ⟨u, v, up7 _ _ D.eO.symm to⟩, j1.at fun o h => up7 _ o D.e1.symm h, j2.at fun o h => up7 _ o D.e2.symm h⟩
  · exact up7 _ _ (Nat.ne_of_gt el) new1
  · have n1 : hp.objs.size + 1 ≠ e := Nat.ne_of_gt (Nat.lt_succ_of_lt el)
    exact s7.extBut _ _ n1 (s6.extBut _ _ n1 (s5.extBut _ _ n1 new4))
  · exact fun c o n0 n1 n2 n3 n4 h => up7 c o n0 (kp1 c o n1 n2 n3 n4 h)
theorem ez_end {e z TI TO i1 i2 a b : Addr} {k : Nat} {xs ys : Array Value} {old : Value} {Q : Option Value → Shared → Prop} (hh : A.handled = none) (D : EApart e z TI TO i1 i2 a b) (he : IsEnum s.heap e z k old) (S : ZS s.heap z TI TO i1 i2 a b k) (ha : s.heap.IsTuple a xs) (hb : s.heap.IsTuple b ys) (en : xs[k]? = none ∨ ys[k]? = none)
    (q : ∀ g, (∀ c o, c ≠ z → c ≠ TO → c ≠ i1 → c ≠ i2 → s.heap.get? c = some o → g.get? c = some o) → Q none { s with heap := g }) : wpAny (model prog w) A (pyNext (.ref e)) Q E s := by
  have ty : s.TypeIs (.ref e) "enumerate" := ⟨_, he, rfl⟩
  unfold pyNext
  refine wpAny_bind (wpAny_attempt (wpAny_callSpecial?_slot (name := Str.ofString "__next__") ty F.slot_enumerate_next (wpAny_call_entry F.slot_enumerate_next ty F.entry_enumerate_next ?_ (F.args_enumerate_next_1 _))))
  show wpAny _ _ (field (.ref e) 2 >>= _) _ _ _
  refine wpAny_bind (wpAny_field he rfl (x := .ref z) rfl (wpAny_bind ?_))
  refine zn_end hh D.D S ha hb en fun g x kp hs => ?_
  obtain ⟨o, ho, hc⟩ := hs
  exact wpAny_bind (wpAny_isInstance (T := "StopIteration") (b := true) ⟨o, ho, hc⟩ isSubtype_stop (wpAny_pure (q _ kp)))
end
end My

set_option Elab.async false
set_option linter.all false
set_option maxRecDepth 100000
set_option maxHeartbeats 4000000
namespace My
open PySem PySem.Spec PyProof.Rows L2
open AutoSeq1 (wpAny_loadPart')
/-- the tuples at a and b, each two items in a new pair, that with its number in another one -/
def IteZ (K : PySem.W.Frag) (a b : Addr) : It where
  go := fun i H => ∃ (xs ys : List V) (x y : V), SqT K H a xs ∧ SqT K H b ys ∧ xs[i]? = some x ∧ ys[i]? = some y
  yld := fun i H v H' => ∃ T U x y, v = .ref T ∧ H T = none ∧ H U = none ∧ U ≠ T ∧ H' = upd (upd H T (.tup [.int (i : Nat), .ref U])) U (.tup [x, y]) ∧ (∀ xs, SqT K H a xs → xs[i]? = some x) ∧ ∀ ys, SqT K H b ys → ys[i]? = some y
  stop := fun i H => ∃ xs ys : List V, SqT K H a xs ∧ SqT K H b ys ∧ (xs.length ≤ i ∨ ys.length ≤ i)
/-- a new object that stands in the heap already is told of -/
theorem told {X : Cx} {pins : List (Addr × Obj)} {σ : L2.St} {H : Hp} {s : Shared} {U : Addr} {ob : HO} (I : Inv X pins σ H s) (f : FpOk X pins H U) (new : ObjOk X.prog X.w (upd H U ob) s.heap U ob) : Inv X pins σ (upd H U ob) s := by
  have hn := f.1
  have R : Inv X pins σ (upd H U ob) { s with heap := s.heap, gens := s.gens, drawn := s.drawn, toks := s.toks } := by
    refine I.step (ch := [U]) (fun b hb => ?_) (fun b o _ _ _ e _ => e) (fun b o _ _ _ e _ => ⟨o.slots, e⟩) (fun b o hc e n => ?_) (fun b o _ e => ⟨o, e⟩) (fun b xs e => ?_) (fun b o u e => ?_) (fun b ps e => ⟨#[], ?_⟩) (fun m hm => hm) (fun b u e => ?_) I.bare
    · rw [List.mem_singleton.mp hb]
      exact ⟨f.2.2.2.1, f.2.1, f.2.2.2.2.1, f.2.2.2.2.2⟩
    · rw [upd_ne (fun z => hc (by rw [z]; exact List.mem_singleton.mpr rfl))]
      exact n
    · rw [upd_ne (ne_of_none e hn)]; exact e
    · rw [upd_ne (ne_of_none e hn)]; exact e
    · rw [upd_ne (ne_of_none e hn), e]; simp
    · by_cases z : b = U
      · subst z
        rw [upd_same] at e
        cases e
        exact new
      · rw [upd_ne z] at e
        exact (I.hok b u e).stay (fun c v _ q => q) (fun c q => by rw [upd_ne (ne_of_none q hn)]; exact q) fun c xs q => by rw [upd_ne (ne_of_none q hn)]; exact q
  exact R
theorem turn_ez {P : Program} {w : World} {K : PySem.W.Frag} {elts : List Expr} {kk : Nat} {tpos : Pos} {e z TI TO i1 i2 a b : Addr} (D : EApart e z TI TO i1 i2 a b) :
    Turn P w K (.Tuple elts kk tpos) (IteZ K a b) [e, z, TI, TO, i1, i2] e (fun i h => (∃ old, IsEnum h e z ((i : Nat) : Int) old) ∧ ZS h z TI TO i1 i2 a b i) where
  mem := List.mem_cons_self
  obj := fun i h ⟨⟨old, he⟩, ⟨f, c, zo, hf⟩, ti, ⟨u, v, to⟩, ⟨o1, e1, _, d1⟩, ⟨o2, e2, _, d2⟩⟩ q hq => by
    simp only [List.mem_cons, List.not_mem_nil, or_false] at hq
    rcases hq with r | r | r | r | r | r
    · rw [r]; exact ⟨_, he, fun v q => nomatch q⟩
    · rw [r]; exact ⟨_, zo, fun v q => nomatch q⟩
    · rw [r]; exact ⟨_, ti, fun v q => nomatch q⟩
    · rw [r]; exact ⟨_, to, fun v q => nomatch q⟩
    · rw [r]; exact ⟨o1, e1, fun v q => by rw [d1] at q; cases q⟩
    · rw [r]; exact ⟨o2, e2, fun v q => by rw [d2] at q; cases q⟩
  keep := fun i h g ⟨⟨old, he⟩, ⟨f, c, zo, hf⟩, ti, ⟨u, v, to⟩, j1, j2⟩ k =>
    ⟨⟨old, k e (by simp) _ he⟩, ⟨f, c, k z (by simp) _ zo, hf⟩, k TI (by simp) _ ti, ⟨u, v, k TO (by simp) _ to⟩, j1.at fun o q => k i1 (by simp) o q, j2.at fun o q => k i2 (by simp) o q⟩
  item := by
    intro X hP hw hK hc i pins s σ H E I hf st hg
    subst hP hw hK
    obtain ⟨⟨old, he⟩, S⟩ := st
    obtain ⟨xs, ys, x, y, hqx, hqy, hx, hy⟩ := hg
    obtain ⟨its, rv, p, _⟩ := I.tuple hqx
    obtain ⟨its2, rv2, p2, _⟩ := I.tuple hqy
    obtain ⟨u, hu, ru⟩ := rv.get hx
    obtain ⟨u2, hu2, ru2⟩ := rv2.get hy
    have lt : ∀ c ∈ [e, z, TI, TO, i1, i2], c < s.heap.objs.size := fun c hm => by
      obtain ⟨⟨f, c', zo, hf'⟩, ti, ⟨u', v', to⟩, ⟨o1, e1, _, d1⟩, ⟨o2, e2, _, d2⟩⟩ := S
      simp only [List.mem_cons, List.not_mem_nil, or_false] at hm
      rcases hm with r | r | r | r | r | r
      · rw [r]; exact Heap.lt_size he
      · rw [r]; exact Heap.lt_size zo
      · rw [r]; exact Heap.lt_size ti
      · rw [r]; exact Heap.lt_size to
      · rw [r]; exact Heap.lt_size e1
      · rw [r]; exact Heap.lt_size e2
    refine ez_item D he S p p2 (x := u) (y := u2) (by simpa using hu) (by simpa using hu2) fun g ho S1 newU newT kp => ?_
    refine ⟨_, rfl, wpAny_letOwnedTupleGo_enum (s := { s with heap := g, toks := s.toks + 1 }) ho fun g2 he2 sb => ?_⟩
    have el : e < s.heap.objs.size := lt e (by simp)
    have nUe : s.heap.objs.size ≠ e := Nat.ne_of_gt el
    have nTe : s.heap.objs.size + 1 ≠ e := Nat.ne_of_gt (Nat.lt_succ_of_lt el)
    have newT2 := (sb.2 _ nTe).trans newT
    have newU2 := (sb.2 _ nUe).trans newU
    have okT : ObjOk X.prog X.w (upd H (s.heap.objs.size + 1) (.tup [.int (i : Nat), .ref s.heap.objs.size])) g2 (s.heap.objs.size + 1) (.tup [.int (i : Nat), .ref s.heap.objs.size]) :=
      ⟨(by show 2 ≤ sizeLine; decide), [.int i s.toks, .ref s.heap.objs.size], .cons ⟨_, rfl⟩ (.cons rfl .nil), ⟨_, newT2, rfl, _, rfl⟩⟩
    have I1 : Inv X pins σ (upd H (s.heap.objs.size + 1) (.tup [.int (i : Nat), .ref s.heap.objs.size])) { s with heap := g2, toks := s.toks + 1 } :=
      I.turnedNew (ch := [e, z, TI, TO, i1, i2]) (fun c ob hb q => by
        simp only [List.mem_cons, List.not_mem_nil, or_false, not_or] at hb
        obtain ⟨n0, n1, n2, n3, n4, n5⟩ := hb
        exact (sb.2 c n0).trans (kp c ob n0 n1 n3 n4 n5 q)) hf (Nat.le_succ _) okT
    have nTU : s.heap.objs.size ≠ s.heap.objs.size + 1 := Nat.ne_of_lt (Nat.lt_succ_self _)
    have hU0 : H s.heap.objs.size = none := I.hok.fresh (Nat.le_refl _)
    have fU : FpOk X pins (upd H (s.heap.objs.size + 1) (.tup [.int (i : Nat), .ref s.heap.objs.size])) s.heap.objs.size := I.fpOk (Nat.le_refl _) (by rw [upd_ne nTU]; exact hU0)
    have I2 := told (ob := .tup [x, y]) I1 fU ⟨(by show 2 ≤ sizeLine; decide), [u, u2], .cons ru (.cons ru2 .nil), ⟨_, newU2, rfl, _, rfl⟩⟩
    refine ⟨.ref (s.heap.objs.size + 1), _, I2, rfl, ⟨_, _, x, y, rfl, I.hok.fresh (Nat.le_succ _), hU0, nTU, rfl, fun l hl => (I.tuple_inj hl hqx) ▸ hx, fun l hl => (I.tuple_inj hl hqy) ▸ hy⟩, ⟨⟨.ref s.heap.objs.size, ?_⟩, ?_⟩, fun c hm => ?_⟩
    · have e1 : ((i + 1 : Nat) : Int) = (i : Int) + 1 := by omega
      rw [e1]; exact he2
    · obtain ⟨⟨f, c, zo, hf'⟩, ti, ⟨u', v', to⟩, j1, j2⟩ := S1
      have up : ∀ c o, c ≠ e → g.get? c = some o → g2.get? c = some o := fun c o n q => (sb.2 c n).trans q
      exact ⟨⟨f, c, up _ _ D.ez.symm zo, hf'⟩, up _ _ D.eI.symm ti, ⟨u', v', up _ _ D.eO.symm to⟩, j1.at fun o q => up _ o D.e1.symm q, j2.at fun o q => up _ o D.e2.symm q⟩
    · have l := lt c hm
      rw [upd_ne (Nat.ne_of_lt l), upd_ne (Nat.ne_of_lt (Nat.lt_succ_of_lt l))]
      exact (hf c hm).1
  done := by
    intro X hP hw hK hc i pins s σ H E I hf st hg
    subst hP hw hK
    obtain ⟨⟨old, he⟩, S⟩ := st
    obtain ⟨xs, ys, hqx, hqy, hend⟩ := hg
    obtain ⟨its, rv, p, _⟩ := I.tuple hqx
    obtain ⟨its2, rv2, p2, _⟩ := I.tuple hqy
    have l1 := rv.length
    have l2 := rv2.length
    have en : its.toArray[i]? = none ∨ its2.toArray[i]? = none := hend.imp (fun q => by simp; omega) (fun q => by simp; omega)
    exact ez_end (I.ok.hd hc) D he S p p2 en fun g kp => ⟨rfl, I.turnedL (t' := s.toks) (ch := [e, z, TI, TO, i1, i2]) (fun c o hb q => by
      simp only [List.mem_cons, List.not_mem_nil, or_false, not_or] at hb
      obtain ⟨n0, n1, n2, n3, n4, n5⟩ := hb
      exact kp c o n1 n3 n4 n5 q) hf⟩
  self := fun A i s Q E st h => let ⟨⟨_, he⟩, _⟩ := st; wpAny_pyIter_enum he h
theorem meets_ez (z TI TO : Addr) (f : Value) (c : Bool) : Meets (Builtin.«enumerate.__new__» ⟨[.type "enumerate", .ref z], []⟩)
    (fun _ R s => ZO s.heap z TI TO f c ∧ R (.ok (.ret (.ref s.heap.objs.size))) { s with heap := s.heap.push { cls := .type "enumerate", data := .fields #[.none, .bool false, .ref z, rawInt 0, .none, .none] } }) :=
  .of_wp fun prog w A R s h => by
    obtain ⟨hp, g, d, tk, os⟩ := s
    obtain ⟨o, h⟩ := h
    have sb := sub_enumerate
    have it : ∀ {A' : Around} {E : Value → Shared → Prop} {Q : Value → Shared → Prop}, Q (.ref z) ⟨hp, g, d, tk, os⟩ → wpAny (model prog w) A' (pyIter (.ref z)) Q E ⟨hp, g, d, tk, os⟩ := fun q => by
      have ty : (Shared.mk hp g d tk os).TypeIs (.ref z) "zip" := ⟨_, o, rfl⟩
      refine wpAny_pyIter_slot ty F.slot_zip_iter (wpAny_call_entry F.slot_zip_iter ty F.entry_zip_iter ?_ (F.args_zip_iter_1 _))
      show wpAny _ _ (ret (.ref z)) _ _ _
      exact wpAny_pure ⟨_, rfl, "zip", _, ty, F.slot_zip_next.lookup, q⟩
    wp_walk using it
    refine wpAny_stack_any fun u => wpAny_pure ?_
    split
    · rename_i c _ _ _ _ _
      cases (c == Value.type "enumerate") <;> (wp_walk using it; exact ⟨_, rfl, h⟩)
    · wp_walk using it
      exact ⟨_, rfl, h⟩
theorem call_ez {prog : Program} {w : World} {A : Around} {E : Value → Shared → Prop} {s : Shared} {z TI TO : Addr} {f : Value} {c : Bool} {Q : Value → Shared → Prop} (o : ZO s.heap z TI TO f c)
    (h : ∀ g, IsEnum g s.heap.objs.size z 0 .none → (∀ c u, s.heap.get? c = some u → g.get? c = some u) → Q (.ref s.heap.objs.size) { s with heap := g }) : wpAny (model prog w) A (call (.type "enumerate") [.ref z]) Q E s := by
  refine callType_new F.called_enumerate (by decide) (F.typeCall_enumerate_1 _) (F.newCall_enumerate_1 _) (fun u => F.args_object_init_2 u _) F.entry_enumerate_new (meets_ez z TI TO f c) ⟨o, ?_⟩
  have e := Heap.get?_push_size s.heap (o := { cls := .type "enumerate", data := .fields #[.none, .bool false, .ref z, rawInt 0, .none, .none] }) rfl
  exact ⟨⟨_, e, rfl⟩, h _ e fun c u x => Heap.get?_push_of_some _ x⟩
def iEnZ (K : PySem.W.Frag) (ta : TA) : TI := fun σ H R => ta σ H fun vs H1 => ∃ a b xs ys, vs = [.ref a, .ref b] ∧ SqT K H1 a xs ∧ SqT K H1 b ys ∧ R (IteZ K a b) H1
theorem pi_enZ {X : Cx} {e1 e2 : Expr} {ta : TA} {p p2 pos pos2 tpos : Pos} {elts : List Expr} {kk : Nat} (hg : Gl X "enumerate") (hm : X.mg "enumerate" = none) (hg2 : Gl X "zip") (hm2 : X.mg "zip" = none) (ha : PA X [e1, e2] ta)
    (hs : starEach [e1, e2] X.env = (false, eval e1 X.env) :: starEach [e2] X.env := by rfl) (hpl : (backTo pos2 (starEach [e2] X.env)).any (·.1) = false := by rfl)
    (hs2 : starEach [.Call (.Name "zip" p2) [e1, e2] [] pos2] X.env = (false, eval (.Call (.Name "zip" p2) [e1, e2] [] pos2) X.env) :: starEach [] X.env := by rfl) :
    PI X (.Tuple elts kk tpos) (.Call (.Name "enumerate" p) [.Call (.Name "zip" p2) [e1, e2] [] pos2] [] pos) (iEnZ X.K ta) := by
  refine ⟨fun pins s σ H R I h => ?_⟩
  refine Call_ (ld_blt I hg hm boot_enumerate (PyProof.Rows.callWith_type1 (args_cons (Call_ (ld_blt I hg2 hm2 PyProof.Rows.boot_zip (PyProof.Rows.callWith_type1 (thn (ha.run pos2 pins s σ H _ I h) fun us s1 ⟨vs, H1, I1, r1, q1⟩ => ?_) hs hpl))) hs2) hs2 rfl))
  obtain ⟨a, b, xs, ys, rfl, hx, hy, q⟩ := q1
  cases r1 with
  | cons r rr =>
    cases rr with
    | cons r' rr =>
      cases rr
      cases r
      cases r'
      obtain ⟨its, rv, ⟨po, pa⟩, _⟩ := I1.tuple hx
      obtain ⟨its2, rv2, ⟨po2, pb⟩, _⟩ := I1.tuple hy
      have al : a < s1.heap.objs.size := let ⟨q', _⟩ := pa; Heap.lt_size q'
      have bl : b < s1.heap.objs.size := let ⟨q', _⟩ := pb; Heap.lt_size q'
      refine RZ.call_zipT ⟨po, pa⟩ ⟨po2, pb⟩ fun g hz hTI hTO h1 h2 sz kp => args_nil ?_
      refine call_ez (s := { s1 with heap := g }) hz fun g2 he kp2 => wpAny_pyIter_enum he ?_
      have kk := fun c u (x : s1.heap.get? c = some u) => kp2 c u (kp c u x)
      have D := PySem.W.ktu_apart s1.heap.objs.size a b al bl
      obtain ⟨N, eN⟩ : ∃ N : Nat, s1.heap.objs.size = N := ⟨_, rfl⟩
      have sz : g.objs.size = N + 5 := by rw [← eN]; exact sz
      have al : (a : Nat) < N := by rw [← eN]; exact al
      have bl : (b : Nat) < N := by rw [← eN]; exact bl
      have ne : ∀ m : Nat, m < N + 5 → (g.objs.size : Nat) ≠ m := fun m hm z => by omega
      have DE : EApart g.objs.size (s1.heap.objs.size + 4) (s1.heap.objs.size + 2) (s1.heap.objs.size + 3) s1.heap.objs.size (s1.heap.objs.size + 1) a b :=
        ⟨D, ne (s1.heap.objs.size + 4) (by omega), ne (s1.heap.objs.size + 2) (by omega), ne (s1.heap.objs.size + 3) (by omega), ne s1.heap.objs.size (by omega), ne (s1.heap.objs.size + 1) (by omega), ne a (Nat.lt_of_lt_of_le al (Nat.le_add_right N 5)), ne b (Nat.lt_of_lt_of_le bl (Nat.le_add_right N 5))⟩
      have I2 : Inv X pins σ H1 { s1 with heap := g2 } := I1.kept (t' := s1.toks) kk
      refine ⟨g.objs.size, [g.objs.size, s1.heap.objs.size + 4, s1.heap.objs.size + 2, s1.heap.objs.size + 3, s1.heap.objs.size, s1.heap.objs.size + 1], _, _, H1, rfl, I2, turn_ez DE, ⟨⟨.none, he⟩, ⟨⟨_, _, kp2 _ _ hz, .inl rfl⟩, kp2 _ _ hTI, ⟨_, _, kp2 _ _ hTO⟩, h1.at fun o q => kp2 _ o q, h2.at fun o q => kp2 _ o q⟩⟩, fun c hm => ?_, q⟩
      have hle : s1.heap.objs.size ≤ c := by
        simp only [List.mem_cons, List.not_mem_nil, or_false] at hm
        rcases hm with r | r | r | r | r | r
        · rw [r]; show (s1.heap.objs.size : Nat) ≤ g.objs.size; omega
        · rw [r]; exact Nat.le_add_right _ _
        · rw [r]; exact Nat.le_add_right _ _
        · rw [r]; exact Nat.le_add_right _ _
        · rw [r]; exact Nat.le_refl _
        · rw [r]; exact Nat.le_add_right _ _
      exact I1.fpOk hle (I1.hok.fresh hle)
theorem walk_ez {K : PySem.W.Frag} {a b : Addr} {xs ys : List V} (hl : xs.length = ys.length) : Walk (IteZ K a b) xs.length (fun H => SqT K H a xs ∧ SqT K H b ys)
    (fun i H v H' => ∃ T U x y, v = .ref T ∧ H T = none ∧ H U = none ∧ U ≠ T ∧ H' = upd (upd H T (.tup [.int (i : Nat), .ref U])) U (.tup [x, y]) ∧ xs[i]? = some x ∧ ys[i]? = some y) where
  goes := fun i _ hi q => ⟨xs, ys, xs[i], ys[i]'(by omega), q.1, q.2, by simp [hi], by simp [show i < ys.length by omega]⟩
  stops := fun _ q => ⟨xs, ys, q.1, q.2, .inl (Nat.le_refl _)⟩
  yields := fun i H v H' _ q ⟨T, U, x, y, h1, h2, h3, h4, h5, h6, h7⟩ => ⟨T, U, x, y, h1, h2, h3, h4, h5, h6 xs q.1, h7 ys q.2⟩
end My

set_option linter.all false
/-! circuits as functions of the wires' bits; sums and comparisons -/
namespace My
abbrev Ct := Nat × Bool
abbrev Gt := Nat × List Ct
abbrev Sb := Nat → Bool
def holds (cs : List Ct) (s : Sb) : Bool := cs.all fun c => s c.1 == c.2
def flp (t : Nat) (s : Sb) : Sb := fun i => if i = t then !s t else s i
def act (g : Gt) (s : Sb) : Sb := if holds g.2 s then flp g.1 s else s
def run : List Gt → Sb → Sb
  | [], s => s
  | g :: r, s => run r (act g s)
theorem run_app (a b : List Gt) (s : Sb) : run (a ++ b) s = run b (run a s) := by
  induction a generalizing s with
  | nil => rfl
  | cons g r ih => exact ih _
theorem holds_app (a b : List Ct) (s : Sb) : holds (a ++ b) s = (holds a s && holds b s) := List.all_append ..
theorem holds_cons (c : Ct) (b : List Ct) (s : Sb) : holds (c :: b) s = (s c.1 == c.2 && holds b s) := List.all_cons ..
theorem holds_perm {a b : List Ct} (h : a.Perm b) (s : Sb) : holds a s = holds b s := by
  have : (holds a s = true) ↔ (holds b s = true) := by
    unfold holds
    rw [List.all_eq_true, List.all_eq_true]
    exact ⟨fun g x hx => g x (h.mem_iff.mpr hx), fun g x hx => g x (h.mem_iff.mp hx)⟩
  cases e : holds a s <;> cases f : holds b s <;> rw [e, f] at this <;> simp at this <;> rfl
theorem holds_eq {a : List Ct} {s t : Sb} (h : ∀ c ∈ a, s c.1 = t c.1) : holds a s = holds a t := by
  induction a with
  | nil => rfl
  | cons c r ih => rw [holds_cons, holds_cons, h c List.mem_cons_self, ih fun c hc => h c (List.mem_cons_of_mem _ hc)]
theorem act_ne {g : Gt} {s : Sb} {i : Nat} (h : i ≠ g.1) : act g s i = s i := by
  unfold act
  split
  · show (if i = g.1 then _ else _) = _
    rw [if_neg h]
  · rfl
theorem act_eq {g : Gt} {s : Sb} : act g s g.1 = (s g.1 ^^ holds g.2 s) := by
  unfold act flp
  split
  · rename_i h
    rw [h]
    simp
  · rename_i h
    rw [Bool.not_eq_true] at h
    rw [h]
    simp
theorem run_ne {gs : List Gt} {s : Sb} {i : Nat} (h : ∀ g ∈ gs, i ≠ g.1) : run gs s i = s i := by
  induction gs generalizing s with
  | nil => rfl
  | cons g r ih =>
    show run r (act g s) i = s i
    rw [ih fun g hg => h g (List.mem_cons_of_mem _ hg), act_ne (h g List.mem_cons_self)]
/-- equal but for the order of controls -/
inductive Sim : List Gt → List Gt → Prop
  | nil : Sim [] []
  | cons {t : Nat} {a b : List Ct} {r q : List Gt} : a.Perm b → Sim r q → Sim ((t, a) :: r) ((t, b) :: q)
theorem Sim.run {a b : List Gt} (h : Sim a b) (s : Sb) : run a s = run b s := by
  induction h generalizing s with
  | nil => rfl
  | cons p _ ih =>
    rename_i t a b r q _
    show My.run _ (act _ s) = My.run _ (act _ s)
    have : act (t, a) s = act (t, b) s := by unfold act; rw [holds_perm p]
    rw [this]
    exact ih _
theorem Sim.app {a b c d : List Gt} (h : Sim a b) (g : Sim c d) : Sim (a ++ c) (b ++ d) := by
  induction h with
  | nil => exact g
  | cons p _ ih => exact .cons p ih
theorem Sim.one {t : Nat} {a b : List Ct} (p : a.Perm b) : Sim [(t, a)] [(t, b)] := .cons p .nil
theorem Sim.len {a b : List Gt} (h : Sim a b) : a.length = b.length := by
  induction h with
  | nil => rfl
  | cons _ _ ih => rw [List.length_cons, List.length_cons, ih]
theorem Sim.mem {a b : List Gt} (h : Sim a b) : ∀ {t : Nat} {d : List Ct}, (t, d) ∈ b → ∃ c, (t, c) ∈ a ∧ c.Perm d := by
  induction h with
  | nil => intro t d h; cases h
  | cons p _ ih =>
    intro t d h
    rcases List.mem_cons.mp h with h | h
    · cases h
      exact ⟨_, List.mem_cons_self, p⟩
    · obtain ⟨c, h1, h2⟩ := ih h
      exact ⟨c, List.mem_cons_of_mem _ h1, h2⟩
/-! ### numbers on wires -/
def val : List Nat → Sb → Nat
  | [], _ => 0
  | t :: r, s => (s t).toNat + 2 * val r s
theorem val_eq {ts : List Nat} {s u : Sb} (h : ∀ t ∈ ts, s t = u t) : val ts s = val ts u := by
  induction ts with
  | nil => rfl
  | cons t r ih => rw [val, val, h t List.mem_cons_self, ih fun c hc => h c (List.mem_cons_of_mem _ hc)]
theorem val_lt (ts : List Nat) (s : Sb) : val ts s < 2 ^ ts.length := by
  induction ts with
  | nil => exact Nat.one_pos
  | cons t r ih =>
    rw [val, List.length_cons, Nat.pow_succ]
    have := Bool.toNat_le (s t)
    omega
theorem toNat_inj {a b : Bool} (h : a.toNat = b.toNat) : a = b := by cases a <;> cases b <;> first | rfl | cases h
theorem val_inj {ts : List Nat} {s u : Sb} (h : val ts s = val ts u) : ∀ t ∈ ts, s t = u t := by
  induction ts with
  | nil => intro t h; cases h
  | cons t r ih =>
    rw [val, val] at h
    have h1 := Bool.toNat_le (s t)
    have h2 := Bool.toNat_le (u t)
    intro x hx
    rcases List.mem_cons.mp hx with rfl | hx
    · exact toNat_inj (by omega)
    · exact ih (by omega) x hx
/-- one more on the wires -/
def incL (C : List Ct) (ts : List Nat) (i : Nat) : Gt := (ts.getD (ts.length - 1 - i) 0, C ++ (ts.take (ts.length - 1 - i)).map fun w => (w, true))
def incG (C : List Ct) (ts : List Nat) : List Gt := (List.range ts.length).map (incL C ts)
theorem incG_cons (C : List Ct) (t : Nat) (r : List Nat) : incG C (t :: r) = incG (C ++ [(t, true)]) r ++ [(t, C)] := by
  unfold incG
  rw [List.length_cons, List.range_succ, List.map_append]
  congr 1
  · refine List.map_congr_left fun i hi => ?_
    have hi := List.mem_range.mp hi
    unfold incL
    obtain ⟨j, hj⟩ : ∃ j, r.length - 1 - i = j := ⟨_, rfl⟩
    have e : (t :: r).length - 1 - i = j + 1 := by rw [List.length_cons]; omega
    rw [e, hj, List.take_succ_cons, List.map_cons, List.append_assoc]
    rfl
  · rw [List.map_singleton, incL, List.length_cons]
    have e : r.length + 1 - 1 - r.length = 0 := by omega
    rw [e]
    simp
theorem incG_mem {C : List Ct} {ts : List Nat} {g : Gt} (h : g ∈ incG C ts) : g.1 ∈ ts ∧ ∀ c ∈ g.2, c ∈ C ∨ (c.1 ∈ ts ∧ c.2 = true) := by
  obtain ⟨i, hi, rfl⟩ := List.mem_map.mp h
  have hi := List.mem_range.mp hi
  unfold incL
  refine ⟨?_, fun c hc => ?_⟩
  · rw [List.getD_eq_getElem?_getD, List.getElem?_eq_getElem (by omega)]
    exact List.getElem_mem _
  · rcases List.mem_append.mp hc with h | h
    · exact .inl h
    · obtain ⟨w, hw, rfl⟩ := List.mem_map.mp h
      exact .inr ⟨List.mem_of_mem_take hw, rfl⟩
theorem inc_ne {C : List Ct} {ts : List Nat} {s : Sb} {i : Nat} (h : i ∉ ts) : run (incG C ts) s i = s i :=
  run_ne fun g hg e => h (e ▸ (incG_mem hg).1)
theorem inc_val {C : List Ct} {ts : List Nat} (nd : ts.Nodup) (hC : ∀ c ∈ C, c.1 ∉ ts) (s : Sb) : val ts (run (incG C ts) s) = (val ts s + (holds C s).toNat) % 2 ^ ts.length := by
  induction ts generalizing C s with
  | nil => rw [val, List.length_nil, Nat.pow_zero, Nat.mod_one]
  | cons t r ih =>
    have ndr := (List.nodup_cons.mp nd).2
    have ntr := (List.nodup_cons.mp nd).1
    rw [incG_cons, run_app]
    have h1 := ih (C := C ++ [(t, true)]) ndr (fun c hc => by
      rcases List.mem_append.mp hc with h | h
      · exact fun z => hC c h (List.mem_cons_of_mem _ z)
      · rw [List.mem_singleton.mp h]; exact ntr) s
    obtain ⟨u, hu⟩ : ∃ u, run (incG (C ++ [(t, true)]) r) s = u := ⟨_, rfl⟩
    rw [hu] at h1 ⊢
    have eC : holds C u = holds C s := holds_eq fun c hc => by
      rw [← hu]
      exact inc_ne fun z => hC c hc (List.mem_cons_of_mem _ z)
    have et : u t = s t := by rw [← hu]; exact inc_ne ntr
    show val (t :: r) (act (t, C) u) = _
    rw [val, val]
    have e1 : val r (act (t, C) u) = val r u := val_eq fun x hx => act_ne fun z => ntr (by rw [← (show x = t from z)]; exact hx)
    have e2 : act (t, C) u t = (s t ^^ holds C s) := by
      have := act_eq (g := (t, C)) (s := u)
      rw [show (t, C).2 = C from rfl, show (t, C).1 = t from rfl, eC, et] at this
      exact this
    rw [e1, e2, h1, holds_app, holds_cons, List.length_cons, Nat.pow_succ]
    have hp : 0 < 2 ^ r.length := Nat.pow_pos (by decide)
    generalize 2 ^ r.length = m at *
    generalize val r s = v
    have hm : m * 2 = 2 * m := Nat.mul_comm ..
    rw [hm]
    cases s t <;> cases holds C s <;> simp [holds, Bool.toNat] 
    · rw [Nat.mul_mod_mul_left]
    · rw [show 1 + 2 * (v % m) = (2 * v + 1) % (2 * m) from ?_]
      rw [Nat.mod_mul, Nat.add_comm (2 * v) 1, Nat.add_mul_mod_self_left, Nat.add_mul_div_left _ _ (by decide)]
      simp
    · rw [show (1 + 2 * v) % (2 * m) = 1 + 2 * (v % m) from ?_]
      rw [Nat.mod_mul, Nat.add_mul_mod_self_left, Nat.add_mul_div_left _ _ (by decide)]
      simp
    · rw [show 1 + 2 * v + 1 = 2 * (v + 1) from by omega, Nat.mul_mod_mul_left]
/-- a number added -/
def addG (C : List Ct) : List Nat → List Nat → List Gt
  | _, [] => []
  | ts, b :: r => incG (C ++ [(b, true)]) ts ++ addG C ts.tail r
theorem addG_mem {C : List Ct} {ts ss : List Nat} {g : Gt} (h : g ∈ addG C ts ss) : g.1 ∈ ts ∧ ∃ k, g.2 = C ++ k ∧ ∀ c ∈ k, c.1 ∈ ts ∨ c.1 ∈ ss := by
  induction ss generalizing ts with
  | nil => cases h
  | cons b r ih =>
    rcases List.mem_append.mp h with h | h
    · obtain ⟨i, hi, rfl⟩ := List.mem_map.mp h
      refine ⟨(incG_mem h).1, _, List.append_assoc .., fun c hc => ?_⟩
      rcases List.mem_append.mp hc with h | h
      · rw [List.mem_singleton.mp h]; exact .inr List.mem_cons_self
      · obtain ⟨w, hw, rfl⟩ := List.mem_map.mp h
        exact .inl (List.mem_of_mem_take hw)
    · obtain ⟨h1, k, h2, h3⟩ := ih h
      exact ⟨List.mem_of_mem_tail h1, k, h2, fun c hc => (h3 c hc).imp List.mem_of_mem_tail (List.mem_cons_of_mem _)⟩
theorem add_ne {C : List Ct} {ts ss : List Nat} {s : Sb} {i : Nat} (h : i ∉ ts) : run (addG C ts ss) s i = s i :=
  run_ne fun g hg e => h (e ▸ (addG_mem hg).1)
theorem add_val {C : List Ct} {ts ss : List Nat} (nd : ts.Nodup) (hC : ∀ c ∈ C, c.1 ∉ ts) (hs : ∀ b ∈ ss, b ∉ ts) (hl : ss.length = ts.length) (s : Sb) :
    val ts (run (addG C ts ss) s) = (val ts s + if holds C s then val ss s else 0) % 2 ^ ts.length := by
  induction ss generalizing ts s with
  | nil =>
    cases ts with
    | nil => rw [val, List.length_nil, Nat.pow_zero, Nat.mod_one]
    | cons t r => cases hl
  | cons b q ih =>
    cases ts with
    | nil => cases hl
    | cons t r =>
      have ndr := (List.nodup_cons.mp nd).2
      have ntr := (List.nodup_cons.mp nd).1
      have hbq : ∀ b ∈ q, b ∉ r := fun b hb z => hs b (List.mem_cons_of_mem _ hb) (List.mem_cons_of_mem _ z)
      have hCr : ∀ c ∈ C, c.1 ∉ r := fun c hc z => hC c hc (List.mem_cons_of_mem _ z)
      rw [addG, run_app, List.tail_cons]
      have h1 := inc_val (C := C ++ [(b, true)]) nd (fun c hc => by
        rcases List.mem_append.mp hc with h | h
        · exact hC c h
        · rw [List.mem_singleton.mp h]; exact hs b List.mem_cons_self) s
      obtain ⟨u, hu⟩ : ∃ u, run (incG (C ++ [(b, true)]) (t :: r)) s = u := ⟨_, rfl⟩
      rw [hu] at h1 ⊢
      have ue : ∀ i, i ∉ t :: r → u i = s i := fun i hi => by rw [← hu]; exact inc_ne hi
      have h2 := ih ndr hCr hbq (Nat.succ.inj hl) u
      have eC : holds C u = holds C s := holds_eq fun c hc => ue _ (hC c hc)
      have eq : val q u = val q s := val_eq fun x hx => ue _ (hs x (List.mem_cons_of_mem _ hx))
      rw [eC, eq] at h2
      obtain ⟨z, hz⟩ : ∃ z, run (addG C r q) u = z := ⟨_, rfl⟩
      rw [hz] at h2 ⊢
      have et : z t = u t := by rw [← hz]; exact add_ne ntr
      rw [val] at h1
      rw [val, et, h2, val, val]
      rw [holds_app, holds_cons] at h1
      rw [val, List.length_cons, Nat.pow_succ] at h1
      rw [List.length_cons, Nat.pow_succ]
      have hp : 0 < 2 ^ r.length := Nat.pow_pos (by decide)
      have l1 := val_lt r u
      generalize 2 ^ r.length = m at *
      have hm : m * 2 = 2 * m := Nat.mul_comm ..
      rw [hm] at h1 ⊢
      generalize val r u = x at *
      generalize val r s = v at *
      generalize val q s = y at *
      have key : ∀ n : Nat, (u t).toNat + 2 * ((x + n) % m) = ((u t).toNat + 2 * x + 2 * n) % (2 * m) := fun n => by
        have hb := Bool.toNat_le (u t)
        generalize (u t).toNat = d at *
        rw [Nat.mod_mul, show d + 2 * x + 2 * n = d + 2 * (x + n) from by omega, Nat.add_mul_mod_self_left, Nat.add_mul_div_left _ _ (by decide)]
        have e1 : d % 2 = d := by omega
        have e2 : d / 2 = 0 := by omega
        rw [e1, e2, Nat.zero_add]
      rw [key, h1, Nat.mod_add_mod]
      congr 1
      cases holds C s <;> cases s b <;> simp [holds] <;> omega
/-! ### less -/
def lessG (C : List Ct) (w : Nat) : List (Nat × Nat) → List Gt
  | [] => []
  | p :: r => lessG C w r ++ [(w, C ++ [(p.1, false), (p.2, true)] ++ r.map fun q => (q.2, false)), (p.2, [(p.1, true)])]
def unG (ps : List (Nat × Nat)) : List Gt := ps.map fun p => (p.2, [(p.1, true)])
def ltB : List (Nat × Nat) → Sb → Bool
  | [], _ => false
  | p :: r, s => ltB r s || ((r.all fun q => s q.1 == s q.2) && !s p.1 && s p.2)
theorem lessG_mem {C : List Ct} {w : Nat} {ps : List (Nat × Nat)} {g : Gt} (h : g ∈ lessG C w ps) : (g.1 = w ∧ ∃ p r a, ps = a ++ p :: r ∧ g.2 = C ++ [(p.1, false), (p.2, true)] ++ r.map fun q => (q.2, false)) ∨ ∃ p ∈ ps, g = (p.2, [(p.1, true)]) := by
  induction ps with
  | nil => cases h
  | cons p r ih =>
    rw [lessG] at h
    rcases List.mem_append.mp h with h | h
    · rcases ih h with ⟨h1, q, r', a, h2, h3⟩ | ⟨q, h1, h2⟩
      · exact .inl ⟨h1, q, r', p :: a, by rw [h2]; rfl, h3⟩
      · exact .inr ⟨q, List.mem_cons_of_mem _ h1, h2⟩
    · rcases List.mem_cons.mp h with h | h
      · exact .inl ⟨by rw [h], p, r, [], rfl, by rw [h]⟩
      · rw [List.mem_singleton.mp h]
        exact .inr ⟨p, List.mem_cons_self, rfl⟩
/-- what is asked of the wires -/
structure Apart (C : List Ct) (w : Nat) (ps : List (Nat × Nat)) : Prop where
  nd : (ps.map (·.2)).Nodup
  fs : ∀ p ∈ ps, ∀ q ∈ ps, p.1 ≠ q.2
  wf : ∀ p ∈ ps, p.1 ≠ w ∧ p.2 ≠ w
  cs : ∀ c ∈ C, c.1 ≠ w ∧ ∀ p ∈ ps, c.1 ≠ p.2
theorem Apart.tail {C : List Ct} {w : Nat} {p : Nat × Nat} {ps : List (Nat × Nat)} (A : Apart C w (p :: ps)) : Apart C w ps :=
  ⟨(List.nodup_cons.mp A.nd).2, fun p hp q hq => A.fs p (List.mem_cons_of_mem _ hp) q (List.mem_cons_of_mem _ hq), fun p hp => A.wf p (List.mem_cons_of_mem _ hp), fun c hc => ⟨(A.cs c hc).1, fun p hp => (A.cs c hc).2 p (List.mem_cons_of_mem _ hp)⟩⟩
theorem less_ne {C : List Ct} {w : Nat} {ps : List (Nat × Nat)} {s : Sb} {i : Nat} (h : i ≠ w) (hs : ∀ p ∈ ps, i ≠ p.2) : run (lessG C w ps) s i = s i :=
  run_ne fun g hg e => by
    rcases lessG_mem hg with ⟨h1, _⟩ | ⟨p, h1, h2⟩
    · exact h (e.trans h1)
    · exact hs p h1 (by rw [e, h2])
theorem xor_beq (a b : Bool) : ((a ^^ b) == false) = (b == a) := by cases a <;> cases b <;> rfl
theorem less_run {C : List Ct} {w : Nat} : ∀ {ps : List (Nat × Nat)}, Apart C w ps → ∀ s : Sb, (∀ p ∈ ps, run (lessG C w ps) s p.2 = (s p.2 ^^ s p.1)) ∧ run (lessG C w ps) s w = (s w ^^ (holds C s && ltB ps s))
  | [], _, s => ⟨fun _ h => (nomatch h), (by
      show s w = (s w ^^ (holds C s && false))
      cases s w <;> cases holds C s <;> rfl)⟩
  | p :: r, A, s => by
    obtain ⟨h1, h2⟩ := less_run A.tail s
    have hne : ∀ i, i ≠ w → (∀ q ∈ r, i ≠ q.2) → run (lessG C w r) s i = s i := fun i a b => less_ne a b
    rw [lessG, run_app]
    obtain ⟨u, hu⟩ : ∃ u, run (lessG C w r) s = u := ⟨_, rfl⟩
    rw [hu] at h1 h2 hne ⊢
    have pp := List.mem_cons_self (a := p) (l := r)
    have np : ∀ q ∈ r, p.2 ≠ q.2 := fun q hq z => (List.nodup_cons.mp A.nd).1 (List.mem_map.mpr ⟨q, hq, z.symm⟩)
    have uf : u p.1 = s p.1 := hne _ (A.wf p pp).1 fun q hq => A.fs p pp q (List.mem_cons_of_mem _ hq)
    have us : u p.2 = s p.2 := hne _ (A.wf p pp).2 np
    have uC : holds C u = holds C s := holds_eq fun c hc => hne _ (A.cs c hc).1 fun q hq => (A.cs c hc).2 q (List.mem_cons_of_mem _ hq)
    have ur : (holds (r.map fun q => (q.2, false)) u) = (r.all fun q => s q.1 == s q.2) := by
      have : ∀ l : List (Nat × Nat), (∀ q ∈ l, u q.2 = (s q.2 ^^ s q.1)) → holds (l.map fun q => (q.2, false)) u = l.all fun q => s q.1 == s q.2 := fun l => by
        induction l with
        | nil => intro _; rfl
        | cons x l ih =>
          intro hl
          rw [List.map_cons, holds_cons, List.all_cons, ih fun q hq => hl q (List.mem_cons_of_mem _ hq), hl x List.mem_cons_self]
          rw [xor_beq]
      exact this r h1
    obtain ⟨v, hv⟩ : ∃ v, act (w, C ++ [(p.1, false), (p.2, true)] ++ r.map fun q => (q.2, false)) u = v := ⟨_, rfl⟩
    have vn : ∀ i, i ≠ w → v i = u i := fun i hi => by rw [← hv]; exact act_ne hi
    have vw : v w = (u w ^^ (holds C s && (!s p.1 && s p.2) && (r.all fun q => s q.1 == s q.2))) := by
      rw [← hv]
      refine (act_eq (g := (w, _))).trans ?_
      congr 1
      rw [holds_app, holds_app, holds_cons, holds_cons, uC, ur, uf, us]
      cases s p.1 <;> cases s p.2 <;> simp [holds]
    show (∀ q ∈ p :: r, run [_, _] u q.2 = _) ∧ run [_, _] u w = _
    rw [show run [(w, C ++ [(p.1, false), (p.2, true)] ++ r.map fun q => (q.2, false)), (p.2, [(p.1, true)])] u = act (p.2, [(p.1, true)]) v from by rw [← hv]; rfl]
    refine ⟨fun q hq => ?_, ?_⟩
    · rcases List.mem_cons.mp hq with rfl | hq
      · have e := act_eq (g := (q.2, [(q.1, true)])) (s := v)
        rw [show ((q.2, [(q.1, true)]) : Gt).1 = q.2 from rfl] at e
        rw [e, vn _ (A.wf q pp).2, us]
        congr 1
        show holds [(q.1, true)] v = _
        rw [holds_cons, vn _ (A.wf q pp).1, uf]
        cases s q.1 <;> rfl
      · rw [act_ne (fun z => np q hq z.symm), vn _ (A.wf q (List.mem_cons_of_mem _ hq)).2]
        exact h1 q hq
    · rw [act_ne (fun z => (A.wf p pp).2 z.symm), vw, h2, ltB]
      have ex : ltB r s = true → (r.all fun q => s q.1 == s q.2) = false := by
        have : ∀ l : List (Nat × Nat), ltB l s = true → (l.all fun q => s q.1 == s q.2) = false := fun l => by
          induction l with
          | nil => intro h; cases h
          | cons x l ih =>
            intro h
            rw [ltB] at h
            rw [List.all_cons]
            cases e : ltB l s with
            | true => rw [ih e, Bool.and_false]
            | false =>
              rw [e] at h
              revert h
              cases s x.1 <;> cases s x.2 <;> simp
        exact this r
      revert ex
      cases ltB r s <;> cases (r.all fun q => s q.1 == s q.2) <;> cases s w <;> cases holds C s <;> cases s p.1 <;> cases s p.2 <;> simp
theorem un_run {ps : List (Nat × Nat)} (nd : (ps.map (·.2)).Nodup) (fs : ∀ p ∈ ps, ∀ q ∈ ps, p.1 ≠ q.2) (s : Sb) : (∀ p ∈ ps, run (unG ps) s p.2 = (s p.2 ^^ s p.1)) ∧ ∀ i, (∀ p ∈ ps, i ≠ p.2) → run (unG ps) s i = s i := by
  have hn : ∀ i, (∀ p ∈ ps, i ≠ p.2) → run (unG ps) s i = s i := fun i hi => run_ne fun g hg => by
    obtain ⟨p, hp, rfl⟩ := List.mem_map.mp hg
    exact hi p hp
  refine ⟨?_, hn⟩
  induction ps generalizing s with
  | nil => intro p h; cases h
  | cons p r ih =>
    have pp := List.mem_cons_self (a := p) (l := r)
    have np : ∀ q ∈ r, p.2 ≠ q.2 := fun q hq z => (List.nodup_cons.mp nd).1 (List.mem_map.mpr ⟨q, hq, z.symm⟩)
    have nd' : (r.map (·.2)).Nodup := (List.nodup_cons.mp nd).2
    have e0 : act (p.2, [(p.1, true)]) s p.2 = (s p.2 ^^ s p.1) := by
      refine (act_eq (g := (p.2, _))).trans ?_
      congr 1
      show holds [(p.1, true)] s = _
      rw [holds_cons]
      cases s p.1 <;> rfl
    have hr : ∀ i, (∀ q ∈ r, i ≠ q.2) → ∀ u, run (unG r) u i = u i := fun i hi u => run_ne fun g hg => by
      obtain ⟨p, hp, rfl⟩ := List.mem_map.mp hg
      exact hi p hp
    intro q hq
    show run (unG r) (act (p.2, [(p.1, true)]) s) q.2 = _
    rcases List.mem_cons.mp hq with rfl | hq
    · rw [hr _ np, e0]
    · have h := ih nd' (fun p hp q hq => fs p (List.mem_cons_of_mem _ hp) q (List.mem_cons_of_mem _ hq)) (act (p.2, [(p.1, true)]) s) (fun i hi => hr i hi _) q hq
      rw [h, act_ne (fun z => np q hq z.symm), act_ne (fun z => fs q (List.mem_cons_of_mem _ hq) p pp z)]
/-- the whole comparison: the wire alone is turned -/
theorem less_whole {C : List Ct} {w : Nat} {ps : List (Nat × Nat)} (A : Apart C w ps) (s : Sb) : run (lessG C w ps ++ unG ps) s = if holds C s && ltB ps s then flp w s else s := by
  rw [run_app]
  obtain ⟨h1, h2⟩ := less_run A s
  obtain ⟨u, hu⟩ : ∃ u, run (lessG C w ps) s = u := ⟨_, rfl⟩
  have hne : ∀ i, i ≠ w → (∀ q ∈ ps, i ≠ q.2) → u i = s i := fun i a b => by rw [← hu]; exact less_ne a b
  rw [hu] at h1 h2 ⊢
  obtain ⟨g1, g2⟩ := un_run A.nd A.fs u
  funext i
  by_cases hi : ∃ p ∈ ps, i = p.2
  · obtain ⟨p, hp, rfl⟩ := hi
    rw [g1 p hp, h1 p hp, hne _ (A.wf p hp).1 (A.fs p hp)]
    have : (s p.2 ^^ s p.1 ^^ s p.1) = s p.2 := by cases s p.1 <;> cases s p.2 <;> rfl
    rw [this]
    split
    · rw [flp, if_neg (A.wf p hp).2]
    · rfl
  · have hi' : ∀ p ∈ ps, i ≠ p.2 := fun p hp z => hi ⟨p, hp, z⟩
    rw [g2 i hi']
    by_cases e : i = w
    · subst e
      rw [h2]
      split
      · rename_i h
        rw [h, flp, if_pos rfl]
        simp
      · rename_i h
        rw [Bool.not_eq_true] at h
        rw [h]
        simp
    · rw [hne i e hi']
      split
      · rw [flp, if_neg e]
      · rfl
theorem lt_val : ∀ (ps : List (Nat × Nat)) (s : Sb), ltB ps s = decide (val (ps.map (·.1)) s < val (ps.map (·.2)) s) ∧ (ps.all fun q => s q.1 == s q.2) = decide (val (ps.map (·.1)) s = val (ps.map (·.2)) s)
  | [], s => ⟨rfl, rfl⟩
  | p :: r, s => by
    obtain ⟨h1, h2⟩ := lt_val r s
    rw [ltB, List.all_cons, h1, h2, List.map_cons, List.map_cons, val, val]
    generalize val (r.map (·.1)) s = a
    generalize val (r.map (·.2)) s = b
    constructor
    · rw [Bool.eq_iff_iff]
      cases s p.1 <;> cases s p.2 <;> simp <;> omega
    · rw [Bool.eq_iff_iff]
      cases s p.1 <;> cases s p.2 <;> simp <;> omega
end My

set_option linter.all false
/-! the bits as a row -/
namespace My
def st (bs : List Bool) : Sb := fun i => bs.getD i false
def actL (g : Gt) (bs : List Bool) : List Bool := if holds g.2 (st bs) then bs.set g.1 (!st bs g.1) else bs
def runL : List Gt → List Bool → List Bool
  | [], s => s
  | g :: r, s => runL r (actL g s)
theorem runL_snoc (a : List Gt) (g : Gt) (bs : List Bool) : runL (a ++ [g]) bs = actL g (runL a bs) := by
  induction a generalizing bs with
  | nil => rfl
  | cons x r ih => exact ih _
theorem actL_len (g : Gt) (bs : List Bool) : (actL g bs).length = bs.length := by
  unfold actL
  split
  · rw [List.length_set]
  · rfl
theorem runL_len (gs : List Gt) (bs : List Bool) : (runL gs bs).length = bs.length := by
  induction gs generalizing bs with
  | nil => rfl
  | cons g r ih => exact (ih _).trans (actL_len _ _)
theorem st_set {bs : List Bool} {t : Nat} {b : Bool} (h : t < bs.length) : st (bs.set t b) = fun i => if i = t then b else st bs i := by
  funext i
  unfold st
  rw [List.getD_eq_getElem?_getD, List.getD_eq_getElem?_getD, List.getElem?_set]
  by_cases e : t = i
  · subst e
    rw [if_pos rfl, if_pos h, if_pos rfl]
    rfl
  · rw [if_neg e, if_neg (fun z => e z.symm)]
theorem st_act {g : Gt} {bs : List Bool} (h : g.1 < bs.length) : st (actL g bs) = act g (st bs) := by
  unfold actL act
  split
  · rw [st_set h]
    rfl
  · rfl
theorem st_run {gs : List Gt} {bs : List Bool} (h : ∀ g ∈ gs, g.1 < bs.length) : st (runL gs bs) = run gs (st bs) := by
  induction gs generalizing bs with
  | nil => rfl
  | cons g r ih =>
    show st (runL r (actL g bs)) = run r (act g (st bs))
    rw [ih fun x hx => by rw [actL_len]; exact h x (List.mem_cons_of_mem _ hx), st_act (h g List.mem_cons_self)]
theorem st_ext {a b : List Bool} (hl : a.length = b.length) (h : st a = st b) : a = b := by
  apply List.ext_getElem? 
  intro i
  have := congrFun h i
  unfold st at this
  rw [List.getD_eq_getElem?_getD, List.getD_eq_getElem?_getD] at this
  by_cases hi : i < a.length
  · rw [List.getElem?_eq_getElem hi, List.getElem?_eq_getElem (hl ▸ hi)] at this ⊢
    exact congrArg some this
  · rw [List.getElem?_eq_none (Nat.le_of_not_lt hi), List.getElem?_eq_none (by omega)]
/-- a number put on the wires -/
def putL : List Nat → Nat → List Bool → List Bool
  | [], _, bs => bs
  | t :: r, n, bs => putL r (n / 2) (bs.set t (n % 2 == 1))
theorem putL_len (ts : List Nat) (n : Nat) (bs : List Bool) : (putL ts n bs).length = bs.length := by
  induction ts generalizing n bs with
  | nil => rfl
  | cons t r ih => exact (ih _ _).trans List.length_set
theorem putL_ne {ts : List Nat} {n : Nat} {bs : List Bool} {i : Nat} (h : i ∉ ts) : st (putL ts n bs) i = st bs i := by
  induction ts generalizing n bs with
  | nil => rfl
  | cons t r ih =>
    rw [putL, ih fun z => h (List.mem_cons_of_mem _ z)]
    unfold st
    rw [List.getD_eq_getElem?_getD, List.getD_eq_getElem?_getD, List.getElem?_set_ne (fun z => h (by rw [← z]; exact List.mem_cons_self))]
theorem putL_val {ts : List Nat} (nd : ts.Nodup) {n : Nat} {bs : List Bool} (h : ∀ t ∈ ts, t < bs.length) : val ts (st (putL ts n bs)) = n % 2 ^ ts.length := by
  induction ts generalizing n bs with
  | nil => rw [val, List.length_nil, Nat.pow_zero, Nat.mod_one]
  | cons t r ih =>
    have ntr := (List.nodup_cons.mp nd).1
    rw [val, putL, putL_ne ntr, st_set (h t List.mem_cons_self), ih (List.nodup_cons.mp nd).2 fun x hx => by rw [List.length_set]; exact h x (List.mem_cons_of_mem _ hx)]
    show (if t = t then n % 2 == 1 else st bs t).toNat + _ = _
    rw [if_pos rfl, List.length_cons, Nat.pow_succ, Nat.mul_comm _ 2, Nat.mod_mul]
    congr 1
    have : n % 2 = 0 ∨ n % 2 = 1 := by omega
    rcases this with e | e <;> rw [e] <;> rfl
theorem putL_uniq {ts : List Nat} (nd : ts.Nodup) {n : Nat} {bs cs : List Bool} (h : ∀ t ∈ ts, t < bs.length) (hl : cs.length = bs.length) (ho : ∀ i, i ∉ ts → st cs i = st bs i) (hv : val ts (st cs) = n % 2 ^ ts.length) : cs = putL ts n bs := by
  refine st_ext (by rw [putL_len, hl]) (funext fun i => ?_)
  by_cases hi : i ∈ ts
  · exact val_inj (hv.trans (putL_val nd h).symm) i hi
  · rw [ho i hi, putL_ne hi]
/-- what the sum's gates do to a row -/
theorem add_row {C : List Ct} {ts ss : List Nat} {gs : List Gt} (hS : Sim (addG C ts ss) gs) {bs : List Bool} (nd : ts.Nodup) (hC : ∀ c ∈ C, c.1 ∉ ts) (hs : ∀ b ∈ ss, b ∉ ts) (hl : ss.length = ts.length) (hb : ∀ t ∈ ts, t < bs.length) :
    runL gs bs = if holds C (st bs) then putL ts ((val ts (st bs) + val ss (st bs)) % 2 ^ ts.length) bs else bs := by
  have hg : ∀ g ∈ gs, g.1 < bs.length := fun g hg => by
    obtain ⟨c, h1, _⟩ := hS.mem (t := g.1) (d := g.2) hg
    exact hb _ (addG_mem h1).1
  have e := st_run hg
  rw [← hS.run] at e
  have v := add_val nd hC hs hl (st bs)
  have ho : ∀ i, i ∉ ts → st (runL gs bs) i = st bs i := fun i hi => by rw [e]; exact add_ne hi
  rw [← e] at v
  split
  · rename_i h
    rw [if_pos h] at v
    exact putL_uniq nd hb (runL_len _ _) ho (by rw [v, Nat.mod_mod])
  · rename_i h
    rw [if_neg h, Nat.add_zero, Nat.mod_eq_of_lt (val_lt _ _)] at v
    refine st_ext (runL_len _ _) (funext fun i => ?_)
    by_cases hi : i ∈ ts
    · exact val_inj v i hi
    · exact ho i hi
theorem less_row {C : List Ct} {w : Nat} {ps : List (Nat × Nat)} {gs : List Gt} (hS : Sim (lessG C w ps ++ unG ps) gs) (A : Apart C w ps) {bs : List Bool} (hw : w < bs.length) (hb : ∀ p ∈ ps, p.2 < bs.length) :
    runL gs bs = if holds C (st bs) && decide (val (ps.map (·.1)) (st bs) < val (ps.map (·.2)) (st bs)) then bs.set w (!st bs w) else bs := by
  have hg : ∀ g ∈ gs, g.1 < bs.length := fun g hg => by
    obtain ⟨c, h1, _⟩ := hS.mem (t := g.1) (d := g.2) hg
    rcases List.mem_append.mp h1 with h1 | h1
    · rcases lessG_mem h1 with ⟨h2, _⟩ | ⟨p, h2, h3⟩
      · have h2 : g.1 = w := h2
        rw [h2]; exact hw
      · have h3 : g.1 = p.2 := congrArg Prod.fst h3
        rw [h3]; exact hb p h2
    · obtain ⟨p, hp, h3⟩ := List.mem_map.mp h1
      have h3 : p.2 = g.1 := congrArg Prod.fst h3
      rw [← h3]; exact hb p hp
  have e := st_run hg
  rw [← hS.run, less_whole A, (lt_val ps _).1] at e
  refine st_ext ?_ ?_
  · rw [runL_len]
    split
    · rw [List.length_set]
    · rfl
  · rw [e]
    split
    · rw [st_set hw]
      rfl
    · rfl
end My

set_option linter.all false
/-! circuits as functions of numbers; tables -/
namespace My
def actN (g : Gt) (x : Nat) : Nat := if holds g.2 x.testBit then x ^^^ 2 ^ g.1 else x
def runN : List Gt → Nat → Nat
  | [], x => x
  | g :: r, x => runN r (actN g x)
theorem runN_app (a b : List Gt) (x : Nat) : runN (a ++ b) x = runN b (runN a x) := by
  induction a generalizing x with
  | nil => rfl
  | cons g r ih => exact ih _
theorem tb_act (g : Gt) (x : Nat) : (actN g x).testBit = act g x.testBit := by
  unfold actN act
  split
  · funext i
    rw [Nat.testBit_xor, Nat.testBit_two_pow]
    unfold flp
    by_cases h : i = g.1
    · rw [h, if_pos rfl, decide_eq_true rfl]
      cases x.testBit g.1 <;> rfl
    · rw [if_neg h, decide_eq_false (fun z => h z.symm)]
      cases x.testBit i <;> rfl
  · rfl
theorem tb_run (gs : List Gt) (x : Nat) : (runN gs x).testBit = run gs x.testBit := by
  induction gs generalizing x with
  | nil => rfl
  | cons g r ih =>
    show (runN r (actN g x)).testBit = run r (act g x.testBit)
    rw [ih, tb_act]
/-- target no control -/
def Apt (g : Gt) : Prop := ∀ c ∈ g.2, c.1 ≠ g.1
theorem act_twice {g : Gt} (h : Apt g) (s : Sb) : act g (act g s) = s := by
  have e : holds g.2 (act g s) = holds g.2 s := holds_eq fun c hc => act_ne (h c hc)
  funext i
  by_cases hi : i = g.1
  · subst hi
    rw [act_eq, act_eq, e]
    cases s g.1 <;> cases holds g.2 s <;> rfl
  · rw [act_ne hi, act_ne hi]
theorem actN_twice {g : Gt} (h : Apt g) (x : Nat) : actN g (actN g x) = x := by
  apply Nat.eq_of_testBit_eq
  intro i
  rw [tb_act, tb_act, act_twice h]
theorem actN_inj {g : Gt} (h : Apt g) {x y : Nat} (e : actN g x = actN g y) : x = y := by
  rw [← actN_twice h x, e, actN_twice h]
theorem run_back {gs : List Gt} (h : ∀ g ∈ gs, Apt g) (x : Nat) : runN gs.reverse (runN gs x) = x := by
  induction gs generalizing x with
  | nil => rfl
  | cons g r ih =>
    rw [List.reverse_cons, runN_app]
    show runN [g] (runN r.reverse (runN r (actN g x))) = x
    rw [ih fun k hk => h k (List.mem_cons_of_mem _ hk)]
    exact actN_twice (h g List.mem_cons_self) x
theorem runN_inj {gs : List Gt} (h : ∀ g ∈ gs, Apt g) {x y : Nat} (e : runN gs x = runN gs y) : x = y := by
  rw [← run_back h x, e, run_back h]
theorem lt_of_bits {x n : Nat} (h : ∀ i, n ≤ i → x.testBit i = false) : x < 2 ^ n := Nat.lt_pow_two_of_testBit x fun i hi => h i hi
theorem actN_lt {g : Gt} {n x : Nat} (h : g.1 < n) (hx : x < 2 ^ n) : actN g x < 2 ^ n := lt_of_bits fun i hi => by
  rw [tb_act, act_ne (by omega), Nat.testBit_lt_two_pow (Nat.lt_of_lt_of_le hx (Nat.pow_le_pow_right (by decide) hi))]
theorem runN_lt {gs : List Gt} {n x : Nat} (h : ∀ g ∈ gs, g.1 < n) (hx : x < 2 ^ n) : runN gs x < 2 ^ n := by
  induction gs generalizing x with
  | nil => exact hx
  | cons g r ih => exact ih (fun k hk => h k (List.mem_cons_of_mem _ hk)) (actN_lt (h g List.mem_cons_self) hx)
/-! ### bits of numbers -/
def bitsL (x n : Nat) : List Bool := (List.range n).map fun i => x.testBit i
theorem bitsL_len (x n : Nat) : (bitsL x n).length = n := by rw [bitsL, List.length_map, List.length_range]
theorem bitsL_succ (x n : Nat) : bitsL x (n + 1) = bitsL x n ++ [x.testBit n] := by
  unfold bitsL
  rw [List.range_succ, List.map_append]
  rfl
theorem st_bits {x n : Nat} (h : x < 2 ^ n) : st (bitsL x n) = x.testBit := by
  funext i
  unfold st bitsL
  rw [List.getD_eq_getElem?_getD, List.getElem?_map]
  by_cases hi : i < n
  · rw [List.getElem?_range hi]
    rfl
  · rw [List.getElem?_eq_none (by rw [List.length_range]; omega), Nat.testBit_lt_two_pow (Nat.lt_of_lt_of_le h (Nat.pow_le_pow_right (by decide) (by omega)))]
    rfl
theorem runL_bits {gs : List Gt} {n x : Nat} (h : ∀ g ∈ gs, g.1 < n) (hx : x < 2 ^ n) : runL gs (bitsL x n) = bitsL (runN gs x) n := by
  refine st_ext (by rw [runL_len, bitsL_len, bitsL_len]) ?_
  rw [st_run (by rw [bitsL_len]; exact h), st_bits hx, st_bits (runN_lt h hx), tb_run]
def valB : List Bool → Nat
  | [] => 0
  | b :: r => b.toNat + 2 * valB r
theorem valB_snoc (a : List Bool) (b : Bool) : valB (a ++ [b]) = valB a + b.toNat * 2 ^ a.length := by
  induction a with
  | nil => simp [valB]
  | cons x r ih =>
    rw [List.cons_append, valB, valB, ih, List.length_cons, Nat.pow_succ, Nat.mul_add, Nat.add_assoc]
    congr 2
    rw [← Nat.mul_assoc, Nat.mul_comm 2, Nat.mul_assoc, Nat.mul_comm 2]
theorem valB_bits (x n : Nat) : valB (bitsL x n) = x % 2 ^ n := by
  induction n with
  | zero => rw [Nat.pow_zero, Nat.mod_one]; rfl
  | succ n ih => rw [bitsL_succ, valB_snoc, ih, bitsL_len, Nat.toNat_testBit, Nat.mod_pow_succ, Nat.mul_comm]
/-! ### masks -/
def maskS (f : Ct → Bool) (cs : List Ct) : Nat := (cs.map fun c => (f c).toNat * 2 ^ c.1).sum
theorem tb_add {L c i : Nat} (h : L < 2 ^ c) : (L + 2 ^ c).testBit i = (L.testBit i || (c == i)) := by
  rw [Nat.add_comm]
  rcases Nat.lt_trichotomy i c with hi | hi | hi
  · rw [Nat.testBit_two_pow_add_gt hi]
    have : (c == i) = false := by rw [beq_eq_false_iff_ne]; omega
    rw [this, Bool.or_false]
  · subst hi
    rw [Nat.testBit_two_pow_add_eq, Nat.testBit_lt_two_pow h]
    simp
  · have e1 : L.testBit i = false := Nat.testBit_lt_two_pow (Nat.lt_of_lt_of_le h (Nat.pow_le_pow_right (by decide) (by omega)))
    have e2 : (2 ^ c + L).testBit i = false := Nat.testBit_lt_two_pow (Nat.lt_of_lt_of_le (by omega : 2 ^ c + L < 2 ^ c * 2) (by rw [← Nat.pow_succ]; exact Nat.pow_le_pow_right (by decide) (by omega)))
    rw [e1, e2]
    have : (c == i) = false := by rw [beq_eq_false_iff_ne]; omega
    rw [this]
    rfl
theorem tb_mask (f : Ct → Bool) : ∀ (cs : List Ct) (k L : Nat), L < 2 ^ k → (∀ c ∈ cs, k ≤ c.1) → (cs.map (·.1)).Pairwise (· < ·) → ∀ i, (L + maskS f cs).testBit i = (L.testBit i || cs.any fun c => c.1 == i && f c)
  | [], k, L, _, _, _, i => by simp [maskS]
  | c :: r, k, L, hL, hk, hp, i => by
    have h1 := List.pairwise_cons.mp hp
    have hc : k ≤ c.1 := hk c List.mem_cons_self
    have hr : ∀ x ∈ r, c.1 + 1 ≤ x.1 := fun x hx => h1.1 _ (List.mem_map_of_mem hx)
    have hLc : L < 2 ^ c.1 := Nat.lt_of_lt_of_le hL (Nat.pow_le_pow_right (by decide) hc)
    have e : L + maskS f (c :: r) = (L + (f c).toNat * 2 ^ c.1) + maskS f r := by
      unfold maskS
      rw [List.map_cons, List.sum_cons, Nat.add_assoc]
    rw [e, List.any_cons]
    cases hf : f c with
    | false =>
      rw [show (false.toNat * 2 ^ c.1) = 0 from Nat.zero_mul _, Nat.add_zero, tb_mask f r (c.1 + 1) L (Nat.lt_of_lt_of_le hLc (Nat.pow_le_pow_right (by decide) (by omega))) hr h1.2, Bool.and_false, Bool.false_or]
    | true =>
      rw [show (true.toNat * 2 ^ c.1) = 2 ^ c.1 from Nat.one_mul _, tb_mask f r (c.1 + 1) (L + 2 ^ c.1) (by rw [Nat.pow_succ]; omega) hr h1.2, tb_add hLc, Bool.and_true, Bool.or_assoc]
theorem mask_holds {cs : List Ct} (hp : (cs.map (·.1)).Pairwise (· < ·)) (x : Nat) : decide (x &&& maskS (fun _ => true) cs = maskS (·.2) cs) = holds cs x.testBit := by
  have t1 := fun i => tb_mask (fun _ => true) cs 0 0 (by decide) (fun _ _ => Nat.zero_le _) hp i
  have t2 := fun i => tb_mask (·.2) cs 0 0 (by decide) (fun _ _ => Nat.zero_le _) hp i
  simp only [Nat.zero_add, Nat.zero_testBit, Bool.false_or, Bool.and_true] at t1 t2
  rw [Bool.eq_iff_iff, decide_eq_true_iff]
  unfold holds
  rw [List.all_eq_true]
  have uniq : ∀ c ∈ cs, ∀ d ∈ cs, c.1 = d.1 → c = d := fun c hc d hd e => by
    obtain ⟨i, hi, rfl⟩ := List.getElem_of_mem hc
    obtain ⟨j, hj, rfl⟩ := List.getElem_of_mem hd
    have P := List.pairwise_iff_getElem.mp hp
    rcases Nat.lt_trichotomy i j with h | h | h
    · have := P i j (by rw [List.length_map]; exact hi) (by rw [List.length_map]; exact hj) h
      rw [List.getElem_map, List.getElem_map] at this
      omega
    · subst h; rfl
    · have := P j i (by rw [List.length_map]; exact hj) (by rw [List.length_map]; exact hi) h
      rw [List.getElem_map, List.getElem_map] at this
      omega
  constructor
  · intro e c hc
    have b := congrArg (fun z => Nat.testBit z c.1) e
    simp only [Nat.testBit_and, t1, t2] at b
    have a1 : (cs.any fun d => d.1 == c.1) = true := List.any_eq_true.mpr ⟨c, hc, by simp⟩
    have a2 : (cs.any fun d => d.1 == c.1 && d.2) = c.2 := by
      rw [Bool.eq_iff_iff, List.any_eq_true]
      constructor
      · rintro ⟨d, hd, h⟩
        rw [Bool.and_eq_true, beq_iff_eq] at h
        rw [← uniq d hd c hc h.1]
        exact h.2
      · intro h
        exact ⟨c, hc, by simp [h]⟩
    rw [a1, a2, Bool.and_true] at b
    rw [b]
    simp
  · intro h
    apply Nat.eq_of_testBit_eq
    intro i
    rw [Nat.testBit_and, t1, t2]
    rw [Bool.eq_iff_iff, Bool.and_eq_true, List.any_eq_true, List.any_eq_true]
    constructor
    · rintro ⟨hx, c, hc, e⟩
      rw [beq_iff_eq] at e
      have := h c hc
      rw [beq_iff_eq, e, hx] at this
      exact ⟨c, hc, by simp [e, ← this]⟩
    · rintro ⟨c, hc, e⟩
      rw [Bool.and_eq_true, beq_iff_eq] at e
      have := h c hc
      rw [beq_iff_eq, e.1, e.2] at this
      exact ⟨this, c, hc, by simp [e.1]⟩
end My

set_option linter.all false
/-! circuits for tables -/
namespace My
def ones (m n : Nat) : List Ct := ((List.range n).filter fun i => m.testBit i).map fun i => (i, true)
theorem ones_mem {m n : Nat} {c : Ct} (h : c ∈ ones m n) : c.1 < n ∧ m.testBit c.1 = true ∧ c.2 = true := by
  obtain ⟨i, hi, rfl⟩ := List.mem_map.mp h
  obtain ⟨h1, h2⟩ := List.mem_filter.mp hi
  exact ⟨List.mem_range.mp h1, h2, rfl⟩
theorem ones_fst (m n : Nat) : (ones m n).map (·.1) = (List.range n).filter fun i => m.testBit i := by
  unfold ones
  rw [List.map_map]
  exact List.map_id _
theorem ones_up (m n : Nat) : ((ones m n).map (·.1)).Pairwise (· < ·) := by
  rw [ones_fst]
  exact List.pairwise_lt_range.sublist (List.filter_sublist ..)
theorem ones_holds {m n x : Nat} (h : m < 2 ^ n) : holds (ones m n) x.testBit = decide (x &&& m = m) := by
  unfold holds
  rw [Bool.eq_iff_iff, List.all_eq_true, decide_eq_true_iff]
  constructor
  · intro g
    apply Nat.eq_of_testBit_eq
    intro i
    rw [Nat.testBit_and]
    cases e : m.testBit i with
    | false => rw [Bool.and_false]
    | true =>
      have hi : i < n := by
        rcases Nat.lt_or_ge i n with h1 | h1
        · exact h1
        · rw [Nat.testBit_lt_two_pow (Nat.lt_of_lt_of_le h (Nat.pow_le_pow_right (by decide) h1))] at e
          cases e
      have := g (i, true) (List.mem_map.mpr ⟨i, List.mem_filter.mpr ⟨List.mem_range.mpr hi, e⟩, rfl⟩)
      rw [beq_iff_eq] at this
      rw [this]
      rfl
  · intro g c hc
    obtain ⟨_, h1, h2⟩ := ones_mem hc
    have := congrArg (fun z => Nat.testBit z c.1) g
    simp only [Nat.testBit_and, h1, Bool.and_true] at this
    rw [this, h2]
    rfl
/-- the state: the images and the gates that were found -/
abbrev SS := List Nat × List Gt
def put (g : Gt) (s : SS) : SS := (s.1.map (actN g), s.2 ++ [g])
def stA (n k b : Nat) (s : SS) : SS := if k.testBit b && !(s.1.getD k 0).testBit b then put (b, ones (s.1.getD k 0) n) s else s
def stB (n k b : Nat) (s : SS) : SS := if (s.1.getD k 0).testBit b && !k.testBit b then put (b, ones k n) s else s
def itr (f : Nat → SS → SS) : Nat → SS → SS
  | 0, s => s
  | b + 1, s => f b (itr f b s)
def stK (n k : Nat) (s : SS) : SS := itr (stB n k) n (itr (stA n k) n s)
def syn (n : Nat) (row : List Nat) : SS := itr (stK n) (2 ^ n) (row, [])
/-- what always holds -/
structure Tb (n : Nat) (row : List Nat) (s : SS) : Prop where
  im : s.1 = row.map (runN s.2)
  nd : s.1.Nodup
  lt : ∀ x ∈ s.1, x < 2 ^ n
  ln : s.1.length = 2 ^ n
  ap : ∀ g ∈ s.2, Apt g ∧ g.1 < n ∧ (∀ c ∈ g.2, c.1 < n) ∧ (g.2.map (·.1)).Pairwise (· < ·) ∧ g.2.length ≤ n
theorem ones_len (m n : Nat) : (ones m n).length ≤ n := by
  unfold ones
  rw [List.length_map]
  refine Nat.le_trans (List.length_filter_le ..) ?_
  rw [List.length_range]
  exact Nat.le_refl _
theorem nodup_map {f : Nat → Nat} (h : ∀ x y, f x = f y → x = y) {l : List Nat} (nd : l.Nodup) : (l.map f).Nodup := List.pairwise_map.mpr (nd.imp fun hab e => hab (h _ _ e))
theorem Tb.put {n b m : Nat} {row : List Nat} {s : SS} (T : Tb n row s) (hb : b < n) (hm : m.testBit b = false) : Tb n row (put (b, ones m n) s) := by
  have A : Apt (b, ones m n) := fun c hc e => by
    obtain ⟨_, h1, _⟩ := ones_mem hc
    have e : c.1 = b := e
    rw [e, hm] at h1
    cases h1
  refine ⟨?_, nodup_map (fun x y e => actN_inj A e) T.nd, fun x hx => ?_, ?_, fun g hg => ?_⟩
  · show s.1.map _ = row.map (runN (s.2 ++ [(b, ones m n)]))
    rw [T.im, List.map_map]
    refine List.map_congr_left fun x _ => ?_
    rw [runN_app]
    rfl
  · obtain ⟨y, hy, rfl⟩ := List.mem_map.mp hx
    exact actN_lt hb (T.lt y hy)
  · show (s.1.map _).length = _
    rw [List.length_map, T.ln]
  · rcases List.mem_append.mp hg with h | h
    · exact T.ap g h
    · rw [List.mem_singleton.mp h]
      exact ⟨A, hb, fun c hc => (ones_mem hc).1, ones_up m n, ones_len m n⟩
/-- below k the images are in place -/
def Done (k : Nat) (s : SS) : Prop := ∀ j, j < k → s.1.getD j 0 = j
theorem getD_map {f : Nat → Nat} {l : List Nat} {j : Nat} (h : j < l.length) : (l.map f).getD j 0 = f (l.getD j 0) := by
  rw [List.getD_eq_getElem?_getD, List.getD_eq_getElem?_getD, List.getElem?_map, List.getElem?_eq_getElem h]
  rfl
theorem Tb.big {n k : Nat} {row : List Nat} {s : SS} (T : Tb n row s) (D : Done k s) (hk : k < 2 ^ n) : k ≤ s.1.getD k 0 := by
  rcases Nat.lt_or_ge (s.1.getD k 0) k with h | h
  · exfalso
    have hkl : k < s.1.length := by rw [T.ln]; exact hk
    have e := D _ h
    obtain ⟨v, hv⟩ : ∃ v, s.1.getD k 0 = v := ⟨_, rfl⟩
    rw [hv] at e h
    have hvl : v < s.1.length := by omega
    rw [List.getD_eq_getElem?_getD, List.getElem?_eq_getElem hkl] at hv
    rw [List.getD_eq_getElem?_getD, List.getElem?_eq_getElem hvl] at e
    have hv : s.1[k] = v := hv
    have e : s.1[v] = v := e
    have := (List.getElem_inj (h₀ := hkl) (h₁ := hvl) T.nd).mp (hv.trans e.symm)
    omega
  · exact h
theorem act_ones {m n b x : Nat} (hm : m < 2 ^ n) : actN (b, ones m n) x = if x &&& m = m then x ^^^ 2 ^ b else x := by
  unfold actN
  rw [ones_holds hm]
  by_cases h : x &&& m = m
  · rw [decide_eq_true h, if_pos rfl, if_pos h]
  · rw [decide_eq_false h, if_neg Bool.false_ne_true, if_neg h]
theorem sub_le {x m : Nat} (h : x &&& m = m) : m ≤ x := by
  rw [← h]
  exact Nat.and_le_left
theorem Tb.lt' {n k : Nat} {row : List Nat} {s : SS} (T : Tb n row s) (hk : k < 2 ^ n) : s.1.getD k 0 < 2 ^ n := by
  have h : k < s.1.length := by rw [T.ln]; exact hk
  rw [List.getD_eq_getElem?_getD, List.getElem?_eq_getElem h]
  exact T.lt _ (List.getElem_mem h)
/-- one more bit of k is in the image -/
theorem stepA {n k b : Nat} {row : List Nat} {s : SS} (T : Tb n row s) (D : Done k s) (hk : k < 2 ^ n) (hb : b < n) (h : ∀ i, i < b → k.testBit i = true → (s.1.getD k 0).testBit i = true) :
    Tb n row (stA n k b s) ∧ Done k (stA n k b s) ∧ ∀ i, i < b + 1 → k.testBit i = true → ((stA n k b s).1.getD k 0).testBit i = true := by
  unfold stA
  have hkl : k < s.1.length := by rw [T.ln]; exact hk
  split
  · rename_i e
    rw [Bool.and_eq_true, Bool.not_eq_true'] at e
    have hv := T.lt' hk
    have big := T.big D hk
    obtain ⟨v, ev⟩ : ∃ v, s.1.getD k 0 = v := ⟨_, rfl⟩
    rw [ev] at e hv big h ⊢
    refine ⟨T.put hb e.2, fun j hj => ?_, fun i hi hki => ?_⟩
    · have hjl : j < s.1.length := by omega
      rw [put, getD_map hjl, D j hj, act_ones hv, if_neg]
      intro z
      have := sub_le z
      omega
    · rw [put, getD_map hkl, ev, act_ones hv, if_pos (Nat.and_self v), Nat.testBit_xor, Nat.testBit_two_pow]
      by_cases hib : b = i
      · subst hib
        rw [e.2, decide_eq_true rfl]
        rfl
      · rw [decide_eq_false hib, h i (by omega) hki]
        rfl
  · rename_i e
    refine ⟨T, D, fun i hi hki => ?_⟩
    by_cases hib : i = b
    · subst hib
      rw [hki] at e
      revert e
      cases (s.1.getD k 0).testBit i <;> simp
    · exact h i (by omega) hki
/-- one more bit that k lacks is gone -/
theorem stepB {n k b : Nat} {row : List Nat} {s : SS} (T : Tb n row s) (D : Done k s) (hk : k < 2 ^ n) (hb : b < n) (hs : ∀ i, k.testBit i = true → (s.1.getD k 0).testBit i = true) (h : ∀ i, i < b → k.testBit i = false → (s.1.getD k 0).testBit i = false) :
    Tb n row (stB n k b s) ∧ Done k (stB n k b s) ∧ (∀ i, k.testBit i = true → ((stB n k b s).1.getD k 0).testBit i = true) ∧ ∀ i, i < b + 1 → k.testBit i = false → ((stB n k b s).1.getD k 0).testBit i = false := by
  unfold stB
  have hkl : k < s.1.length := by rw [T.ln]; exact hk
  split
  · rename_i e
    rw [Bool.and_eq_true, Bool.not_eq_true'] at e
    obtain ⟨v, ev⟩ : ∃ v, s.1.getD k 0 = v := ⟨_, rfl⟩
    rw [ev] at e hs h
    have hsub : v &&& k = k := by
      apply Nat.eq_of_testBit_eq
      intro i
      rw [Nat.testBit_and]
      cases ek : k.testBit i with
      | false => rw [Bool.and_false]
      | true => rw [hs i ek]; rfl
    refine ⟨T.put hb e.2, fun j hj => ?_, fun i hki => ?_, fun i hi hki => ?_⟩
    · have hjl : j < s.1.length := by omega
      rw [put, getD_map hjl, D j hj, act_ones hk, if_neg]
      intro z
      have := sub_le z
      omega
    · rw [put, getD_map hkl, ev, act_ones hk, if_pos hsub, Nat.testBit_xor, Nat.testBit_two_pow, hs i hki, decide_eq_false]
      · rfl
      · intro z
        rw [z, hki] at e
        cases e.2
    · rw [put, getD_map hkl, ev, act_ones hk, if_pos hsub, Nat.testBit_xor, Nat.testBit_two_pow]
      by_cases hib : b = i
      · subst hib
        rw [e.1, decide_eq_true rfl]
        rfl
      · rw [decide_eq_false hib, h i (by omega) hki]
        rfl
  · rename_i e
    refine ⟨T, D, hs, fun i hi hki => ?_⟩
    by_cases hib : i = b
    · subst hib
      rw [hki] at e
      revert e
      cases (s.1.getD k 0).testBit i <;> simp
    · exact h i (by omega) hki
theorem itA {n k : Nat} {row : List Nat} {s : SS} (T : Tb n row s) (D : Done k s) (hk : k < 2 ^ n) : ∀ b, b ≤ n → Tb n row (itr (stA n k) b s) ∧ Done k (itr (stA n k) b s) ∧ ∀ i, i < b → k.testBit i = true → ((itr (stA n k) b s).1.getD k 0).testBit i = true
  | 0, _ => ⟨T, D, fun _ h => absurd h (Nat.not_lt_zero _)⟩
  | b + 1, h => let ⟨h1, h2, h3⟩ := itA T D hk b (by omega); stepA h1 h2 hk (by omega) h3
theorem itB {n k : Nat} {row : List Nat} {s : SS} (T : Tb n row s) (D : Done k s) (hk : k < 2 ^ n) (hs : ∀ i, k.testBit i = true → (s.1.getD k 0).testBit i = true) : ∀ b, b ≤ n → Tb n row (itr (stB n k) b s) ∧ Done k (itr (stB n k) b s) ∧ (∀ i, k.testBit i = true → ((itr (stB n k) b s).1.getD k 0).testBit i = true) ∧ ∀ i, i < b → k.testBit i = false → ((itr (stB n k) b s).1.getD k 0).testBit i = false
  | 0, _ => ⟨T, D, hs, fun _ h => absurd h (Nat.not_lt_zero _)⟩
  | b + 1, h => let ⟨h1, h2, h3, h4⟩ := itB T D hk hs b (by omega); stepB h1 h2 hk (by omega) h3 h4
theorem bit_lt {k n i : Nat} (hk : k < 2 ^ n) (h : k.testBit i = true) : i < n := by
  rcases Nat.lt_or_ge i n with h1 | h1
  · exact h1
  · rw [Nat.testBit_lt_two_pow (Nat.lt_of_lt_of_le hk (Nat.pow_le_pow_right (by decide) h1))] at h
    cases h
theorem stepK {n k : Nat} {row : List Nat} {s : SS} (T : Tb n row s) (D : Done k s) (hk : k < 2 ^ n) : Tb n row (stK n k s) ∧ Done (k + 1) (stK n k s) := by
  obtain ⟨h1, h2, h3⟩ := itA T D hk n (Nat.le_refl _)
  obtain ⟨g1, g2, g3, g4⟩ := itB h1 h2 hk (fun i hi => h3 i (bit_lt hk hi) hi) n (Nat.le_refl _)
  refine ⟨g1, fun j hj => ?_⟩
  rcases Nat.lt_or_ge j k with h | h
  · exact g2 j h
  · have e : j = k := by omega
    subst e
    apply Nat.eq_of_testBit_eq
    intro i
    cases ek : j.testBit i with
    | true => exact g3 i ek
    | false =>
      rcases Nat.lt_or_ge i n with h1 | h1
      · exact g4 i h1 ek
      · exact Nat.testBit_lt_two_pow (Nat.lt_of_lt_of_le (g1.lt' hk) (Nat.pow_le_pow_right (by decide) h1))
theorem synK {n : Nat} {row : List Nat} (T : Tb n row (row, [])) : ∀ k, k ≤ 2 ^ n → Tb n row (itr (stK n) k (row, [])) ∧ Done k (itr (stK n) k (row, []))
  | 0, _ => ⟨T, fun _ h => absurd h (Nat.not_lt_zero _)⟩
  | k + 1, h => let ⟨h1, h2⟩ := synK T k (by omega); stepK h1 h2 (by omega)
theorem tb_begin {n : Nat} {row : List Nat} (nd : row.Nodup) (lt : ∀ x ∈ row, x < 2 ^ n) (ln : row.length = 2 ^ n) : Tb n row (row, []) := ⟨(List.map_id' row).symm, nd, lt, ln, fun _ h => nomatch h⟩
/-- the circuit has the row as its table -/
theorem syn_table {n : Nat} {row : List Nat} (nd : row.Nodup) (lt : ∀ x ∈ row, x < 2 ^ n) (ln : row.length = 2 ^ n) : (List.range (2 ^ n)).map (runN (syn n row).2.reverse) = row := by
  obtain ⟨h1, h2⟩ := synK (tb_begin nd lt ln) (2 ^ n) (Nat.le_refl _)
  have e : (syn n row).1 = List.range (2 ^ n) := by
    apply List.ext_getElem (by rw [List.length_range]; exact h1.ln)
    intro i hi hj
    have hi2 : i < 2 ^ n := by rw [List.length_range] at hj; exact hj
    have := h2 i hi2
    rw [List.getD_eq_getElem?_getD, List.getElem?_eq_getElem (by rw [h1.ln]; exact hi2)] at this
    rw [List.getElem_range]
    exact this
  have im : (syn n row).1 = row.map (runN (syn n row).2) := h1.im
  rw [← e, im, List.map_map]
  refine (List.map_congr_left fun x _ => ?_).trans (List.map_id' row)
  exact run_back (fun g hg => (h1.ap g hg).1) x
end My

set_option Elab.async false
set_option linter.all false
set_option maxRecDepth 100000
namespace My
open PySem PySem.Spec PyProof.Rows L2
def topS (i : Nat) : Stmt := PySem.Challenge.pw_backrun_k41_tables_and_circuits_for_them.main.body.getD i (.Pass ⟨0, 0, 0, 0⟩)
abbrev s_as_number : Stmt := topS 1
abbrev N_as_number : List Str := ["bits", "number", "bit"]
theorem sc_as_number : FnScope N_as_number ["bits"] (defScope s_as_number) := ⟨rfl, rfl, rfl, by decide +kernel, rfl, by decide +kernel, by decide +kernel⟩
abbrev s_as_bits : Stmt := topS 2
abbrev N_as_bits : List Str := ["number", "wires", "wire"]
theorem sc_as_bits : FnScope N_as_bits ["number", "wires"] (defScope s_as_bits) := ⟨rfl, rfl, rfl, by decide +kernel, rfl, by decide +kernel, by decide +kernel⟩
abbrev s_turned : Stmt := topS 4
abbrev N_turned : List Str := ["images", "gate", "target", "controls", "looked_at", "wanted", "bit", "image", "wire", "_", "value"]
theorem sc_turned : FnScope N_turned ["images", "gate"] (defScope s_turned) := ⟨rfl, rfl, rfl, by decide +kernel, rfl, by decide +kernel, by decide +kernel⟩
abbrev s_table : Stmt := topS 3
abbrev N_table : List Str := ["circuit", "wires", "gates", "images", "gate"]
theorem sc_table : FnScope N_table ["circuit"] (defScope s_table) := ⟨rfl, rfl, rfl, by decide +kernel, rfl, by decide +kernel, by decide +kernel⟩
abbrev s_lacks : Stmt := topS 6
abbrev N_lacks : List Str := ["number", "other", "wire"]
theorem sc_lacks : FnScope N_lacks ["number", "other", "wire"] (defScope s_lacks) := ⟨rfl, rfl, rfl, by decide +kernel, rfl, by decide +kernel, by decide +kernel⟩
abbrev s_all_ones : Stmt := topS 7
abbrev N_all_ones : List Str := ["number", "wires", "wire"]
theorem sc_all_ones : FnScope N_all_ones ["number", "wires"] (defScope s_all_ones) := ⟨rfl, rfl, rfl, by decide +kernel, rfl, by decide +kernel, by decide +kernel⟩
abbrev s_from_table : Stmt := topS 5
abbrev N_from_table : List Str := ["row", "wires", "images", "gates", "k", "wire"]
theorem sc_from_table : FnScope N_from_table ["row"] (defScope s_from_table) := ⟨rfl, rfl, rfl, by decide +kernel, rfl, by decide +kernel, by decide +kernel⟩
abbrev s_parting : Stmt := topS 8
abbrev N_parting : List Str := ["first", "second", "k", "one", "other"]
theorem sc_parting : FnScope N_parting ["first", "second"] (defScope s_parting) := ⟨rfl, rfl, rfl, by decide +kernel, rfl, by decide +kernel, by decide +kernel⟩
abbrev s_z_draw : Stmt := topS 10
abbrev N_z_draw : List Str := ["script", "seed", "cell"]
theorem sc_z_draw : FnScope N_z_draw ["script"] (defScope s_z_draw) := ⟨rfl, rfl, rfl, by decide +kernel, rfl, by decide +kernel, by decide +kernel⟩
abbrev s_z_take : Stmt := topS 11
abbrev N_z_take : List Str := ["draw", "many", "found"]
theorem sc_z_take : FnScope N_z_take ["draw", "many"] (defScope s_z_take) := ⟨rfl, rfl, rfl, by decide +kernel, rfl, by decide +kernel, by decide +kernel⟩
abbrev s_z_gate : Stmt := topS 12
abbrev N_z_gate : List Str := ["draw", "wires", "most", "target", "controls", "wire"]
theorem sc_z_gate : FnScope N_z_gate ["draw", "wires", "most"] (defScope s_z_gate) := ⟨rfl, rfl, rfl, by decide +kernel, rfl, by decide +kernel, by decide +kernel⟩
abbrev s_z_circuit : Stmt := topS 13
abbrev N_z_circuit : List Str := ["draw", "wires", "many", "k"]
theorem sc_z_circuit : FnScope N_z_circuit ["draw", "wires", "many"] (defScope s_z_circuit) := ⟨rfl, rfl, rfl, by decide +kernel, rfl, by decide +kernel, by decide +kernel⟩
abbrev s_z_turned : Stmt := topS 14
abbrev N_z_turned : List Str := ["gates", "bits", "target", "controls", "wire", "value"]
theorem sc_z_turned : FnScope N_z_turned ["gates", "bits"] (defScope s_z_turned) := ⟨rfl, rfl, rfl, by decide +kernel, rfl, by decide +kernel, by decide +kernel⟩
abbrev s_z_bits : Stmt := topS 15
abbrev N_z_bits : List Str := ["number", "wires", "k"]
theorem sc_z_bits : FnScope N_z_bits ["number", "wires"] (defScope s_z_bits) := ⟨rfl, rfl, rfl, by decide +kernel, rfl, by decide +kernel, by decide +kernel⟩
abbrev s_z_value : Stmt := topS 16
abbrev N_z_value : List Str := ["bits", "k"]
theorem sc_z_value : FnScope N_z_value ["bits"] (defScope s_z_value) := ⟨rfl, rfl, rfl, by decide +kernel, rfl, by decide +kernel, by decide +kernel⟩
abbrev s_z_map : Stmt := topS 17
abbrev N_z_map : List Str := ["circuit", "k"]
theorem sc_z_map : FnScope N_z_map ["circuit"] (defScope s_z_map) := ⟨rfl, rfl, rfl, by decide +kernel, rfl, by decide +kernel, by decide +kernel⟩
abbrev s_z_mixed : Stmt := topS 18
abbrev N_z_mixed : List Str := ["draw", "many", "rest", "found"]
theorem sc_z_mixed : FnScope N_z_mixed ["draw", "many"] (defScope s_z_mixed) := ⟨rfl, rfl, rfl, by decide +kernel, rfl, by decide +kernel, by decide +kernel⟩
abbrev s_z_turn : Stmt := topS 19
abbrev N_z_turn : List Str := ["images", "bit", "mask", "image"]
theorem sc_z_turn : FnScope N_z_turn ["images", "bit", "mask"] (defScope s_z_turn) := ⟨rfl, rfl, rfl, by decide +kernel, rfl, by decide +kernel, by decide +kernel⟩
abbrev s_z_gates : Stmt := topS 20
abbrev N_z_gates : List Str := ["row", "wires", "images", "gates", "k", "bit", "mask", "wire"]
theorem sc_z_gates : FnScope N_z_gates ["row", "wires"] (defScope s_z_gates) := ⟨rfl, rfl, rfl, by decide +kernel, rfl, by decide +kernel, by decide +kernel⟩
abbrev s_law : Stmt := topS 21
abbrev N_law : List Str := ["script", "draw", "number", "circuit", "wires", "row", "made", "other", "at", "ours", "theirs", "apart", "k"]
theorem sc_law : FnScope N_law ["script"] (defScope s_law) := ⟨rfl, rfl, rfl, by decide +kernel, rfl, by decide +kernel, by decide +kernel⟩
/-- what the top has left -/
structure Txt (K : PySem.W.Frag) (mg : Str → Option Value) where
  f_as_number : Addr
  d_as_number : FuncData
  F_as_number : Fun K "as_number" "as_number" s_as_number f_as_number d_as_number
  g_as_number : mg "as_number" = some (.ref f_as_number)
  b_as_number : Binds K d_as_number ["bits"] []
  f_as_bits : Addr
  d_as_bits : FuncData
  F_as_bits : Fun K "as_bits" "as_bits" s_as_bits f_as_bits d_as_bits
  g_as_bits : mg "as_bits" = some (.ref f_as_bits)
  b_as_bits : Binds K d_as_bits ["number", "wires"] []
  f_turned : Addr
  d_turned : FuncData
  F_turned : Fun K "turned" "turned" s_turned f_turned d_turned
  g_turned : mg "turned" = some (.ref f_turned)
  b_turned : Binds K d_turned ["images", "gate"] []
  f_table : Addr
  d_table : FuncData
  F_table : Fun K "table" "table" s_table f_table d_table
  g_table : mg "table" = some (.ref f_table)
  b_table : Binds K d_table ["circuit"] []
  f_lacks : Addr
  d_lacks : FuncData
  F_lacks : Fun K "lacks" "lacks" s_lacks f_lacks d_lacks
  g_lacks : mg "lacks" = some (.ref f_lacks)
  b_lacks : Binds K d_lacks ["number", "other", "wire"] []
  f_all_ones : Addr
  d_all_ones : FuncData
  F_all_ones : Fun K "all_ones" "all_ones" s_all_ones f_all_ones d_all_ones
  g_all_ones : mg "all_ones" = some (.ref f_all_ones)
  b_all_ones : Binds K d_all_ones ["number", "wires"] []
  f_from_table : Addr
  d_from_table : FuncData
  F_from_table : Fun K "from_table" "from_table" s_from_table f_from_table d_from_table
  g_from_table : mg "from_table" = some (.ref f_from_table)
  b_from_table : Binds K d_from_table ["row"] []
  f_parting : Addr
  d_parting : FuncData
  F_parting : Fun K "parting" "parting" s_parting f_parting d_parting
  g_parting : mg "parting" = some (.ref f_parting)
  b_parting : Binds K d_parting ["first", "second"] []
  f_z_draw : Addr
  d_z_draw : FuncData
  F_z_draw : Fun K "_law_draw" "_law_draw" s_z_draw f_z_draw d_z_draw
  g_z_draw : mg "_law_draw" = some (.ref f_z_draw)
  b_z_draw : Binds K d_z_draw ["script"] []
  f_z_take : Addr
  d_z_take : FuncData
  F_z_take : Fun K "_law_take" "_law_take" s_z_take f_z_take d_z_take
  g_z_take : mg "_law_take" = some (.ref f_z_take)
  b_z_take : Binds K d_z_take ["draw", "many"] []
  f_z_gate : Addr
  d_z_gate : FuncData
  F_z_gate : Fun K "_law_gate" "_law_gate" s_z_gate f_z_gate d_z_gate
  g_z_gate : mg "_law_gate" = some (.ref f_z_gate)
  b_z_gate : Binds K d_z_gate ["draw", "wires", "most"] []
  f_z_circuit : Addr
  d_z_circuit : FuncData
  F_z_circuit : Fun K "_law_circuit" "_law_circuit" s_z_circuit f_z_circuit d_z_circuit
  g_z_circuit : mg "_law_circuit" = some (.ref f_z_circuit)
  b_z_circuit : Binds K d_z_circuit ["draw", "wires", "many"] []
  f_z_turned : Addr
  d_z_turned : FuncData
  F_z_turned : Fun K "_law_turned" "_law_turned" s_z_turned f_z_turned d_z_turned
  g_z_turned : mg "_law_turned" = some (.ref f_z_turned)
  b_z_turned : Binds K d_z_turned ["gates", "bits"] []
  f_z_bits : Addr
  d_z_bits : FuncData
  F_z_bits : Fun K "_law_bits" "_law_bits" s_z_bits f_z_bits d_z_bits
  g_z_bits : mg "_law_bits" = some (.ref f_z_bits)
  b_z_bits : Binds K d_z_bits ["number", "wires"] []
  f_z_value : Addr
  d_z_value : FuncData
  F_z_value : Fun K "_law_value" "_law_value" s_z_value f_z_value d_z_value
  g_z_value : mg "_law_value" = some (.ref f_z_value)
  b_z_value : Binds K d_z_value ["bits"] []
  f_z_map : Addr
  d_z_map : FuncData
  F_z_map : Fun K "_law_map" "_law_map" s_z_map f_z_map d_z_map
  g_z_map : mg "_law_map" = some (.ref f_z_map)
  b_z_map : Binds K d_z_map ["circuit"] []
  f_z_mixed : Addr
  d_z_mixed : FuncData
  F_z_mixed : Fun K "_law_mixed" "_law_mixed" s_z_mixed f_z_mixed d_z_mixed
  g_z_mixed : mg "_law_mixed" = some (.ref f_z_mixed)
  b_z_mixed : Binds K d_z_mixed ["draw", "many"] []
  f_z_turn : Addr
  d_z_turn : FuncData
  F_z_turn : Fun K "_law_turn" "_law_turn" s_z_turn f_z_turn d_z_turn
  g_z_turn : mg "_law_turn" = some (.ref f_z_turn)
  b_z_turn : Binds K d_z_turn ["images", "bit", "mask"] []
  f_z_gates : Addr
  d_z_gates : FuncData
  F_z_gates : Fun K "_law_gates" "_law_gates" s_z_gates f_z_gates d_z_gates
  g_z_gates : mg "_law_gates" = some (.ref f_z_gates)
  b_z_gates : Binds K d_z_gates ["row", "wires"] []
  f_law : Addr
  d_law : FuncData
  F_law : Fun K "law" "law" s_law f_law d_law
  g_law : mg "law" = some (.ref f_law)
  m_abs : mg "abs" = none
  m_enumerate : mg "enumerate" = none
  m_int : mg "int" = none
  m_len : mg "len" = none
  m_list : mg "list" = none
  m_range : mg "range" = none
  m_reversed : mg "reversed" = none
  m_sum : mg "sum" = none
  m_tuple : mg "tuple" = none
  m_zip : mg "zip" = none

section
variable {P : Program} {w : World} {K : PySem.W.Frag} {mg : Str → Option Value} {base : Heap}
/-! ### the draw -/
/-- the cells stay where they are -/
def Cs (p : Addr) (H H' : Hp) : Prop := ∀ c t, H p = some (.lst (.ref c :: t)) → ∃ t', H' p = some (.lst (.ref c :: t'))
theorem Cs.refl (p : Addr) (H : Hp) : Cs p H H := fun _ t e => ⟨t, e⟩
theorem Cs.trans {p : Addr} {H H1 H2 : Hp} (a : Cs p H H1) (b : Cs p H1 H2) : Cs p H H2 := fun c t e => let ⟨t', e'⟩ := a c t e; b c t' e'
theorem Cs.new {p q : Addr} {H : Hp} {o : HO} (h : H q = none) : Cs p H (upd H q o) := fun c t e => ⟨t, by rw [upd_ne (ne_of_none e h)]; exact e⟩
/-- a number from 0 to m - 1, the draw turned -/
def spTake : Sp := fun vs H Q _ => ∃ (p : Addr) (m : Int), vs = [.ref p, .int m] ∧ DrawAt H p ∧ 0 < m ∧ m ≤ 2 ^ 40 ∧ ∀ (r : Int) (H' : Hp), 0 ≤ r → r < m → KeepBut p H H' → Cs p H H' → DrawAt H' p → Q (.int r) H'
theorem ok_z_take (T : Txt K mg) : FnOk P w K mg base CX0 1 T.f_z_take T.d_z_take ["draw", "many"] spTake := by
  refine T.F_z_take.ok sc_z_take (fun vs H Q E h => ?_) (fun cdv A outer s H vs Q E hr h => ?_)
  · obtain ⟨p, m, rfl, _⟩ := h
    rfl
  · obtain ⟨p, m, rfl, ⟨c, cells, pos, rest, seed, D⟩, hm, hm2, q⟩ := h
    have hc0 := D.hp
    refine ⟨_, (pss_cons (ps_cut (ps_if (pt_cmpR op_eq (pe_ix ix_list (pv 0) pe_int (fun _ _ => rfl)) pe_int (nomark _))
        (pss_cons (ps_asg (pe_op op_add (pe_ix ix_list (pv 0) pe_int (fun _ _ => rfl)) pe_int) (pg_sub (pv 0) pe_int set_list))
        (pss_cons (ps_cut (ps_if (pt_cmpR op_lt (pe_ix ix_list (pv 0) pe_int (fun _ _ => rfl)) (pe_callB call_len_seq (by rfl) T.m_len (by decide +kernel) (pa_cons (pe_ix ix_list (pv 0) pe_int (fun _ _ => rfl)) pa_nil)) (nomark _))
          (pss_one (ps_asg (pe_ix ix_list (pe_ix ix_list (pv 0) pe_int (fun _ _ => rfl)) (pe_ix ix_list (pv 0) pe_int (fun _ _ => rfl)) (fun _ _ => rfl)) (pg_sub (pv 0) pe_int set_list)))
          pss_nil))
        (pss_one (ps_if (pt_cmpR op_eq (pe_ix ix_list (pv 0) pe_int (fun _ _ => rfl)) pe_int (nomark _))
          (pss_cons (ps_asg (pe_op op_modN (pe_callTy call_int1 (by rfl) T.m_int (by decide +kernel) (pa_cons (pe_op op_add (pe_op op_mul (pe_ix ix_list (pv 0) pe_int (fun _ _ => rfl)) pe_int) pe_int) pa_nil)) pe_int) (pg_sub (pv 0) pe_int set_list))
          (pss_one (ps_asg (pe_ix ix_list (pv 0) pe_int (fun _ _ => rfl)) (pg_sub (pv 0) pe_int set_list))))
          pss_nil))))
        pss_nil))
      (pss_cons (ps_set (i := 2) sc_z_take.nd rfl (Or.inl rfl) (pe_op op_modN (pe_callTy call_int1 (by rfl) T.m_int (by decide +kernel) (pa_cons (pe_ix ix_list (pv 0) pe_int (fun _ _ => rfl)) pa_nil)) (pv 1)))
      (pss_cons (ps_asg (pe_op op_fdivW (pe_ix ix_list (pv 0) pe_int (fun _ _ => rfl)) (pv 1)) (pg_sub (pv 0) pe_int set_list))
      (pss_one (ps_ret (pv 2)))))), ?_⟩
    refine ⟨fun σ H1 => ∃ pos rest seed, σ = [some (.ref p), some (.int m), none] ∧ DrawIs H1 p c cells pos rest seed ∧ KeepBut p H H1, ?_, ?_⟩
    · -- draw[2] == 0
      refine ⟨_, rfl, _, _, _, _, rfl, rfl, SqL.of D.hp, rfl, rfl, _, rfl, ite2 (fun e => ?_) (fun e => ?_)⟩
      · -- draw[1] = draw[1] + 1
        refine ⟨_, rfl, _, _, _, _, rfl, rfl, SqL.of D.hp, rfl, _, _, rfl, rfl, _, rfl, _, _, _, 1, rfl, rfl, D.hp, rfl, ?_⟩
        have h1 := D.po
        have D1 : DrawIs (upd H p (.lst [.ref c, .int (pos + 1), .int rest, .int seed])) p c cells (pos + 1) rest seed := D.put (by omega) D.re D.s0 D.s1
        have k1 : KeepBut p H (upd H p (.lst [.ref c, .int (pos + 1), .int rest, .int seed])) := .put _ _ _
        refine ⟨fun σ H1 => ∃ rest, σ = [some (.ref p), some (.int m), none] ∧ DrawIs H1 p c cells (pos + 1) rest seed ∧ KeepBut p H H1, ?_, ?_⟩
        · -- draw[1] < len(draw[0])
          refine ⟨_, rfl, _, _, _, _, rfl, rfl, SqL.of D1.hp, rfl, _, rfl, _, _, _, _, rfl, rfl, SqL.of D1.hp, rfl, _, _, rfl, .inl (SqL.of D1.hc), _, _, rfl, rfl, _, rfl, ite2 (fun e => ?_) (fun e => ?_)⟩
          · have e1 : pos + 1 < ((cells.map V.int).length : Int) := of_decide_eq_true e
            rw [List.length_map] at e1
            obtain ⟨n, hn⟩ := int_nat (show 0 ≤ pos + 1 by omega)
            have hn2 : n < cells.length := by omega
            refine ⟨_, rfl, _, _, _, _, rfl, rfl, SqL.of D1.hp, rfl, _, rfl, _, _, _, _, rfl, rfl, SqL.of D1.hp, rfl, _, _, _, .int cells[n], rfl, rfl, SqL.of D1.hc, ?_, _, rfl, _, _, _, 2, rfl, rfl, D1.hp, rfl, ?_⟩
            · rw [hn]
              exact atI_nat (by rw [List.getElem?_map, List.getElem?_eq_getElem hn2]; rfl)
            · exact ⟨_, rfl, D1.put D1.po (D1.nn _ (List.getElem_mem hn2)) D1.s0 D1.s1, k1.trans (.put _ _ _)⟩
          · exact ⟨rest, rfl, D1, k1⟩
        · rintro σ H1 ⟨rest1, rfl, D2, k2⟩
          -- draw[2] == 0
          refine ⟨_, rfl, _, _, _, _, rfl, rfl, SqL.of D2.hp, rfl, rfl, _, rfl, ite2 (fun e => ?_) (fun e => ?_)⟩
          · have s0 := D2.s0
            have s1 := D2.s1
            refine ⟨_, rfl, _, _, _, _, rfl, rfl, SqL.of D2.hp, rfl, _, _, rfl, rfl, .inl ⟨by omega, by omega⟩, _, _, rfl, rfl, .inl ⟨_, rfl, _, _, rfl, rfl, (show (2147483647 : Int) ≠ 0 by decide), _, rfl, _, _, _, 3, rfl, rfl, D2.hp, rfl, ?_⟩⟩
            have f0 : 0 ≤ (seed * 48271 + 11).fmod 2147483647 := fmod_lo (by decide)
            have f1 : (seed * 48271 + 11).fmod 2147483647 < 2147483647 := fmod_hi (by decide)
            have D3 := D2.put (seed' := (seed * 48271 + 11).fmod 2147483647) D2.po D2.re f0 f1
            refine ⟨_, rfl, _, _, _, _, rfl, rfl, SqL.of D3.hp, rfl, _, rfl, _, _, _, 2, rfl, rfl, D3.hp, rfl, ?_⟩
            exact ⟨_, _, _, rfl, D3.put D3.po f0 f0 f1, (k2.trans (.put _ _ _)).trans (.put _ _ _)⟩
          · exact ⟨_, _, _, rfl, D2, k2⟩
      · exact ⟨_, _, _, rfl, D, .refl _ _⟩
    · rintro σ H1 ⟨pos, rest, seed, rfl, D, k⟩
      -- found = int(draw[2]) % many; draw[2] = draw[2] // many
      refine ⟨_, rfl, _, _, _, _, rfl, rfl, SqL.of D.hp, rfl, .inl ⟨_, rfl, _, rfl, _, _, rfl, rfl, (by omega), ?_⟩⟩
      refine ⟨_, rfl, _, _, _, _, rfl, rfl, SqL.of D.hp, rfl, _, rfl, _, _, rfl, rfl, wide_div (b := 41) hm (by omega) (by decide) (by decide), _, rfl, _, _, _, 2, rfl, rfl, D.hp, rfl, ?_⟩
      exact ⟨_, rfl, q _ _ (fmod_lo hm) (fmod_hi hm) (k.trans (.put _ _ _)) (fun c' t e => by rw [hc0] at e; cases e; exact ⟨_, upd_same⟩) ⟨_, _, _, _, _, D.put D.po (div_lo D.re hm) D.s0 D.s1⟩⟩
theorem drawAt_isl {H : Hp} {p : Addr} (D : DrawAt H p) : ∃ xs, H p = some (.lst xs) := by
  obtain ⟨c, cells, pos, rest, seed, d⟩ := D
  exact ⟨_, d.hp⟩
theorem KT.of_but {H H' : Hp} {p : Addr} (D : DrawAt H p) (D' : DrawAt H' p) (k : KeepBut p H H') (cs : Cs p H H') : KT [p] H H' := by
  obtain ⟨xs, e⟩ := (drawAt_isl D)
  obtain ⟨ys, e'⟩ := (drawAt_isl D')
  have ne : ∀ b o, H b = some o → (∀ q, o ≠ .lst q) → b ≠ p := fun b o q n z => by rw [z, e] at q; exact n xs (Option.some.inj q).symm
  refine ⟨fun b o n q => k b o (fun z => n (by rw [z]; exact List.mem_singleton.mpr rfl)) q, fun b xs q => k b _ (ne b _ q fun _ z => by cases z) q, fun b o u q => k b _ (ne b _ q fun _ z => by cases z) q, fun b o q => ?_, fun b c t q => ?_⟩
  rotate_left
  · by_cases z : b = p
    · subst z
      exact cs c t q
    · exact ⟨t, k b _ z q⟩
  by_cases z : b = p
  · exact ⟨_, by rw [z]; exact e'⟩
  · exact ⟨o, k b o z q⟩
/-- the draw is led on: all else stays -/
structure GS (dr : Addr) (H H' : Hp) : Prop where
  k : KT [dr] H H'
  d : DrawAt H' dr
  c : Cs dr H H'
theorem GS.trans {dr : Addr} {H H1 H2 : Hp} (a : GS dr H H1) (b : GS dr H1 H2) : GS dr H H2 := ⟨a.k.trans b.k, b.d, a.c.trans b.c⟩
theorem GS.new {dr p : Addr} {H : Hp} {o : HO} (D : DrawAt H dr) (h : H p = none) : GS dr H (upd H p o) := ⟨KT.new _ h, D.upd h, .new h⟩
theorem GS.refl {dr : Addr} {H : Hp} (D : DrawAt H dr) : GS dr H H := ⟨KT.refl _ _, D, .refl _ _⟩
theorem GS.late {dr p : Addr} {H H1 : Hp} {o : HO} (a : GS dr H H1) (D : DrawAt H dr) (h : H p = none) : GS dr H (upd H1 p o) := by
  obtain ⟨u, e⟩ := D.some
  have n : dr ≠ p := ne_of_none e h
  obtain ⟨c, cells, pos, rest, seed, d⟩ := id D
  have hp1 : H1 p = none ∨ ∃ o', H1 p = some o' := by cases e : H1 p <;> simp
  refine ⟨a.k.late h, ?_, fun c' t e' => ?_⟩
  · obtain ⟨c1, cells1, pos1, rest1, seed1, d1⟩ := a.d
    obtain ⟨t', e1⟩ := a.c _ _ d.hp
    have hc1 : c1 = c := by
      have := d1.hp.symm.trans e1
      simp at this
      exact this.1
    subst hc1
    have nc : c1 ≠ p := fun z => by
      have := d.hc
      rw [z, h] at this
      cases this
    exact ⟨c1, cells1, pos1, rest1, seed1, ⟨by rw [upd_ne n]; exact d1.hp, by rw [upd_ne nc]; exact d1.hc, d1.nn, d1.po, d1.re, d1.s0, d1.s1⟩⟩
  · obtain ⟨t', e1⟩ := a.c c' t e'
    exact ⟨t', by rw [upd_ne n]; exact e1⟩
def spTakeG : Sp := fun vs H Q _ => ∃ (p : Addr) (m : Int), vs = [.ref p, .int m] ∧ DrawAt H p ∧ 0 < m ∧ m ≤ 2 ^ 40 ∧ ∀ (r : Int) (H' : Hp), 0 ≤ r → r < m → GS p H H' → Q (.int r) H'
theorem okG_z_take (T : Txt K mg) : FnOk P w K mg base CX0 1 T.f_z_take T.d_z_take ["draw", "many"] spTakeG :=
  (ok_z_take T).imp fun vs H Q E ⟨p, m, h1, h2, h3, h4, h5⟩ => ⟨p, m, h1, h2, h3, h4, fun r H' r0 r1 k c D => h5 r H' r0 r1 ⟨KT.of_but h2 D k c, D, c⟩⟩
theorem sz1 : (1 : Nat) ≤ sizeLine := by decide
theorem sz2 : (2 : Nat) ≤ sizeLine := by decide
end

section
variable {P : Program} {w : World} {K : PySem.W.Frag} {mg : Str → Option Value} {base : Heap}
def spDraw (K : PySem.W.Frag) : Sp := fun vs H Q _ => ∃ (a : Addr) (ns : List Int), vs = [.ref a] ∧ SqL K H a (ns.map V.int) ∧ ns.length ≤ 63 ∧ ∀ (H' : Hp) (p : Addr), Same H H' → H p = none → DrawAt H' p → Q (.ref p) H'
def absI (i : Int) : Int := if i < 0 then -i else i
theorem absI_nn (i : Int) : 0 ≤ absI i := by
  unfold absI
  split <;> omega
theorem ok_z_draw (T : Txt K mg) : FnOk P w K mg base CX0 1 T.f_z_draw T.d_z_draw ["script"] (spDraw K) := by
  refine T.F_z_draw.ok sc_z_draw (fun vs H Q E h => ?_) (fun cdv A outer s H vs Q E hr h => ?_)
  · obtain ⟨a, ns, rfl, _⟩ := h
    rfl
  · obtain ⟨a, ns, rfl, hS, hlen, q⟩ := h
    have itm : ∀ (i : Nat) (x : V), (ns.map V.int)[i]? = some x → ∃ z, ns[i]? = some z ∧ x = V.int z := fun i x e => by
      rw [List.getElem?_map] at e
      cases e2 : ns[i]? with
      | none => rw [e2] at e; cases e
      | some z => rw [e2] at e; exact ⟨z, rfl, (Option.some.inj e).symm⟩
    refine ⟨_, (pss_cons (ps_set (i := 1) sc_z_draw.nd rfl (Or.inl rfl) pe_int)
      (pss_cons (ps_for PassesOwn.never rfl (pi_list (pv 0)) (pg_name (i := 2) sc_z_draw.nd rfl (Or.inl rfl))
        (pss_one (ps_set (i := 1) sc_z_draw.nd rfl (Or.inl rfl) (pe_op op_modN (pe_callTy call_int1 (by rfl) T.m_int (by decide +kernel) (pa_cons (pe_op op_add (pe_op op_add (pe_op op_mul (pv 1) pe_int) (pe_op op_modN (pe_callB call_abs (by rfl) T.m_abs (by decide +kernel) (pa_cons (pe_callTy call_int1 (by rfl) T.m_int (by decide +kernel) (pa_cons (pv 2) pa_nil)) pa_nil)) pe_int)) pe_int) pa_nil)) pe_int))))
      (pss_one (ps_ret (pe_lst (pa_cons (pe_lc (own := [("cell", 2)]) (g := gName 2) (by rfl) sc_z_draw.nd (pi_list (pv 0)) (blkOk_by (own := [("cell", 2)]) (N := N_z_draw) (sc := defScope s_z_draw) (by decide +kernel)) (fun _ _ _ _ _ => (pg_name (i := 2) sc_z_draw.nd rfl (Or.inl rfl))) (fun _ _ _ _ _ => pts_nil) (fun _ _ _ _ _ => (pe_callB call_abs (by rfl) T.m_abs (by decide +kernel) (pa_cons (pe_callTy call_int1 (by rfl) T.m_int (by decide +kernel) (pa_cons (pv 2) pa_nil)) pa_nil)))) (pa_cons (pe_un un_neg pe_int) (pa_cons pe_int (pa_cons (pv 1) pa_nil))))))))), ?_⟩
    refine ⟨_, rfl, a, rfl, ⟨_, hS⟩, for_list (xs := ns.map V.int) (fun i σ H1 => ∃ (seed : Int) (c : Option V), σ = [some (.ref a), some (.int seed), c] ∧ H1 = H ∧ 0 ≤ seed ∧ seed < 2147483647) ⟨7, none, rfl, rfl, by decide, by decide⟩ ?_ ?_ ?_⟩
    · rintro i σ H1 _ ⟨_, _, _, rfl, _⟩
      exact hS
    · rintro i x σ H1 hx ⟨seed, c, rfl, rfl, s0, s1⟩
      obtain ⟨z, hz, rfl⟩ := itm i x hx
      refine ⟨_, rfl, _, _, rfl, rfl, .inl ⟨by omega, by omega⟩, _, rfl, .inl ⟨_, rfl, _, rfl, _, _, rfl, rfl, (show (65521 : Int) ≠ 0 by decide), _, _, rfl, rfl, _, _, rfl, rfl, .inl ⟨_, rfl, _, _, rfl, rfl, (show (2147483647 : Int) ≠ 0 by decide), ?_⟩⟩⟩
      exact ⟨_, _, rfl, rfl, fmod_lo (by decide), fmod_hi (by decide)⟩
    · rintro σ H1 ⟨seed, c, rfl, rfl, s0, s1⟩
      -- the cells
      refine ⟨_, rfl, a, rfl, ⟨_, hS⟩, fun D hD => lc_list (xs := ns.map V.int) (fun i H2 => ∃ acc : List Int, Same H1 H2 ∧ H2 D = some (.lst (acc.map V.int)) ∧ acc.length = i ∧ ∀ x ∈ acc, 0 ≤ x) ⟨[], same_upd hD, upd_same, rfl, fun _ z => nomatch z⟩ ?_ ?_ ?_⟩
      · rintro i H2 _ ⟨acc, sm, _⟩
        exact sm.seq hS
      · rintro i x H2 hx ⟨acc, sm, hA, hl, hn⟩
        obtain ⟨z, hz, rfl⟩ := itm i x hx
        have hi : i < ns.length := (List.getElem?_eq_some_iff.mp hz).1
        refine ⟨rfl, ⟨_, rfl, .inl ⟨_, rfl, _, rfl, _, hA, small1000 (by rw [List.length_map]; omega), acc ++ [absI z], fun b o e => ?_, ?_, ?_, fun x hx => ?_⟩⟩⟩
        · rw [upd_ne (ne_of_none e hD)]
          exact sm _ _ e
        · rw [upd_same, List.map_append]
          rfl
        · rw [List.length_append, hl]; rfl
        · rcases List.mem_append.mp hx with h | h
          · exact hn x h
          · rw [List.mem_singleton.mp h]
            exact absI_nn z
      · rintro H2 ⟨acc, sm, hA, hl, hn⟩
        refine ⟨_, rfl, _, rfl, (by show 4 ≤ sizeLine; decide), fun p hp => ?_⟩
        refine q _ p (sm.trans (same_upd hp)) (sm.free hp) ⟨D, acc, -1, 0, seed, ⟨upd_same, ?_, hn, by decide, by decide, s0, s1⟩⟩
        rw [upd_ne (ne_of_none hA hp)]
        exact hA
/-! ### the law -/
theorem atI_in {α : Type} {xs : List α} {r : Int} (h0 : 0 ≤ r) (h1 : r < xs.length) : ∃ v, atI xs r = some v ∧ v ∈ xs := by
  obtain ⟨n, rfl⟩ := int_nat h0
  have hn : n < xs.length := by omega
  exact ⟨xs[n], atI_nat (List.getElem?_eq_getElem hn), List.getElem_mem hn⟩
end

inductive P2 {α : Type} (R : V → α → Prop) : List V → List α → Prop
  | nil : P2 R [] []
  | cons {v : V} {vs : List V} {d : α} {ds : List α} : R v d → P2 R vs ds → P2 R (v :: vs) (d :: ds)
theorem P2.mono {α : Type} {R S : V → α → Prop} (f : ∀ v d, R v d → S v d) : ∀ {vs : List V} {ds : List α}, P2 R vs ds → P2 S vs ds
  | _, _, .nil => .nil
  | _, _, .cons h g => .cons (f _ _ h) (g.mono f)
theorem P2.len {α : Type} {R : V → α → Prop} : ∀ {vs : List V} {ds : List α}, P2 R vs ds → vs.length = ds.length
  | _, _, .nil => rfl
  | _, _, .cons h g => congrArg (· + 1) g.len
theorem P2.app {α : Type} {R : V → α → Prop} : ∀ {vs us : List V} {ds es : List α}, P2 R vs ds → P2 R us es → P2 R (vs ++ us) (ds ++ es)
  | _, _, _, _, .nil, h => h
  | _, _, _, _, .cons h g, k => .cons h (g.app k)
theorem P2.snoc {α : Type} {R : V → α → Prop} {vs : List V} {ds : List α} {v : V} {d : α} (h : P2 R vs ds) (g : R v d) : P2 R (vs ++ [v]) (ds ++ [d]) := h.app (.cons g .nil)
theorem P2.get {α : Type} {R : V → α → Prop} : ∀ {vs : List V} {ds : List α} {i : Nat} {v : V}, P2 R vs ds → vs[i]? = some v → ∃ d, ds[i]? = some d ∧ R v d
  | _, _, i, v, .nil, e => by simp at e
  | _, _, 0, v, .cons h g, e => by simp at e; subst e; exact ⟨_, rfl, h⟩
  | _, _, i + 1, v, .cons h g, e => by
    obtain ⟨d, h1, h2⟩ := g.get (i := i) (by simpa using e)
    exact ⟨d, by simpa using h1, h2⟩
theorem P2.drop {α : Type} {R : V → α → Prop} : ∀ {vs : List V} {ds : List α} (n : Nat), P2 R vs ds → P2 R (vs.drop n) (ds.drop n)
  | _, _, _, .nil => by simp; exact .nil
  | _, _, 0, .cons h g => .cons h g
  | _, _, n + 1, .cons h g => by simpa using g.drop n
theorem P2.mem {α : Type} {R : V → α → Prop} {vs : List V} {ds : List α} {v : V} (h : P2 R vs ds) (m : v ∈ vs) : ∃ d ∈ ds, R v d := by
  obtain ⟨i, hi, e⟩ := List.getElem_of_mem m
  obtain ⟨d, h1, h2⟩ := h.get (List.getElem?_eq_some_iff.mpr ⟨hi, e⟩)
  exact ⟨d, List.mem_of_getElem? h1, h2⟩
def b2 (b : Bool) : Int := if b then 1 else 0
def PrV (H : Hp) (v : V) (c : Ct) : Prop := ∃ t, v = .ref t ∧ H t = some (.tup [.int c.1, .int (b2 c.2)])
def GtV (H : Hp) (v : V) (g : Gt) : Prop := ∃ t u vs, v = .ref t ∧ H t = some (.tup [.int g.1, .ref u]) ∧ H u = some (.tup vs) ∧ P2 (PrV H) vs g.2
theorem PrV.keep {S : List Addr} {H H' : Hp} (k : KT S H H') {v : V} {c : Ct} : PrV H v c → PrV H' v c := fun ⟨t, h1, h2⟩ => ⟨t, h1, k.tp _ _ h2⟩
theorem prs_keep {S : List Addr} {H H' : Hp} (k : KT S H H') {vs : List V} {cs : List Ct} (h : P2 (PrV H) vs cs) : P2 (PrV H') vs cs := h.mono fun _ _ => .keep k
theorem GtV.keep {S : List Addr} {H H' : Hp} (k : KT S H H') {v : V} {c : Gt} : GtV H v c → GtV H' v c := fun ⟨t, u, vs, h1, h2, h3, h4⟩ => ⟨t, u, vs, h1, k.tp _ _ h2, k.tp _ _ h3, prs_keep k h4⟩
theorem gts_keep {S : List Addr} {H H' : Hp} (k : KT S H H') {vs : List V} {cs : List Gt} (h : P2 (GtV H) vs cs) : P2 (GtV H') vs cs := h.mono fun _ _ => .keep k
def ivs (ns : List Nat) : List V := ns.map fun (n : Nat) => V.int (n : Int)
theorem ivs_len (ns : List Nat) : (ivs ns).length = ns.length := List.length_map ..
theorem ivs_get {ns : List Nat} {i : Nat} {x : V} (h : (ivs ns)[i]? = some x) : ∃ n, ns[i]? = some n ∧ x = .int (n : Int) := by
  unfold ivs at h
  rw [List.getElem?_map] at h
  cases e : ns[i]? with
  | none => rw [e] at h; cases h
  | some n => rw [e] at h; exact ⟨n, rfl, (Option.some.inj h).symm⟩
theorem ivs_at {ns : List Nat} {i : Nat} {n : Nat} (h : ns[i]? = some n) : atI (ivs ns) (i : Int) = some (.int (n : Int)) := by
  refine atI_nat ?_
  unfold ivs
  rw [List.getElem?_map, h]
  rfl
def GOk (n : Nat) (g : Gt) : Prop := g.1 < n ∧ (∀ c ∈ g.2, c.1 < n) ∧ (g.2.map (·.1)).Pairwise (· < ·) ∧ ∀ c ∈ g.2, c.1 ≠ g.1
theorem ivs_snoc (a : List Nat) (n : Nat) : ivs (a ++ [n]) = ivs a ++ [.int (n : Int)] := by
  unfold ivs
  rw [List.map_append]
  rfl
theorem ivs_drop (ns : List Nat) (n : Nat) : (ivs ns).drop n = ivs (ns.drop n) := by
  unfold ivs
  rw [List.map_drop]
theorem cutV_nat1 (xs : List V) : cutV xs (some 1) none = xs.drop 1 := by
  unfold cutV HT.sIx
  cases xs with
  | nil => rfl
  | cons x r =>
    simp
theorem ivs_flat (ns : List Nat) : (ivs ns).all flatV = true := List.all_eq_true.mpr fun x hx => by
  obtain ⟨n, _, rfl⟩ := List.mem_map.mp hx
  rfl
theorem inV_ivs (x : Nat) : ∀ xs : List Nat, inV (V.int (x : Int)) (ivs xs) = decide (x ∈ xs)
  | [] => by simp [inV, ivs]
  | y :: r => by
    have ih := inV_ivs x r
    have e : inV (V.int (x : Int)) (ivs (y :: r)) = (eqV (V.int (y : Int)) (V.int (x : Int)) || inV (V.int (x : Int)) (ivs r)) := rfl
    rw [e, ih]
    have e2 : eqV (V.int (y : Int)) (V.int (x : Int)) = decide (y = x) := by
      show ((y : Int) == (x : Int)) = _
      rw [Bool.eq_iff_iff, beq_iff_eq, decide_eq_true_iff]
      omega
    rw [e2]
    by_cases h : y = x
    · simp [h]
    · by_cases h2 : x ∈ r
      · simp [h2]
      · have h3 : ¬ x = y := fun z => h z.symm
        simp [h, h2, h3]
theorem all_true {bs : List Bool} (h : ∀ b ∈ bs, b = true) : bs.all _root_.id = true := List.all_eq_true.mpr fun b hb => h b hb
theorem trues {n : Nat} : (List.replicate n true).all _root_.id = true := all_true fun _ h => (List.mem_replicate.mp h).2
theorem P2.perm {R : V → Ct → Prop} {vs us : List V} (p : vs.Perm us) : ∀ {cs : List Ct}, P2 R vs cs → ∃ ds, P2 R us ds ∧ cs.Perm ds := by
  induction p with
  | nil => intro cs h; exact ⟨cs, h, .refl _⟩
  | cons x _ ih =>
    intro cs h
    cases h with
    | cons h1 h2 =>
      obtain ⟨ds, a, b⟩ := ih h2
      exact ⟨_, .cons h1 a, b.cons _⟩
  | swap x y l =>
    intro cs h
    cases h with
    | cons h1 h2 =>
      cases h2 with
      | cons h3 h4 => exact ⟨_, .cons h3 (.cons h1 h4), .swap ..⟩
  | trans _ _ ih1 ih2 =>
    intro cs h
    obtain ⟨ds, a, b⟩ := ih1 h
    obtain ⟨es, c, d⟩ := ih2 a
    exact ⟨es, c, b.trans d⟩
theorem cutV_from (xs : List V) (a : Nat) : cutV xs (some (a : Int)) none = xs.drop a := by
  unfold cutV
  rw [HT.sIx_nat, HT.sIx_none]
  rcases Nat.lt_or_ge a xs.length with h | h
  · rw [Nat.min_eq_left (by omega), List.take_of_length_le (by rw [List.length_drop]; omega)]
  · rw [Nat.min_eq_right h, List.drop_eq_nil_of_le h, List.drop_eq_nil_of_le (Nat.le_refl _), List.take_nil]
theorem cutV_mid (xs : List V) (a b : Nat) (hb : b ≤ xs.length) (ha : a ≤ b) : cutV xs (some (a : Int)) (some (b : Int)) = (xs.drop a).take (b - a) := by
  unfold cutV
  rw [HT.sIx_nat, HT.sIx_nat, Nat.min_eq_left hb, Nat.min_eq_left (by omega)]
theorem ivs_take (ns : List Nat) (n : Nat) : (ivs ns).take n = ivs (ns.take n) := by
  unfold ivs
  rw [List.map_take]
theorem PrV.put {H : Hp} {D : Addr} {xs ys : List V} (hD : H D = some (.lst xs)) {v : V} {c : Ct} : PrV H v c → PrV (upd H D (.lst ys)) v c := fun ⟨t, h1, h2⟩ => ⟨t, h1, by
  rw [upd_ne]
  · exact h2
  · intro z
    rw [z, hD] at h2
    cases h2⟩
theorem GtV.put {H : Hp} {D : Addr} {xs ys : List V} (hD : H D = some (.lst xs)) {v : V} {c : Gt} : GtV H v c → GtV (upd H D (.lst ys)) v c := fun ⟨t, u, vs, h1, h2, h3, h4⟩ => ⟨t, u, vs, h1, (by
  rw [upd_ne]
  · exact h2
  · intro z
    rw [z, hD] at h2
    cases h2), (by
  rw [upd_ne]
  · exact h3
  · intro z
    rw [z, hD] at h3
    cases h3), h4.mono fun _ _ => .put hD⟩
def bvs (bs : List Bool) : List V := bs.map fun (b : Bool) => V.int (b2 b)
theorem bvs_len (bs : List Bool) : (bvs bs).length = bs.length := List.length_map ..
theorem bvs_get {bs : List Bool} {i : Nat} (h : i < bs.length) : (bvs bs)[i]? = some (.int (b2 (st bs i))) := by
  unfold bvs st
  rw [List.getElem?_map, List.getElem?_eq_getElem h, List.getD_eq_getElem?_getD, List.getElem?_eq_getElem h]
  rfl
theorem bvs_set (bs : List Bool) (i : Nat) (b : Bool) : (bvs bs).set i (.int (b2 b)) = bvs (bs.set i b) := by
  unfold bvs
  rw [List.map_set]
theorem b2_inj {a b : Bool} : (b2 a = b2 b) ↔ a = b := by cases a <;> cases b <;> simp [b2]
theorem b2_not (a : Bool) : 1 - b2 a = b2 (!a) := by cases a <;> rfl
theorem dp_ints {K : PySem.W.Frag} {H : Hp} : ∀ xs : List Int, DpAll K H (xs.map V.int) (xs.map PyData.int)
  | [] => .nil
  | x :: r => .cons (.int x) (dp_ints r)
theorem lay_ints : ∀ xs : List Int, PyData.canLayAll0 (xs.map PyData.int) = true
  | [] => rfl
  | x :: r => by
    show (PyData.canLay0 (.int x) && PyData.canLayAll0 (r.map PyData.int)) = true
    rw [lay_ints r]
    rfl
theorem deep_ints : ∀ xs : List Int, PyData.depthAll (xs.map PyData.int) = 0
  | [] => rfl
  | x :: r => by
    show max (PyData.depth (.int x)) (PyData.depthAll (r.map PyData.int)) = 0
    rw [deep_ints r]
    rfl
theorem shaped_ints (xs : List Int) : SeqAt.shaped (.list (xs.map PyData.int)) = true := by
  unfold SeqAt.shaped
  rw [Bool.and_eq_true]
  refine ⟨lay_ints xs, decide_eq_true ?_⟩
  show PyData.depthAll (xs.map PyData.int) + 1 ≤ 64
  rw [deep_ints]
  decide
theorem shaped_intsT (xs : List Int) : SeqAt.shaped (.tuple (xs.map PyData.int)) = true := by
  unfold SeqAt.shaped
  rw [Bool.and_eq_true]
  refine ⟨lay_ints xs, decide_eq_true ?_⟩
  show PyData.depthAll (xs.map PyData.int) + 1 ≤ 64
  rw [deep_ints]
  decide
theorem ivs_int (ns : List Nat) : ivs ns = (ns.map fun (n : Nat) => (n : Int)).map V.int := by
  unfold ivs
  rw [List.map_map]
  rfl
theorem bvs_int (bs : List Bool) : bvs bs = (bs.map b2).map V.int := by
  unfold bvs
  rw [List.map_map]
  rfl
theorem shaped_nil : SeqAt.shaped (.list []) = true := shaped_ints []
def In (n : Nat) (gs : List Gt) : Prop := ∀ g ∈ gs, g.1 < n ∧ ∀ c ∈ g.2, c.1 < n
def spTu : Sp := fun vs H Q _ => ∃ (a b : Addr) (gvs : List V) (gs : List Gt) (bs : List Bool), vs = [.ref a, .ref b] ∧ H a = some (.tup gvs) ∧ P2 (GtV H) gvs gs ∧ H b = some (.tup (bvs bs)) ∧ In bs.length gs ∧ (∀ g ∈ gs, g.2.length ≤ 1000) ∧
  ∀ (t : Addr) (H' : Hp), KT [] H H' → H' t = some (.tup (bvs (runL gs bs))) → Q (.ref t) H'
theorem val_snoc (a : List Nat) (w : Nat) (s : Sb) : val (a ++ [w]) s = val a s + (s w).toNat * 2 ^ a.length := by
  induction a with
  | nil => simp [val]
  | cons x r ih =>
    rw [List.cons_append, val, val, ih, List.length_cons, Nat.pow_succ]
    rw [Nat.mul_add, Nat.add_assoc]
    congr 2
    rw [← Nat.mul_assoc, Nat.mul_comm 2, Nat.mul_assoc, Nat.mul_comm 2]
theorem b2_nat (b : Bool) : b2 b = ((b.toNat : Nat) : Int) := by cases b <;> rfl
theorem perm_erase {l : List Nat} {n : Nat} (h : n < l.length) : (l[n] :: l.eraseIdx n).Perm l := by
  have e : l = l.take n ++ l[n] :: l.drop (n + 1) := by rw [← List.drop_eq_getElem_cons h, List.take_append_drop]
  rw [List.eraseIdx_eq_take_drop_succ]
  exact List.perm_middle.symm.trans (.of_eq e.symm)
theorem ivs_erase (l : List Nat) (n : Nat) : (ivs l).eraseIdx n = ivs (l.eraseIdx n) := by
  rw [List.eraseIdx_eq_take_drop_succ, List.eraseIdx_eq_take_drop_succ, ivs_take, ivs_drop]
  unfold ivs
  rw [List.map_append]
theorem ixn_nat {n m : Nat} (h : n < m) : ixN m (n : Int) = some n := by
  have h1 : (0 : Int) ≤ n := by omega
  have h2 : (n : Int) < m := by omega
  simp only [ixN, h1, h2, if_true, Int.toNat_natCast]
theorem seqIx {n m : Nat} (h : n < m) : seqIndex? (n : Int) m = some n := by
  unfold seqIndex?
  have h1 : ¬ (n : Int) < 0 := by omega
  simp [h1, h]
set_option maxHeartbeats 4000000 in
theorem ok_z_turned {P : Program} {w : World} {K : PySem.W.Frag} {mg : Str → Option Value} {base : Heap} (T : Txt K mg) : FnOk P w K mg base CX0 1 T.f_z_turned T.d_z_turned ["gates", "bits"] spTu := by
  refine T.F_z_turned.ok sc_z_turned (fun vs H Q E h => ?_) (fun cdv A outer s H vs Q E hr h => ?_)
  · obtain ⟨a, b, gvs, gs, bs, rfl, _⟩ := h
    rfl
  · obtain ⟨a, b, gvs, gs, bs, rfl, ha, hg, hb, hin, hln, q⟩ := h
    refine ⟨_, (pss_cons (ps_set (i := 1) sc_z_turned.nd rfl (Or.inr rfl) (pe_callTy call_list_of (by rfl) T.m_list (by decide +kernel) (pa_cons (pv 1) pa_nil)))
      (pss_cons (ps_for PassesOwn.never rfl (pi_tup (pv 0)) (pg_tup (by rfl) (pgs_cons (pg_name (i := 2) sc_z_turned.nd rfl (Or.inl rfl)) (pgs_cons (pg_name (i := 3) sc_z_turned.nd rfl (Or.inl rfl)) pgs_nil)))
        (pss_one (ps_if (pt_cmpR (op_eqD hr.units) (pe_lc (own := [("wire", 4), ("value", 5)]) (g := gTup K 2 (gCons (gName 4) (gCons (gName 5) gNil))) (by rfl) sc_z_turned.nd (pi_tup (pv 3)) (blkOk_by (own := [("wire", 4), ("value", 5)]) (N := N_z_turned) (sc := defScope s_z_turned) (by decide +kernel)) (fun _ _ _ _ _ => (pg_tup (by rfl) (pgs_cons (pg_name (i := 4) sc_z_turned.nd rfl (Or.inl rfl)) (pgs_cons (pg_name (i := 5) sc_z_turned.nd rfl (Or.inl rfl)) pgs_nil)))) (fun _ _ _ _ _ => (pts_one (pt_cmpR op_ne (pe_ix (ixL (K := K) rfl) (pv 1) (pv 4) (fun _ _ => rfl)) (pv 5) (nomark _)))) (fun _ _ _ _ _ => (pv 4))) (pe_lst pa_nil) (nomark _))
          (pss_one (ps_asg (pe_op op_sub pe_int (pe_ix ix_list (pv 1) (pv 2) (fun _ _ => rfl))) (pg_sub (pv 1) (pv 2) set_list)))
          pss_nil)))
      (pss_one (ps_ret (pe_callTy call_tuple_of (by rfl) T.m_tuple (by decide +kernel) (pa_cons (pv 1) pa_nil)))))), ?_⟩
    refine ⟨_, rfl, b, _, rfl, .inr (SqT.of hb), fun B nB => ?_⟩
    have k0 := KT.new [] nB (o := .lst (bvs bs))
    refine ⟨_, rfl, a, rfl, ⟨_, SqT.of (k0.tp _ _ ha)⟩, ?_⟩
    refine for_it (walk_tup (K := K) (a := a) (xs := gvs)) (fun i σ H1 => ∃ (x2 x3 : Option V), σ = [some (.ref a), some (.ref B), x2, x3, none, none] ∧ KT [] H H1 ∧ H1 B = some (.lst (bvs (runL (gs.take i) bs)))) ?_ ?_ ?_ ?_
    · exact ⟨none, none, rfl, k0, upd_same⟩
    · rintro i σ H1 _ ⟨_, _, _, k, _⟩
      exact SqT.of (k.tp _ _ ha)
    · rintro i x σ H1 H2 hi ⟨x2, x3, rfl, k, hB⟩ ⟨rfl, hx⟩
      obtain ⟨g, h1, t, u, vs, rfl, ht, hu, hP⟩ := hg.get hx
      have mg := List.mem_of_getElem? h1
      obtain ⟨in1, in2⟩ := hin g mg
      have hl := hln g mg
      obtain ⟨cur, ecur⟩ : ∃ cur, runL (gs.take i) bs = cur := ⟨_, rfl⟩
      have lcur : cur.length = bs.length := by rw [← ecur, runL_len]
      rw [ecur] at hB
      have enext : runL (gs.take (i + 1)) bs = actL g cur := by
        rw [List.take_succ, h1, ← ecur]
        exact runL_snoc _ _ _
      rw [enext]
      refine ⟨t, _, rfl, SqT.of (k.tp _ _ ht), rfl, _, _, rfl, _, _, rfl, rfl, ?_⟩
      refine ⟨_, rfl, u, rfl, ⟨_, SqT.of (k.tp _ _ hu)⟩, fun D nD => ?_⟩
      have nBD : B ≠ D := ne_of_none hB nD
      refine lc_it (walk_tup (K := K) (a := u) (xs := vs)) (fun j H3 => ∃ ns : List Nat, KT [] H2 H3 ∧ H3 D = some (.lst (ivs ns)) ∧ ns.isEmpty = holds (g.2.take j) (st cur) ∧ ns.length ≤ j) ?_ ?_ ?_ ?_
      · exact ⟨[], KT.new _ nD, upd_same, rfl, Nat.le_refl _⟩
      · rintro j H3 _ ⟨ns, k3, _⟩
        exact SqT.of (k3.tp _ _ (k.tp _ _ hu))
      · rintro j x H3 H4 hj ⟨ns, k3, hD, hns, hnl⟩ ⟨rfl, hx⟩
        obtain ⟨c, hc1, t2, rfl, ht2⟩ := hP.get hx
        have hci := in2 c (List.mem_of_getElem? hc1)
        have hjl : j < g.2.length := by rw [← hP.len]; exact hj
        have eh : holds (g.2.take (j + 1)) (st cur) = (holds (g.2.take j) (st cur) && (st cur c.1 == c.2)) := by
          rw [List.take_succ, hc1, holds_app]
          show (_ && holds [c] (st cur)) = _
          rw [holds_cons]
          show (_ && (_ && true)) = _
          rw [Bool.and_true]
        refine ⟨t2, _, rfl, SqT.of (k3.tp _ _ (k.tp _ _ ht2)), rfl, _, _, rfl, _, _, rfl, rfl, by rfl, ?_⟩
        refine ⟨_, rfl, _, rfl, B, _, _, _, rfl, rfl, SqL.of (k3.kp _ _ (by simp) hB), atI_nat (bvs_get (by rw [lcur]; exact hci)), _, rfl, rfl, _, rfl, ?_⟩
        by_cases e : st cur c.1 = c.2
        · refine ite_f (not_bl ?_) ⟨ns, k3, hD, ?_, by omega⟩
          · show (!decide (V.int (b2 (st cur c.1)) = V.int (b2 c.2))) = false
            rw [e]
            simp
          · rw [eh, hns, e]
            simp
        · refine ite_t ?_ ⟨_, rfl, _, hD, ?_, ns ++ [c.1], k3.late nD, ?_, ?_, ?_⟩
          · show (!decide (V.int (b2 (st cur c.1)) = V.int (b2 c.2))) = true
            rw [decide_eq_false (fun z => e (b2_inj.mp (V.int.inj z)))]
            rfl
          · rw [ivs_len]
            exact Nat.lt_of_le_of_lt (by omega : _ ≤ 1000) (by decide)
          · rw [upd_same, ivs_snoc]
          · have e3 : (st cur c.1 == c.2) = false := by
              rw [beq_eq_false_iff_ne]
              exact e
            rw [eh, e3, Bool.and_false]
            simp
          · rw [List.length_append]
            simp
            omega
      · rintro H3 ⟨ns, k3, hD, hns, _⟩
        rw [hP.len, List.take_length] at hns
        refine ⟨Nat.zero_le _, fun l nl => ?_⟩
        have kl := KT.new [] nl (o := .lst [])
        refine ⟨.list ((ns.map fun (n : Nat) => (n : Int)).map PyData.int), .list [], .lst (SqL.of (kl.kp _ _ (by simp) hD)) ?_, .lst (SqL.of upd_same) .nil, shaped_ints _, shaped_nil, _, rfl, ?_⟩
        · rw [ivs_int]
          exact dp_ints _
        · have eE : PyData.eqv (.list ((ns.map fun (n : Nat) => (n : Int)).map PyData.int)) (.list []) = holds g.2 (st cur) := by
            rw [eqv_nil, ← hns]
            cases ns <;> rfl
          rw [eE]
          have hB4 := kl.kp _ _ (by simp) (k3.kp _ _ (by simp) hB)
          have k4 := (k.trans k3).trans kl
          cases hh : holds g.2 (st cur) with
          | false =>
            refine ite_f (by decide) ⟨_, _, rfl, k4, ?_⟩
            rw [hB4, actL, hh]
            rfl
          | true =>
            refine ite_t rfl ?_
            refine ⟨_, rfl, _, rfl, B, _, _, _, rfl, rfl, SqL.of hB4, atI_nat (bvs_get (by rw [lcur]; exact in1)), _, _, rfl, rfl, _, rfl, _, rfl, B, _, _, g.1, rfl, rfl, hB4, ?_, ?_⟩
            · rw [bvs_len]
              exact ixn_nat (by rw [lcur]; exact in1)
            · refine ⟨_, _, rfl, k4.late nB, ?_⟩
              rw [upd_same, actL, hh]
              show some (HO.lst ((bvs cur).set g.1 (V.int (1 - b2 (st cur g.1))))) = _
              rw [b2_not, bvs_set]
              rfl
    · rintro σ H1 ⟨x2, x3, rfl, k, hB⟩
      rw [hg.len, List.take_length] at hB
      refine ⟨_, rfl, B, _, rfl, .inl ⟨SqL.of hB, fun t nt => ?_⟩⟩
      exact q t _ (k.trans (KT.new _ nt)) upd_same
def spLaw (K : PySem.W.Frag) : Sp := fun vs H Q _ => ∃ (a : Addr) (ns : List Int), vs = [.ref a] ∧ SqL K H a (ns.map V.int) ∧ ns.length ≤ 63 ∧ ∀ H', Q (.bl true) H'
theorem ne_dr {H : Hp} {dr D : Addr} {us : List Nat} (d : DrawAt H dr) (h : H D = some (.lst (ivs us))) : D ≠ dr := fun z => by
  obtain ⟨c, cells, pos, rest, seed, I⟩ := d
  rw [z, I.hp] at h
  cases us with
  | nil => cases h
  | cons x r =>
    have := (List.cons.inj (HO.lst.inj (Option.some.inj h))).1
    cases this
theorem ne_new {H : Hp} {dr D : Addr} (d : DrawAt H dr) (h : H D = none) : D ≠ dr := fun z => by
  obtain ⟨o, e⟩ := d.some
  rw [z, e] at h
  cases h
theorem KT.same {H H' : Hp} (k : KT [] H H') : Same H H' := fun b o e => k.kp b o (by simp) e
theorem GS.of {dr : Addr} {H H' : Hp} (d : DrawAt H dr) (k : KT [] H H') : GS dr H H' := ⟨k.mono (fun _ h => (nomatch h)), d.keep k.same, fun c t e => ⟨t, k.same _ _ e⟩⟩
theorem cutV_to (xs : List V) (b : Nat) (hb : b ≤ xs.length) : cutV xs none (some (b : Int)) = xs.take b := by
  unfold cutV
  rw [HT.sIx_nat, HT.sIx_none, Nat.min_eq_left hb]
  rfl
theorem rgV_nat (n : Nat) : rgV 0 (n : Int) = ivs (List.range n) := by
  unfold rgV ivs
  simp

end My

set_option Elab.async false
set_option linter.all false
set_option maxRecDepth 100000
namespace My
open PySem PySem.Spec PyProof.Rows L2
theorem valB_lt : ∀ bs : List Bool, valB bs < 2 ^ bs.length
  | [] => Nat.one_pos
  | b :: r => by
    have := valB_lt r
    have h2 := Bool.toNat_le b
    rw [valB, List.length_cons, Nat.pow_succ]
    omega
def spNum : Sp := fun vs H Q _ => ∃ (t : Addr) (bs : List Bool), vs = [.ref t] ∧ H t = some (.tup (bvs bs)) ∧ bs.length ≤ 60 ∧ Q (.int (valB bs : Nat)) H
def spBits : Sp := fun vs H Q _ => ∃ (x n : Nat), vs = [.int x, .int n] ∧ n ≤ 1000 ∧ ∀ (t : Addr) (H' : Hp), KT [] H H' → H' t = some (.tup (bvs (bitsL x n))) → Q (.ref t) H'
def spVal : Sp := fun vs H Q _ => ∃ (t : Addr) (bs : List Bool), vs = [.ref t] ∧ H t = some (.tup (bvs bs)) ∧ bs.length ≤ 1000 ∧ ∀ (H' : Hp), KT [] H H' → Q (.int (valB bs : Nat)) H'
def spTurn : Sp := fun vs H Q _ => ∃ (l : Addr) (xs : List Nat) (b m : Nat), vs = [.ref l, .int b, .int m] ∧ H l = some (.lst (ivs xs)) ∧ xs.length ≤ 1000 ∧ b ≤ 1000 ∧ ∀ (D : Addr) (H' : Hp), KT [] H H' → H' D = some (.lst (ivs (xs.map fun x => if x &&& m = m then x ^^^ 2 ^ b else x))) → Q (.ref D) H'
/-- a gate of a table -/
def GTab (g : Gt) : Prop := (g.2.map (·.1)).Pairwise (· < ·) ∧ g.2.length ≤ 1000 ∧ g.1 ≤ 1000 ∧ ∀ c ∈ g.2, c.1 ≤ 1000
def spTrd : Sp := fun vs H Q _ => ∃ (l : Addr) (v : V) (xs : List Nat) (g : Gt), vs = [.ref l, v] ∧ H l = some (.lst (ivs xs)) ∧ GtV H v g ∧ GTab g ∧ xs.length ≤ 1000 ∧ ∀ (D : Addr) (H' : Hp), KT [] H H' → H' D = some (.lst (ivs (xs.map (actN g)))) → Q (.ref D) H'
def spTab : Sp := fun vs H Q _ => ∃ (t u : Addr) (w : Nat) (gvs : List V) (gs : List Gt), vs = [.ref t] ∧ H t = some (.tup [.int w, .ref u]) ∧ H u = some (.tup gvs) ∧ P2 (GtV H) gvs gs ∧ (∀ g ∈ gs, GTab g) ∧ w ≤ 9 ∧ ∀ (T : Addr) (H' : Hp), KT [] H H' → H' T = some (.tup (ivs ((List.range (2 ^ w)).map (runN gs)))) → Q (.ref T) H'
def spLacks : Sp := fun vs H Q _ => ∃ (x y b : Nat), vs = [.int x, .int y, .int b] ∧ b ≤ 1000 ∧ Q (.bl (y.testBit b && !x.testBit b)) H
def spOnes : Sp := fun vs H Q _ => ∃ (m n : Nat), vs = [.int m, .int n] ∧ n ≤ 1000 ∧ ∀ (t : Addr) (cvs : List V) (H' : Hp), KT [] H H' → H' t = some (.tup cvs) → P2 (PrV H') cvs (ones m n) → Q (.ref t) H'
theorem shl_nat (a b : Nat) : (a : Int) * 2 ^ ((b : Nat) : Int).toNat = ((a * 2 ^ b : Nat) : Int) := by
  rw [Int.toNat_natCast]
  push_cast
  rfl
theorem shr_nat (a b : Nat) : (a : Int) / 2 ^ ((b : Nat) : Int).toNat = ((a / 2 ^ b : Nat) : Int) := by
  rw [Int.toNat_natCast]
  push_cast
  rfl
theorem bit_nat (a b : Nat) : Builtin.bitAnd ((a : Int) / 2 ^ ((b : Nat) : Int).toNat) 1 = b2 (a.testBit b) := by
  rw [shr_nat, show (1 : Int) = ((1 : Nat) : Int) from rfl, bitAnd_nat, Nat.and_one_is_mod, ← Nat.toNat_testBit, b2_nat]
theorem one_shl (b : Nat) : (1 : Int) * 2 ^ ((b : Nat) : Int).toNat = ((2 ^ b : Nat) : Int) := by
  have := shl_nat 1 b
  rw [Nat.one_mul] at this
  exact this
section
variable {P : Program} {w : World} {K : PySem.W.Frag} {mg : Str → Option Value} {base : Heap}
theorem ok_as_number (T : Txt K mg) : FnOk P w K mg base CX0 1 T.f_as_number T.d_as_number ["bits"] spNum := by
  refine T.F_as_number.ok sc_as_number (fun vs H Q E h => ?_) (fun cdv A outer s H vs Q E hr h => ?_)
  · obtain ⟨t, bs, rfl, _⟩ := h
    rfl
  · obtain ⟨t, bs, rfl, ht, hl, q⟩ := h
    refine ⟨_, (pss_cons (ps_set (i := 1) sc_as_number.nd rfl (Or.inl rfl) pe_int)
      (pss_cons (ps_for PassesOwn.never rfl (RT.pi_revA (by rfl) T.m_reversed (pv 0)) (pg_name (i := 2) sc_as_number.nd rfl (Or.inl rfl))
        (pss_one (ps_set (i := 1) sc_as_number.nd rfl (Or.inl rfl) (pe_op op_add (pe_op op_mul (pv 1) pe_int) (pv 2)))))
      (pss_one (ps_ret (pv 1))))), ?_⟩
    refine ⟨_, rfl, t, _, rfl, .inr ⟨SqT.of ht, ?_⟩⟩
    have walk : Walk (RT.ItvT K t (bvs bs).length) (bvs bs).length (fun H => SqT K H t (bvs bs)) (fun i H x H' => H' = H ∧ (bvs bs)[(bvs bs).length - 1 - i]? = some x) :=
      ⟨fun i _ hi q => ⟨hi, bvs bs, (bvs bs)[(bvs bs).length - 1 - i]'(by omega), q, by simp [show (bvs bs).length - 1 - i < (bvs bs).length by omega]⟩, fun _ _ => Nat.le_refl _, fun _ _ _ _ _ q y => ⟨y.1, y.2 (bvs bs) q⟩⟩
    refine for_it walk (fun i σ H1 => ∃ x2, σ = [some (.ref t), some (.int (valB (bs.drop (bs.length - i)) : Nat)), x2] ∧ H1 = H) ?_ ?_ ?_ ?_
    · refine ⟨none, ?_, rfl⟩
      rw [Nat.sub_zero, List.drop_length]
      rfl
    · rintro i σ H1 _ ⟨_, _, rfl⟩
      exact SqT.of ht
    · rintro i x σ H1 H2 hi ⟨x2, rfl, rfl⟩ ⟨rfl, hx⟩
      rw [bvs_len] at hi hx
      have hj : bs.length - 1 - i < bs.length := by omega
      rw [bvs_get hj] at hx
      cases hx
      have e1 : bs.drop (bs.length - (i + 1)) = bs[bs.length - 1 - i] :: bs.drop (bs.length - i) := by
        have h1 : bs.length - (i + 1) = bs.length - 1 - i := by omega
        have h2 : bs.length - i = bs.length - 1 - i + 1 := by omega
        rw [h1, h2, List.drop_eq_getElem_cons hj]
      have e2 : st bs (bs.length - 1 - i) = bs[bs.length - 1 - i] := by
        unfold st
        rw [List.getD_eq_getElem?_getD, List.getElem?_eq_getElem hj]
        rfl
      have bound : valB (bs.drop (bs.length - i)) < 2 ^ 60 := Nat.lt_of_lt_of_le (valB_lt _) (Nat.pow_le_pow_right (by decide) (by rw [List.length_drop]; omega))
      refine ⟨_, rfl, _, _, rfl, rfl, .inl ⟨by omega, by omega⟩, _, rfl, _, _, rfl, rfl, ?_⟩
      refine ⟨some (V.int (b2 (st bs (bs.length - 1 - i)))), ?_, rfl⟩
      have e3 : ((valB (bs.drop (bs.length - i)) : Nat) : Int) * 2 + b2 (st bs (bs.length - 1 - i)) = ((valB (bs.drop (bs.length - (i + 1))) : Nat) : Int) := by
        rw [e1, valB, e2, b2_nat]
        push_cast
        omega
      show [some (V.ref t), some (V.int (((valB (bs.drop (bs.length - i)) : Nat) : Int) * 2 + b2 (st bs (bs.length - 1 - i)))), _] = _
      rw [e3]
    · rintro σ H1 ⟨x2, rfl, rfl⟩
      rw [bvs_len, Nat.sub_self, List.drop_zero]
      exact ⟨_, rfl, q⟩
theorem ok_as_bits (T : Txt K mg) : FnOk P w K mg base CX0 1 T.f_as_bits T.d_as_bits ["number", "wires"] spBits := by
  refine T.F_as_bits.ok sc_as_bits (fun vs H Q E h => ?_) (fun cdv A outer s H vs Q E hr h => ?_)
  · obtain ⟨x, n, rfl, _⟩ := h
    rfl
  · obtain ⟨x, n, rfl, hn, q⟩ := h
    refine ⟨_, (pss_one (ps_ret (pe_callTy call_tuple_of (by rfl) T.m_tuple (by decide +kernel) (pa_cons (pe_lc (own := [("wire", 2)]) (g := gName 2) (by rfl) sc_as_bits.nd (pi_range1 (by rfl) T.m_range (pa_cons (pv 1) pa_nil)) (blkOk_by (own := [("wire", 2)]) (N := N_as_bits) (sc := defScope s_as_bits) (by decide +kernel)) (fun _ _ _ _ _ => (pg_name (i := 2) sc_as_bits.nd rfl (Or.inl rfl))) (fun _ _ _ _ _ => pts_nil) (fun _ _ _ _ _ => (pe_op op_and (pe_op op_shr (pv 0) (pv 2)) pe_int))) pa_nil)))), ?_⟩
    refine ⟨_, rfl, (n : Int), rfl, by omega, by omega, fun D nD => ?_⟩
    rw [Int.toNat_natCast]
    refine lc_range (fun i H1 => KT [] H H1 ∧ H1 D = some (.lst (bvs (bitsL x i)))) ?_ ?_ ?_
    · exact ⟨KT.new _ nD, upd_same⟩
    · rintro i H1 hi ⟨k, hD⟩
      rw [Int.zero_add]
      refine ⟨rfl, _, rfl, _, rfl, _, _, rfl, rfl, by omega, _, _, rfl, rfl, _, hD, ?_, k.late nD, ?_⟩
      · rw [bvs_len, bitsL_len]
        exact Nat.lt_of_le_of_lt (by omega : _ ≤ 1000) (by decide)
      · rw [upd_same, bitsL_succ]
        show some (HO.lst (_ ++ [V.int (Builtin.bitAnd ((x : Int) / 2 ^ ((i : Nat) : Int).toNat) 1)])) = _
        rw [bit_nat, bvs, bvs, List.map_append]
        rfl
    · rintro H1 ⟨k, hD⟩
      exact ⟨_, _, rfl, .inl ⟨SqL.of hD, fun t nt => q t _ (k.trans (KT.new _ nt)) upd_same⟩⟩
theorem ok_z_bits (T : Txt K mg) : FnOk P w K mg base CX0 1 T.f_z_bits T.d_z_bits ["number", "wires"] spBits := by
  refine T.F_z_bits.ok sc_z_bits (fun vs H Q E h => ?_) (fun cdv A outer s H vs Q E hr h => ?_)
  · obtain ⟨x, n, rfl, _⟩ := h
    rfl
  · obtain ⟨x, n, rfl, hn, q⟩ := h
    refine ⟨_, (pss_one (ps_ret (pe_callTy call_tuple_of (by rfl) T.m_tuple (by decide +kernel) (pa_cons (pe_lc (own := [("k", 2)]) (g := gName 2) (by rfl) sc_z_bits.nd (pi_range1 (by rfl) T.m_range (pa_cons (pv 1) pa_nil)) (blkOk_by (own := [("k", 2)]) (N := N_z_bits) (sc := defScope s_z_bits) (by decide +kernel)) (fun _ _ _ _ _ => (pg_name (i := 2) sc_z_bits.nd rfl (Or.inl rfl))) (fun _ _ _ _ _ => pts_nil) (fun _ _ _ _ _ => (pe_op op_and (pe_op op_shr (pv 0) (pv 2)) pe_int))) pa_nil)))), ?_⟩
    refine ⟨_, rfl, (n : Int), rfl, by omega, by omega, fun D nD => ?_⟩
    rw [Int.toNat_natCast]
    refine lc_range (fun i H1 => KT [] H H1 ∧ H1 D = some (.lst (bvs (bitsL x i)))) ?_ ?_ ?_
    · exact ⟨KT.new _ nD, upd_same⟩
    · rintro i H1 hi ⟨k, hD⟩
      rw [Int.zero_add]
      refine ⟨rfl, _, rfl, _, rfl, _, _, rfl, rfl, by omega, _, _, rfl, rfl, _, hD, ?_, k.late nD, ?_⟩
      · rw [bvs_len, bitsL_len]
        exact Nat.lt_of_le_of_lt (by omega : _ ≤ 1000) (by decide)
      · rw [upd_same, bitsL_succ]
        show some (HO.lst (_ ++ [V.int (Builtin.bitAnd ((x : Int) / 2 ^ ((i : Nat) : Int).toNat) 1)])) = _
        rw [bit_nat, bvs, bvs, List.map_append]
        rfl
    · rintro H1 ⟨k, hD⟩
      exact ⟨_, _, rfl, .inl ⟨SqL.of hD, fun t nt => q t _ (k.trans (KT.new _ nt)) upd_same⟩⟩
theorem ok_z_value (T : Txt K mg) : FnOk P w K mg base CX0 1 T.f_z_value T.d_z_value ["bits"] spVal := by
  refine T.F_z_value.ok sc_z_value (fun vs H Q E h => ?_) (fun cdv A outer s H vs Q E hr h => ?_)
  · obtain ⟨t, bs, rfl, _⟩ := h
    rfl
  · obtain ⟨t, bs, rfl, ht, hn, q⟩ := h
    refine ⟨_, (pss_one (ps_ret (pe_callB (cr_sum rfl) (by rfl) T.m_sum (by decide +kernel) (pa_cons (pe_lc (own := [("k", 1)]) (g := gName 1) (by rfl) sc_z_value.nd (pi_range1 (by rfl) T.m_range (pa_cons (pe_callB call_len_seq (by rfl) T.m_len (by decide +kernel) (pa_cons (pv 0) pa_nil)) pa_nil)) (blkOk_by (own := [("k", 1)]) (N := N_z_value) (sc := defScope s_z_value) (by decide +kernel)) (fun _ _ _ _ _ => (pg_name (i := 1) sc_z_value.nd rfl (Or.inl rfl))) (fun _ _ _ _ _ => pts_nil) (fun _ _ _ _ _ => (pe_op op_shl (pe_ix (ixT (K := K) rfl) (pv 0) (pv 1) (fun _ _ => rfl)) (pv 1)))) pa_nil)))), ?_⟩
    refine ⟨_, rfl, _, _, rfl, .inr (SqT.of ht), ((bvs bs).length : Int), rfl, by omega, by rw [bvs_len]; omega, fun D nD => ?_⟩
    have e0 : ((bvs bs).length : Int).toNat = bs.length := by rw [bvs_len]; rfl
    rw [e0]
    refine lc_range (fun i H1 => ∃ L : List Int, KT [] H H1 ∧ H1 D = some (.lst (L.map V.int)) ∧ L.length = i ∧ L.sum = (valB (bs.take i) : Nat)) ?_ ?_ ?_
    · exact ⟨[], KT.new _ nD, upd_same, rfl, rfl⟩
    · rintro i H1 hi ⟨L, k, hD, hL, hs⟩
      rw [Int.zero_add]
      refine ⟨rfl, _, rfl, _, rfl, t, _, _, _, rfl, rfl, SqT.of (k.tp _ _ ht), atI_nat (bvs_get hi), _, rfl, _, _, rfl, rfl, ⟨by omega, by omega, ?_⟩, ?_⟩
      · cases st bs i <;> decide
      · refine ⟨_, hD, ?_, L ++ [b2 (st bs i) * 2 ^ i], k.late nD, ?_, ?_, ?_⟩
        · rw [List.length_map, hL]
          exact Nat.lt_of_le_of_lt (by omega : _ ≤ 1000) (by decide)
        · rw [upd_same, List.map_append]
          rfl
        · rw [List.length_append, hL]; rfl
        · have e1 : bs.take (i + 1) = bs.take i ++ [st bs i] := by
            rw [List.take_succ, List.getElem?_eq_getElem hi]
            unfold st
            rw [List.getD_eq_getElem?_getD, List.getElem?_eq_getElem hi]
            rfl
          rw [List.sum_append, hs, e1, valB_snoc, List.length_take, Nat.min_eq_left (by omega), b2_nat]
          simp
    · rintro H1 ⟨L, k, hD, hL, hs⟩
      rw [List.take_length] at hs
      refine ⟨_, L, rfl, SqL.of hD, ?_⟩
      rw [hs]
      exact q _ k
theorem eqN {a b : Nat} : (decide (V.int (a : Int) = V.int (b : Int))) = decide (a = b) := by
  by_cases h : a = b
  · rw [h, decide_eq_true rfl, decide_eq_true rfl]
  · rw [decide_eq_false h]
    exact decide_eq_false fun z => h (by have := V.int.inj z; omega)
theorem ok_z_turn (T : Txt K mg) : FnOk P w K mg base CX0 1 T.f_z_turn T.d_z_turn ["images", "bit", "mask"] spTurn := by
  refine T.F_z_turn.ok sc_z_turn (fun vs H Q E h => ?_) (fun cdv A outer s H vs Q E hr h => ?_)
  · obtain ⟨l, xs, b, m, rfl, _⟩ := h
    rfl
  · obtain ⟨l, xs, b, m, rfl, hl, hn, hb, q⟩ := h
    refine ⟨_, (pss_one (ps_ret (pe_lc (own := [("image", 3)]) (g := gName 3) (by rfl) sc_z_turn.nd (pi_list (pv 0)) (blkOk_by (own := [("image", 3)]) (N := N_z_turn) (sc := defScope s_z_turn) (by decide +kernel)) (fun _ _ _ _ _ => (pg_name (i := 3) sc_z_turn.nd rfl (Or.inl rfl))) (fun _ _ _ _ _ => pts_nil) (fun _ _ _ _ _ => (pe_ifExp (pt_cmpR op_eq (pe_op op_and (pv 3) (pv 2)) (pv 2) (nomark _)) (pe_op op_xor (pv 3) (pe_op op_shl pe_int (pv 1))) (pv 3)))))), ?_⟩
    refine ⟨_, rfl, l, rfl, ⟨_, SqL.of hl⟩, fun D nD => ?_⟩
    refine lc_it (walk_list (K := K) (a := l) (xs := ivs xs)) (fun i H1 => KT [] H H1 ∧ H1 D = some (.lst (ivs ((xs.take i).map fun x => if x &&& m = m then x ^^^ 2 ^ b else x)))) ?_ ?_ ?_ ?_
    · exact ⟨KT.new _ nD, upd_same⟩
    · rintro i H1 _ ⟨k, _⟩
      exact SqL.of (k.same _ _ hl)
    · rintro i x H1 H2 hi ⟨k, hD⟩ ⟨rfl, hx⟩
      obtain ⟨n, hn', rfl⟩ := ivs_get hx
      rw [ivs_len] at hi
      have e1 : (xs.take (i + 1)).map (fun x => if x &&& m = m then x ^^^ 2 ^ b else x) = (xs.take i).map (fun x => if x &&& m = m then x ^^^ 2 ^ b else x) ++ [if n &&& m = m then n ^^^ 2 ^ b else n] := by
        rw [List.take_succ, hn', List.map_append]
        rfl
      rw [e1]
      refine ⟨rfl, _, rfl, _, rfl, _, _, rfl, rfl, _, rfl, rfl, _, rfl, ?_⟩
      have ln : (ivs ((xs.take i).map fun x => if x &&& m = m then x ^^^ 2 ^ b else x)).length < sizeLine := by
        rw [ivs_len, List.length_map, List.length_take]
        exact Nat.lt_of_le_of_lt (by omega : _ ≤ 1000) (by decide)
      by_cases h : n &&& m = m
      · refine ite_t ?_ ⟨_, rfl, _, rfl, _, _, rfl, rfl, ⟨by omega, by omega, by decide⟩, _, _, rfl, rfl, _, hD, ln, k.late nD, ?_⟩
        · show decide (V.int (Builtin.bitAnd (n : Int) (m : Int)) = V.int (m : Int)) = true
          rw [bitAnd_nat, eqN, decide_eq_true h]
        · rw [upd_same, if_pos h, ivs_snoc]
          show some (HO.lst (_ ++ [V.int (Builtin.bitXor (n : Int) ((1 : Int) * 2 ^ ((b : Nat) : Int).toNat))])) = _
          rw [one_shl, bitXor_nat]
      · refine ite_f ?_ ⟨_, rfl, _, hD, ln, k.late nD, ?_⟩
        · show ¬ decide (V.int (Builtin.bitAnd (n : Int) (m : Int)) = V.int (m : Int)) = true
          rw [bitAnd_nat, eqN, decide_eq_false h]
          decide
        · rw [upd_same, if_neg h, ivs_snoc]
    · rintro H1 ⟨k, hD⟩
      rw [ivs_len, List.take_length] at hD
      exact q _ _ k hD
theorem mask_sum (f : Ct → Bool) (cs : List Ct) : ((cs.map fun c => b2 (f c) * 2 ^ c.1).sum : Int) = ((maskS f cs : Nat) : Int) := by
  unfold maskS
  induction cs with
  | nil => rfl
  | cons c r ih =>
    rw [List.map_cons, List.map_cons, List.sum_cons, List.sum_cons, ih, b2_nat]
    push_cast
    rfl
/-- sum([.. << wire for wire, .. in controls]) -/
theorem lc_mask {H1 : Hp} {u D : Addr} {cvs : List V} {cs : List Ct} {σ : L2.St} {i j : Nat} {own : List Nat} {te : TE} {Qd : Hp → Prop} (f : Ct → Bool) (hu : H1 u = some (.tup cvs)) (nD : H1 D = none) (hP : P2 (PrV H1) cvs cs) (hl : cs.length ≤ 1000)
    (ho : ∀ v x, wipe (((wipe σ own).set i (some v)).set j (some x)) own = wipe σ own)
    (hte : ∀ (c : Ct) (H : Hp) (Q : VK), c ∈ cs → Q (.int (b2 (f c) * 2 ^ c.1)) H → te (((wipe σ own).set i (some (.int (c.1 : Nat)))).set j (some (.int (b2 c.2)))) H Q)
    (hd : ∀ H, KT [] H1 H → H D = some (.lst ((cs.map fun c => b2 (f c) * 2 ^ c.1).map V.int)) → Qd H) :
    ∃ W : Nat → Nat → Hp → Prop, (∃ m, W 0 m (upd H1 D (.lst []))) ∧ ∀ i' m H, W i' m H →
      ((Itt K u).stop i' H ∧ Qd H) ∨ ((Itt K u).go i' H ∧ ∃ Nx : Hp → Prop, (∀ H', Nx H' → ∃ m', m' < m ∧ W (i' + 1) m' H') ∧ ∀ x H', (Itt K u).yld i' H x H' → gTup K 2 (gCons (gName i) (gCons (gName j) gNil)) x (wipe σ own) H' fun σ2 H2 => wipe σ2 own = wipe σ own ∧ tYes σ2 H2 fun b H3 =>
        if b = true then te σ2 H3 fun y H4 => ∃ acc, H4 D = some (.lst acc) ∧ acc.length < sizeLine ∧ Nx (upd H4 D (.lst (acc ++ [y]))) else Nx H3) := by
  refine lc_it (walk_tup (K := K) (a := u) (xs := cvs)) (fun n H2 => KT [] H1 H2 ∧ H2 D = some (.lst (((cs.take n).map fun c => b2 (f c) * 2 ^ c.1).map V.int))) ?_ ?_ ?_ ?_
  · exact ⟨KT.new _ nD, upd_same⟩
  · rintro n H2 _ ⟨k, _⟩
    exact SqT.of (k.tp _ _ hu)
  · rintro n x H2 H3 hn ⟨k, hD⟩ ⟨rfl, hx⟩
    obtain ⟨c, hc, t, rfl, ht⟩ := hP.get hx
    refine ⟨t, _, rfl, SqT.of (k.tp _ _ ht), rfl, _, _, rfl, _, _, rfl, rfl, ho _ _, ?_⟩
    refine hte c _ _ (List.mem_of_getElem? hc) ⟨_, hD, ?_, k.late nD, ?_⟩
    · rw [List.length_map, List.length_map, List.length_take]
      exact Nat.lt_of_le_of_lt (by omega : _ ≤ 1000) (by decide)
    · rw [upd_same, List.take_succ, hc, List.map_append, List.map_append]
      rfl
  · rintro H2 ⟨k, hD⟩
    rw [hP.len, List.take_length] at hD
    exact hd _ k hD
theorem ok_turned (T : Txt K mg) : FnOk P w K mg base CX0 1 T.f_turned T.d_turned ["images", "gate"] spTrd := by
  refine T.F_turned.ok sc_turned (fun vs H Q E h => ?_) (fun cdv A outer s H vs Q E hr h => ?_)
  · obtain ⟨l, v, xs, g, rfl, _⟩ := h
    rfl
  · obtain ⟨l, v, xs, g, rfl, hl, ⟨t, u, cvs, rfl, ht, hu, hP⟩, ⟨up, lc, lt, lw⟩, hn, q⟩ := h
    refine ⟨_, (pss_cons (ps_asg (pv 1) (pg_tup (by rfl) (pgs_cons (pg_name (i := 2) sc_turned.nd rfl (Or.inl rfl)) (pgs_cons (pg_name (i := 3) sc_turned.nd rfl (Or.inl rfl)) pgs_nil))))
      (pss_cons (ps_set (i := 4) sc_turned.nd rfl (Or.inr rfl) (pe_callB (cr_sum rfl) (by rfl) T.m_sum (by decide +kernel) (pa_cons (pe_lc (own := [("wire", 8), ("_", 9)]) (g := gTup K 2 (gCons (gName 8) (gCons (gName 9) gNil))) (by rfl) sc_turned.nd (pi_tup (pv 3)) (blkOk_by (own := [("wire", 8), ("_", 9)]) (N := N_turned) (sc := defScope s_turned) (by decide +kernel)) (fun _ _ _ _ _ => (pg_tup (by rfl) (pgs_cons (pg_name (i := 8) sc_turned.nd rfl (Or.inl rfl)) (pgs_cons (pg_name (i := 9) sc_turned.nd rfl (Or.inl rfl)) pgs_nil)))) (fun _ _ _ _ _ => pts_nil) (fun _ _ _ _ _ => (pe_op op_shl pe_int (pv 8)))) pa_nil)))
      (pss_cons (ps_set (i := 5) sc_turned.nd rfl (Or.inr rfl) (pe_callB (cr_sum rfl) (by rfl) T.m_sum (by decide +kernel) (pa_cons (pe_lc (own := [("wire", 8), ("value", 10)]) (g := gTup K 2 (gCons (gName 8) (gCons (gName 10) gNil))) (by rfl) sc_turned.nd (pi_tup (pv 3)) (blkOk_by (own := [("wire", 8), ("value", 10)]) (N := N_turned) (sc := defScope s_turned) (by decide +kernel)) (fun _ _ _ _ _ => (pg_tup (by rfl) (pgs_cons (pg_name (i := 8) sc_turned.nd rfl (Or.inl rfl)) (pgs_cons (pg_name (i := 10) sc_turned.nd rfl (Or.inl rfl)) pgs_nil)))) (fun _ _ _ _ _ => pts_nil) (fun _ _ _ _ _ => (pe_op op_shl (pv 10) (pv 8)))) pa_nil)))
      (pss_cons (ps_set (i := 6) sc_turned.nd rfl (Or.inr rfl) (pe_op op_shl pe_int (pv 2)))
      (pss_one (ps_ret (pe_lc (own := [("image", 7)]) (g := gName 7) (by rfl) sc_turned.nd (pi_list (pv 0)) (blkOk_by (own := [("image", 7)]) (N := N_turned) (sc := defScope s_turned) (by decide +kernel)) (fun _ _ _ _ _ => (pg_name (i := 7) sc_turned.nd rfl (Or.inl rfl))) (fun _ _ _ _ _ => pts_nil) (fun _ _ _ _ _ => (pe_ifExp (pt_cmpR op_eq (pe_op op_and (pv 7) (pv 4)) (pv 5) (nomark _)) (pe_op op_xor (pv 7) (pv 6)) (pv 7)))))))))), ?_⟩
    refine ⟨_, rfl, t, _, rfl, SqT.of ht, rfl, _, _, rfl, _, _, rfl, rfl, ?_⟩
    refine ⟨_, rfl, u, rfl, ⟨_, SqT.of hu⟩, fun D1 n1 => ?_⟩
    refine lc_mask (fun _ => true) hu n1 hP lc (fun v x => rfl) (fun c H2 Q2 hc h => ⟨_, rfl, _, _, rfl, rfl, ⟨by omega, by have := lw c hc; omega, by decide⟩, h⟩) (fun H1 k1 hD1 => ?_)
    refine ⟨_, _, rfl, SqL.of hD1, ?_⟩
    rw [mask_sum]
    refine ⟨_, rfl, u, rfl, ⟨_, SqT.of (k1.tp _ _ hu)⟩, fun D2 n2 => ?_⟩
    refine lc_mask (·.2) (k1.tp _ _ hu) n2 (prs_keep k1 hP) lc (fun v x => rfl) (fun c H2 Q2 hc h => ⟨_, rfl, _, rfl, _, _, rfl, rfl, ⟨by omega, by have := lw c hc; omega, by cases c.2 <;> decide⟩, h⟩) (fun H3 k3 hD3 => ?_)
    refine ⟨_, _, rfl, SqL.of hD3, ?_⟩
    rw [mask_sum]
    have k13 := k1.trans k3
    refine ⟨_, rfl, _, _, rfl, rfl, ⟨by omega, by omega, by decide⟩, ?_⟩
    refine ⟨_, rfl, l, rfl, ⟨_, SqL.of (k13.same _ _ hl)⟩, fun D nD => ?_⟩
    refine lc_it (walk_list (K := K) (a := l) (xs := ivs xs)) (fun i H1 => KT [] H3 H1 ∧ H1 D = some (.lst (ivs ((xs.take i).map (actN g))))) ?_ ?_ ?_ ?_
    · exact ⟨KT.new _ nD, upd_same⟩
    · rintro i H1 _ ⟨k, _⟩
      exact SqL.of (k.same _ _ (k13.same _ _ hl))
    · rintro i x H1 H2 hi ⟨k, hD⟩ ⟨rfl, hx⟩
      obtain ⟨n, hn', rfl⟩ := ivs_get hx
      rw [ivs_len] at hi
      have e1 : (xs.take (i + 1)).map (actN g) = (xs.take i).map (actN g) ++ [actN g n] := by
        rw [List.take_succ, hn', List.map_append]
        rfl
      rw [e1]
      refine ⟨rfl, _, rfl, _, rfl, _, _, rfl, rfl, _, rfl, rfl, _, rfl, ?_⟩
      have ln : (ivs ((xs.take i).map (actN g))).length < sizeLine := by
        rw [ivs_len, List.length_map, List.length_take]
        exact Nat.lt_of_le_of_lt (by omega : _ ≤ 1000) (by decide)
      have em := mask_holds up n
      unfold actN
      by_cases h : n &&& maskS (fun _ => true) g.2 = maskS (·.2) g.2
      · rw [decide_eq_true h] at em
        refine ite_t ?_ ⟨_, rfl, _, rfl, _, _, rfl, rfl, _, hD, ln, k.late nD, ?_⟩
        · show decide (V.int (Builtin.bitAnd (n : Int) ((maskS (fun _ => true) g.2 : Nat) : Int)) = V.int ((maskS (·.2) g.2 : Nat) : Int)) = true
          rw [bitAnd_nat, eqN, decide_eq_true h]
        · rw [upd_same, if_pos em.symm, ivs_snoc]
          show some (HO.lst (_ ++ [V.int (Builtin.bitXor (n : Int) ((1 : Int) * 2 ^ ((g.1 : Nat) : Int).toNat))])) = _
          rw [one_shl, bitXor_nat]
          rfl
      · rw [decide_eq_false h] at em
        refine ite_f ?_ ⟨_, rfl, _, hD, ln, k.late nD, ?_⟩
        · show ¬ decide (V.int (Builtin.bitAnd (n : Int) ((maskS (fun _ => true) g.2 : Nat) : Int)) = V.int ((maskS (·.2) g.2 : Nat) : Int)) = true
          rw [bitAnd_nat, eqN, decide_eq_false h]
          decide
        · rw [upd_same, if_neg (by rw [← em]; decide), ivs_snoc]
          rfl
    · rintro H1 ⟨k, hD⟩
      rw [ivs_len, List.take_length] at hD
      exact q _ _ (k13.trans k) hD
theorem ok_table (T : Txt K mg) : FnOk P w K mg base CX0 2 T.f_table T.d_table ["circuit"] spTab := by
  have G_turned := ok_turned (P := P) (w := w) (base := base) T
  refine T.F_table.ok sc_table (fun vs H Q E h => ?_) (fun cdv A outer s H vs Q E hr h => ?_)
  · obtain ⟨t, u, w, gvs, gs, rfl, _⟩ := h
    rfl
  · obtain ⟨t, u, wn, gvs, gs, rfl, ht, hu, hP, hg, hw, q⟩ := h
    refine ⟨_, (pss_cons (ps_asg (pv 0) (pg_tup (by rfl) (pgs_cons (pg_name (i := 1) sc_table.nd rfl (Or.inl rfl)) (pgs_cons (pg_name (i := 2) sc_table.nd rfl (Or.inl rfl)) pgs_nil))))
      (pss_cons (ps_set (i := 3) sc_table.nd rfl (Or.inl rfl) (pe_listRg (by rfl) (by rfl) T.m_list (prg_1 (by rfl) T.m_range (pe_op op_shl pe_int (pv 1)))))
      (pss_cons (ps_for PassesOwn.never rfl (pi_tup (pv 2)) (pg_name (i := 4) sc_table.nd rfl (Or.inl rfl))
        (pss_one (ps_set (i := 3) sc_table.nd rfl (Or.inl rfl) (pe_call G_turned (hr.mono (by omega)) (by rfl) T.g_turned T.F_turned.kp T.b_turned .nil pass0 (pa_cons (pv 3) (pa_cons (pv 4) pa_nil))))))
      (pss_one (ps_ret (pe_callTy call_tuple_of (by rfl) T.m_tuple (by decide +kernel) (pa_cons (pv 3) pa_nil))))))), ?_⟩
    have hw9 : 2 ^ wn ≤ 512 := Nat.le_trans (Nat.pow_le_pow_right (by decide) hw) (by decide)
    refine ⟨_, rfl, t, _, rfl, SqT.of ht, rfl, _, _, rfl, _, _, rfl, rfl, ?_⟩
    refine ⟨_, rfl, _, _, rfl, rfl, ⟨by omega, by omega, by decide⟩, _, rfl, ?_⟩
    rw [one_shl]
    refine ⟨RgOk.of_le (Int.le_refl 0) (Int.le_trans (Int.ofNat_le.mpr hw9) (by decide)) (by decide) (Int.natCast_nonneg _), fun I nI => ?_⟩
    rw [rgV_nat]
    refine ⟨_, rfl, u, rfl, ⟨_, SqT.of ((KT.new [] nI).tp _ _ hu)⟩, ?_⟩
    refine for_it (walk_tup (K := K) (a := u) (xs := gvs)) (fun i σ H1 => ∃ (x4 : Option V) (J : Addr), σ = [some (.ref t), some (.int (wn : Nat)), some (.ref u), some (.ref J), x4] ∧ KT [] H H1 ∧ H1 J = some (.lst (ivs ((List.range (2 ^ wn)).map (runN (gs.take i)))))) ?_ ?_ ?_ ?_
    · refine ⟨none, I, rfl, KT.new _ nI, ?_⟩
      rw [upd_same]
      have : (List.range (2 ^ wn)).map (runN (gs.take 0)) = List.range (2 ^ wn) := List.map_id' _
      rw [this]
    · rintro i σ H1 _ ⟨_, _, _, k, _⟩
      exact SqT.of (k.tp _ _ hu)
    · rintro i x σ H1 H2 hi ⟨x4, J, rfl, k, hJ⟩ ⟨rfl, hx⟩
      obtain ⟨g, hg1, hgv⟩ := hP.get hx
      refine ⟨_, rfl, _, rfl, J, x, _, g, rfl, hJ, hgv.keep k, hg g (List.mem_of_getElem? hg1), ?_, fun D H3 k3 hD => ⟨_, D, rfl, k.trans k3, ?_⟩⟩
      · rw [List.length_map, List.length_range]
        omega
      · rw [hD, List.map_map, List.take_succ, hg1]
        congr 3
        refine List.map_congr_left fun y _ => ?_
        show actN g (runN (gs.take i) y) = runN (gs.take i ++ [g]) y
        rw [runN_app]
        rfl
    · rintro σ H1 ⟨x4, J, rfl, k, hJ⟩
      rw [hP.len, List.take_length] at hJ
      exact ⟨_, rfl, J, _, rfl, .inl ⟨SqL.of hJ, fun T2 nT => q T2 _ (k.trans (KT.new _ nT)) upd_same⟩⟩
theorem and_pow (x b : Nat) : x &&& 2 ^ b = (x.testBit b).toNat * 2 ^ b := by
  apply Nat.eq_of_testBit_eq
  intro i
  rw [Nat.testBit_and, Nat.testBit_two_pow]
  cases h : x.testBit b with
  | false =>
    rw [show false.toNat * 2 ^ b = 0 from Nat.zero_mul _, Nat.zero_testBit]
    by_cases e : b = i
    · rw [← e, h]; rfl
    · rw [decide_eq_false e, Bool.and_false]
  | true =>
    rw [show true.toNat * 2 ^ b = 2 ^ b from Nat.one_mul _, Nat.testBit_two_pow]
    by_cases e : b = i
    · rw [← e, h]; rfl
    · rw [decide_eq_false e, Bool.and_false]
theorem bit_shl {x b : Nat} : Builtin.bitAnd (x : Int) ((1 : Int) * 2 ^ ((b : Nat) : Int).toNat) = (((x.testBit b).toNat * 2 ^ b : Nat) : Int) := by
  rw [one_shl, bitAnd_nat, and_pow]
theorem bit_ne0 {c : Bool} {b : Nat} : (decide (V.int ((c.toNat * 2 ^ b : Nat) : Int) = V.int 0)) = !c := by
  have h : 0 < 2 ^ b := Nat.pow_pos (by decide)
  cases c with
  | false => rw [show false.toNat * 2 ^ b = 0 from Nat.zero_mul _]; rfl
  | true =>
    rw [show true.toNat * 2 ^ b = 2 ^ b from Nat.one_mul _]
    exact decide_eq_false fun z => by have := V.int.inj z; omega
theorem ok_lacks (T : Txt K mg) : FnOk P w K mg base CX0 1 T.f_lacks T.d_lacks ["number", "other", "wire"] spLacks := by
  refine T.F_lacks.ok sc_lacks (fun vs H Q E h => ?_) (fun cdv A outer s H vs Q E hr h => ?_)
  · obtain ⟨x, y, b, rfl, _⟩ := h
    rfl
  · obtain ⟨x, y, b, rfl, hb, q⟩ := h
    refine ⟨_, (pss_one (ps_ret (pe_and (pe_cmpR op_ne (pe_op op_and (pv 1) (pe_op op_shl pe_int (pv 2))) pe_int (nomark _)) (pe_one (pe_cmpR op_eq (pe_op op_and (pv 0) (pe_op op_shl pe_int (pv 2))) pe_int (nomark _)))))), ?_⟩
    refine ⟨_, rfl, _, rfl, _, _, rfl, rfl, ⟨by omega, by omega, by decide⟩, _, _, rfl, rfl, rfl, ?_⟩
    refine ⟨_, rfl, ?_⟩
    have e1 : (!decide (V.int (Builtin.bitAnd (y : Int) ((1 : Int) * 2 ^ ((b : Nat) : Int).toNat)) = V.int 0)) = y.testBit b := by rw [bit_shl, bit_ne0, Bool.not_not]
    have e2 : decide (V.int (Builtin.bitAnd (x : Int) ((1 : Int) * 2 ^ ((b : Nat) : Int).toNat)) = V.int 0) = !x.testBit b := by rw [bit_shl, bit_ne0]
    dsimp only
    rw [e1]
    cases hy : y.testBit b with
    | false =>
      rw [hy] at q
      exact ite_f (by decide) q
    | true =>
      rw [hy] at q
      refine ite_t rfl ⟨_, rfl, _, rfl, _, _, rfl, rfl, ⟨by omega, by omega, by decide⟩, _, _, rfl, rfl, rfl, ?_⟩
      dsimp only
      rw [e2]
      exact q
theorem ok_all_ones (T : Txt K mg) : FnOk P w K mg base CX0 1 T.f_all_ones T.d_all_ones ["number", "wires"] spOnes := by
  refine T.F_all_ones.ok sc_all_ones (fun vs H Q E h => ?_) (fun cdv A outer s H vs Q E hr h => ?_)
  · obtain ⟨m, n, rfl, _⟩ := h
    rfl
  · obtain ⟨m, n, rfl, hn, q⟩ := h
    refine ⟨_, (pss_one (ps_ret (pe_callTy call_tuple_of (by rfl) T.m_tuple (by decide +kernel) (pa_cons (pe_lc (own := [("wire", 2)]) (g := gName 2) (by rfl) sc_all_ones.nd (pi_range1 (by rfl) T.m_range (pa_cons (pv 1) pa_nil)) (blkOk_by (own := [("wire", 2)]) (N := N_all_ones) (sc := defScope s_all_ones) (by decide +kernel)) (fun _ _ _ _ _ => (pg_name (i := 2) sc_all_ones.nd rfl (Or.inl rfl))) (fun _ _ _ _ _ => (pts_one (pt_truthE (K := K) rfl (pe_op op_and (pv 0) (pe_op op_shl pe_int (pv 2))) (by intro _; rfl)))) (fun _ _ _ _ _ => (pe_tup (pa_cons (pv 2) (pa_cons pe_int pa_nil))))) pa_nil)))), ?_⟩
    refine ⟨_, rfl, (n : Int), rfl, by omega, by omega, fun D nD => ?_⟩
    rw [Int.toNat_natCast]
    refine lc_range (fun i H1 => ∃ cvs, KT [] H H1 ∧ H1 D = some (.lst cvs) ∧ P2 (PrV H1) cvs (ones m i)) ?_ ?_ ?_
    · exact ⟨[], KT.new _ nD, upd_same, .nil⟩
    · rintro i H1 hi ⟨cvs, k, hD, hP⟩
      rw [Int.zero_add]
      refine ⟨rfl, _, rfl, _, rfl, _, _, rfl, rfl, ⟨by omega, by omega, by decide⟩, _, _, rfl, rfl, (m.testBit i), ?_, ?_⟩
      · show m.testBit i = (Builtin.bitAnd (m : Int) ((1 : Int) * 2 ^ ((i : Nat) : Int).toNat) != 0)
        rw [bit_shl]
        have h : 0 < 2 ^ i := Nat.pow_pos (by decide)
        cases m.testBit i with
        | false => rw [show false.toNat * 2 ^ i = 0 from Nat.zero_mul _]; rfl
        | true =>
          rw [show true.toNat * 2 ^ i = 2 ^ i from Nat.one_mul _]
          symm
          rw [bne_iff_ne]
          omega
      · have eo : ones m (i + 1) = ones m i ++ (if m.testBit i then [(i, true)] else []) := by
          unfold ones
          rw [List.range_succ, List.filter_append, List.map_append]
          congr 1
          by_cases h : m.testBit i = true <;> simp [h]
        rw [eo]
        cases hb : m.testBit i with
        | false =>
          refine ite_f (by decide) ⟨cvs, k, hD, ?_⟩
          rw [if_neg (by decide), List.append_nil]
          exact hP
        | true =>
          refine ite_t rfl ⟨_, rfl, sz2, fun t nt => ?_⟩
          have kt := KT.new [] nt (o := .tup [.int i, .int 1])
          have hD2 := kt.same _ _ hD
          refine ⟨_, hD2, ?_, cvs ++ [.ref t], (k.trans kt).late nD, upd_same, ?_⟩
          · rw [hP.len]
            exact Nat.lt_of_le_of_lt (by have := ones_len m i; omega : _ ≤ 1000) (by decide)
          · rw [if_pos rfl]
            exact ((prs_keep kt hP).snoc ⟨t, rfl, upd_same⟩).mono fun _ _ => PrV.put hD2
    · rintro H1 ⟨cvs, k, hD, hP⟩
      exact ⟨_, _, rfl, .inl ⟨SqL.of hD, fun t nt => q t _ _ (k.trans (KT.new _ nt)) upd_same (prs_keep (KT.new [] nt) hP)⟩⟩
end

end My

set_option Elab.async false
set_option linter.all false
set_option maxRecDepth 100000
namespace My
open PySem PySem.Spec PyProof.Rows L2
/-- a gate among so many wires -/
def GW (n : Nat) (g : Gt) : Prop := g.1 < n ∧ (∀ c ∈ g.2, c.1 < n ∧ c.1 ≠ g.1) ∧ (g.2.map (·.1)).Pairwise (· < ·) ∧ g.2.length ≤ n
theorem GW.tab {n : Nat} {g : Gt} (h : GW n g) (hn : n ≤ 10) : GTab g := ⟨h.2.2.1, Nat.le_trans h.2.2.2 (by omega), by have := h.1; omega, fun c hc => by have := (h.2.1 c hc).1; omega⟩
theorem GW.apt {n : Nat} {g : Gt} (h : GW n g) : Apt g := fun c hc => (h.2.1 c hc).2
theorem GW.ins {n : Nat} {gs : List Gt} (h : ∀ g ∈ gs, GW n g) : In n gs := fun g hg => ⟨(h g hg).1, fun c hc => ((h g hg).2.1 c hc).1⟩
def spMap : Sp := fun vs H Q _ => ∃ (t u : Addr) (w : Nat) (gvs : List V) (gs : List Gt), vs = [.ref t] ∧ H t = some (.tup [.int w, .ref u]) ∧ H u = some (.tup gvs) ∧ P2 (GtV H) gvs gs ∧ (∀ g ∈ gs, GW w g) ∧ w ≤ 9 ∧ ∀ (D : Addr) (H' : Hp), KT [] H H' → H' D = some (.lst (ivs ((List.range (2 ^ w)).map (runN gs)))) → Q (.ref D) H'
def spGate : Sp := fun vs H Q _ => ∃ (dr : Addr) (w most : Nat), vs = [.ref dr, .int w, .int most] ∧ DrawAt H dr ∧ 1 ≤ w ∧ w ≤ 10 ∧ ∀ (v : V) (H' : Hp) (g : Gt), GS dr H H' → GtV H' v g → GW w g → Q v H'
def spCirc : Sp := fun vs H Q _ => ∃ (dr : Addr) (w many : Nat), vs = [.ref dr, .int w, .int many] ∧ DrawAt H dr ∧ 1 ≤ w ∧ w ≤ 10 ∧ many ≤ 100 ∧ ∀ (t u : Addr) (H' : Hp) (gvs : List V) (gs : List Gt), GS dr H H' → H' t = some (.tup [.int w, .ref u]) → H' u = some (.tup gvs) → P2 (GtV H') gvs gs → (∀ g ∈ gs, GW w g) → gs.length ≤ many → Q (.ref t) H'
def spMix : Sp := fun vs H Q _ => ∃ (dr : Addr) (n : Nat), vs = [.ref dr, .int n] ∧ DrawAt H dr ∧ n ≤ 1000 ∧ ∀ (D : Addr) (H' : Hp) (us : List Nat), GS dr H H' → H' D = some (.lst (ivs us)) → us.Perm (List.range n) → Q (.ref D) H'
section
variable {P : Program} {w : World} {K : PySem.W.Frag} {mg : Str → Option Value} {base : Heap}
theorem ok_z_map (T : Txt K mg) : FnOk P w K mg base CX0 2 T.f_z_map T.d_z_map ["circuit"] spMap := by
  have G_z_bits := ok_z_bits (P := P) (w := w) (base := base) T
  have G_z_turned := ok_z_turned (P := P) (w := w) (base := base) T
  have G_z_value := ok_z_value (P := P) (w := w) (base := base) T
  refine T.F_z_map.ok sc_z_map (fun vs H Q E h => ?_) (fun cdv A outer s H vs Q E hr h => ?_)
  · obtain ⟨t, u, w, gvs, gs, rfl, _⟩ := h
    rfl
  · obtain ⟨t, u, wn, gvs, gs, rfl, ht, hu, hP, hg, hw, q⟩ := h
    refine ⟨_, (pss_one (ps_ret (pe_lc (own := [("k", 1)]) (g := gName 1) (by rfl) sc_z_map.nd (pi_range1 (by rfl) T.m_range (pa_cons (pe_op op_shl pe_int (pe_ix ix_tup (pv 0) pe_int (fun _ _ => rfl))) pa_nil)) (blkOk_by (own := [("k", 1)]) (N := N_z_map) (sc := defScope s_z_map) (by decide +kernel)) (fun _ _ _ _ _ => (pg_name (i := 1) sc_z_map.nd rfl (Or.inl rfl))) (fun _ _ _ _ _ => pts_nil) (fun _ _ _ _ _ => (pe_call G_z_value (hr.mono (by omega)) (by rfl) T.g_z_value T.F_z_value.kp T.b_z_value .nil pass0 (pa_cons (pe_call G_z_turned (hr.mono (by omega)) (by rfl) T.g_z_turned T.F_z_turned.kp T.b_z_turned .nil pass0 (pa_cons (pe_ix (ixT (K := K) rfl) (pv 0) pe_int (fun _ _ => rfl)) (pa_cons (pe_call G_z_bits (hr.mono (by omega)) (by rfl) T.g_z_bits T.F_z_bits.kp T.b_z_bits .nil pass0 (pa_cons (pv 1) (pa_cons (pe_ix (ixT (K := K) rfl) (pv 0) pe_int (fun _ _ => rfl)) pa_nil))) pa_nil))) pa_nil)))))), ?_⟩
    have hw9 : 2 ^ wn ≤ 512 := Nat.le_trans (Nat.pow_le_pow_right (by decide) hw) (by decide)
    obtain ⟨N, eN⟩ : ∃ N, 2 ^ wn = N := ⟨_, rfl⟩
    refine ⟨_, rfl, t, _, _, _, rfl, rfl, SqT.of ht, rfl, _, _, rfl, rfl, ⟨by omega, by omega, by decide⟩, ((N : Nat) : Int), ?_, by omega, by omega, fun D nD => ?_⟩
    · show [V.int ((1 : Int) * 2 ^ ((wn : Nat) : Int).toNat)] = _
      rw [one_shl, eN]
    rw [Int.toNat_natCast]
    refine lc_range (fun i H1 => KT [] H H1 ∧ H1 D = some (.lst (ivs ((List.range i).map (runN gs))))) ?_ ?_ ?_
    · exact ⟨KT.new _ nD, upd_same⟩
    · rintro i H1 hi ⟨k, hD⟩
      rw [Int.zero_add]
      refine ⟨rfl, _, rfl, t, _, _, _, rfl, rfl, SqT.of (k.tp _ _ ht), rfl, _, rfl, _, rfl, t, _, _, _, rfl, rfl, SqT.of (k.tp _ _ ht), rfl, i, wn, rfl, by omega, fun b H2 k2 hb => ?_⟩
      refine ⟨u, b, gvs, gs, _, rfl, k2.tp _ _ (k.tp _ _ hu), gts_keep (k.trans k2) hP, hb, by rw [bitsL_len]; exact GW.ins hg, fun g hg' => Nat.le_trans (hg g hg').2.2.2 (by omega), fun t2 H3 k3 ht2 => ?_⟩
      refine ⟨t2, _, rfl, ht2, by rw [runL_len, bitsL_len]; omega, fun H4 k4 => ?_⟩
      have kk := (k2.trans k3).trans k4
      have hi2 : i < 2 ^ wn := by omega
      have lt : ∀ g ∈ gs, g.1 < wn := fun g hg' => (hg g hg').1
      rw [runL_bits lt hi2, valB_bits, Nat.mod_eq_of_lt (runN_lt lt hi2)]
      refine ⟨_, kk.same _ _ hD, ?_, (k.trans kk).late nD, ?_⟩
      · rw [ivs_len, List.length_map, List.length_range]
        exact Nat.lt_of_le_of_lt (by omega : _ ≤ 1000) (by decide)
      · rw [upd_same, List.range_succ, List.map_append, ivs, ivs, List.map_append]
        rfl
    · rintro H1 ⟨k, hD⟩
      rw [← eN] at hD
      exact q _ _ k hD
theorem ok_z_gate (T : Txt K mg) : FnOk P w K mg base CX0 2 T.f_z_gate T.d_z_gate ["draw", "wires", "most"] spGate := by
  have G_z_take := okG_z_take (P := P) (w := w) (base := base) T
  refine T.F_z_gate.ok sc_z_gate (fun vs H Q E h => ?_) (fun cdv A outer s H vs Q E hr h => ?_)
  · obtain ⟨dr, w, most, rfl, _⟩ := h
    rfl
  · obtain ⟨dr, n, most, rfl, hd, h1, h10, q⟩ := h
    refine ⟨_, (pss_cons (ps_set (i := 3) sc_z_gate.nd rfl (Or.inl rfl) (pe_call G_z_take (hr.mono (by omega)) (by rfl) T.g_z_take T.F_z_take.kp T.b_z_take .nil pass0 (pa_cons (pv 0) (pa_cons (pv 1) pa_nil))))
      (pss_cons (ps_set (i := 4) sc_z_gate.nd rfl (Or.inl rfl) (pe_lst pa_nil))
      (pss_cons (ps_for PassesOwn.never rfl (pi_range1 (by rfl) T.m_range (pa_cons (pv 1) pa_nil)) (pg_name (i := 5) sc_z_gate.nd rfl (Or.inl rfl))
        (pss_one (ps_if (PW.pt (pw_and (pt_cmpR op_ne (pv 5) (pv 3) (nomark _)) (pw_and (pt_cmpR op_lt (pe_callB call_len_seq (by rfl) T.m_len (by decide +kernel) (pa_cons (pv 4) pa_nil)) (pv 2) (nomark _)) (pw_and1 (pt_cmpR op_eq (pe_call G_z_take (hr.mono (by omega)) (by rfl) T.g_z_take T.F_z_take.kp T.b_z_take .nil pass0 (pa_cons (pv 0) (pa_cons pe_int pa_nil))) pe_int (nomark _))))))
          (pss_one (ps_expr (pe_bm PySem.F.plainAttrs_list PySem.F.slot_list_append PySem.F.type_list_append mt_append (pv 4) (pa_cons (pe_tup (pa_cons (pv 5) (pa_cons (pe_call G_z_take (hr.mono (by omega)) (by rfl) T.g_z_take T.F_z_take.kp T.b_z_take .nil pass0 (pa_cons (pv 0) (pa_cons pe_int pa_nil))) pa_nil))) pa_nil))))
          pss_nil)))
      (pss_one (ps_ret (pe_tup (pa_cons (pv 3) (pa_cons (pe_callTy call_tuple_of (by rfl) T.m_tuple (by decide +kernel) (pa_cons (pv 4) pa_nil)) pa_nil)))))))), ?_⟩
    refine ⟨_, rfl, _, rfl, dr, (n : Int), rfl, hd, by omega, Int.le_trans (by omega : (n : Int) ≤ 10) (by decide), fun r H1 r0 r1 g1 => ?_⟩
    obtain ⟨tg, rfl⟩ := int_nat r0
    refine ⟨Nat.zero_le _, fun L nL => ?_⟩
    have nLH : H L = none := g1.k.free nL
    refine ⟨_, rfl, (n : Int), rfl, by omega, by omega, ?_⟩
    rw [Int.toNat_natCast]
    refine for_range (n := n) (fun i σ H2 => ∃ (x5 : Option V) (cvs : List V) (cs : List Ct), σ = [some (.ref dr), some (.int (n : Nat)), some (.int (most : Nat)), some (.int (tg : Nat)), some (.ref L), x5] ∧ GS dr H H2 ∧ H2 L = some (.lst cvs) ∧ P2 (PrV H2) cvs cs ∧ (∀ c ∈ cs, c.1 < i ∧ c.1 ≠ tg) ∧ (cs.map (·.1)).Pairwise (· < ·) ∧ cs.length ≤ i) ?_ ?_ ?_
    · exact ⟨none, [], [], rfl, g1.trans (.new g1.d nL), upd_same, .nil, (fun _ h => (nomatch h)), .nil, Nat.le_refl _⟩
    · rintro i σ H2 hi ⟨x5, cvs, cs, rfl, g, hL, hP, hc, up, ln⟩
      rw [Int.zero_add]
      have stay : ∃ (x5 : Option V) (cvs : List V) (cs : List Ct), [some (.ref dr), some (.int (n : Nat)), some (.int (most : Nat)), some (.int (tg : Nat)), some (.ref L), some (.int (i : Nat))] = [some (.ref dr), some (.int (n : Nat)), some (.int (most : Nat)), some (.int (tg : Nat)), some (.ref L), x5] ∧ GS dr H H2 ∧ H2 L = some (.lst cvs) ∧ P2 (PrV H2) cvs cs ∧ (∀ c ∈ cs, c.1 < i + 1 ∧ c.1 ≠ tg) ∧ (cs.map (·.1)).Pairwise (· < ·) ∧ cs.length ≤ i + 1 :=
        ⟨_, cvs, cs, rfl, g, hL, hP, fun c h => ⟨Nat.lt_succ_of_lt (hc c h).1, (hc c h).2⟩, up, Nat.le_succ_of_le ln⟩
      refine ⟨_, rfl, _, rfl, rfl, _, rfl, ?_⟩
      rw [eqN]
      by_cases e : i = tg
      · rw [decide_eq_true e]
        exact ite_f (by decide) (ite_f (by decide) stay)
      · rw [decide_eq_false e]
        refine ite_t rfl ⟨_, rfl, _, _, rfl, .inl (SqL.of hL), _, rfl, _, _, rfl, rfl, _, rfl, ite2 (fun e2 => ?_) (fun e2 => ?_)⟩
        · refine ⟨_, rfl, dr, 2, rfl, g.d, by decide, by decide, fun r H3 r0 r1 g3 => ?_⟩
          have nLd := ne_new hd nLH
          refine ⟨rfl, _, rfl, ite2 (fun e3 => ?_) (fun e3 => ?_)⟩
          · have hL3 := g3.k.kp _ _ (by simp [nLd]) hL
            refine ⟨_, rfl, .inl ⟨rfl, _, SqL.of hL3⟩, _, rfl, _, rfl, dr, 2, rfl, g3.d, by decide, by decide, fun r2 H4 s0 s1 g4 => ⟨sz2, fun t nt => ?_⟩⟩
            obtain ⟨bit, rfl⟩ : ∃ b : Bool, r2 = b2 b := by
              rcases (by omega : r2 = 0 ∨ r2 = 1) with h | h
              · exact ⟨false, h⟩
              · exact ⟨true, h⟩
            have g5 := (g3.trans g4).trans (GS.new g4.d nt (o := .tup [.int i, .int (b2 bit)]))
            have hL5 := g5.k.kp _ _ (by simp [nLd]) hL
            refine ⟨L, _, _, rfl, rfl, hL5, ?_, ?_⟩
            · rw [hP.len]
              exact Nat.lt_of_le_of_lt (by omega : _ ≤ 1000) (by decide)
            · refine ⟨_, cvs ++ [.ref t], cs ++ [(i, bit)], rfl, (g.trans g5).late hd nLH, upd_same, ?_, ?_, ?_, ?_⟩
              · exact ((prs_keep g5.k hP).snoc ⟨t, rfl, upd_same⟩).mono fun _ _ => PrV.put hL5
              · intro c hc'
                rcases List.mem_append.mp hc' with h | h
                · exact ⟨Nat.lt_succ_of_lt (hc c h).1, (hc c h).2⟩
                · rw [List.mem_singleton.mp h]
                  exact ⟨Nat.lt_succ_self _, e⟩
              · rw [List.map_append]
                refine List.pairwise_append.mpr ⟨up, List.pairwise_singleton _ _, fun x hx y hy => ?_⟩
                obtain ⟨c, hc1, rfl⟩ := List.mem_map.mp hx
                have : y = i := by simpa using hy
                rw [this]
                exact (hc c hc1).1
              · rw [List.length_append, List.length_singleton]
                omega
          · refine ⟨_, cvs, cs, rfl, g.trans g3, g3.k.kp _ _ (by simp [nLd]) hL, prs_keep g3.k hP, fun c h => ⟨Nat.lt_succ_of_lt (hc c h).1, (hc c h).2⟩, up, Nat.le_succ_of_le ln⟩
        · exact stay
    · rintro σ H2 ⟨x5, cvs, cs, rfl, g, hL, hP, hc, up, ln⟩
      refine ⟨_, rfl, _, rfl, L, _, rfl, .inl ⟨SqL.of hL, fun u nu => ⟨sz2, fun t nt => ?_⟩⟩⟩
      have kk := (KT.new [] nu (o := .tup cvs)).trans (KT.new [] nt (o := .tup [.int tg, .ref u]))
      exact q _ _ (tg, cs) (g.trans (GS.of g.d kk)) ⟨t, u, cvs, rfl, upd_same, (KT.new [] nt).tp _ _ upd_same, prs_keep kk hP⟩ ⟨by omega, hc, up, ln⟩
theorem ok_z_circuit (T : Txt K mg) : FnOk P w K mg base CX0 3 T.f_z_circuit T.d_z_circuit ["draw", "wires", "many"] spCirc := by
  have G_z_take := okG_z_take (P := P) (w := w) (base := base) T
  have G_z_gate := ok_z_gate (P := P) (w := w) (base := base) T
  refine T.F_z_circuit.ok sc_z_circuit (fun vs H Q E h => ?_) (fun cdv A outer s H vs Q E hr h => ?_)
  · obtain ⟨dr, w, most, rfl, _⟩ := h
    rfl
  · obtain ⟨dr, n, many, rfl, hd, h1, h10, hm, q⟩ := h
    refine ⟨_, (pss_one (ps_ret (pe_tup (pa_cons (pv 1) (pa_cons (pe_callTy call_tuple_of (by rfl) T.m_tuple (by decide +kernel) (pa_cons (pe_lc (own := [("k", 3)]) (g := gName 3) (by rfl) sc_z_circuit.nd (pi_range1 (by rfl) T.m_range (pa_cons (pe_call G_z_take (hr.mono (by omega)) (by rfl) T.g_z_take T.F_z_take.kp T.b_z_take .nil pass0 (pa_cons (pv 0) (pa_cons (pe_op op_add (pv 2) pe_int) pa_nil))) pa_nil)) (blkOk_by (own := [("k", 3)]) (N := N_z_circuit) (sc := defScope s_z_circuit) (by decide +kernel)) (fun _ _ _ _ _ => (pg_name (i := 3) sc_z_circuit.nd rfl (Or.inl rfl))) (fun _ _ _ _ _ => pts_nil) (fun _ _ _ _ _ => (pe_call G_z_gate (hr.mono (by omega)) (by rfl) T.g_z_gate T.F_z_gate.kp T.b_z_gate .nil pass0 (pa_cons (pv 0) (pa_cons (pv 1) (pa_cons (pe_ix (ixL (K := K) rfl) (pe_lst (pa_cons pe_int (pa_cons pe_int (pa_cons pe_int pa_nil)))) (pe_call G_z_take (hr.mono (by omega)) (by rfl) T.g_z_take T.F_z_take.kp T.b_z_take .nil pass0 (pa_cons (pv 0) (pa_cons pe_int pa_nil))) (fun _ _ => rfl)) pa_nil)))))) pa_nil)) pa_nil))))), ?_⟩
    refine ⟨_, rfl, _, rfl, _, rfl, _, _, rfl, rfl, dr, (many : Int) + 1, rfl, hd, by omega, Int.le_trans (by omega : (many : Int) + 1 ≤ 101) (by decide), fun r H1 r0 r1 g1 => ?_⟩
    obtain ⟨cnt, rfl⟩ := int_nat r0
    refine ⟨(cnt : Int), rfl, by omega, by omega, fun D nD => ?_⟩
    rw [Int.toNat_natCast]
    have nDd := ne_new g1.d nD
    refine lc_range (fun i H2 => ∃ gvs gs, GS dr H1 H2 ∧ H2 D = some (.lst gvs) ∧ P2 (GtV H2) gvs gs ∧ (∀ g ∈ gs, GW n g) ∧ gs.length = i) ?_ ?_ ?_
    · exact ⟨[], [], .new g1.d nD, upd_same, .nil, (fun _ h => (nomatch h)), rfl⟩
    · rintro i H2 hi ⟨gvs, gs, g, hD, hP, hg, hl⟩
      refine ⟨rfl, _, rfl, _, rfl, Nat.le_of_ble_eq_true rfl, fun l nl => ?_⟩
      have g2 := GS.new g.d nl (o := .lst [.int 3, .int 1, .int 9])
      refine ⟨_, rfl, dr, 3, rfl, g2.d, by decide, by decide, fun r H3 s0 s1 g3 => ?_⟩
      have nld := ne_new g.d nl
      have hl3 := g3.k.kp _ _ (by simp [nld]) (upd_same : (upd H2 l (.lst [.int 3, .int 1, .int 9])) l = _)
      obtain ⟨v, hv, mv⟩ := atI_in (xs := [V.int 3, .int 1, .int 9]) s0 s1
      obtain ⟨mo, rfl⟩ : ∃ n : Nat, v = .int n := by
        simp only [List.mem_cons, List.not_mem_nil, or_false] at mv
        rcases mv with rfl | rfl | rfl
        · exact ⟨3, rfl⟩
        · exact ⟨1, rfl⟩
        · exact ⟨9, rfl⟩
      refine ⟨l, _, r, _, rfl, rfl, SqL.of hl3, hv, dr, n, mo, rfl, g3.d, h1, h10, fun v H4 gt g4 gv gw => ?_⟩
      have gg := (g2.trans g3).trans g4
      have hD4 := gg.k.kp _ _ (by simp [nDd]) hD
      refine ⟨_, hD4, ?_, gvs ++ [v], gs ++ [gt], (g.trans gg).late g1.d nD, upd_same, ?_, ?_, ?_⟩
      · rw [hP.len]
        exact Nat.lt_of_le_of_lt (by omega : _ ≤ 1000) (by decide)
      · exact ((gts_keep gg.k hP).snoc gv).mono fun _ _ => GtV.put hD4
      · intro g' hg'
        rcases List.mem_append.mp hg' with h | h
        · exact hg g' h
        · rw [List.mem_singleton.mp h]; exact gw
      · rw [List.length_append, hl]
        rfl
    · rintro H2 ⟨gvs, gs, g, hD, hP, hg, hl⟩
      refine ⟨_, _, rfl, .inl ⟨SqL.of hD, fun u nu => ⟨sz2, fun t nt => ?_⟩⟩⟩
      have kk := (KT.new [] nu (o := .tup gvs)).trans (KT.new [] nt (o := .tup [.int n, .ref u]))
      exact q t u _ gvs gs ((g1.trans g).trans (GS.of g.d kk)) upd_same ((KT.new [] nt).tp _ _ upd_same) (gts_keep kk hP) hg (by omega)
theorem ok_z_mixed (T : Txt K mg) : FnOk P w K mg base CX0 2 T.f_z_mixed T.d_z_mixed ["draw", "many"] spMix := by
  have G_z_take := okG_z_take (P := P) (w := w) (base := base) T
  refine T.F_z_mixed.ok sc_z_mixed (fun vs H Q E h => ?_) (fun cdv A outer s H vs Q E hr h => ?_)
  · obtain ⟨dr, n, rfl, _⟩ := h
    rfl
  · obtain ⟨dr, n, rfl, hd, hn, q⟩ := h
    refine ⟨_, (pss_cons (ps_set (i := 2) sc_z_mixed.nd rfl (Or.inl rfl) (pe_listRg (by rfl) (by rfl) T.m_list (prg_1 (by rfl) T.m_range (pv 1))))
      (pss_cons (ps_set (i := 3) sc_z_mixed.nd rfl (Or.inl rfl) (pe_lst pa_nil))
      (pss_cons (ps_while PassesOwn.never (pt_cmpR (op_neD hr.units) (pv 2) (pe_lst pa_nil) (nomark _))
        (pss_one (ps_expr (pe_bm PySem.F.plainAttrs_list PySem.F.slot_list_append PySem.F.type_list_append mt_append (pv 3) (pa_cons (pe_bm PySem.F.plainAttrs_list PySem.F.slot_list_pop PySem.F.type_list_pop mt_popAt (pv 2) (pa_cons (pe_call G_z_take (hr.mono (by omega)) (by rfl) T.g_z_take T.F_z_take.kp T.b_z_take .nil pass0 (pa_cons (pv 0) (pa_cons (pe_callB call_len_seq (by rfl) T.m_len (by decide +kernel) (pa_cons (pv 2) pa_nil)) pa_nil))) pa_nil)) pa_nil)))))
      (pss_one (ps_ret (pv 3)))))), ?_⟩
    refine ⟨_, rfl, _, rfl, RgOk.of_le (Int.le_refl 0) (by omega) (by decide) (by omega), fun R nR => ?_⟩
    rw [rgV_nat]
    refine ⟨Nat.zero_le _, fun F nF => ?_⟩
    have gR := GS.new hd nR (o := .lst (ivs (List.range n)))
    have nFH : H F = none := gR.k.free nF
    have nRd := ne_new hd nR
    have nFd := ne_new hd nFH
    have nFR : F ≠ R := fun z => by rw [z, upd_same] at nF; cases nF
    refine while_by (fun σ H1 => ∃ us rs : List Nat, σ = [some (.ref dr), some (.int (n : Nat)), some (.ref R), some (.ref F)] ∧ GS dr H H1 ∧ H1 R = some (.lst (ivs rs)) ∧ H1 F = some (.lst (ivs us)) ∧ (us ++ rs).Perm (List.range n)) (fun _ H1 => match H1 R with | some (.lst xs) => xs.length | _ => 0) ?_ ?_ ?_
    · refine ⟨[], List.range n, rfl, gR.trans (.new gR.d nF), ?_, upd_same, .refl _⟩
      rw [upd_ne nFR.symm]
      exact upd_same
    · rintro σ H1 ⟨us, rs, rfl, g, hR, hF, pm⟩
      have lrs : rs.length ≤ 1000 := by
        have := pm.length_eq
        rw [List.length_append, List.length_range] at this
        omega
      have lus : us.length ≤ 1000 := by
        have := pm.length_eq
        rw [List.length_append, List.length_range] at this
        omega
      refine ⟨_, rfl, Nat.zero_le _, fun l nl => ?_⟩
      have k1 := KT.new [] nl (o := .lst [])
      refine ⟨.list ((rs.map fun (n : Nat) => (n : Int)).map PyData.int), .list [], .lst (SqL.of (k1.same _ _ hR)) (by rw [ivs_int]; exact dp_ints _), .lst (SqL.of upd_same) .nil, shaped_ints _, shaped_nil, _, rfl, ?_⟩
      rw [eqv_nil]
      have g1 := g.trans (GS.of g.d k1)
      have hR1 := k1.same _ _ hR
      have hF1 := k1.same _ _ hF
      cases rs with
      | nil =>
        refine ite_f (by decide) ⟨_, rfl, ?_⟩
        rw [List.append_nil] at pm
        exact q F _ us g1 hF1 pm
      | cons x r =>
        refine ite_t rfl ?_
        refine ⟨_, rfl, .inl ⟨rfl, _, SqL.of hF1⟩, _, rfl, .inl ⟨rfl, _, SqL.of hR1⟩, _, rfl, _, rfl, _, _, rfl, .inl (SqL.of hR1), dr, ((ivs (x :: r)).length : Int), rfl, g1.d, by rw [ivs_len]; simp, by rw [ivs_len]; exact Int.le_trans (by omega : _ ≤ (1000 : Int)) (by decide), fun j H2 r0 r1 g2 => ?_⟩
        obtain ⟨nj, rfl⟩ := int_nat r0
        rw [ivs_len] at r1
        have hn2 : nj < (x :: r).length := by omega
        have hR2 := g2.k.kp _ _ (by simp [nRd]) hR1
        have hF2 := g2.k.kp _ _ (by simp [nFd]) hF1
        refine ⟨R, _, _, nj, .int (((x :: r)[nj] : Nat) : Int), rfl, rfl, hR2, by omega, by omega, ?_, ?_, ?_⟩
        · rw [ivs_len]
          exact seqIx hn2
        · unfold ivs
          rw [List.getElem?_map, List.getElem?_eq_getElem hn2]
          rfl
        refine ⟨F, _, _, rfl, rfl, by rw [upd_ne nFR]; exact hF2, ?_, ⟨us ++ [(x :: r)[nj]], (x :: r).eraseIdx nj, rfl, ?_, ?_, ?_, ?_⟩, ?_⟩
        · rw [ivs_len]
          exact Nat.lt_of_le_of_lt lus (by decide)
        · exact ((g1.trans g2).late hd nR).late hd nFH
        · rw [upd_ne nFR.symm, upd_same, ivs_erase]
        · rw [upd_same, ivs_snoc]
        · rw [List.append_assoc]
          exact .trans (List.Perm.append_left _ (perm_erase hn2)) pm
        · have a1 : (upd (upd H2 R (.lst ((ivs (x :: r)).eraseIdx nj))) F (.lst (ivs us ++ [.int (((x :: r)[nj] : Nat) : Int)]))) R = some (.lst ((ivs (x :: r)).eraseIdx nj)) := by
            rw [upd_ne nFR.symm, upd_same]
          rw [a1, hR]
          show ((ivs (x :: r)).eraseIdx nj).length < (ivs (x :: r)).length
          rw [List.length_eraseIdx, ivs_len, if_pos (by omega)]
          omega
    · rintro σ H1 Q1 Q2 i ⟨v, e, h1, h2⟩
      exact ⟨v, e, h1, fun l nl => let ⟨d, e, a, b, c, f, k, ek, q⟩ := h2 l nl; ⟨d, e, a, b, c, f, k, ek, i _ _ q⟩⟩
end

end My

set_option Elab.async false
set_option linter.all false
set_option maxRecDepth 100000
namespace My
open PySem PySem.Spec PyProof.Rows L2
/-- a row that is a table -/
def RowOk (n : Nat) (row : List Nat) : Prop := n ≤ 9 ∧ row.Nodup ∧ (∀ x ∈ row, x < 2 ^ n) ∧ row.length = 2 ^ n
def spFT : Sp := fun vs H Q _ => ∃ (t : Addr) (n : Nat) (row : List Nat), vs = [.ref t] ∧ H t = some (.tup (ivs row)) ∧ RowOk n row ∧ ∀ (T u : Addr) (H' : Hp) (gvs : List V), KT [] H H' → H' T = some (.tup [.int n, .ref u]) → H' u = some (.tup gvs) → P2 (GtV H') gvs (syn n row).2.reverse → Q (.ref T) H'
def spZG (K : PySem.W.Frag) : Sp := fun vs H Q _ => ∃ (l : Addr) (n : Nat) (row : List Nat), vs = [.ref l, .int n] ∧ H l = some (.lst (ivs row)) ∧ RowOk n row ∧ ∀ (D : Addr) (H' : Hp) (gvs : List V), KT [] H H' → H' D = some (.lst gvs) → P2 (GtV H') gvs (syn n row).2 → Q (.ref D) H'
theorem ne_list {H : Hp} {D G : Addr} {us : List Nat} {gvs : List V} {t : Addr} (h1 : H D = some (.lst (ivs us))) (h2 : H G = some (.lst (gvs ++ [.ref t]))) : D ≠ G := fun z => by
  rw [z, h2] at h1
  have e := HO.lst.inj (Option.some.inj h1)
  have m : V.ref t ∈ ivs us := by rw [← e]; exact List.mem_append_right _ (List.mem_singleton.mpr rfl)
  obtain ⟨n, _, e2⟩ := List.mem_map.mp m
  cases e2
theorem at_last (xs : List V) (x : V) : atI (xs ++ [x]) (-1) = some x := by
  have e : ixN (xs ++ [x]).length (-1) = some xs.length := by
    unfold ixN
    rw [if_neg (by decide), List.length_append, List.length_singleton, if_pos (by omega)]
    congr 1
    omega
  unfold atI
  rw [e]
  show (xs ++ [x])[xs.length]? = some x
  simp
theorem bits_pow (n : Nat) : ((Builtin.Int.intBits ((2 ^ n : Nat) : Int) : Nat) : Int) - 1 = (n : Int) := by
  have h : 0 < 2 ^ n := Nat.pow_pos (by decide)
  unfold Builtin.Int.intBits
  rw [if_neg (by rw [beq_iff_eq]; omega), Int.natAbs_natCast, Nat.log2_two_pow]
  omega
theorem Tb.gtab {n : Nat} {row : List Nat} {s : SS} (T : Tb n row s) (hn : n ≤ 9) {g : Gt} (h : g ∈ s.2) : GTab g := by
  obtain ⟨a, b, c, d, e⟩ := T.ap g h
  exact ⟨d, by omega, by omega, fun x hx => by have := c x hx; omega⟩
theorem Tb.row1000 {n : Nat} {row : List Nat} {s : SS} (T : Tb n row s) (hn : n ≤ 9) : s.1.length ≤ 1000 := by
  rw [T.ln]
  exact Nat.le_trans (Nat.pow_le_pow_right (by decide) hn) (by decide)
theorem P2.rev {α : Type} {R : V → α → Prop} : ∀ {vs : List V} {ds : List α}, P2 R vs ds → P2 R vs.reverse ds.reverse
  | _, _, .nil => .nil
  | _, _, .cons h g => by
    rw [List.reverse_cons, List.reverse_cons]
    exact g.rev.snoc h
theorem gates_len {n : Nat} (f : Nat → SS → SS) (h : ∀ b s, (f b s).2.length ≤ s.2.length + 1) : ∀ m s, (itr f m s).2.length ≤ s.2.length + m
  | 0, s => Nat.le_refl _
  | m + 1, s => by
    have := gates_len (n := n) f h m s
    have := h m (itr f m s)
    show (f m (itr f m s)).2.length ≤ _
    omega
theorem stA_len (n k b : Nat) (s : SS) : (stA n k b s).2.length ≤ s.2.length + 1 := by
  unfold stA put
  split
  · rw [List.length_append]; exact Nat.le_refl _
  · omega
theorem stB_len (n k b : Nat) (s : SS) : (stB n k b s).2.length ≤ s.2.length + 1 := by
  unfold stB put
  split
  · rw [List.length_append]; exact Nat.le_refl _
  · omega
theorem stK_len (n k : Nat) (s : SS) : (stK n k s).2.length ≤ s.2.length + 2 * n := by
  unfold stK
  have h1 := gates_len (n := n) (stA n k) (stA_len n k) n s
  have h2 := gates_len (n := n) (stB n k) (stB_len n k) n (itr (stA n k) n s)
  omega
theorem syn_len (n : Nat) : ∀ m (s : SS), (itr (stK n) m s).2.length ≤ s.2.length + m * (2 * n)
  | 0, s => by simp [itr]
  | m + 1, s => by
    have h1 := syn_len n m s
    have h2 := stK_len n m (itr (stK n) m s)
    show (stK n m (itr (stK n) m s)).2.length ≤ _
    rw [Nat.succ_mul]
    omega
/-- all the states on the way -/
structure Way (n : Nat) (row : List Nat) (s : SS) : Prop where
  tb : Tb n row s
  ln : s.2.length ≤ 10000
theorem way_bound {n m : Nat} (hn : n ≤ 9) (hm : m ≤ 2 ^ n) : m * (2 * n) ≤ 9216 := by
  have h1 : 2 ^ n ≤ 2 ^ 9 := Nat.pow_le_pow_right (by decide) hn
  exact Nat.le_trans (Nat.mul_le_mul (Nat.le_trans hm h1) (by omega : 2 * n ≤ 18)) (by decide)
theorem wayA {n k b : Nat} {row : List Nat} (R : RowOk n row) (hk : k < 2 ^ n) (hb : b ≤ n) : Way n row (itr (stA n k) b (itr (stK n) k (row, []))) := by
  obtain ⟨h1, h2⟩ := synK (tb_begin R.2.1 R.2.2.1 R.2.2.2) k (by omega)
  refine ⟨(itA h1 h2 hk b hb).1, ?_⟩
  have a := gates_len (n := n) (stA n k) (stA_len n k) b (itr (stK n) k (row, []))
  have c := syn_len n k (row, [])
  have d := way_bound R.1 (Nat.le_of_lt hk)
  have e : ((row, []) : SS).2.length = 0 := rfl
  have := R.1
  omega
theorem wayB {n k b : Nat} {row : List Nat} (R : RowOk n row) (hk : k < 2 ^ n) (hb : b ≤ n) : Way n row (itr (stB n k) b (itr (stA n k) n (itr (stK n) k (row, [])))) := by
  obtain ⟨h1, h2⟩ := synK (tb_begin R.2.1 R.2.2.1 R.2.2.2) k (by omega)
  obtain ⟨g1, g2, g3⟩ := itA h1 h2 hk n (Nat.le_refl _)
  refine ⟨(itB g1 g2 hk (fun i hi => g3 i (bit_lt hk hi) hi) b hb).1, ?_⟩
  have a := gates_len (n := n) (stA n k) (stA_len n k) n (itr (stK n) k (row, []))
  have a2 := gates_len (n := n) (stB n k) (stB_len n k) b (itr (stA n k) n (itr (stK n) k (row, [])))
  have c := syn_len n k (row, [])
  have d := way_bound R.1 (Nat.le_of_lt hk)
  have e : ((row, []) : SS).2.length = 0 := rfl
  have := R.1
  omega
theorem syn_tb {n : Nat} {row : List Nat} (R : RowOk n row) : Tb n row (syn n row) := (synK (tb_begin R.2.1 R.2.2.1 R.2.2.2) (2 ^ n) (Nat.le_refl _)).1
/-- the lists of the state -/
structure ST (H0 H : Hp) (J G : Addr) (s : SS) : Prop where
  k : KT [] H0 H
  j : H J = some (.lst (ivs s.1))
  g : ∃ gvs, H G = some (.lst gvs) ∧ P2 (GtV H) gvs s.2
section
variable {P : Program} {w : World} {K : PySem.W.Frag} {mg : Str → Option Value} {base : Heap}
set_option maxHeartbeats 4000000 in
theorem ok_from_table (T : Txt K mg) : FnOk P w K mg base CX0 2 T.f_from_table T.d_from_table ["row"] spFT := by
  have G_turned := ok_turned (P := P) (w := w) (base := base) T
  have G_lacks := ok_lacks (P := P) (w := w) (base := base) T
  have G_all_ones := ok_all_ones (P := P) (w := w) (base := base) T
  refine T.F_from_table.ok sc_from_table (fun vs H Q E h => ?_) (fun cdv A outer s H vs Q E hr h => ?_)
  · obtain ⟨t, n, row, rfl, _⟩ := h
    rfl
  · obtain ⟨t, n, row, rfl, ht, R, q⟩ := h
    have hn := R.1
    have hN : 2 ^ n ≤ 512 := Nat.le_trans (Nat.pow_le_pow_right (by decide) hn) (by decide)
    refine ⟨_, (pss_cons (ps_set (i := 1) sc_from_table.nd rfl (Or.inl rfl) (pe_op op_sub (pe_bits (pe_callB call_len_seq (by rfl) T.m_len (by decide +kernel) (pa_cons (pv 0) pa_nil))) pe_int))
      (pss_cons (ps_set (i := 2) sc_from_table.nd rfl (Or.inl rfl) (pe_callTy call_list_of (by rfl) T.m_list (by decide +kernel) (pa_cons (pv 0) pa_nil)))
      (pss_cons (ps_set (i := 3) sc_from_table.nd rfl (Or.inl rfl) (pe_lst pa_nil))
      (pss_cons (ps_for PassesOwn.never rfl (pi_range1 (by rfl) T.m_range (pa_cons (pe_callB call_len_seq (by rfl) T.m_len (by decide +kernel) (pa_cons (pv 0) pa_nil)) pa_nil)) (pg_name (i := 4) sc_from_table.nd rfl (Or.inl rfl))
        (pss_cons (ps_for PassesOwn.never rfl (pi_range1 (by rfl) T.m_range (pa_cons (pv 1) pa_nil)) (pg_name (i := 5) sc_from_table.nd rfl (Or.inl rfl))
          (pss_one (ps_if (pt_val (pe_call G_lacks (hr.mono (by omega)) (by rfl) T.g_lacks T.F_lacks.kp T.b_lacks .nil pass0 (pa_cons (pe_ix ix_list (pv 2) (pv 4) (fun _ _ => rfl)) (pa_cons (pv 4) (pa_cons (pv 5) pa_nil)))))
            (pss_cons (ps_expr (pe_bm PySem.F.plainAttrs_list PySem.F.slot_list_append PySem.F.type_list_append mt_append (pv 3) (pa_cons (pe_tup (pa_cons (pv 5) (pa_cons (pe_call G_all_ones (hr.mono (by omega)) (by rfl) T.g_all_ones T.F_all_ones.kp T.b_all_ones .nil pass0 (pa_cons (pe_ix ix_list (pv 2) (pv 4) (fun _ _ => rfl)) (pa_cons (pv 1) pa_nil))) pa_nil))) pa_nil)))
            (pss_one (ps_set (i := 2) sc_from_table.nd rfl (Or.inl rfl) (pe_call G_turned (hr.mono (by omega)) (by rfl) T.g_turned T.F_turned.kp T.b_turned .nil pass0 (pa_cons (pv 2) (pa_cons (pe_ix ix_list (pv 3) (pe_un un_neg pe_int) (fun _ _ => rfl)) pa_nil))))))
            pss_nil)))
        (pss_one (ps_for PassesOwn.never rfl (pi_range1 (by rfl) T.m_range (pa_cons (pv 1) pa_nil)) (pg_name (i := 5) sc_from_table.nd rfl (Or.inl rfl))
          (pss_one (ps_if (pt_val (pe_call G_lacks (hr.mono (by omega)) (by rfl) T.g_lacks T.F_lacks.kp T.b_lacks .nil pass0 (pa_cons (pv 4) (pa_cons (pe_ix ix_list (pv 2) (pv 4) (fun _ _ => rfl)) (pa_cons (pv 5) pa_nil)))))
            (pss_cons (ps_expr (pe_bm PySem.F.plainAttrs_list PySem.F.slot_list_append PySem.F.type_list_append mt_append (pv 3) (pa_cons (pe_tup (pa_cons (pv 5) (pa_cons (pe_call G_all_ones (hr.mono (by omega)) (by rfl) T.g_all_ones T.F_all_ones.kp T.b_all_ones .nil pass0 (pa_cons (pv 4) (pa_cons (pv 1) pa_nil))) pa_nil))) pa_nil)))
            (pss_one (ps_set (i := 2) sc_from_table.nd rfl (Or.inl rfl) (pe_call G_turned (hr.mono (by omega)) (by rfl) T.g_turned T.F_turned.kp T.b_turned .nil pass0 (pa_cons (pv 2) (pa_cons (pe_ix ix_list (pv 3) (pe_un un_neg pe_int) (fun _ _ => rfl)) pa_nil))))))
            pss_nil))))))
      (pss_one (ps_ret (pe_tup (pa_cons (pv 1) (pa_cons (pe_callTy call_tuple_of (by rfl) T.m_tuple (by decide +kernel) (pa_cons (pe_revL (pv 3)) pa_nil)) pa_nil))))))))), ?_⟩
    refine ⟨_, rfl, _, _, rfl, .inr (SqT.of ht), _, rfl, _, _, rfl, rfl, ?_⟩
    have en : ((Builtin.Int.intBits (((ivs row).length : Nat) : Int) : Nat) : Int) - 1 = (n : Int) := by rw [ivs_len, R.2.2.2, bits_pow]
    dsimp only
    rw [en]
    refine ⟨_, rfl, t, _, rfl, .inr (SqT.of ht), fun J nJ => ?_⟩
    refine ⟨Nat.zero_le _, fun G nG => ?_⟩
    have k1 := KT.new [] nJ (o := .lst (ivs row))
    have k2 := KT.new [] nG (o := .lst [])
    have nGH : H G = none := k1.free nG
    refine ⟨_, rfl, _, _, rfl, .inr (SqT.of ((k1.trans k2).tp _ _ ht)), ((ivs row).length : Int), rfl, by omega, by rw [ivs_len, R.2.2.2]; omega, ?_⟩
    have e0 : ((ivs row).length : Int).toNat = 2 ^ n := by rw [ivs_len, R.2.2.2]; rfl
    rw [e0]
    refine for_range (n := 2 ^ n) (fun k σ H1 => ∃ (x4 x5 : Option V) (J : Addr), σ = [some (.ref t), some (.int (n : Nat)), some (.ref J), some (.ref G), x4, x5] ∧ J ≠ G ∧ ST H H1 J G (itr (stK n) k (row, []))) ?_ ?_ ?_
    · refine ⟨none, none, J, rfl, (fun z => by rw [z, upd_same] at nG; cases nG), ⟨k1.trans k2, k2.same _ _ upd_same, [], upd_same, .nil⟩⟩
    · rintro k σ H1 hk ⟨x4, x5, J, rfl, nJG, S⟩
      rw [Int.zero_add]
      -- the bits that are lacking
      refine ⟨_, rfl, (n : Int), rfl, by omega, by omega, ?_⟩
      rw [Int.toNat_natCast]
      refine for_range (n := n) (fun b σ H1 => ∃ (x5 : Option V) (J : Addr), σ = [some (.ref t), some (.int (n : Nat)), some (.ref J), some (.ref G), some (.int (k : Nat)), x5] ∧ J ≠ G ∧ ST H H1 J G (itr (stA n k) b (itr (stK n) k (row, [])))) ?_ ?_ ?_
      · exact ⟨_, J, rfl, nJG, S⟩
      · rintro b σ H1 hb ⟨x5, J, rfl, nJG, S⟩
        have Wy := wayA R hk (Nat.le_of_lt hb)
        have Wy2 := wayA R hk hb
        obtain ⟨s, es⟩ : ∃ s, itr (stA n k) b (itr (stK n) k (row, [])) = s := ⟨_, rfl⟩
        have es2 : itr (stA n k) (b + 1) (itr (stK n) k (row, [])) = stA n k b s := by rw [← es]; rfl
        rw [es] at S Wy
        rw [es2] at Wy2 ⊢
        have hkl : k < s.1.length := by rw [Wy.tb.ln]; exact hk
        have hik : s.1[k]? = some (s.1.getD k 0) := by
          rw [List.getD_eq_getElem?_getD, List.getElem?_eq_getElem hkl]
          rfl
        obtain ⟨v, ev⟩ : ∃ v, s.1.getD k 0 = v := ⟨_, rfl⟩
        rw [ev] at hik
        rw [Int.zero_add]
        refine ⟨_, rfl, _, rfl, J, _, _, _, rfl, rfl, SqL.of S.j, ivs_at hik, _, rfl, _, rfl, v, k, b, rfl, by omega, _, rfl, ?_⟩
        unfold stA at Wy2 ⊢
        rw [ev] at Wy2 ⊢
        cases hc : (k.testBit b && !v.testBit b) with
        | false =>
          refine ite_f (by decide) ⟨_, J, rfl, nJG, ?_⟩
          rw [if_neg (by decide)]
          exact S
        | true =>
          rw [hc, if_pos rfl] at Wy2
          refine ite_t rfl ?_
          obtain ⟨gvs, hG, hP⟩ := S.g
          refine ⟨_, rfl, .inl ⟨rfl, _, SqL.of hG⟩, _, rfl, _, rfl, _, rfl, J, _, _, _, rfl, rfl, SqL.of S.j, ivs_at hik, _, rfl, v, n, rfl, by omega, fun t2 cvs H2 k2 ht2 hP2 => ⟨sz2, fun t3 nt3 => ?_⟩⟩
          have k3 := k2.trans (KT.new [] nt3 (o := .tup [.int b, .ref t2]))
          have hG3 := k3.same _ _ hG
          have gv3 : GtV _ (.ref t3) (b, ones v n) := ⟨t3, t2, cvs, rfl, upd_same, (KT.new [] nt3).tp _ _ ht2, prs_keep (KT.new [] nt3) hP2⟩
          refine ⟨G, _, _, rfl, rfl, hG3, ?_, ?_⟩
          · rw [hP.len]
            exact Nat.lt_of_le_of_lt Wy.ln (by decide)
          have kk := (S.k.trans k3).late nGH (o := .lst (gvs ++ [.ref t3]))
          have hJ4 : (upd (upd H2 t3 (.tup [.int b, .ref t2])) G (.lst (gvs ++ [.ref t3]))) J = some (.lst (ivs s.1)) := by
            rw [upd_ne nJG]
            exact k3.same _ _ S.j
          have P4 : P2 (GtV (upd (upd H2 t3 (.tup [.int b, .ref t2])) G (.lst (gvs ++ [.ref t3])))) (gvs ++ [.ref t3]) (s.2 ++ [(b, ones v n)]) := ((gts_keep k3 hP).snoc gv3).mono fun _ _ => GtV.put hG3
          have at1 : atI (gvs ++ [V.ref t3]) (-1) = some (.ref t3) := at_last _ _
          refine ⟨_, rfl, _, rfl, _, rfl, G, _, _, _, rfl, rfl, SqL.of upd_same, at1, ?_⟩
          refine ⟨J, _, s.1, (b, ones v n), rfl, hJ4, gv3.put hG3, Wy2.tb.gtab hn (List.mem_append_right _ (List.mem_singleton.mpr rfl)), Wy.tb.row1000 hn, fun D H5 k5 hD => ?_⟩
          refine ⟨_, D, rfl, ne_list hD (k5.same _ _ upd_same), ?_⟩
          rw [if_pos rfl]
          exact ⟨kk.trans k5, hD, _, k5.same _ _ upd_same, gts_keep k5 P4⟩
      · rintro σ H1 ⟨x5, J, rfl, nJG, S⟩
        refine ⟨_, rfl, (n : Int), rfl, by omega, by omega, ?_⟩
        rw [Int.toNat_natCast]
        refine for_range (n := n) (fun b σ H1 => ∃ (x5 : Option V) (J : Addr), σ = [some (.ref t), some (.int (n : Nat)), some (.ref J), some (.ref G), some (.int (k : Nat)), x5] ∧ J ≠ G ∧ ST H H1 J G (itr (stB n k) b (itr (stA n k) n (itr (stK n) k (row, []))))) ?_ ?_ ?_
        · exact ⟨_, J, rfl, nJG, S⟩
        · rintro b σ H1 hb ⟨x5, J, rfl, nJG, S⟩
          have Wy := wayB R hk (Nat.le_of_lt hb)
          have Wy2 := wayB R hk hb
          obtain ⟨s, es⟩ : ∃ s, itr (stB n k) b (itr (stA n k) n (itr (stK n) k (row, []))) = s := ⟨_, rfl⟩
          have es2 : itr (stB n k) (b + 1) (itr (stA n k) n (itr (stK n) k (row, []))) = stB n k b s := by rw [← es]; rfl
          rw [es] at S Wy
          rw [es2] at Wy2 ⊢
          have hkl : k < s.1.length := by rw [Wy.tb.ln]; exact hk
          have hik : s.1[k]? = some (s.1.getD k 0) := by
            rw [List.getD_eq_getElem?_getD, List.getElem?_eq_getElem hkl]
            rfl
          obtain ⟨v, ev⟩ : ∃ v, s.1.getD k 0 = v := ⟨_, rfl⟩
          rw [ev] at hik
          rw [Int.zero_add]
          refine ⟨_, rfl, _, rfl, _, rfl, J, _, _, _, rfl, rfl, SqL.of S.j, ivs_at hik, _, rfl, k, v, b, rfl, by omega, _, rfl, ?_⟩
          unfold stB at Wy2 ⊢
          rw [ev] at Wy2 ⊢
          cases hc : (v.testBit b && !k.testBit b) with
          | false =>
            refine ite_f (by decide) ⟨_, J, rfl, nJG, ?_⟩
            rw [if_neg (by decide)]
            exact S
          | true =>
            rw [hc, if_pos rfl] at Wy2
            refine ite_t rfl ?_
            obtain ⟨gvs, hG, hP⟩ := S.g
            refine ⟨_, rfl, .inl ⟨rfl, _, SqL.of hG⟩, _, rfl, _, rfl, _, rfl, k, n, rfl, by omega, fun t2 cvs H2 k2 ht2 hP2 => ⟨sz2, fun t3 nt3 => ?_⟩⟩
            have k3 := k2.trans (KT.new [] nt3 (o := .tup [.int b, .ref t2]))
            have hG3 := k3.same _ _ hG
            have gv3 : GtV _ (.ref t3) (b, ones k n) := ⟨t3, t2, cvs, rfl, upd_same, (KT.new [] nt3).tp _ _ ht2, prs_keep (KT.new [] nt3) hP2⟩
            refine ⟨G, _, _, rfl, rfl, hG3, ?_, ?_⟩
            · rw [hP.len]
              exact Nat.lt_of_le_of_lt Wy.ln (by decide)
            have kk := (S.k.trans k3).late nGH (o := .lst (gvs ++ [.ref t3]))
            have hJ4 : (upd (upd H2 t3 (.tup [.int b, .ref t2])) G (.lst (gvs ++ [.ref t3]))) J = some (.lst (ivs s.1)) := by
              rw [upd_ne nJG]
              exact k3.same _ _ S.j
            have P4 : P2 (GtV (upd (upd H2 t3 (.tup [.int b, .ref t2])) G (.lst (gvs ++ [.ref t3])))) (gvs ++ [.ref t3]) (s.2 ++ [(b, ones k n)]) := ((gts_keep k3 hP).snoc gv3).mono fun _ _ => GtV.put hG3
            have at1 : atI (gvs ++ [V.ref t3]) (-1) = some (.ref t3) := at_last _ _
            refine ⟨_, rfl, _, rfl, _, rfl, G, _, _, _, rfl, rfl, SqL.of upd_same, at1, ?_⟩
            refine ⟨J, _, s.1, (b, ones k n), rfl, hJ4, gv3.put hG3, Wy2.tb.gtab hn (List.mem_append_right _ (List.mem_singleton.mpr rfl)), Wy.tb.row1000 hn, fun D H5 k5 hD => ?_⟩
            refine ⟨_, D, rfl, ne_list hD (k5.same _ _ upd_same), ?_⟩
            rw [if_pos rfl]
            exact ⟨kk.trans k5, hD, _, k5.same _ _ upd_same, gts_keep k5 P4⟩
        · rintro σ H1 ⟨x5, J, rfl, nJG, S⟩
          exact ⟨_, _, J, rfl, nJG, S⟩
    · rintro σ H1 ⟨x4, x5, J, rfl, nJG, S⟩
      obtain ⟨gvs, hG, hP⟩ := S.g
      refine ⟨_, rfl, _, rfl, G, _, rfl, SqL.of hG, fun l nl => ⟨_, _, rfl, .inl ⟨SqL.of upd_same, fun u nu => ⟨sz2, fun T2 nT => ?_⟩⟩⟩⟩
      have kk := ((KT.new [] nl (o := .lst gvs.reverse)).trans (KT.new [] nu (o := .tup gvs.reverse))).trans (KT.new [] nT (o := .tup [.int n, .ref u]))
      exact q T2 u _ _ (S.k.trans kk) upd_same ((KT.new [] nT).tp _ _ upd_same) (gts_keep kk hP).rev
end

end My

set_option Elab.async false
set_option linter.all false
set_option maxRecDepth 100000
namespace My
open PySem PySem.Spec PyProof.Rows L2
theorem b2_1 (c : Bool) : decide (V.int (b2 c) = V.int 1) = c := by cases c <;> rfl
theorem b2_0 (c : Bool) : decide (V.int (b2 c) = V.int 0) = !c := by cases c <;> rfl
theorem bit_is1 (x b : Nat) : decide (V.int (Builtin.bitAnd ((x : Int) / 2 ^ ((b : Nat) : Int).toNat) 1) = V.int 1) = x.testBit b := by rw [bit_nat, b2_1]
theorem bit_is0 (x b : Nat) : decide (V.int (Builtin.bitAnd ((x : Int) / 2 ^ ((b : Nat) : Int).toNat) 1) = V.int 0) = !x.testBit b := by rw [bit_nat, b2_0]
theorem lc_ones {H1 : Hp} {D : Addr} {m n : Nat} {σ : L2.St} {i : Nat} {own : List Nat} {tt : TT} {te : TE} {Qd : Hp → Prop} (nD : H1 D = none) (hn : n ≤ 1000) (ho : ∀ v, wipe ((wipe σ own).set i (some v)) own = wipe σ own)
    (htt : ∀ (j : Nat) (H : Hp) (Q : Bool → Hp → Prop), Q (m.testBit j) H → tt ((wipe σ own).set i (some (.int (j : Nat)))) H Q)
    (hte : ∀ (v : V) (H : Hp) (Q : VK), (∀ t, H t = none → Q (.ref t) (upd H t (.tup [v, .int 1]))) → te ((wipe σ own).set i (some v)) H Q)
    (hd : ∀ H cvs, KT [] H1 H → H D = some (.lst cvs) → P2 (PrV H) cvs (ones m n) → Qd H) :
    ∃ W : Nat → Nat → Hp → Prop, (∃ z, W 0 z (upd H1 D (.lst []))) ∧ ∀ i' z H, W i' z H →
      ((Itr 0 n).stop i' H ∧ Qd H) ∨ ((Itr 0 n).go i' H ∧ ∃ Nx : Hp → Prop, (∀ H', Nx H' → ∃ z', z' < z ∧ W (i' + 1) z' H') ∧ ∀ x H', (Itr 0 n).yld i' H x H' → gName i x (wipe σ own) H' fun σ2 H2 => wipe σ2 own = wipe σ own ∧ tt σ2 H2 fun b H3 =>
        if b = true then te σ2 H3 fun y H4 => ∃ acc, H4 D = some (.lst acc) ∧ acc.length < sizeLine ∧ Nx (upd H4 D (.lst (acc ++ [y]))) else Nx H3) := by
  refine lc_range (fun j H2 => ∃ cvs, KT [] H1 H2 ∧ H2 D = some (.lst cvs) ∧ P2 (PrV H2) cvs (ones m j)) ?_ ?_ ?_
  · exact ⟨[], KT.new _ nD, upd_same, .nil⟩
  · rintro j H2 hj ⟨cvs, k, hD, hP⟩
    rw [Int.zero_add]
    refine ⟨ho _, htt _ _ _ ?_⟩
    have eo : ones m (j + 1) = ones m j ++ (if m.testBit j then [(j, true)] else []) := by
      unfold ones
      rw [List.range_succ, List.filter_append, List.map_append]
      congr 1
      by_cases h : m.testBit j = true <;> simp [h]
    rw [eo]
    cases hb : m.testBit j with
    | false =>
      refine ite_f (by decide) ⟨cvs, k, hD, ?_⟩
      rw [if_neg (by decide), List.append_nil]
      exact hP
    | true =>
      refine ite_t rfl (hte _ _ _ fun t nt => ?_)
      have kt := KT.new [] nt (o := .tup [.int j, .int 1])
      have hD2 := kt.same _ _ hD
      refine ⟨_, hD2, ?_, cvs ++ [.ref t], (k.trans kt).late nD, upd_same, ?_⟩
      · rw [hP.len]
        exact Nat.lt_of_le_of_lt (by have := ones_len m j; omega : _ ≤ 1000) (by decide)
      · rw [if_pos rfl]
        exact ((prs_keep kt hP).snoc ⟨t, rfl, upd_same⟩).mono fun _ _ => PrV.put hD2
  · rintro H2 ⟨cvs, k, hD, hP⟩
    exact hd _ cvs k hD hP
theorem turn_map {n b m : Nat} (hm : m < 2 ^ n) (xs : List Nat) : (xs.map fun x => if x &&& m = m then x ^^^ 2 ^ b else x) = xs.map (actN (b, ones m n)) := List.map_congr_left fun x _ => (act_ones hm).symm
section
variable {P : Program} {w : World} {K : PySem.W.Frag} {mg : Str → Option Value} {base : Heap}
set_option maxHeartbeats 4000000 in
theorem ok_z_gates (T : Txt K mg) : FnOk P w K mg base CX0 2 T.f_z_gates T.d_z_gates ["row", "wires"] (spZG K) := by
  have G_z_turn := ok_z_turn (P := P) (w := w) (base := base) T
  refine T.F_z_gates.ok sc_z_gates (fun vs H Q E h => ?_) (fun cdv A outer s H vs Q E hr h => ?_)
  · obtain ⟨t, n, row, rfl, _⟩ := h
    rfl
  · obtain ⟨t, n, row, rfl, ht, R, q⟩ := h
    have hn := R.1
    have hN : 2 ^ n ≤ 512 := Nat.le_trans (Nat.pow_le_pow_right (by decide) hn) (by decide)
    refine ⟨_, (pss_cons (ps_set (i := 2) sc_z_gates.nd rfl (Or.inl rfl) (pe_callTy call_list_of (by rfl) T.m_list (by decide +kernel) (pa_cons (pv 0) pa_nil)))
      (pss_cons (ps_set (i := 3) sc_z_gates.nd rfl (Or.inl rfl) (pe_lst pa_nil))
      (pss_cons (ps_for PassesOwn.never rfl (pi_range1 (by rfl) T.m_range (pa_cons (pe_callB call_len_seq (by rfl) T.m_len (by decide +kernel) (pa_cons (pv 0) pa_nil)) pa_nil)) (pg_name (i := 4) sc_z_gates.nd rfl (Or.inr rfl))
        (pss_cons (ps_for PassesOwn.never rfl (pi_range1 (by rfl) T.m_range (pa_cons (pv 1) pa_nil)) (pg_name (i := 5) sc_z_gates.nd rfl (Or.inl rfl))
          (pss_one (ps_if (PW.pt (pw_and (pt_cmpR op_eq (pe_op op_and (pe_op op_shr (pv 4) (pv 5)) pe_int) pe_int (nomark _)) (pw_and1 (pt_cmpR op_eq (pe_op op_and (pe_op op_shr (pe_ix ix_list (pv 2) (pv 4) (fun _ _ => rfl)) (pv 5)) pe_int) pe_int (nomark _)))))
            (pss_cons (ps_set (i := 6) sc_z_gates.nd rfl (Or.inr rfl) (pe_ix ix_list (pv 2) (pv 4) (fun _ _ => rfl)))
            (pss_cons (ps_expr (pe_bm PySem.F.plainAttrs_list PySem.F.slot_list_append PySem.F.type_list_append mt_append (pv 3) (pa_cons (pe_tup (pa_cons (pv 5) (pa_cons (pe_callTy call_tuple_of (by rfl) T.m_tuple (by decide +kernel) (pa_cons (pe_lc (own := [("wire", 7)]) (g := gName 7) (by rfl) sc_z_gates.nd (pi_range1 (by rfl) T.m_range (pa_cons (pv 1) pa_nil)) (blkOk_by (own := [("wire", 7)]) (N := N_z_gates) (sc := defScope s_z_gates) (by decide +kernel)) (fun _ _ _ _ _ => (pg_name (i := 7) sc_z_gates.nd rfl (Or.inl rfl))) (fun _ _ _ _ _ => (pts_one (pt_cmpR op_eq (pe_op op_and (pe_op op_shr (pv 6) (pv 7)) pe_int) pe_int (nomark _)))) (fun _ _ _ _ _ => (pe_tup (pa_cons (pv 7) (pa_cons pe_int pa_nil))))) pa_nil)) pa_nil))) pa_nil)))
            (pss_one (ps_set (i := 2) sc_z_gates.nd rfl (Or.inl rfl) (pe_call G_z_turn (hr.mono (by omega)) (by rfl) T.g_z_turn T.F_z_turn.kp T.b_z_turn .nil pass0 (pa_cons (pv 2) (pa_cons (pv 5) (pa_cons (pv 6) pa_nil))))))))
            pss_nil)))
        (pss_one (ps_for PassesOwn.never rfl (pi_range1 (by rfl) T.m_range (pa_cons (pv 1) pa_nil)) (pg_name (i := 5) sc_z_gates.nd rfl (Or.inl rfl))
          (pss_one (ps_if (PW.pt (pw_and (pt_cmpR op_eq (pe_op op_and (pe_op op_shr (pv 4) (pv 5)) pe_int) pe_int (nomark _)) (pw_and1 (pt_cmpR op_eq (pe_op op_and (pe_op op_shr (pe_ix ix_list (pv 2) (pv 4) (fun _ _ => rfl)) (pv 5)) pe_int) pe_int (nomark _)))))
            (pss_cons (ps_expr (pe_bm PySem.F.plainAttrs_list PySem.F.slot_list_append PySem.F.type_list_append mt_append (pv 3) (pa_cons (pe_tup (pa_cons (pv 5) (pa_cons (pe_callTy call_tuple_of (by rfl) T.m_tuple (by decide +kernel) (pa_cons (pe_lc (own := [("wire", 7)]) (g := gName 7) (by rfl) sc_z_gates.nd (pi_range1 (by rfl) T.m_range (pa_cons (pv 1) pa_nil)) (blkOk_by (own := [("wire", 7)]) (N := N_z_gates) (sc := defScope s_z_gates) (by decide +kernel)) (fun _ _ _ _ _ => (pg_name (i := 7) sc_z_gates.nd rfl (Or.inl rfl))) (fun _ _ _ _ _ => (pts_one (pt_cmpR op_eq (pe_op op_and (pe_op op_shr (pv 4) (pv 7)) pe_int) pe_int (nomark _)))) (fun _ _ _ _ _ => (pe_tup (pa_cons (pv 7) (pa_cons pe_int pa_nil))))) pa_nil)) pa_nil))) pa_nil)))
            (pss_one (ps_set (i := 2) sc_z_gates.nd rfl (Or.inl rfl) (pe_call G_z_turn (hr.mono (by omega)) (by rfl) T.g_z_turn T.F_z_turn.kp T.b_z_turn .nil pass0 (pa_cons (pv 2) (pa_cons (pv 5) (pa_cons (pv 4) pa_nil)))))))
            pss_nil))))))
      (pss_one (ps_ret (pv 3)))))), ?_⟩
    refine ⟨_, rfl, t, _, rfl, .inl (SqL.of ht), fun J nJ => ?_⟩
    refine ⟨Nat.zero_le _, fun G nG => ?_⟩
    have k1 := KT.new [] nJ (o := .lst (ivs row))
    have k2 := KT.new [] nG (o := .lst [])
    have nGH : H G = none := k1.free nG
    refine ⟨_, rfl, _, _, rfl, .inl (SqL.of ((k1.trans k2).same _ _ ht)), ((ivs row).length : Int), rfl, by omega, by rw [ivs_len, R.2.2.2]; omega, ?_⟩
    have e0 : ((ivs row).length : Int).toNat = 2 ^ n := by rw [ivs_len, R.2.2.2]; rfl
    rw [e0]
    refine for_range (n := 2 ^ n) (fun k σ H1 => ∃ (x4 x5 x6 : Option V) (J : Addr), σ = [some (.ref t), some (.int (n : Nat)), some (.ref J), some (.ref G), x4, x5, x6, none] ∧ J ≠ G ∧ ST H H1 J G (itr (stK n) k (row, []))) ?_ ?_ ?_
    · refine ⟨none, none, none, J, rfl, (fun z => by rw [z, upd_same] at nG; cases nG), ⟨k1.trans k2, k2.same _ _ upd_same, [], upd_same, .nil⟩⟩
    · rintro k σ H1 hk ⟨x4, x5, x6, J, rfl, nJG, S⟩
      rw [Int.zero_add]
      refine ⟨_, rfl, (n : Int), rfl, by omega, by omega, ?_⟩
      rw [Int.toNat_natCast]
      refine for_range (n := n) (fun b σ H1 => ∃ (x5 x6 : Option V) (J : Addr), σ = [some (.ref t), some (.int (n : Nat)), some (.ref J), some (.ref G), some (.int (k : Nat)), x5, x6, none] ∧ J ≠ G ∧ ST H H1 J G (itr (stA n k) b (itr (stK n) k (row, [])))) ?_ ?_ ?_
      · exact ⟨_, _, J, rfl, nJG, S⟩
      · rintro b σ H1 hb ⟨x5, x6, J, rfl, nJG, S⟩
        have Wy := wayA R hk (Nat.le_of_lt hb)
        obtain ⟨s, es⟩ : ∃ s, itr (stA n k) b (itr (stK n) k (row, [])) = s := ⟨_, rfl⟩
        have es2 : itr (stA n k) (b + 1) (itr (stK n) k (row, [])) = stA n k b s := by rw [← es]; rfl
        rw [es] at S Wy
        rw [es2]
        have hkl : k < s.1.length := by rw [Wy.tb.ln]; exact hk
        have hik : s.1[k]? = some (s.1.getD k 0) := by
          rw [List.getD_eq_getElem?_getD, List.getElem?_eq_getElem hkl]
          rfl
        have hvn := Wy.tb.lt' hk
        unfold stA
        obtain ⟨v, ev⟩ : ∃ v, s.1.getD k 0 = v := ⟨_, rfl⟩
        rw [ev] at hik hvn ⊢
        rw [Int.zero_add]
        refine ⟨_, rfl, _, rfl, _, _, rfl, rfl, by omega, _, _, rfl, rfl, rfl, _, rfl, ?_⟩
        dsimp only
        rw [bit_is1]
        have stay : (k.testBit b && !v.testBit b) = false → ∃ (y5 y6 : Option V) (J' : Addr), [some (.ref t), some (.int (n : Nat)), some (.ref J), some (.ref G), some (.int (k : Nat)), some (.int (b : Nat)), x6, none] = [some (.ref t), some (.int (n : Nat)), some (.ref J'), some (.ref G), some (.int (k : Nat)), y5, y6, none] ∧ J' ≠ G ∧ ST H H1 J' G (if (k.testBit b && !v.testBit b) = true then put (b, ones v n) s else s) := fun e => ⟨some (.int (b : Nat)), x6, J, rfl, nJG, by rw [if_neg (by rw [e]; decide)]; exact S⟩
        cases hkb : k.testBit b with
        | false =>
          rw [hkb] at stay
          exact ite_f (by decide) (ite_f (by decide) (stay rfl))
        | true =>
          rw [hkb] at stay
          refine ite_t rfl ⟨_, rfl, _, rfl, J, _, _, _, rfl, rfl, SqL.of S.j, ivs_at hik, _, rfl, _, _, rfl, rfl, by omega, _, _, rfl, rfl, rfl, _, rfl, ?_⟩
          dsimp only
          rw [bit_is0]
          cases hvb : v.testBit b with
          | true =>
            rw [hvb] at stay
            exact ite_f (by decide) (stay rfl)
          | false =>
            have Tp := Wy.tb.put hb hvb (m := v)
            refine ite_t rfl ?_
            refine ⟨_, rfl, _, rfl, J, _, _, _, rfl, rfl, SqL.of S.j, ivs_at hik, ?_⟩
            obtain ⟨gvs, hG, hP⟩ := S.g
            refine ⟨_, rfl, .inl ⟨rfl, _, SqL.of hG⟩, _, rfl, _, rfl, (n : Int), rfl, by omega, by omega, fun D nD => ?_⟩
            rw [Int.toNat_natCast]
            refine lc_ones (m := v) nD (by omega) (fun v => rfl) (fun j H Q h => ?_) (fun v H Q h => ⟨_, rfl, sz2, h⟩) (fun H2 cvs k2 hD2 hP2 => ?_)
            · refine ⟨_, rfl, _, rfl, _, _, rfl, rfl, by omega, _, _, rfl, rfl, rfl, _, rfl, ?_⟩
              dsimp only
              rw [bit_is1]
              exact h
            refine ⟨_, _, rfl, .inl ⟨SqL.of hD2, fun t2 nt2 => ⟨sz2, fun t3 nt3 => ?_⟩⟩⟩
            have ka := KT.new [] nt2 (o := .tup cvs)
            have kb := KT.new [] nt3 (o := .tup [.int b, .ref t2])
            have k3 := (k2.trans ka).trans kb
            have hG3 := k3.same _ _ hG
            have gv3 : GtV _ (.ref t3) (b, ones v n) := ⟨t3, t2, cvs, rfl, upd_same, kb.tp _ _ upd_same, prs_keep (ka.trans kb) hP2⟩
            refine ⟨G, _, _, rfl, rfl, hG3, ?_, ?_⟩
            · rw [hP.len]
              exact Nat.lt_of_le_of_lt Wy.ln (by decide)
            have kk := (S.k.trans k3).late nGH (o := .lst (gvs ++ [.ref t3]))
            obtain ⟨H4, e4⟩ : ∃ x, (upd (upd H2 t2 (.tup cvs)) t3 (.tup [.int b, .ref t2])) = x := ⟨_, rfl⟩
            rw [e4] at k3 hG3 gv3 kk ⊢
            have hJ4 : (upd H4 G (.lst (gvs ++ [.ref t3]))) J = some (.lst (ivs s.1)) := by
              rw [upd_ne nJG]
              exact k3.same _ _ S.j
            have P4 : P2 (GtV (upd H4 G (.lst (gvs ++ [.ref t3])))) (gvs ++ [.ref t3]) (s.2 ++ [(b, ones v n)]) := ((gts_keep k3 hP).snoc gv3).mono fun _ _ => GtV.put hG3
            refine ⟨_, rfl, _, rfl, _, rfl, J, s.1, b, v, rfl, hJ4, Wy.tb.row1000 hn, by omega, fun D5 H5 k5 hD5 => ?_⟩
            rw [turn_map hvn] at hD5
            refine ⟨_, _, D5, rfl, ne_list hD5 (k5.same _ _ upd_same), ?_⟩
            rw [if_pos (by rfl)]
            exact ⟨kk.trans k5, hD5, _, k5.same _ _ upd_same, gts_keep k5 P4⟩
      · rintro σ H1 ⟨x5, x6, J, rfl, nJG, S⟩
        refine ⟨_, rfl, (n : Int), rfl, by omega, by omega, ?_⟩
        rw [Int.toNat_natCast]
        refine for_range (n := n) (fun b σ H1 => ∃ (x5 x6 : Option V) (J : Addr), σ = [some (.ref t), some (.int (n : Nat)), some (.ref J), some (.ref G), some (.int (k : Nat)), x5, x6, none] ∧ J ≠ G ∧ ST H H1 J G (itr (stB n k) b (itr (stA n k) n (itr (stK n) k (row, []))))) ?_ ?_ ?_
        · exact ⟨_, _, J, rfl, nJG, S⟩
        · rintro b σ H1 hb ⟨x5, x6, J, rfl, nJG, S⟩
          have Wy := wayB R hk (Nat.le_of_lt hb)
          obtain ⟨s, es⟩ : ∃ s, itr (stB n k) b (itr (stA n k) n (itr (stK n) k (row, []))) = s := ⟨_, rfl⟩
          have es2 : itr (stB n k) (b + 1) (itr (stA n k) n (itr (stK n) k (row, []))) = stB n k b s := by rw [← es]; rfl
          rw [es] at S Wy
          rw [es2]
          have hkl : k < s.1.length := by rw [Wy.tb.ln]; exact hk
          have hik : s.1[k]? = some (s.1.getD k 0) := by
            rw [List.getD_eq_getElem?_getD, List.getElem?_eq_getElem hkl]
            rfl
          have hvn := Wy.tb.lt' hk
          unfold stB
          obtain ⟨v, ev⟩ : ∃ v, s.1.getD k 0 = v := ⟨_, rfl⟩
          rw [ev] at hik hvn ⊢
          rw [Int.zero_add]
          refine ⟨_, rfl, _, rfl, _, _, rfl, rfl, by omega, _, _, rfl, rfl, rfl, _, rfl, ?_⟩
          dsimp only
          rw [bit_is0]
          have stay : (v.testBit b && !k.testBit b) = false → ∃ (y5 y6 : Option V) (J' : Addr), [some (.ref t), some (.int (n : Nat)), some (.ref J), some (.ref G), some (.int (k : Nat)), some (.int (b : Nat)), x6, none] = [some (.ref t), some (.int (n : Nat)), some (.ref J'), some (.ref G), some (.int (k : Nat)), y5, y6, none] ∧ J' ≠ G ∧ ST H H1 J' G (if (v.testBit b && !k.testBit b) = true then put (b, ones k n) s else s) := fun e => ⟨some (.int (b : Nat)), x6, J, rfl, nJG, by rw [if_neg (by rw [e]; decide)]; exact S⟩
          cases hkb : k.testBit b with
          | true =>
            rw [hkb] at stay
            exact ite_f (by decide) (ite_f (by decide) (stay (by cases v.testBit b <;> rfl)))
          | false =>
            rw [hkb] at stay
            refine ite_t rfl ⟨_, rfl, _, rfl, J, _, _, _, rfl, rfl, SqL.of S.j, ivs_at hik, _, rfl, _, _, rfl, rfl, by omega, _, _, rfl, rfl, rfl, _, rfl, ?_⟩
            dsimp only
            rw [bit_is1]
            cases hvb : v.testBit b with
            | false =>
              rw [hvb] at stay
              exact ite_f (by decide) (stay rfl)
            | true =>
              have Tp := Wy.tb.put hb hkb (m := k)
              refine ite_t rfl ?_
              obtain ⟨gvs, hG, hP⟩ := S.g
              refine ⟨_, rfl, .inl ⟨rfl, _, SqL.of hG⟩, _, rfl, _, rfl, (n : Int), rfl, by omega, by omega, fun D nD => ?_⟩
              rw [Int.toNat_natCast]
              refine lc_ones (m := k) nD (by omega) (fun v => rfl) (fun j H Q h => ?_) (fun v H Q h => ⟨_, rfl, sz2, h⟩) (fun H2 cvs k2 hD2 hP2 => ?_)
              · refine ⟨_, rfl, _, rfl, _, _, rfl, rfl, by omega, _, _, rfl, rfl, rfl, _, rfl, ?_⟩
                dsimp only
                rw [bit_is1]
                exact h
              refine ⟨_, _, rfl, .inl ⟨SqL.of hD2, fun t2 nt2 => ⟨sz2, fun t3 nt3 => ?_⟩⟩⟩
              have ka := KT.new [] nt2 (o := .tup cvs)
              have kb := KT.new [] nt3 (o := .tup [.int b, .ref t2])
              have k3 := (k2.trans ka).trans kb
              have hG3 := k3.same _ _ hG
              have gv3 : GtV _ (.ref t3) (b, ones k n) := ⟨t3, t2, cvs, rfl, upd_same, kb.tp _ _ upd_same, prs_keep (ka.trans kb) hP2⟩
              refine ⟨G, _, _, rfl, rfl, hG3, ?_, ?_⟩
              · rw [hP.len]
                exact Nat.lt_of_le_of_lt Wy.ln (by decide)
              have kk := (S.k.trans k3).late nGH (o := .lst (gvs ++ [.ref t3]))
              obtain ⟨H4, e4⟩ : ∃ x, (upd (upd H2 t2 (.tup cvs)) t3 (.tup [.int b, .ref t2])) = x := ⟨_, rfl⟩
              rw [e4] at k3 hG3 gv3 kk ⊢
              have hJ4 : (upd H4 G (.lst (gvs ++ [.ref t3]))) J = some (.lst (ivs s.1)) := by
                rw [upd_ne nJG]
                exact k3.same _ _ S.j
              have P4 : P2 (GtV (upd H4 G (.lst (gvs ++ [.ref t3])))) (gvs ++ [.ref t3]) (s.2 ++ [(b, ones k n)]) := ((gts_keep k3 hP).snoc gv3).mono fun _ _ => GtV.put hG3
              refine ⟨_, rfl, _, rfl, _, rfl, J, s.1, b, k, rfl, hJ4, Wy.tb.row1000 hn, by omega, fun D5 H5 k5 hD5 => ?_⟩
              rw [turn_map hk] at hD5
              refine ⟨_, _, D5, rfl, ne_list hD5 (k5.same _ _ upd_same), ?_⟩
              rw [if_pos (by rfl)]
              exact ⟨kk.trans k5, hD5, _, k5.same _ _ upd_same, gts_keep k5 P4⟩
        · rintro σ H1 ⟨x5, x6, J, rfl, nJG, S⟩
          exact ⟨_, _, _, J, rfl, nJG, S⟩
    · rintro σ H1 ⟨x4, x5, x6, J, rfl, nJG, S⟩
      obtain ⟨gvs, hG, hP⟩ := S.g
      exact ⟨_, rfl, q G _ gvs S.k hG hP⟩
end

end My

set_option Elab.async false
set_option linter.all false
set_option maxRecDepth 100000
namespace My
open PySem PySem.Spec PyProof.Rows L2
/-- the least number that is parted -/
def partN (w : Nat) (gs hs : List Gt) : Option Nat := (List.range (2 ^ w)).find? fun k => runN gs k != runN hs k
def optV : Option Nat → V
  | none => .non
  | some k => .int k
def CircAt (H : Hp) (t : Addr) (w : Nat) (gs : List Gt) : Prop := ∃ (u : Addr) (gvs : List V), H t = some (.tup [.int w, .ref u]) ∧ H u = some (.tup gvs) ∧ P2 (GtV H) gvs gs
theorem CircAt.keep {S : List Addr} {H H' : Hp} {t : Addr} {w : Nat} {gs : List Gt} (k : KT S H H') : CircAt H t w gs → CircAt H' t w gs := fun ⟨u, gvs, h1, h2, h3⟩ => ⟨u, gvs, k.tp _ _ h1, k.tp _ _ h2, gts_keep k h3⟩
def spPart : Sp := fun vs H Q _ => ∃ (t1 t2 : Addr) (w : Nat) (gs hs : List Gt), vs = [.ref t1, .ref t2] ∧ CircAt H t1 w gs ∧ CircAt H t2 w hs ∧ (∀ g ∈ gs, GW w g) ∧ (∀ g ∈ hs, GW w g) ∧ w ≤ 9 ∧ ∀ H', KT [] H H' → Q (optV (partN w gs hs)) H'
/-- a tuple of gates -/
def TupG (H : Hp) (v : V) (gs : List Gt) : Prop := ∃ a vs, v = .ref a ∧ H a = some (.tup vs) ∧ P2 (GtV H) vs gs
theorem TupG.keep {S : List Addr} {H H' : Hp} {v : V} {gs : List Gt} (k : KT S H H') : TupG H v gs → TupG H' v gs := fun ⟨a, vs, h1, h2, h3⟩ => ⟨a, vs, h1, k.tp _ _ h2, gts_keep k h3⟩
theorem cat_g {K : PySem.W.Frag} {H : Hp} {x y : V} {gs hs : List Gt} {J : V → Hp → Prop} (ha : TupG H x gs) (hb : TupG H y hs) (hl : gs.length + hs.length ≤ 1000) (hJ : ∀ v H' ks, KT [] H H' → TupG H' v ks → (∀ g ∈ ks, g ∈ gs ∨ g ∈ hs) → ks.length ≤ gs.length + hs.length → J v H') : rCatA K x y H J := by
  obtain ⟨a, xs, rfl, h1, p1⟩ := id ha
  obtain ⟨b, ys, rfl, h2, p2⟩ := id hb
  have l1 := p1.len
  have l2 := p2.len
  refine ⟨a, b, xs, ys, rfl, rfl, SqT.of h1, SqT.of h2, Nat.le_trans (by omega : _ ≤ 1000) (by decide), fun e => ?_, fun e1 e => ?_, fun e1 e2 p np => ?_⟩
  · exact hJ _ _ hs (.refl _ _) hb (fun g h => .inr h) (by omega)
  · exact hJ _ _ gs (.refl _ _) ha (fun g h => .inl h) (by omega)
  · exact hJ _ _ (gs ++ hs) (.new _ np) ⟨p, _, rfl, upd_same, gts_keep (KT.new [] np) (p1.app p2)⟩ (fun g h => List.mem_append.mp h) (by rw [List.length_append]; exact Nat.le_refl _)
theorem P2.take {α : Type} {R : V → α → Prop} : ∀ {vs : List V} {ds : List α} (n : Nat), P2 R vs ds → P2 R (vs.take n) (ds.take n)
  | _, _, _, .nil => by simp; exact .nil
  | _, _, 0, .cons h g => by simp; exact .nil
  | _, _, n + 1, .cons h g => by rw [List.take_succ_cons, List.take_succ_cons]; exact .cons h (g.take n)
theorem sl_g {K : PySem.W.Frag} {H : Hp} {x : V} {gs : List Gt} {lo hi : Option Int} {J : V → Hp → Prop} (ha : TupG H x gs) (hJ : ∀ v H' ks, KT [] H H' → TupG H' v ks → (∀ g ∈ ks, g ∈ gs) → ks.length ≤ gs.length → J v H') : rSlA K x lo hi H J := by
  obtain ⟨a, xs, rfl, h1, p1⟩ := id ha
  refine ⟨a, xs, rfl, SqT.of h1, fun _ => hJ _ _ gs (.refl _ _) ha (fun g h => h) (Nat.le_refl _), fun _ p np => ?_⟩
  refine hJ _ _ ((gs.drop (HT.sIx xs.length 0 lo)).take (HT.sIx xs.length xs.length hi - HT.sIx xs.length 0 lo)) (.new _ np) ⟨p, _, rfl, upd_same, gts_keep (KT.new [] np) ((p1.drop _).take _)⟩ (fun g h => List.mem_of_mem_drop (List.mem_of_mem_take h)) ?_
  rw [List.length_take, List.length_drop]
  omega
theorem filter_head {l : List Nat} {p : Nat → Bool} : (l.filter p).head? = l.find? p := List.head?_filter ..
/-- a gate as data -/
def ctD (c : Ct) : PyData := .tuple [.int c.1, .int (b2 c.2)]
def gtD (g : Gt) : PyData := .tuple [.int g.1, .tuple (g.2.map ctD)]
theorem ct_dp {K : PySem.W.Frag} {H : Hp} {v : V} {c : Ct} (h : PrV H v c) : Dp K H v (ctD c) := by
  obtain ⟨t, rfl, h⟩ := h
  exact .tup (SqT.of h) (.cons (.int _) (.cons (.int _) .nil))
theorem cts_dp {K : PySem.W.Frag} {H : Hp} : ∀ {vs : List V} {cs : List Ct}, P2 (PrV H) vs cs → DpAll K H vs (cs.map ctD)
  | _, _, .nil => .nil
  | _, _, .cons h g => .cons (ct_dp h) (cts_dp g)
theorem gt_dp {K : PySem.W.Frag} {H : Hp} {v : V} {g : Gt} (h : GtV H v g) : Dp K H v (gtD g) := by
  obtain ⟨t, u, vs, rfl, h1, h2, h3⟩ := h
  exact .tup (SqT.of h1) (.cons (.int _) (.cons (.tup (SqT.of h2) (cts_dp h3)) .nil))
theorem gts_dp {K : PySem.W.Frag} {H : Hp} : ∀ {vs : List V} {gs : List Gt}, P2 (GtV H) vs gs → DpAll K H vs (gs.map gtD)
  | _, _, .nil => .nil
  | _, _, .cons h g => .cons (gt_dp h) (gts_dp g)
theorem cts_lay : ∀ cs : List Ct, PyData.canLayAll0 (cs.map ctD) = true
  | [] => rfl
  | c :: r => by
    show (PyData.canLay0 (ctD c) && PyData.canLayAll0 (r.map ctD)) = true
    rw [cts_lay r]
    rfl
theorem cts_deep : ∀ cs : List Ct, PyData.depthAll (cs.map ctD) ≤ 1
  | [] => Nat.zero_le _
  | c :: r => by
    show max (PyData.depth (ctD c)) (PyData.depthAll (r.map ctD)) ≤ 1
    have : PyData.depth (ctD c) = 1 := rfl
    have := cts_deep r
    omega
theorem gts_lay : ∀ gs : List Gt, PyData.canLayAll0 (gs.map gtD) = true
  | [] => rfl
  | g :: r => by
    show ((true && (PyData.canLayAll0 (g.2.map ctD) && true)) && PyData.canLayAll0 (r.map gtD)) = true
    rw [gts_lay r, cts_lay]
    rfl
theorem gts_deep : ∀ gs : List Gt, PyData.depthAll (gs.map gtD) ≤ 3
  | [] => Nat.zero_le _
  | g :: r => by
    show max (max 0 (max (PyData.depthAll (g.2.map ctD) + 1) 0) + 1) (PyData.depthAll (r.map gtD)) ≤ 3
    have h1 := cts_deep g.2
    have h2 := gts_deep r
    omega
theorem shaped_gts (gs : List Gt) : SeqAt.shaped (.tuple (gs.map gtD)) = true := by
  unfold SeqAt.shaped
  rw [Bool.and_eq_true]
  refine ⟨gts_lay gs, decide_eq_true ?_⟩
  show PyData.depthAll (gs.map gtD) + 1 ≤ 64
  have := gts_deep gs
  omega
theorem shaped_circ (w : Nat) (gs : List Gt) : SeqAt.shaped (.tuple [.int w, .tuple (gs.map gtD)]) = true := by
  unfold SeqAt.shaped
  rw [Bool.and_eq_true]
  refine ⟨?_, decide_eq_true ?_⟩
  · show (true && (PyData.canLayAll0 (gs.map gtD) && true)) = true
    rw [gts_lay]
    rfl
  · show max 0 (max (PyData.depthAll (gs.map gtD) + 1) 0) + 1 ≤ 64
    have := gts_deep gs
    omega
theorem shaped_nilT : SeqAt.shaped (.tuple []) = true := shaped_intsT []
theorem eqv_nilT (xs : List PyData) : PyData.eqv (.tuple xs) (.tuple []) = xs.isEmpty := by
  cases xs with
  | nil => rfl
  | cons x r => rfl
section
variable {P : Program} {w : World} {K : PySem.W.Frag} {mg : Str → Option Value} {base : Heap}
theorem ok_parting (T : Txt K mg) : FnOk P w K mg base CX0 3 T.f_parting T.d_parting ["first", "second"] spPart := by
  have G_table := ok_table (P := P) (w := w) (base := base) T
  refine T.F_parting.ok sc_parting (fun vs H Q E h => ?_) (fun cdv A outer s H vs Q E hr h => ?_)
  · obtain ⟨t1, t2, w, gs, hs, rfl, _⟩ := h
    rfl
  · obtain ⟨t1, t2, wn, gs, hs, rfl, C1, C2, g1, g2, hw, q⟩ := h
    obtain ⟨u1, v1, a1, b1, c1⟩ := id C1
    refine ⟨_, (pss_cons (ps_for PassesOwn.never rfl (pi_enZ (by rfl) T.m_enumerate (by rfl) T.m_zip (pa_cons (pe_call G_table (hr.mono (by omega)) (by rfl) T.g_table T.F_table.kp T.b_table .nil pass0 (pa_cons (pv 0) pa_nil)) (pa_cons (pe_call G_table (hr.mono (by omega)) (by rfl) T.g_table T.F_table.kp T.b_table .nil pass0 (pa_cons (pv 1) pa_nil)) pa_nil))) (pg_tup (by rfl) (pgs_cons (pg_name (i := 2) sc_parting.nd rfl (Or.inl rfl)) (pgs_cons (pg_tup (by rfl) (pgs_cons (pg_name (i := 3) sc_parting.nd rfl (Or.inl rfl)) (pgs_cons (pg_name (i := 4) sc_parting.nd rfl (Or.inl rfl)) pgs_nil))) pgs_nil)))
        (pss_one (ps_if (pt_cmpR op_ne (pv 3) (pv 4) (nomark _))
          (pss_one (ps_ret (pv 2)))
          pss_nil)))
      (pss_one (ps_ret pe_non))), ?_⟩
    refine ⟨_, rfl, t1, u1, wn, v1, gs, rfl, a1, b1, c1, fun g hg => (g1 g hg).tab (by omega), hw, fun T1 H1 k1 hT1 => ?_⟩
    obtain ⟨u2, v2, a2, b2', c2⟩ := C2.keep k1
    refine ⟨_, rfl, t2, u2, wn, v2, hs, rfl, a2, b2', c2, fun g hg => (g2 g hg).tab (by omega), hw, fun T2 H2 k2 hT2 => ?_⟩
    have hT1' := k2.tp _ _ hT1
    refine ⟨T1, T2, _, _, rfl, SqT.of hT1', SqT.of hT2, ?_⟩
    refine for_it (walk_ez (K := K) (a := T1) (b := T2) (xs := ivs ((List.range (2 ^ wn)).map (runN gs))) (ys := ivs ((List.range (2 ^ wn)).map (runN hs))) (by rw [ivs_len, ivs_len, List.length_map, List.length_map])) (fun i σ H' => ∃ (x2 x3 x4 : Option V), σ = [some (.ref t1), some (.ref t2), x2, x3, x4] ∧ KT [] H2 H' ∧ ∀ j, j < i → runN gs j = runN hs j) ?_ ?_ ?_ ?_
    · exact ⟨none, none, none, rfl, .refl _ _, fun _ h => absurd h (Nat.not_lt_zero _)⟩
    · rintro i σ H' _ ⟨x2, x3, x4, rfl, k, _⟩
      exact ⟨SqT.of (k.tp _ _ hT1'), SqT.of (k.tp _ _ hT2)⟩
    · rintro i x σ H' H'' hi ⟨x2, x3, x4, rfl, k, he⟩ ⟨TT, U, x, y, rfl, nT, nU, nUT, rfl, hx, hy⟩
      rw [ivs_len, List.length_map, List.length_range] at hi
      obtain ⟨n1, hn1, rfl⟩ := ivs_get hx
      obtain ⟨n2, hn2, rfl⟩ := ivs_get hy
      rw [List.getElem?_map, List.getElem?_range hi] at hn1 hn2
      cases hn1
      cases hn2
      have kT := KT.new [] nT (o := .tup [.int (i : Nat), .ref U])
      have kU := KT.new [] (show (upd H' TT (.tup [.int (i : Nat), .ref U])) U = none by rw [upd_ne nUT]; exact nU) (o := .tup [.int (runN gs i : Nat), .int (runN hs i : Nat)])
      refine ⟨TT, _, rfl, SqT.of (kU.tp _ _ upd_same), rfl, _, _, rfl, _, _, rfl, ⟨U, _, rfl, SqT.of upd_same, rfl, _, _, rfl, _, _, rfl, rfl, rfl, ?_⟩⟩
      refine ⟨_, rfl, _, rfl, rfl, _, rfl, ?_⟩
      rw [eqN]
      by_cases h : runN gs i = runN hs i
      · rw [decide_eq_true h]
        refine ite_f (by decide) ⟨_, _, _, rfl, k.trans (kT.trans kU), fun j hj => ?_⟩
        rcases Nat.lt_or_ge j i with h2 | h2
        · exact he j h2
        · rw [show j = i from by omega]
          exact h
      · rw [decide_eq_false h]
        refine ite_t rfl ⟨_, rfl, ?_⟩
        have e : partN wn gs hs = some i := by
          unfold partN
          rw [List.find?_range_eq_some]
          exact ⟨by simpa using h, List.mem_range.mpr hi, fun j hj => by simpa using he j hj⟩
        have := q _ ((k1.trans k2).trans (k.trans (kT.trans kU)))
        rw [e] at this
        exact this
    · rintro σ H' ⟨x2, x3, x4, rfl, k, he⟩
      rw [ivs_len, List.length_map, List.length_range] at he
      have e : partN wn gs hs = none := by
        unfold partN
        rw [List.find?_eq_none]
        intro j hj
        simpa using he j (List.mem_range.mp hj)
      have := q _ ((k1.trans k2).trans k)
      rw [e] at this
      exact this
end

end My

set_option Elab.async false
set_option linter.all false
set_option maxRecDepth 100000
namespace My
open PySem PySem.Spec PyProof.Rows L2
section
variable {P : Program} {w : World} {K : PySem.W.Frag} {mg : Str → Option Value} {base : Heap}
set_option maxHeartbeats 8000000 in
theorem ok_law (T : Txt K mg) : FnOk P w K mg base CX0 4 T.f_law T.d_law ["script"] (spLaw K) := by
  have G_z_draw := ok_z_draw (P := P) (w := w) (base := base) T
  have G_z_take := okG_z_take (P := P) (w := w) (base := base) T
  have G_z_bits := ok_z_bits (P := P) (w := w) (base := base) T
  have G_as_bits := ok_as_bits (P := P) (w := w) (base := base) T
  have G_as_number := ok_as_number (P := P) (w := w) (base := base) T
  have G_z_circuit := ok_z_circuit (P := P) (w := w) (base := base) T
  have G_z_gate := ok_z_gate (P := P) (w := w) (base := base) T
  have G_z_map := ok_z_map (P := P) (w := w) (base := base) T
  have G_z_mixed := ok_z_mixed (P := P) (w := w) (base := base) T
  have G_z_gates := ok_z_gates (P := P) (w := w) (base := base) T
  have G_table := ok_table (P := P) (w := w) (base := base) T
  have G_from_table := ok_from_table (P := P) (w := w) (base := base) T
  have G_parting := ok_parting (P := P) (w := w) (base := base) T
  refine T.F_law.ok sc_law (fun vs H Q E h => ?_) (fun cdv A outer s H vs Q E hr h => ?_)
  · obtain ⟨a, ns, rfl, _⟩ := h
    rfl
  · obtain ⟨a, ns, rfl, hS, hlen, q⟩ := h
    have hr : Room 3 _ := hr
    refine ⟨_, (pss_cons (ps_set (i := 1) sc_law.nd rfl (Or.inl rfl) (pe_call G_z_draw (hr.mono (by omega)) (by rfl) T.g_z_draw T.F_z_draw.kp T.b_z_draw .nil pass0 (pa_cons (pv 0) pa_nil)))
      (pss_cons (ps_set (i := 2) sc_law.nd rfl (Or.inl rfl) (pe_call G_z_take (hr.mono (by omega)) (by rfl) T.g_z_take T.F_z_take.kp T.b_z_take .nil pass0 (pa_cons (pv 1) (pa_cons pe_int pa_nil))))
      (pss_cons (ps_if (PW.pt (pw_or (pt_cmpR (op_neD hr.units) (pe_call G_as_bits (hr.mono (by omega)) (by rfl) T.g_as_bits T.F_as_bits.kp T.b_as_bits .nil pass0 (pa_cons (pv 2) (pa_cons pe_int pa_nil))) (pe_call G_z_bits (hr.mono (by omega)) (by rfl) T.g_z_bits T.F_z_bits.kp T.b_z_bits .nil pass0 (pa_cons (pv 2) (pa_cons pe_int pa_nil))) (nomark _)) (pw_or (pt_cmpR op_ne (pe_call G_as_number (hr.mono (by omega)) (by rfl) T.g_as_number T.F_as_number.kp T.b_as_number .nil pass0 (pa_cons (pe_call G_z_bits (hr.mono (by omega)) (by rfl) T.g_z_bits T.F_z_bits.kp T.b_z_bits .nil pass0 (pa_cons (pv 2) (pa_cons pe_int pa_nil))) pa_nil)) (pv 2) (nomark _)) (pw_or1 (pt_cmpR op_ne (pe_call G_as_number (hr.mono (by omega)) (by rfl) T.g_as_number T.F_as_number.kp T.b_as_number .nil pass0 (pa_cons (pe_tup pa_nil) pa_nil)) pe_int (nomark _))))))
        (pss_one (ps_ret pe_bl))
        pss_nil)
      (pss_cons (ps_set (i := 3) sc_law.nd rfl (Or.inl rfl) (pe_call G_z_circuit (hr.mono (by omega)) (by rfl) T.g_z_circuit T.F_z_circuit.kp T.b_z_circuit .nil pass0 (pa_cons (pv 1) (pa_cons (pe_op op_add pe_int (pe_call G_z_take (hr.mono (by omega)) (by rfl) T.g_z_take T.F_z_take.kp T.b_z_take .nil pass0 (pa_cons (pv 1) (pa_cons pe_int pa_nil)))) (pa_cons pe_int pa_nil)))))
      (pss_cons (ps_if (pt_cmpR (op_neD hr.units) (pe_call G_table (hr.mono (by omega)) (by rfl) T.g_table T.F_table.kp T.b_table .nil pass0 (pa_cons (pv 3) pa_nil)) (pe_callTy call_tuple_of (by rfl) T.m_tuple (by decide +kernel) (pa_cons (pe_call G_z_map (hr.mono (by omega)) (by rfl) T.g_z_map T.F_z_map.kp T.b_z_map .nil pass0 (pa_cons (pv 3) pa_nil)) pa_nil)) (nomark _))
        (pss_one (ps_ret pe_bl))
        pss_nil)
      (pss_cons (ps_set (i := 4) sc_law.nd rfl (Or.inl rfl) (pe_call G_z_take (hr.mono (by omega)) (by rfl) T.g_z_take T.F_z_take.kp T.b_z_take .nil pass0 (pa_cons (pv 1) (pa_cons pe_int pa_nil))))
      (pss_cons (ps_set (i := 5) sc_law.nd rfl (Or.inl rfl) (pe_call G_z_mixed (hr.mono (by omega)) (by rfl) T.g_z_mixed T.F_z_mixed.kp T.b_z_mixed .nil pass0 (pa_cons (pv 1) (pa_cons (pe_op op_shl pe_int (pv 4)) pa_nil))))
      (pss_cons (ps_cut (ps_if (PW.pt (pw_and (pt_cmpR op_eq (pe_call G_z_take (hr.mono (by omega)) (by rfl) T.g_z_take T.F_z_take.kp T.b_z_take .nil pass0 (pa_cons (pv 1) (pa_cons pe_int pa_nil))) pe_int (nomark _)) (pw_and1 (pt_cmpR op_lt (pe_ix ix_tup (pv 3) pe_int (fun _ _ => rfl)) pe_int (nomark _)))))
        (pss_cons (ps_set (i := 4) sc_law.nd rfl (Or.inl rfl) (pe_ix ix_tup (pv 3) pe_int (fun _ _ => rfl)))
        (pss_one (ps_set (i := 5) sc_law.nd rfl (Or.inl rfl) (pe_call G_z_map (hr.mono (by omega)) (by rfl) T.g_z_map T.F_z_map.kp T.b_z_map .nil pass0 (pa_cons (pv 3) pa_nil)))))
        pss_nil))
      (pss_cons (ps_set (i := 6) sc_law.nd rfl (Or.inl rfl) (pe_call G_from_table (hr.mono (by omega)) (by rfl) T.g_from_table T.F_from_table.kp T.b_from_table .nil pass0 (pa_cons (pe_callTy call_tuple_of (by rfl) T.m_tuple (by decide +kernel) (pa_cons (pv 5) pa_nil)) pa_nil)))
      (pss_cons (ps_if (PW.pt (pw_or (pt_cmpR (op_neD hr.units) (pv 6) (pe_tup (pa_cons (pv 4) (pa_cons (RT.pe_tupRev (by rfl) (by rfl) T.m_tuple (by rfl) T.m_reversed (pe_call G_z_gates (hr.mono (by omega)) (by rfl) T.g_z_gates T.F_z_gates.kp T.b_z_gates .nil pass0 (pa_cons (pv 5) (pa_cons (pv 4) pa_nil)))) pa_nil))) (nomark _)) (pw_or1 (pt_cmpR (op_neD hr.units) (pe_call G_z_map (hr.mono (by omega)) (by rfl) T.g_z_map T.F_z_map.kp T.b_z_map .nil pass0 (pa_cons (pv 6) pa_nil)) (pv 5) (nomark _)))))
        (pss_one (ps_ret pe_bl))
        pss_nil)
      (pss_cons (ps_set (i := 7) sc_law.nd rfl (Or.inl rfl) (pe_ix ix_tup (pv 3) pe_int (fun _ _ => rfl)))
      (pss_cons (ps_cut (ps_if (PW.pt (pw_and (pt_cmpR (op_neD hr.units) (pv 7) (pe_tup pa_nil) (nomark _)) (pw_and1 (pt_cmpR op_gt (pe_call G_z_take (hr.mono (by omega)) (by rfl) T.g_z_take T.F_z_take.kp T.b_z_take .nil pass0 (pa_cons (pv 1) (pa_cons pe_int pa_nil))) pe_int (nomark _)))))
        (pss_cons (ps_set (i := 8) sc_law.nd rfl (Or.inl rfl) (pe_call G_z_take (hr.mono (by omega)) (by rfl) T.g_z_take T.F_z_take.kp T.b_z_take .nil pass0 (pa_cons (pv 1) (pa_cons (pe_callB call_len_seq (by rfl) T.m_len (by decide +kernel) (pa_cons (pv 7) pa_nil)) pa_nil))))
        (pss_one (ps_set (i := 7) sc_law.nd rfl (Or.inl rfl) (pe_cut (pe_op op_catA (pe_cut (pe_op op_catA (pe_slice sl_tupA (pv 7) po_none (po_some (pv 8))) (pe_tup (pa_cons (pe_call G_z_gate (hr.mono (by omega)) (by rfl) T.g_z_gate T.F_z_gate.kp T.b_z_gate .nil pass0 (pa_cons (pv 1) (pa_cons (pe_ix ix_tup (pv 3) pe_int (fun _ _ => rfl)) (pa_cons pe_int pa_nil)))) pa_nil)))) (pe_slice sl_tupA (pv 7) (po_some (pe_op op_add (pv 8) (pe_ix ix_list (pe_lst (pa_cons pe_int (pa_cons pe_int pa_nil))) (pe_call G_z_take (hr.mono (by omega)) (by rfl) T.g_z_take T.F_z_take.kp T.b_z_take .nil pass0 (pa_cons (pv 1) (pa_cons pe_int pa_nil))) (fun _ _ => rfl)))) po_none))))))
        pss_nil))
      (pss_cons (ps_set (i := 9) sc_law.nd rfl (Or.inr rfl) (pe_call G_z_map (hr.mono (by omega)) (by rfl) T.g_z_map T.F_z_map.kp T.b_z_map .nil pass0 (pa_cons (pv 3) pa_nil)))
      (pss_cons (ps_set (i := 10) sc_law.nd rfl (Or.inr rfl) (pe_call G_z_map (hr.mono (by omega)) (by rfl) T.g_z_map T.F_z_map.kp T.b_z_map .nil pass0 (pa_cons (pe_tup (pa_cons (pe_ix ix_tup (pv 3) pe_int (fun _ _ => rfl)) (pa_cons (pv 7) pa_nil))) pa_nil)))
      (pss_cons (ps_setLc (i := 11) (own := [("k", 12)]) (g := gName 12) rfl sc_law.nd rfl rfl (sw_true rfl rfl rfl (by decide +kernel)) (pi_range1 (by rfl) T.m_range (pa_cons (pe_callB call_len_seq (by rfl) T.m_len (by decide +kernel) (pa_cons (pv 9) pa_nil)) pa_nil)) (blkOk_by (own := [("k", 12)]) (N := N_law) (sc := defScope s_law) (by decide +kernel)) (fun _ _ _ _ _ => (pg_name (i := 12) sc_law.nd rfl (Or.inl rfl))) (fun _ _ _ _ _ => (pts_one (pt_cmpR op_ne (pe_ix (ixL (K := K) rfl) (pv 9) (pv 12) (fun _ _ => rfl)) (pe_ix (ixL (K := K) rfl) (pv 10) (pv 12) (fun _ _ => rfl)) (nomark _)))) (fun _ _ _ _ _ => (pv 12)))
      (pss_one (ps_ret (pe_cmpR op_eq (pe_call G_parting (hr.mono (by omega)) (by rfl) T.g_parting T.F_parting.kp T.b_parting .nil pass0 (pa_cons (pv 3) (pa_cons (pe_tup (pa_cons (pe_ix ix_tup (pv 3) pe_int (fun _ _ => rfl)) (pa_cons (pv 7) pa_nil))) pa_nil))) (pe_ifExp (pt_cmpR (op_neD hr.units) (pv 11) (pe_lst pa_nil) (nomark _)) (pe_ix ix_list (pv 11) pe_int (fun _ _ => rfl)) pe_non) (nomark _))))))))))))))))))), ?_⟩
    refine ⟨_, rfl, a, ns, rfl, hS, hlen, fun H1 dr sm ndr D => ?_⟩
    refine ⟨_, rfl, dr, 1000, rfl, D, by decide, by decide, fun r H2 r0 r1 g2 => ?_⟩
    obtain ⟨num, rfl⟩ := int_nat r0
    -- bits of a number
    refine ⟨_, rfl, num, 10, rfl, by decide, fun t1 H3 k3 ht1 => ?_⟩
    refine ⟨_, rfl, num, 10, rfl, by decide, fun t2 H4 k4 ht2 => ?_⟩
    refine ⟨.tuple (((bitsL num 10).map b2).map PyData.int), .tuple (((bitsL num 10).map b2).map PyData.int), .tup (SqT.of (k4.tp _ _ ht1)) (by rw [bvs_int]; exact dp_ints _), .tup (SqT.of ht2) (by rw [bvs_int]; exact dp_ints _), shaped_intsT _, shaped_intsT _, _, rfl, ?_⟩
    rw [SeqAt.eqv_refl _ (SeqAt.canLay_of_shaped (shaped_intsT _))]
    refine ite_f (by decide) ?_
    refine ⟨_, rfl, num, 10, rfl, by decide, fun t3 H5 k5 ht3 => ?_⟩
    refine ⟨t3, _, rfl, ht3, by rw [bitsL_len]; decide, _, rfl, rfl, _, rfl, ?_⟩
    have en : valB (bitsL num 10) = num := by
      rw [valB_bits]
      exact Nat.mod_eq_of_lt (by omega)
    rw [en, decide_eq_true rfl]
    refine ite_f (by decide) ⟨Nat.zero_le _, fun t4 nt4 => ?_⟩
    refine ⟨t4, [], rfl, upd_same, by decide, rfl, _, rfl, ?_⟩
    refine ite_f (by decide) ?_
    have g5 := g2.trans (GS.of g2.d (((k3.trans k4).trans k5).trans (KT.new [] nt4 (o := .tup []))))
    obtain ⟨H6, e6⟩ : ∃ x, upd H5 t4 (.tup []) = x := ⟨_, rfl⟩
    rw [e6] at g5 ⊢
    clear e6 ht1 ht2 ht3 k3 k4 k5 g2 nt4
    -- a circuit
    refine ⟨_, rfl, _, rfl, dr, 6, rfl, g5.d, by decide, by decide, fun r H7 r0 r1 g7 => ?_⟩
    obtain ⟨k, rfl⟩ := int_nat r0
    obtain ⟨wc, ewc⟩ : ∃ wc : Nat, 1 + k = wc := ⟨_, rfl⟩
    have wc1 : 1 ≤ wc := by omega
    have wc6 : wc ≤ 6 := by omega
    refine ⟨_, _, rfl, rfl, dr, wc, 12, (by rw [← ewc]; rfl), g7.d, wc1, by omega, by decide, fun tc uc H8 gvs gs g8 htc huc hP hGW hlen8 => ?_⟩
    have g := (g5.trans g7).trans g8
    clear g5 g7
    have C8 : CircAt H8 tc wc gs := ⟨uc, gvs, htc, huc, hP⟩
    -- its table
    refine ⟨_, rfl, tc, uc, wc, gvs, gs, rfl, htc, huc, hP, fun g hg => (hGW g hg).tab (by omega), by omega, fun T1 H9 k9 hT1 => ?_⟩
    obtain ⟨u9, gv9, a9, b9, c9⟩ := C8.keep k9
    refine ⟨_, rfl, tc, u9, wc, gv9, gs, rfl, a9, b9, c9, hGW, by omega, fun D1 H10 k10 hD1 => ⟨D1, _, rfl, .inl ⟨SqL.of hD1, fun T2 nT2 => ?_⟩⟩⟩
    have kT2 := KT.new [] nT2 (o := .tup (ivs ((List.range (2 ^ wc)).map (runN gs))))
    refine ⟨.tuple ((((List.range (2 ^ wc)).map (runN gs)).map fun (n : Nat) => (n : Int)).map PyData.int), .tuple ((((List.range (2 ^ wc)).map (runN gs)).map fun (n : Nat) => (n : Int)).map PyData.int), .tup (SqT.of (kT2.tp _ _ (k10.tp _ _ hT1))) (by rw [ivs_int]; exact dp_ints _), .tup (SqT.of upd_same) (by rw [ivs_int]; exact dp_ints _), shaped_intsT _, shaped_intsT _, _, rfl, ?_⟩
    rw [SeqAt.eqv_refl _ (SeqAt.canLay_of_shaped (shaped_intsT _))]
    refine ite_f (by decide) ?_
    have k8 := (k9.trans k10).trans kT2
    have g := g.trans (GS.of g8.d k8)
    have C := C8.keep k8
    obtain ⟨Ha, ea⟩ : ∃ x, upd H10 T2 (.tup (ivs ((List.range (2 ^ wc)).map (runN gs)))) = x := ⟨_, rfl⟩
    rw [ea] at g C ⊢
    clear ea k8 kT2 k9 k10 hT1 hD1 a9 b9 c9 htc huc hP C8 g8
    -- a row
    refine ⟨_, rfl, dr, 6, rfl, g.d, by decide, by decide, fun r Hb s0 s1 gb => ?_⟩
    obtain ⟨wn, rfl⟩ := int_nat s0
    have hwn : 2 ^ wn ≤ 64 := Nat.le_trans (Nat.pow_le_pow_right (by decide) (by omega : wn ≤ 6)) (by decide)
    refine ⟨_, rfl, _, rfl, _, _, rfl, rfl, ⟨by omega, by omega, by decide⟩, dr, 2 ^ wn, (by show [V.ref dr, V.int ((1 : Int) * 2 ^ ((wn : Nat) : Int).toNat)] = _; rw [one_shl]), gb.d, by omega, fun R Hc rs gc hR pm => ?_⟩
    have g2 := (g.trans gb).trans gc
    have Cc := C.keep (gb.trans gc).k
    have okR : RowOk wn rs := ⟨by omega, pm.nodup_iff.mpr List.nodup_range, fun x hx => List.mem_range.mp (pm.mem_iff.mp hx), by rw [pm.length_eq, List.length_range]⟩
    clear g gb gc C
    refine ⟨fun σ' H' => ∃ (wn : Nat) (R : Addr) (rs : List Nat), σ' = [some (.ref a), some (.ref dr), some (.int (num : Nat)), some (.ref tc), some (.int (wn : Nat)), some (.ref R), none, none, none, none, none, none, none] ∧ GS dr H1 H' ∧ CircAt H' tc wc gs ∧ H' R = some (.lst (ivs rs)) ∧ RowOk wn rs, ?_, ?_⟩
    · refine ⟨_, rfl, dr, 3, rfl, g2.d, by decide, by decide, fun r Hd u0 u1 gd => ⟨rfl, _, rfl, ?_⟩⟩
      have nRd := ne_dr g2.d hR
      have stay : ∃ (wn' : Nat) (R' : Addr) (rs' : List Nat), [some (V.ref a), some (V.ref dr), some (V.int (num : Nat)), some (V.ref tc), some (V.int (wn : Nat)), some (V.ref R), none, none, none, none, none, none, none] = [some (.ref a), some (.ref dr), some (.int (num : Nat)), some (.ref tc), some (.int (wn' : Nat)), some (.ref R'), none, none, none, none, none, none, none] ∧ GS dr H1 Hd ∧ CircAt Hd tc wc gs ∧ Hd R' = some (.lst (ivs rs')) ∧ RowOk wn' rs' := ⟨wn, R, rs, rfl, g2.trans gd, Cc.keep gd.k, gd.k.kp _ _ (by simp [nRd]) hR, okR⟩
      refine ite2 (fun e => ?_) (fun e => ite_f (by decide) stay)
      obtain ⟨ud, gvd, ad, bd, cd⟩ := Cc.keep gd.k
      refine ⟨_, rfl, tc, _, _, _, rfl, rfl, SqT.of ad, rfl, _, _, rfl, rfl, _, rfl, ite2 (fun e2 => ?_) (fun e2 => stay)⟩
      refine ⟨_, rfl, tc, _, _, _, rfl, rfl, SqT.of ad, rfl, ?_⟩
      refine ⟨_, rfl, tc, ud, wc, gvd, gs, rfl, ad, bd, cd, hGW, by omega, fun D2 He ke hD2 => ?_⟩
      have lt : ∀ g ∈ gs, g.1 < wc := fun g hg => (hGW g hg).1
      refine ⟨wc, D2, _, rfl, (g2.trans gd).trans (GS.of gd.d ke), (Cc.keep gd.k).keep ke, hD2, by omega, ?_, ?_, ?_⟩
      · exact nodup_map (fun x y e => runN_inj (fun g hg => (hGW g hg).apt) e) List.nodup_range
      · intro x hx
        obtain ⟨y, hy, rfl⟩ := List.mem_map.mp hx
        exact runN_lt lt (List.mem_range.mp hy)
      · rw [List.length_map, List.length_range]
    rintro σ Hd ⟨wn, R, rs, rfl, g, C, hR, okR⟩
    -- a circuit for it
    have nRd := ne_dr g.d hR
    refine ⟨_, rfl, R, _, rfl, .inl ⟨SqL.of hR, fun T3 nT3 => ?_⟩⟩
    have kT3 := KT.new [] nT3 (o := .tup (ivs rs))
    refine ⟨T3, wn, rs, rfl, upd_same, okR, fun tm um He gvm ke htm hum hPm => ?_⟩
    have k1 := kT3.trans ke
    have g3 := g.trans (GS.of g.d k1)
    have C3 := C.keep k1
    have hR3 := k1.same _ _ hR
    refine ⟨_, rfl, _, rfl, _, rfl, _, rfl, R, wn, rs, rfl, hR3, okR, fun DG Hf gvz kf hDG hPz => ?_⟩
    refine ⟨DG, _, rfl, SqL.of hDG, fun ur nur => ⟨sz2, fun tr ntr => ?_⟩⟩
    have kr := (KT.new [] nur (o := .tup gvz.reverse)).trans (KT.new [] ntr (o := .tup [.int wn, .ref ur]))
    have hPr := (gts_keep kr hPz).rev
    have hur := (KT.new [] ntr (o := .tup [.int wn, .ref ur])).tp _ _ (upd_same : (upd Hf ur (.tup gvz.reverse)) ur = _)
    have k2 := kf.trans kr
    refine ⟨.tuple [.int wn, .tuple ((syn wn rs).2.reverse.map gtD)], .tuple [.int wn, .tuple ((syn wn rs).2.reverse.map gtD)], .tup (SqT.of (k2.tp _ _ htm)) (.cons (.int _) (.cons (.tup (SqT.of (k2.tp _ _ hum)) (gts_dp (gts_keep k2 hPm))) .nil)), .tup (SqT.of upd_same) (.cons (.int _) (.cons (.tup (SqT.of hur) (gts_dp hPr)) .nil)), shaped_circ _ _, shaped_circ _ _, _, rfl, ?_⟩
    rw [SeqAt.eqv_refl _ (SeqAt.canLay_of_shaped (shaped_circ _ _))]
    refine ite_f (by decide) ?_
    have gwS : ∀ g ∈ (syn wn rs).2.reverse, GW wn g := fun g hg => by
      obtain ⟨a, b, c, d, e⟩ := (syn_tb okR).ap g (List.mem_reverse.mp hg)
      exact ⟨b, fun x hx => ⟨c x hx, a x hx⟩, d, e⟩
    refine ⟨_, rfl, tm, um, wn, _, _, rfl, k2.tp _ _ htm, k2.tp _ _ hum, gts_keep k2 hPm, gwS, okR.1, fun DM Hg kg hDM => ?_⟩
    rw [syn_table okR.2.1 okR.2.2.1 okR.2.2.2] at hDM
    refine ⟨_, rfl, .list ((rs.map fun (n : Nat) => (n : Int)).map PyData.int), .list ((rs.map fun (n : Nat) => (n : Int)).map PyData.int), .lst (SqL.of hDM) (by rw [ivs_int]; exact dp_ints _), .lst (SqL.of (kg.same _ _ (k2.same _ _ hR3))) (by rw [ivs_int]; exact dp_ints _), shaped_ints _, shaped_ints _, _, rfl, ?_⟩
    rw [SeqAt.eqv_refl _ (SeqAt.canLay_of_shaped (shaped_ints _))]
    refine ite_f (by decide) ?_
    have g4 := g3.trans (GS.of g3.d (k2.trans kg))
    have C4 := C3.keep (k2.trans kg)
    clear hDM hPr hur kr hDG hPz htm hum hPm hR3 C3 g3 k1 kT3 ke kf k2 kg
    -- another circuit
    obtain ⟨u4, gv4, a4, b4, c4⟩ := id C4
    refine ⟨_, rfl, tc, _, _, _, rfl, rfl, SqT.of a4, rfl, ?_⟩
    refine ⟨fun σ' H' => ∃ (x8 : Option V) (v : V) (hs : List Gt), σ' = [some (.ref a), some (.ref dr), some (.int (num : Nat)), some (.ref tc), some (.int (wn : Nat)), some (.ref R), some (.ref tm), some v, x8, none, none, none, none] ∧ GS dr H1 H' ∧ CircAt H' tc wc gs ∧ TupG H' v hs ∧ (∀ g ∈ hs, GW wc g), ?_, ?_⟩
    · have stay : ∀ H', GS dr Hg H' → ∃ (x8 : Option V) (v : V) (hs : List Gt), [some (V.ref a), some (V.ref dr), some (V.int (num : Nat)), some (V.ref tc), some (V.int (wn : Nat)), some (V.ref R), some (V.ref tm), some (V.ref u4), none, none, none, none, none] = [some (.ref a), some (.ref dr), some (.int (num : Nat)), some (.ref tc), some (.int (wn : Nat)), some (.ref R), some (.ref tm), some v, x8, none, none, none, none] ∧ GS dr H1 H' ∧ CircAt H' tc wc gs ∧ TupG H' v hs ∧ (∀ g ∈ hs, GW wc g) := fun H' g' => ⟨none, _, gs, rfl, g4.trans g', C4.keep g'.k, ⟨u4, gv4, rfl, g'.k.tp _ _ b4, gts_keep g'.k c4⟩, hGW⟩
      refine ⟨_, rfl, Nat.zero_le _, fun t5 nt5 => ?_⟩
      have k5 := KT.new [] nt5 (o := .tup [])
      refine ⟨.tuple (gs.map gtD), .tuple [], .tup (SqT.of (k5.tp _ _ b4)) (gts_dp (gts_keep k5 c4)), .tup (SqT.of upd_same) .nil, shaped_gts _, shaped_nilT, _, rfl, ?_⟩
      rw [eqv_nilT]
      have g5 := GS.of g4.d k5
      by_cases hgs : gs = []
      · have hb : (gs.map gtD).isEmpty = true := by rw [hgs]; rfl
        rw [hb]
        exact ite_f (by decide) (ite_f (by decide) (stay _ g5))
      · have hb : (gs.map gtD).isEmpty = false := by
          cases gs with
          | nil => exact absurd rfl hgs
          | cons g0 gr => rfl
        have hpos : 0 < gs.length := List.length_pos_iff.mpr hgs
        rw [hb]
        refine ite_t rfl ⟨_, rfl, dr, 4, rfl, g5.d, by decide, by decide, fun r Hh u0 u1 gh => ⟨_, _, rfl, rfl, _, rfl, ite2 (fun e2 => ?_) (fun e2 => stay _ (g5.trans gh))⟩⟩
        have g6 := g5.trans gh
        have l4 := c4.len
        refine ⟨_, rfl, _, rfl, u4, _, rfl, .inr (SqT.of (g6.k.tp _ _ b4)), dr, ((gv4.length : Nat) : Int), rfl, g6.d, ?_, ?_, fun at' Hi v0 v1 gi => ?_⟩
        · rw [l4]
          omega
        · rw [l4]
          exact Int.le_trans (by omega : _ ≤ (100 : Int)) (by decide)
        have g7 := g6.trans gi
        have T7 : TupG Hi (.ref u4) gs := ⟨u4, gv4, rfl, g7.k.tp _ _ b4, gts_keep g7.k c4⟩
        refine ⟨fun v H' => ∃ ks : List Gt, GS dr Hg H' ∧ TupG H' v ks ∧ (∀ g ∈ ks, GW wc g) ∧ ks.length ≤ 300, ?_, ?_⟩
        · refine ⟨fun v H' => ∃ ks : List Gt, GS dr Hg H' ∧ TupG H' v ks ∧ (∀ g ∈ ks, GW wc g) ∧ ks.length ≤ 200, ?_, ?_⟩
          · refine ⟨_, rfl, _, rfl, at', rfl, sl_g T7 fun v1 Hj ks1 kj t1 m1 ln1 => ?_⟩
            have g8 := g7.trans (GS.of g7.d kj)
            refine ⟨_, rfl, _, rfl, tc, _, _, _, rfl, rfl, SqT.of (g8.k.tp _ _ a4), rfl, dr, wc, 9, rfl, g8.d, wc1, by omega, fun v2 Hk gg gk gv gw => ⟨sz1, fun t6 nt6 => ?_⟩⟩
            have k6 := KT.new [] nt6 (o := .tup [v2])
            have g9 := (g8.trans gk).trans (GS.of gk.d k6)
            refine cat_g (t1.keep (gk.trans (GS.of gk.d k6)).k) ⟨t6, [v2], rfl, upd_same, .cons (gv.keep k6) .nil⟩ (by rw [List.length_singleton]; omega) fun v3 Hl ks3 kl t3 m3 ln3 => ?_
            refine ⟨ks3, g9.trans (GS.of g9.d kl), t3, fun g hg => ?_, by rw [List.length_singleton] at ln3; omega⟩
            rcases m3 g hg with h | h
            · exact hGW g (m1 g h)
            · rw [List.mem_singleton.mp h]; exact gw
          · rintro v1 Hj ⟨ks1, gj, t1, m1, ln1⟩
            refine ⟨_, rfl, _, rfl, Nat.le_of_ble_eq_true rfl, fun l6 nl6 => ?_⟩
            have k6 := KT.new [] nl6 (o := .lst [.int 0, .int 1])
            have gj2 := gj.trans (GS.of gj.d k6)
            refine ⟨_, rfl, dr, 2, rfl, gj2.d, by decide, by decide, fun r Hk w0 w1 gk => ?_⟩
            have nl6d := ne_new gj.d nl6
            have hl6 := gk.k.kp _ _ (by simp [nl6d]) (upd_same : (upd Hj l6 (.lst [.int 0, .int 1])) l6 = _)
            obtain ⟨ov, hov, mov⟩ := atI_in (xs := [V.int 0, .int 1]) w0 w1
            obtain ⟨oi, rfl⟩ : ∃ z : Int, ov = .int z := by
              simp only [List.mem_cons, List.not_mem_nil, or_false] at mov
              rcases mov with rfl | rfl
              · exact ⟨0, rfl⟩
              · exact ⟨1, rfl⟩
            have gk2 := gj2.trans gk
            refine ⟨l6, _, r, _, rfl, rfl, SqL.of hl6, hov, _, _, rfl, rfl, _, rfl, ?_⟩
            dsimp only [tNoPart]
            refine sl_g (K := K) (TupG.keep gk2.k ⟨u4, gv4, rfl, b4, c4⟩) fun v2 Hl ks2 kl t2 m2 ln2 => ?_
            refine cat_g (t1.keep ((GS.of gj.d k6).trans gk |>.trans (GS.of gk.d kl)).k) t2 (by omega) fun v3 Hm ks3 km t3 m3 ln3 => ?_
            refine ⟨ks3, (gk2.trans (GS.of gk.d kl)).trans (GS.of (GS.of gk.d kl).d km), t3, fun g hg => ?_, by omega⟩
            rcases m3 g hg with h | h
            · exact m1 g h
            · exact hGW g (m2 g h)
        · rintro v3 Hm ⟨ks3, gm, t3, m3, ln3⟩
          exact ⟨_, _, ks3, rfl, g4.trans gm, C4.keep gm.k, t3, m3⟩
    rintro σ Hh ⟨x8, v, hs, rfl, g5, C5, hv, hGW5⟩
    obtain ⟨vh, gvh, rfl, hvh, hPh⟩ := hv
    obtain ⟨u5, gv5, a5, b5, c5⟩ := id C5
    have wc9 : wc ≤ 9 := by omega
    refine ⟨_, rfl, tc, u5, wc, gv5, gs, rfl, a5, b5, c5, hGW, wc9, fun DO Hi ki hDO => ?_⟩
    refine ⟨_, rfl, tc, _, _, _, rfl, rfl, SqT.of (ki.tp _ _ a5), rfl, _, rfl, sz2, fun t6 nt6 => ?_⟩
    have k6 := KT.new [] nt6 (o := .tup [.int wc, .ref vh])
    have ki6 := ki.trans k6
    refine ⟨t6, vh, wc, gvh, hs, rfl, upd_same, ki6.tp _ _ hvh, gts_keep ki6 hPh, hGW5, wc9, fun DT Hj kj hDT => ?_⟩
    have hDO2 := kj.same _ _ (k6.same _ _ hDO)
    have kij := ki6.trans kj
    have p64 : 2 ^ wc ≤ 64 := Nat.le_trans (Nat.pow_le_pow_right (by decide) wc6) (by decide)
    have lO : (ivs ((List.range (2 ^ wc)).map (runN gs))).length = 2 ^ wc := by rw [ivs_len, List.length_map, List.length_range]
    refine ⟨_, rfl, _, _, rfl, .inl (SqL.of hDO2), ((ivs ((List.range (2 ^ wc)).map (runN gs))).length : Int), rfl, by omega, by rw [lO]; omega, fun DA nDA => ?_⟩
    have e0 : ((ivs ((List.range (2 ^ wc)).map (runN gs))).length : Int).toNat = 2 ^ wc := by rw [lO]; rfl
    rw [e0]
    refine lc_range (fun i H2 => KT [] Hj H2 ∧ H2 DA = some (.lst (ivs ((List.range i).filter fun k => runN gs k != runN hs k)))) ?_ ?_ ?_
    · exact ⟨KT.new _ nDA, upd_same⟩
    · rintro i H2 hi ⟨k, hD⟩
      rw [Int.zero_add]
      have gi : ∀ fs : List Gt, ((List.range (2 ^ wc)).map (runN fs))[i]? = some (runN fs i) := fun fs => by
        rw [List.getElem?_map, List.getElem?_range hi]
        rfl
      have ef : (List.range (i + 1)).filter (fun k => runN gs k != runN hs k) = (List.range i).filter (fun k => runN gs k != runN hs k) ++ (if (runN gs i != runN hs i) = true then [i] else []) := by
        rw [List.range_succ, List.filter_append]
        congr 1
        by_cases h : (runN gs i != runN hs i) = true <;> simp [h]
      rw [ef]
      refine ⟨rfl, _, rfl, _, rfl, DO, _, _, _, rfl, rfl, SqL.of (k.same _ _ hDO2), ivs_at (gi gs), _, rfl, _, rfl, DT, _, _, _, rfl, rfl, SqL.of (k.same _ _ hDT), ivs_at (gi hs), rfl, _, rfl, ?_⟩
      rw [eqN]
      by_cases h : runN gs i = runN hs i
      · rw [decide_eq_true h]
        refine ite_f (by decide) ⟨k, ?_⟩
        rw [if_neg (by rw [h]; simp), List.append_nil]
        exact hD
      · rw [decide_eq_false h]
        refine ite_t rfl ⟨_, rfl, _, hD, ?_, k.late nDA, ?_⟩
        · rw [ivs_len]
          refine Nat.lt_of_le_of_lt (Nat.le_trans (List.length_filter_le ..) ?_) (by decide : 1000 < sizeLine)
          rw [List.length_range]
          omega
        · rw [upd_same, if_pos (by simpa using h), ivs_snoc]
    rintro Hk ⟨k, hDA⟩
    have kall := kij.trans k
    -- parting
    refine ⟨_, rfl, _, rfl, tc, _, _, _, rfl, rfl, SqT.of (kall.tp _ _ a5), rfl, _, rfl, sz2, fun t7 nt7 => ?_⟩
    have k7 := KT.new [] nt7 (o := .tup [.int wc, .ref vh])
    refine ⟨tc, t7, wc, gs, hs, rfl, (C5.keep kall).keep k7, ⟨vh, gvh, upd_same, k7.tp _ _ (kall.tp _ _ hvh), gts_keep k7 (gts_keep kall hPh)⟩, hGW, hGW5, wc9, fun Hl kl => ?_⟩
    have hDA2 := kl.same _ _ (k7.same _ _ hDA)
    refine ⟨_, rfl, Nat.zero_le _, fun l8 nl8 => ?_⟩
    have k8 := KT.new [] nl8 (o := .lst [])
    have ep : partN wc gs hs = ((List.range (2 ^ wc)).filter fun k => runN gs k != runN hs k).head? := filter_head.symm
    rw [ep]
    obtain ⟨ap, eap⟩ : ∃ x, (List.range (2 ^ wc)).filter (fun k => runN gs k != runN hs k) = x := ⟨_, rfl⟩
    rw [eap] at hDA2 ⊢
    refine ⟨.list ((ap.map fun (n : Nat) => (n : Int)).map PyData.int), .list [], .lst (SqL.of (k8.same _ _ hDA2)) (by rw [ivs_int]; exact dp_ints _), .lst (SqL.of upd_same) .nil, shaped_ints _, shaped_nil, _, rfl, ?_⟩
    rw [eqv_nil]
    cases ap with
    | nil =>
      refine ite_f (by decide) ⟨rfl, ?_⟩
      exact q _
    | cons x r =>
      refine ite_t rfl ⟨_, rfl, DA, _, _, _, rfl, rfl, SqL.of (k8.same _ _ hDA2), (show atI (ivs (x :: r)) 0 = some (V.int (x : Nat)) from ivs_at (ns := x :: r) (i := 0) rfl), rfl, ?_⟩
      have e : decide (optV (x :: r).head? = V.int (x : Int)) = true := decide_eq_true rfl
      show Q (V.bl (decide (optV (x :: r).head? = V.int (x : Int)))) _
      rw [e]
      exact q _
end

end My

set_option Elab.async false
set_option linter.all false
set_option maxRecDepth 100000
namespace My
open PySem PySem.Spec PyProof.Rows L2
theorem all_mk {l : PySem.W.OpenLaw} {w : World} {K : PySem.W.Frag} {h : Heap} {mg : Str → Option Value} {fa : Addr} (X : K.In h) (G : h.Ns mainGlobals mg) (hfa : mg "law" = some (.ref fa))
    {f0 : Addr} {od0 an0 : Option Addr} {sl0 : Array (Option Value)} {oc0 kV0 dc0 pm0 cd0 ct0 : Value}
    {f1 : Addr} {od1 an1 : Option Addr} {sl1 : Array (Option Value)} {oc1 kV1 dc1 pm1 cd1 ct1 : Value}
    {f2 : Addr} {od2 an2 : Option Addr} {sl2 : Array (Option Value)} {oc2 kV2 dc2 pm2 cd2 ct2 : Value}
    {f3 : Addr} {od3 an3 : Option Addr} {sl3 : Array (Option Value)} {oc3 kV3 dc3 pm3 cd3 ct3 : Value}
    {f4 : Addr} {od4 an4 : Option Addr} {sl4 : Array (Option Value)} {oc4 kV4 dc4 pm4 cd4 ct4 : Value}
    {f5 : Addr} {od5 an5 : Option Addr} {sl5 : Array (Option Value)} {oc5 kV5 dc5 pm5 cd5 ct5 : Value}
    {f6 : Addr} {od6 an6 : Option Addr} {sl6 : Array (Option Value)} {oc6 kV6 dc6 pm6 cd6 ct6 : Value}
    {f7 : Addr} {od7 an7 : Option Addr} {sl7 : Array (Option Value)} {oc7 kV7 dc7 pm7 cd7 ct7 : Value}
    {f8 : Addr} {od8 an8 : Option Addr} {sl8 : Array (Option Value)} {oc8 kV8 dc8 pm8 cd8 ct8 : Value}
    {f9 : Addr} {od9 an9 : Option Addr} {sl9 : Array (Option Value)} {oc9 kV9 dc9 pm9 cd9 ct9 : Value}
    {f10 : Addr} {od10 an10 : Option Addr} {sl10 : Array (Option Value)} {oc10 kV10 dc10 pm10 cd10 ct10 : Value}
    {f11 : Addr} {od11 an11 : Option Addr} {sl11 : Array (Option Value)} {oc11 kV11 dc11 pm11 cd11 ct11 : Value}
    {f12 : Addr} {od12 an12 : Option Addr} {sl12 : Array (Option Value)} {oc12 kV12 dc12 pm12 cd12 ct12 : Value}
    {f13 : Addr} {od13 an13 : Option Addr} {sl13 : Array (Option Value)} {oc13 kV13 dc13 pm13 cd13 ct13 : Value}
    {f14 : Addr} {od14 an14 : Option Addr} {sl14 : Array (Option Value)} {oc14 kV14 dc14 pm14 cd14 ct14 : Value}
    {f15 : Addr} {od15 an15 : Option Addr} {sl15 : Array (Option Value)} {oc15 kV15 dc15 pm15 cd15 ct15 : Value}
    {f16 : Addr} {od16 an16 : Option Addr} {sl16 : Array (Option Value)} {oc16 kV16 dc16 pm16 cd16 ct16 : Value}
    {f17 : Addr} {od17 an17 : Option Addr} {sl17 : Array (Option Value)} {oc17 kV17 dc17 pm17 cd17 ct17 : Value}
    {f18 : Addr} {od18 an18 : Option Addr} {sl18 : Array (Option Value)} {oc18 kV18 dc18 pm18 cd18 ct18 : Value}
    {f19 : Addr} {od19 an19 : Option Addr} {sl19 : Array (Option Value)} {oc19 kV19 dc19 pm19 cd19 ct19 : Value}
    (a0 : PySem.W.nsIn K mainGlobals "as_number" = some (some (.ref f0))) (l0 : K.lookup f0 = some ⟨oc0, od0, .func (PySem.W.fnOf "as_number" "as_number" (defArgs s_as_number) (defBody s_as_number) (defScope s_as_number) .none kV0 dc0 pm0 an0 cd0 ct0), sl0⟩) (c0 : PySem.W.codeIn K cd0 "as_number" = true) (k0 : PySem.W.keepIn K (.ref f0) = true)
    (a1 : PySem.W.nsIn K mainGlobals "as_bits" = some (some (.ref f1))) (l1 : K.lookup f1 = some ⟨oc1, od1, .func (PySem.W.fnOf "as_bits" "as_bits" (defArgs s_as_bits) (defBody s_as_bits) (defScope s_as_bits) .none kV1 dc1 pm1 an1 cd1 ct1), sl1⟩) (c1 : PySem.W.codeIn K cd1 "as_bits" = true) (k1 : PySem.W.keepIn K (.ref f1) = true)
    (a2 : PySem.W.nsIn K mainGlobals "turned" = some (some (.ref f2))) (l2 : K.lookup f2 = some ⟨oc2, od2, .func (PySem.W.fnOf "turned" "turned" (defArgs s_turned) (defBody s_turned) (defScope s_turned) .none kV2 dc2 pm2 an2 cd2 ct2), sl2⟩) (c2 : PySem.W.codeIn K cd2 "turned" = true) (k2 : PySem.W.keepIn K (.ref f2) = true)
    (a3 : PySem.W.nsIn K mainGlobals "table" = some (some (.ref f3))) (l3 : K.lookup f3 = some ⟨oc3, od3, .func (PySem.W.fnOf "table" "table" (defArgs s_table) (defBody s_table) (defScope s_table) .none kV3 dc3 pm3 an3 cd3 ct3), sl3⟩) (c3 : PySem.W.codeIn K cd3 "table" = true) (k3 : PySem.W.keepIn K (.ref f3) = true)
    (a4 : PySem.W.nsIn K mainGlobals "lacks" = some (some (.ref f4))) (l4 : K.lookup f4 = some ⟨oc4, od4, .func (PySem.W.fnOf "lacks" "lacks" (defArgs s_lacks) (defBody s_lacks) (defScope s_lacks) .none kV4 dc4 pm4 an4 cd4 ct4), sl4⟩) (c4 : PySem.W.codeIn K cd4 "lacks" = true) (k4 : PySem.W.keepIn K (.ref f4) = true)
    (a5 : PySem.W.nsIn K mainGlobals "all_ones" = some (some (.ref f5))) (l5 : K.lookup f5 = some ⟨oc5, od5, .func (PySem.W.fnOf "all_ones" "all_ones" (defArgs s_all_ones) (defBody s_all_ones) (defScope s_all_ones) .none kV5 dc5 pm5 an5 cd5 ct5), sl5⟩) (c5 : PySem.W.codeIn K cd5 "all_ones" = true) (k5 : PySem.W.keepIn K (.ref f5) = true)
    (a6 : PySem.W.nsIn K mainGlobals "from_table" = some (some (.ref f6))) (l6 : K.lookup f6 = some ⟨oc6, od6, .func (PySem.W.fnOf "from_table" "from_table" (defArgs s_from_table) (defBody s_from_table) (defScope s_from_table) .none kV6 dc6 pm6 an6 cd6 ct6), sl6⟩) (c6 : PySem.W.codeIn K cd6 "from_table" = true) (k6 : PySem.W.keepIn K (.ref f6) = true)
    (a7 : PySem.W.nsIn K mainGlobals "parting" = some (some (.ref f7))) (l7 : K.lookup f7 = some ⟨oc7, od7, .func (PySem.W.fnOf "parting" "parting" (defArgs s_parting) (defBody s_parting) (defScope s_parting) .none kV7 dc7 pm7 an7 cd7 ct7), sl7⟩) (c7 : PySem.W.codeIn K cd7 "parting" = true) (k7 : PySem.W.keepIn K (.ref f7) = true)
    (a8 : PySem.W.nsIn K mainGlobals "_law_draw" = some (some (.ref f8))) (l8 : K.lookup f8 = some ⟨oc8, od8, .func (PySem.W.fnOf "_law_draw" "_law_draw" (defArgs s_z_draw) (defBody s_z_draw) (defScope s_z_draw) .none kV8 dc8 pm8 an8 cd8 ct8), sl8⟩) (c8 : PySem.W.codeIn K cd8 "_law_draw" = true) (k8 : PySem.W.keepIn K (.ref f8) = true)
    (a9 : PySem.W.nsIn K mainGlobals "_law_take" = some (some (.ref f9))) (l9 : K.lookup f9 = some ⟨oc9, od9, .func (PySem.W.fnOf "_law_take" "_law_take" (defArgs s_z_take) (defBody s_z_take) (defScope s_z_take) .none kV9 dc9 pm9 an9 cd9 ct9), sl9⟩) (c9 : PySem.W.codeIn K cd9 "_law_take" = true) (k9 : PySem.W.keepIn K (.ref f9) = true)
    (a10 : PySem.W.nsIn K mainGlobals "_law_gate" = some (some (.ref f10))) (l10 : K.lookup f10 = some ⟨oc10, od10, .func (PySem.W.fnOf "_law_gate" "_law_gate" (defArgs s_z_gate) (defBody s_z_gate) (defScope s_z_gate) .none kV10 dc10 pm10 an10 cd10 ct10), sl10⟩) (c10 : PySem.W.codeIn K cd10 "_law_gate" = true) (k10 : PySem.W.keepIn K (.ref f10) = true)
    (a11 : PySem.W.nsIn K mainGlobals "_law_circuit" = some (some (.ref f11))) (l11 : K.lookup f11 = some ⟨oc11, od11, .func (PySem.W.fnOf "_law_circuit" "_law_circuit" (defArgs s_z_circuit) (defBody s_z_circuit) (defScope s_z_circuit) .none kV11 dc11 pm11 an11 cd11 ct11), sl11⟩) (c11 : PySem.W.codeIn K cd11 "_law_circuit" = true) (k11 : PySem.W.keepIn K (.ref f11) = true)
    (a12 : PySem.W.nsIn K mainGlobals "_law_turned" = some (some (.ref f12))) (l12 : K.lookup f12 = some ⟨oc12, od12, .func (PySem.W.fnOf "_law_turned" "_law_turned" (defArgs s_z_turned) (defBody s_z_turned) (defScope s_z_turned) .none kV12 dc12 pm12 an12 cd12 ct12), sl12⟩) (c12 : PySem.W.codeIn K cd12 "_law_turned" = true) (k12 : PySem.W.keepIn K (.ref f12) = true)
    (a13 : PySem.W.nsIn K mainGlobals "_law_bits" = some (some (.ref f13))) (l13 : K.lookup f13 = some ⟨oc13, od13, .func (PySem.W.fnOf "_law_bits" "_law_bits" (defArgs s_z_bits) (defBody s_z_bits) (defScope s_z_bits) .none kV13 dc13 pm13 an13 cd13 ct13), sl13⟩) (c13 : PySem.W.codeIn K cd13 "_law_bits" = true) (k13 : PySem.W.keepIn K (.ref f13) = true)
    (a14 : PySem.W.nsIn K mainGlobals "_law_value" = some (some (.ref f14))) (l14 : K.lookup f14 = some ⟨oc14, od14, .func (PySem.W.fnOf "_law_value" "_law_value" (defArgs s_z_value) (defBody s_z_value) (defScope s_z_value) .none kV14 dc14 pm14 an14 cd14 ct14), sl14⟩) (c14 : PySem.W.codeIn K cd14 "_law_value" = true) (k14 : PySem.W.keepIn K (.ref f14) = true)
    (a15 : PySem.W.nsIn K mainGlobals "_law_map" = some (some (.ref f15))) (l15 : K.lookup f15 = some ⟨oc15, od15, .func (PySem.W.fnOf "_law_map" "_law_map" (defArgs s_z_map) (defBody s_z_map) (defScope s_z_map) .none kV15 dc15 pm15 an15 cd15 ct15), sl15⟩) (c15 : PySem.W.codeIn K cd15 "_law_map" = true) (k15 : PySem.W.keepIn K (.ref f15) = true)
    (a16 : PySem.W.nsIn K mainGlobals "_law_mixed" = some (some (.ref f16))) (l16 : K.lookup f16 = some ⟨oc16, od16, .func (PySem.W.fnOf "_law_mixed" "_law_mixed" (defArgs s_z_mixed) (defBody s_z_mixed) (defScope s_z_mixed) .none kV16 dc16 pm16 an16 cd16 ct16), sl16⟩) (c16 : PySem.W.codeIn K cd16 "_law_mixed" = true) (k16 : PySem.W.keepIn K (.ref f16) = true)
    (a17 : PySem.W.nsIn K mainGlobals "_law_turn" = some (some (.ref f17))) (l17 : K.lookup f17 = some ⟨oc17, od17, .func (PySem.W.fnOf "_law_turn" "_law_turn" (defArgs s_z_turn) (defBody s_z_turn) (defScope s_z_turn) .none kV17 dc17 pm17 an17 cd17 ct17), sl17⟩) (c17 : PySem.W.codeIn K cd17 "_law_turn" = true) (k17 : PySem.W.keepIn K (.ref f17) = true)
    (a18 : PySem.W.nsIn K mainGlobals "_law_gates" = some (some (.ref f18))) (l18 : K.lookup f18 = some ⟨oc18, od18, .func (PySem.W.fnOf "_law_gates" "_law_gates" (defArgs s_z_gates) (defBody s_z_gates) (defScope s_z_gates) .none kV18 dc18 pm18 an18 cd18 ct18), sl18⟩) (c18 : PySem.W.codeIn K cd18 "_law_gates" = true) (k18 : PySem.W.keepIn K (.ref f18) = true)
    (a19 : PySem.W.nsIn K mainGlobals "law" = some (some (.ref f19))) (l19 : K.lookup f19 = some ⟨oc19, od19, .func (PySem.W.fnOf "law" "law" (defArgs s_law) (defBody s_law) (defScope s_law) .none kV19 dc19 pm19 an19 cd19 ct19), sl19⟩) (c19 : PySem.W.codeIn K cd19 "law" = true) (k19 : PySem.W.keepIn K (.ref f19) = true)
    (z0 : PySem.W.nsIn K mainGlobals "abs" = some none)
    (z1 : PySem.W.nsIn K mainGlobals "enumerate" = some none)
    (z2 : PySem.W.nsIn K mainGlobals "int" = some none)
    (z3 : PySem.W.nsIn K mainGlobals "len" = some none)
    (z4 : PySem.W.nsIn K mainGlobals "list" = some none)
    (z5 : PySem.W.nsIn K mainGlobals "range" = some none)
    (z6 : PySem.W.nsIn K mainGlobals "reversed" = some none)
    (z7 : PySem.W.nsIn K mainGlobals "sum" = some none)
    (z8 : PySem.W.nsIn K mainGlobals "tuple" = some none)
    (z9 : PySem.W.nsIn K mainGlobals "zip" = some none)
    : ∃ fd : FuncData, (∀ (s : Shared) (v : Value), BindsTo s fd ⟨[v], []⟩ [("script", v)]) ∧ ∀ base : Heap, K.In base → base.Ns mainGlobals mg → FnOk l.prog w K mg base CX0 4 fa fd ["script"] (spLaw K) := by
  have e := hfa.symm.trans (PySem.W.mg_of X G a19)
  cases e
  have F0 := fun_mk (st := s_as_number) l0 c0 k0
  have F1 := fun_mk (st := s_as_bits) l1 c1 k1
  have F2 := fun_mk (st := s_turned) l2 c2 k2
  have F3 := fun_mk (st := s_table) l3 c3 k3
  have F4 := fun_mk (st := s_lacks) l4 c4 k4
  have F5 := fun_mk (st := s_all_ones) l5 c5 k5
  have F6 := fun_mk (st := s_from_table) l6 c6 k6
  have F7 := fun_mk (st := s_parting) l7 c7 k7
  have F8 := fun_mk (st := s_z_draw) l8 c8 k8
  have F9 := fun_mk (st := s_z_take) l9 c9 k9
  have F10 := fun_mk (st := s_z_gate) l10 c10 k10
  have F11 := fun_mk (st := s_z_circuit) l11 c11 k11
  have F12 := fun_mk (st := s_z_turned) l12 c12 k12
  have F13 := fun_mk (st := s_z_bits) l13 c13 k13
  have F14 := fun_mk (st := s_z_value) l14 c14 k14
  have F15 := fun_mk (st := s_z_map) l15 c15 k15
  have F16 := fun_mk (st := s_z_mixed) l16 c16 k16
  have F17 := fun_mk (st := s_z_turn) l17 c17 k17
  have F18 := fun_mk (st := s_z_gates) l18 c18 k18
  have F19 := fun_mk (st := s_law) l19 c19 k19
  have b0 := F0.binds (ps := ["bits"]) fun _ _ _ _ _ _ us hl => match us, hl with | [_], _ => rfl
  have b1 := F1.binds (ps := ["number", "wires"]) fun _ _ _ _ _ _ us hl => match us, hl with | [_, _], _ => rfl
  have b2 := F2.binds (ps := ["images", "gate"]) fun _ _ _ _ _ _ us hl => match us, hl with | [_, _], _ => rfl
  have b3 := F3.binds (ps := ["circuit"]) fun _ _ _ _ _ _ us hl => match us, hl with | [_], _ => rfl
  have b4 := F4.binds (ps := ["number", "other", "wire"]) fun _ _ _ _ _ _ us hl => match us, hl with | [_, _, _], _ => rfl
  have b5 := F5.binds (ps := ["number", "wires"]) fun _ _ _ _ _ _ us hl => match us, hl with | [_, _], _ => rfl
  have b6 := F6.binds (ps := ["row"]) fun _ _ _ _ _ _ us hl => match us, hl with | [_], _ => rfl
  have b7 := F7.binds (ps := ["first", "second"]) fun _ _ _ _ _ _ us hl => match us, hl with | [_, _], _ => rfl
  have b8 := F8.binds (ps := ["script"]) fun _ _ _ _ _ _ us hl => match us, hl with | [_], _ => rfl
  have b9 := F9.binds (ps := ["draw", "many"]) fun _ _ _ _ _ _ us hl => match us, hl with | [_, _], _ => rfl
  have b10 := F10.binds (ps := ["draw", "wires", "most"]) fun _ _ _ _ _ _ us hl => match us, hl with | [_, _, _], _ => rfl
  have b11 := F11.binds (ps := ["draw", "wires", "many"]) fun _ _ _ _ _ _ us hl => match us, hl with | [_, _, _], _ => rfl
  have b12 := F12.binds (ps := ["gates", "bits"]) fun _ _ _ _ _ _ us hl => match us, hl with | [_, _], _ => rfl
  have b13 := F13.binds (ps := ["number", "wires"]) fun _ _ _ _ _ _ us hl => match us, hl with | [_, _], _ => rfl
  have b14 := F14.binds (ps := ["bits"]) fun _ _ _ _ _ _ us hl => match us, hl with | [_], _ => rfl
  have b15 := F15.binds (ps := ["circuit"]) fun _ _ _ _ _ _ us hl => match us, hl with | [_], _ => rfl
  have b16 := F16.binds (ps := ["draw", "many"]) fun _ _ _ _ _ _ us hl => match us, hl with | [_, _], _ => rfl
  have b17 := F17.binds (ps := ["images", "bit", "mask"]) fun _ _ _ _ _ _ us hl => match us, hl with | [_, _, _], _ => rfl
  have b18 := F18.binds (ps := ["row", "wires"]) fun _ _ _ _ _ _ us hl => match us, hl with | [_, _], _ => rfl
  let T : Txt K mg := ⟨f0, _, F0, PySem.W.mg_of X G a0, b0, f1, _, F1, PySem.W.mg_of X G a1, b1, f2, _, F2, PySem.W.mg_of X G a2, b2, f3, _, F3, PySem.W.mg_of X G a3, b3, f4, _, F4, PySem.W.mg_of X G a4, b4, f5, _, F5, PySem.W.mg_of X G a5, b5, f6, _, F6, PySem.W.mg_of X G a6, b6, f7, _, F7, PySem.W.mg_of X G a7, b7, f8, _, F8, PySem.W.mg_of X G a8, b8, f9, _, F9, PySem.W.mg_of X G a9, b9, f10, _, F10, PySem.W.mg_of X G a10, b10, f11, _, F11, PySem.W.mg_of X G a11, b11, f12, _, F12, PySem.W.mg_of X G a12, b12, f13, _, F13, PySem.W.mg_of X G a13, b13, f14, _, F14, PySem.W.mg_of X G a14, b14, f15, _, F15, PySem.W.mg_of X G a15, b15, f16, _, F16, PySem.W.mg_of X G a16, b16, f17, _, F17, PySem.W.mg_of X G a17, b17, f18, _, F18, PySem.W.mg_of X G a18, b18, fa, _, F19, PySem.W.mg_of X G a19, PySem.W.mg_none_of X G z0, PySem.W.mg_none_of X G z1, PySem.W.mg_none_of X G z2, PySem.W.mg_none_of X G z3, PySem.W.mg_none_of X G z4, PySem.W.mg_none_of X G z5, PySem.W.mg_none_of X G z6, PySem.W.mg_none_of X G z7, PySem.W.mg_none_of X G z8, PySem.W.mg_none_of X G z9⟩
  exact ⟨PySem.W.fnOf "law" "law" (defArgs s_law) (defBody s_law) (defScope s_law) .none kV19 dc19 pm19 an19 cd19 ct19, fun s v => .of_eq rfl, fun base _ _ => ok_law T⟩
end My
open PySem PySem.W PyProof.Rows
set_option maxRecDepth 100000 in
set_option maxHeartbeats 0 in
theorem PySem.Challenge.cw_backrun_k41_tables_and_circuits_for_them_holds : PySem.Challenge.rw_backrun_k41_tables_and_circuits_for_them.Holds := by
  w_on; o_law; k_head; (case hw => w_witness2)
  k_fill
  refine L2.walk_of (l := PySem.Challenge.rw_backrun_k41_tables_and_circuits_for_them) (n := 63) (k := 4) (x := "script") (CX := fun _ => L2.CX0) (sp := fun w => My.spLaw _) rfl (by decide) rfl ⟨rfl, by decide, by decide⟩ (fun w h Y => PySem.W.kIn_of Y) ?F (fun _ _ a ns hl _ hS => ⟨a, ns, rfl, hS, hl, fun _ => rfl⟩) (fun _ _ _ _ _ h => h)
  case F =>
    intro w mg fa h KX G hmg
    refine' My.all_mk KX G hmg ?a0 ?l0 ?c0 ?k0 ?a1 ?l1 ?c1 ?k1 ?a2 ?l2 ?c2 ?k2 ?a3 ?l3 ?c3 ?k3 ?a4 ?l4 ?c4 ?k4 ?a5 ?l5 ?c5 ?k5 ?a6 ?l6 ?c6 ?k6 ?a7 ?l7 ?c7 ?k7 ?a8 ?l8 ?c8 ?k8 ?a9 ?l9 ?c9 ?k9 ?a10 ?l10 ?c10 ?k10 ?a11 ?l11 ?c11 ?k11 ?a12 ?l12 ?c12 ?k12 ?a13 ?l13 ?c13 ?k13 ?a14 ?l14 ?c14 ?k14 ?a15 ?l15 ?c15 ?k15 ?a16 ?l16 ?c16 ?k16 ?a17 ?l17 ?c17 ?k17 ?a18 ?l18 ?c18 ?k18 ?a19 ?l19 ?c19 ?k19 ?z0 ?z1 ?z2 ?z3 ?z4 ?z5 ?z6 ?z7 ?z8 ?z9
    (case a0 => k_is)
    (case l0 => k_is)
    (case c0 => k_is)
    (case k0 => k_is)
    (case a1 => k_is)
    (case l1 => k_is)
    (case c1 => k_is)
    (case k1 => k_is)
    (case a2 => k_is)
    (case l2 => k_is)
    (case c2 => k_is)
    (case k2 => k_is)
    (case a3 => k_is)
    (case l3 => k_is)
    (case c3 => k_is)
    (case k3 => k_is)
    (case a4 => k_is)
    (case l4 => k_is)
    (case c4 => k_is)
    (case k4 => k_is)
    (case a5 => k_is)
    (case l5 => k_is)
    (case c5 => k_is)
    (case k5 => k_is)
    (case a6 => k_is)
    (case l6 => k_is)
    (case c6 => k_is)
    (case k6 => k_is)
    (case a7 => k_is)
    (case l7 => k_is)
    (case c7 => k_is)
    (case k7 => k_is)
    (case a8 => k_is)
    (case l8 => k_is)
    (case c8 => k_is)
    (case k8 => k_is)
    (case a9 => k_is)
    (case l9 => k_is)
    (case c9 => k_is)
    (case k9 => k_is)
    (case a10 => k_is)
    (case l10 => k_is)
    (case c10 => k_is)
    (case k10 => k_is)
    (case a11 => k_is)
    (case l11 => k_is)
    (case c11 => k_is)
    (case k11 => k_is)
    (case a12 => k_is)
    (case l12 => k_is)
    (case c12 => k_is)
    (case k12 => k_is)
    (case a13 => k_is)
    (case l13 => k_is)
    (case c13 => k_is)
    (case k13 => k_is)
    (case a14 => k_is)
    (case l14 => k_is)
    (case c14 => k_is)
    (case k14 => k_is)
    (case a15 => k_is)
    (case l15 => k_is)
    (case c15 => k_is)
    (case k15 => k_is)
    (case a16 => k_is)
    (case l16 => k_is)
    (case c16 => k_is)
    (case k16 => k_is)
    (case a17 => k_is)
    (case l17 => k_is)
    (case c17 => k_is)
    (case k17 => k_is)
    (case a18 => k_is)
    (case l18 => k_is)
    (case c18 => k_is)
    (case k18 => k_is)
    (case a19 => k_is)
    (case l19 => k_is)
    (case c19 => k_is)
    (case k19 => k_is)
    (case z0 => k_is)
    (case z1 => k_is)
    (case z2 => k_is)
    (case z3 => k_is)
    (case z4 => k_is)
    (case z5 => k_is)
    (case z6 => k_is)
    (case z7 => k_is)
    (case z8 => k_is)
    (case z9 => k_is)

