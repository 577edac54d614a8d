import PyProof.Rows.All
import Wide.All
import OpenK.AllK
import Wide.FinOn
import HandS.ForMost
import HandS.Wide
import HandS.IsInst
import KE.KBits
import KE.OsArith
import HandS.AnyAll
import HandS.GenOver
import HandS.GenList
import HandS.Nested
import PyProof.GenQ
import HandS.TupAny
import HandS.TupMul
import HandS.Zip
import HandS.Style
import HandS.EndTab
import KE.KNestM
import HandS.Walk
import KE.KIntText
import PySem.Challenge.RW_backrun_k04_values_and_stores
set_option Elab.async false
set_option linter.all false
set_option maxRecDepth 100000
/-! what serves every law: cuts, heaps that change at one place, the law's own draw -/
namespace My
open PySem PySem.Spec PyProof.Rows L2
/-! ### cuts -/
section
variable {X : Cx}
theorem ps_cut {st : Stmt} {t : TS} (h : PS X st t) : PS X st (fun D σ H => ∃ J : L2.St → Hp → Prop, t { D with nx := J } σ H ∧ ∀ σ' H', J σ' H' → D.nx σ' H') := by
  refine ⟨fun pins s σ H D I hh => ?_⟩
  obtain ⟨J, h1, h2⟩ := hh
  refine thn (h.run pins s σ H _ I h1) fun f s' z => ?_
  cases f with
  | next => obtain ⟨σ', H', I', j⟩ := z; exact ⟨σ', H', I', h2 σ' H' j⟩
  | brk => exact z
  | cont => exact z
  | ret v => exact z
theorem pe_cut {e : Expr} {t : TE} (h : PE X e t) : PE X e (fun σ H Q => ∃ J : V → Hp → Prop, t σ H J ∧ ∀ v H', J v H' → Q v H') := by
  refine ⟨fun pins s σ H Q I hh => ?_⟩
  obtain ⟨J, h1, h2⟩ := hh
  refine thn (h.run pins s σ H _ I h1) fun u s' ⟨v, H', I', r, j⟩ => ⟨v, H', I', r, h2 v H' j⟩
theorem pt_cut {e : Expr} {t : TT} (h : PT X e t) : PT X e (fun σ H Q => ∃ J : Bool → Hp → Prop, t σ H J ∧ ∀ b H', J b H' → Q b H') := by
  refine ⟨fun pins s σ H Q I hh => ?_⟩
  obtain ⟨J, h1, h2⟩ := hh
  refine thn (h.run pins s σ H _ I h1) fun u s' ⟨H', I', j⟩ => ⟨H', I', h2 u H' j⟩
end
/-! ### heaps -/
theorem same_upd {H : Hp} {p : Addr} {o : HO} (h : H p = none) : Same H (upd H p o) := fun b x e => by
  rw [upd_ne (ne_of_none e h)]
  exact e
/-- all but what stands at p stays -/
def KeepBut (p : Addr) (H H' : Hp) : Prop := ∀ b o, b ≠ p → H b = some o → H' b = some o
theorem KeepBut.refl (p : Addr) (H : Hp) : KeepBut p H H := fun _ _ _ e => e
theorem KeepBut.trans {p : Addr} {H H1 H2 : Hp} (a : KeepBut p H H1) (b : KeepBut p H1 H2) : KeepBut p H H2 := fun c o n e => b c o n (a c o n e)
theorem KeepBut.put (p : Addr) (H : Hp) (o : HO) : KeepBut p H (upd H p o) := fun b x n e => by
  rw [upd_ne n]
  exact e
theorem KeepBut.same {p : Addr} {H H1 : Hp} (a : Same H H1) : KeepBut p H H1 := fun c o _ e => a c o e
theorem KeepBut.new {p q : Addr} {H H1 : Hp} {o : HO} (a : KeepBut p H H1) (h : H1 q = none) : KeepBut p H (upd H1 q o) := a.trans (.same (same_upd h))
/-! ### the law's draw: [cells, place, rest, seed] -/
structure DrawIs (H : Hp) (p c : Addr) (cells : List Int) (pos rest seed : Int) : Prop where
  hp : H p = some (.lst [.ref c, .int pos, .int rest, .int seed])
  hc : H c = some (.lst (cells.map V.int))
  nn : ∀ x ∈ cells, 0 ≤ x
  po : -1 ≤ pos
  re : 0 ≤ rest
  s0 : 0 ≤ seed
  s1 : seed < 2147483647
def DrawAt (H : Hp) (p : Addr) : Prop := ∃ c cells pos rest seed, DrawIs H p c cells pos rest seed
theorem DrawIs.ne {H : Hp} {p c : Addr} {cells : List Int} {pos rest seed : Int} (D : DrawIs H p c cells pos rest seed) : c ≠ p := ne_of D.hc D.hp (by
  intro z
  cases cells with
  | nil => cases z
  | cons x r => cases z)
theorem DrawIs.put {H : Hp} {p c : Addr} {cells : List Int} {pos rest seed pos' rest' seed' : Int} (D : DrawIs H p c cells pos rest seed) (h1 : -1 ≤ pos') (h2 : 0 ≤ rest') (h3 : 0 ≤ seed') (h4 : seed' < 2147483647) :
    DrawIs (upd H p (.lst [.ref c, .int pos', .int rest', .int seed'])) p c cells pos' rest' seed' :=
  ⟨upd_same, by rw [upd_ne D.ne]; exact D.hc, D.nn, h1, h2, h3, h4⟩
theorem DrawIs.keep {H H' : Hp} {p c : Addr} {cells : List Int} {pos rest seed : Int} (D : DrawIs H p c cells pos rest seed) (k : Same H H') : DrawIs H' p c cells pos rest seed :=
  ⟨k _ _ D.hp, k _ _ D.hc, D.nn, D.po, D.re, D.s0, D.s1⟩
theorem DrawAt.keep {H H' : Hp} {p : Addr} (D : DrawAt H p) (k : Same H H') : DrawAt H' p := by
  obtain ⟨c, cells, pos, rest, seed, d⟩ := D
  exact ⟨c, cells, pos, rest, seed, d.keep k⟩
theorem DrawAt.some {H : Hp} {p : Addr} (D : DrawAt H p) : ∃ o, H p = some o := by
  obtain ⟨c, cells, pos, rest, seed, d⟩ := D
  exact ⟨_, d.hp⟩
theorem DrawAt.upd {H : Hp} {p q : Addr} {o : HO} (D : DrawAt H p) (h : H q = none) : DrawAt (upd H q o) p := D.keep (same_upd h)
/-! ### numbers -/
theorem int_nat {i : Int} (h : 0 ≤ i) : ∃ n : Nat, i = (n : Int) := ⟨i.toNat, by omega⟩
theorem fmod_lo {a b : Int} (h : 0 < b) : 0 ≤ a.fmod b := Int.fmod_nonneg_of_pos a h
theorem fmod_hi {a b : Int} (h : 0 < b) : a.fmod b < b := Int.fmod_lt_of_pos a h
theorem fmod_e {a b : Int} (h : 0 < b) : a.fmod b = a % b := Int.fmod_eq_emod_of_nonneg a (by omega)
theorem div_lo {a b : Int} (h : 0 ≤ a) (hb : 0 < b) : 0 ≤ a / b := Int.ediv_nonneg h (by omega)
end My
namespace My
open PySem PySem.Spec PyProof.Rows L2
/-! ### a written tuple of the top -/
theorem rel_abs : ∀ {u : Value} {x : V}, absV u = some x → RelV x u
  | .none, _, h => by cases h; rfl
  | .bool _, _, h => by cases h; rfl
  | .int _ t, _, h => by cases h; exact ⟨t, rfl⟩
  | .str _ t, _, h => by cases h; exact ⟨t, rfl⟩
  | .bytes _ t, _, h => by cases h; exact ⟨t, rfl⟩
  | .float _ t, _, h => by cases h; exact ⟨t, rfl⟩
  | .ref _, _, h => by cases h; rfl
  | .type _, _, h => by cases h; rfl
theorem vals_abs : ∀ {us : List Value} {xs : List V}, us.mapM absV = some xs → Vals xs us
  | [], xs, h => by
    cases h
    exact .nil
  | u :: us, xs, h => by
    rw [List.mapM_cons] at h
    cases e : absV u with
    | none => rw [e] at h; cases h
    | some x =>
      rw [e] at h
      cases e2 : us.mapM absV with
      | none => rw [e2] at h; cases h
      | some ys =>
        rw [e2] at h
        cases h
        exact .cons (rel_abs e) (vals_abs e2)
theorem sqT_k {K : PySem.W.Frag} {H : Hp} {a : Addr} {d : Option Addr} {its : Array Value} {n : Nat} {sl : Array (Option Value)} {xs : List V} (l : K.lookup a = some ⟨.type "tuple", d, .seq its n, sl⟩) (h : its.toList.mapM absV = some xs) (z : its.size ≤ sizeLine) : SqT K H a xs :=
  .inr ⟨_, its, n, l, rfl, rfl, z, vals_abs h⟩
end My

set_option Elab.async false
set_option linter.all false
/-! words: the ten ops by bits and by whole numbers -/
namespace My
open PySem PySem.Spec PyProof.Rows L2
theorem bit_and (a b k : Nat) : (a &&& b) / 2 ^ k % 2 = if a / 2 ^ k % 2 + b / 2 ^ k % 2 = 2 then 1 else 0 := by
  have h := Nat.testBit_and a b k
  rw [Nat.testBit_eq_decide_div_mod_eq, Nat.testBit_eq_decide_div_mod_eq, Nat.testBit_eq_decide_div_mod_eq] at h
  have h1 := Nat.mod_lt (a / 2 ^ k) (show 2 > 0 by decide)
  have h2 := Nat.mod_lt (b / 2 ^ k) (show 2 > 0 by decide)
  have h3 := Nat.mod_lt ((a &&& b) / 2 ^ k) (show 2 > 0 by decide)
  have h4 : ((a &&& b) / 2 ^ k % 2 = 1) ↔ (a / 2 ^ k % 2 = 1 ∧ b / 2 ^ k % 2 = 1) := by
    rw [← decide_eq_true_iff (p := (a &&& b) / 2 ^ k % 2 = 1), h, Bool.and_eq_true, decide_eq_true_iff, decide_eq_true_iff]
  split <;> omega
theorem bit_or (a b k : Nat) : (a ||| b) / 2 ^ k % 2 = if 0 < a / 2 ^ k % 2 + b / 2 ^ k % 2 then 1 else 0 := by
  have h := Nat.testBit_or a b k
  rw [Nat.testBit_eq_decide_div_mod_eq, Nat.testBit_eq_decide_div_mod_eq, Nat.testBit_eq_decide_div_mod_eq] at h
  have h1 := Nat.mod_lt (a / 2 ^ k) (show 2 > 0 by decide)
  have h2 := Nat.mod_lt (b / 2 ^ k) (show 2 > 0 by decide)
  have h3 := Nat.mod_lt ((a ||| b) / 2 ^ k) (show 2 > 0 by decide)
  have h4 : ((a ||| b) / 2 ^ k % 2 = 1) ↔ (a / 2 ^ k % 2 = 1 ∨ b / 2 ^ k % 2 = 1) := by
    rw [← decide_eq_true_iff (p := (a ||| b) / 2 ^ k % 2 = 1), h, Bool.or_eq_true, decide_eq_true_iff, decide_eq_true_iff]
  split <;> omega
theorem bit_xor (a b k : Nat) : (a ^^^ b) / 2 ^ k % 2 = if a / 2 ^ k % 2 + b / 2 ^ k % 2 = 1 then 1 else 0 := by
  have h := Nat.testBit_xor (x := a) (y := b) (i := k)
  rw [Nat.testBit_eq_decide_div_mod_eq, Nat.testBit_eq_decide_div_mod_eq, Nat.testBit_eq_decide_div_mod_eq] at h
  have h1 := Nat.mod_lt (a / 2 ^ k) (show 2 > 0 by decide)
  have h2 := Nat.mod_lt (b / 2 ^ k) (show 2 > 0 by decide)
  have h3 := Nat.mod_lt ((a ^^^ b) / 2 ^ k) (show 2 > 0 by decide)
  by_cases c1 : a / 2 ^ k % 2 = 1 <;> by_cases c2 : b / 2 ^ k % 2 = 1 <;> by_cases c3 : (a ^^^ b) / 2 ^ k % 2 = 1 <;> simp [c1, c2, c3] at h ⊢ <;> first | omega | (split <;> omega)
/-- and, or, xor of two numbers by their name -/
def bitF (op : Str) (a b : Nat) : Nat := if op = "and" then a &&& b else if op = "or" then a ||| b else a ^^^ b
/-- does the bit count -/
def bitC (op : Str) (both : Int) : Bool := if op = "and" then decide (both = 2) else if op = "or" then decide (0 < both) else decide (both = 1)
theorem bitF_step (op : Str) (a b k : Nat) : ((bitF op a b % 2 ^ (k + 1) : Nat) : Int) = ((bitF op a b % 2 ^ k : Nat) : Int) + (if bitC op (((a / 2 ^ k % 2 : Nat) : Int) + ((b / 2 ^ k % 2 : Nat) : Int)) = true then (2 : Int) ^ k else 0) := by
  have e : bitF op a b / 2 ^ k % 2 = if bitC op (((a / 2 ^ k % 2 : Nat) : Int) + ((b / 2 ^ k % 2 : Nat) : Int)) = true then 1 else 0 := by
    unfold bitF bitC
    by_cases c1 : op = "and"
    · rw [if_pos c1, if_pos c1, bit_and]
      simp only [decide_eq_true_eq]
      split <;> split <;> omega
    · rw [if_neg c1, if_neg c1]
      by_cases c2 : op = "or"
      · rw [if_pos c2, if_pos c2, bit_or]
        simp only [decide_eq_true_eq]
        split <;> split <;> omega
      · rw [if_neg c2, if_neg c2, bit_xor]
        simp only [decide_eq_true_eq]
        split <;> split <;> omega
  rw [Nat.mod_pow_succ, e]
  have hk : ((2 ^ k : Nat) : Int) = (2 : Int) ^ k := PySem.W.kbt_cast k
  split
  · rw [Nat.mul_one]; omega
  · rw [Nat.mul_zero]; omega
theorem bitF_lt (op : Str) {a b n : Nat} (ha : a < 2 ^ n) (hb : b < 2 ^ n) : bitF op a b < 2 ^ n := by
  unfold bitF
  split
  · exact Nat.and_lt_two_pow a hb
  · split
    · exact Nat.or_lt_two_pow ha hb
    · exact Nat.xor_lt_two_pow ha hb
theorem bitOr_nat (a b : Nat) : Builtin.bitOr (a : Int) (b : Int) = ((a ||| b : Nat) : Int) := by
  show Spec.bitOr (a : Int) (b : Int) = _
  have h1 : ¬ (0 ≤ -(a : Int) - 1) := by omega
  have h2 : ¬ (0 ≤ -(b : Int) - 1) := by omega
  have e1 : (-(-(a : Int) - 1) - 1).toNat = a := by omega
  have e2 : (-(-(b : Int) - 1) - 1).toNat = b := by omega
  unfold Spec.bitOr Spec.bitAnd Spec.bitNot
  rw [decide_eq_false h1, decide_eq_false h2]
  show -(-(((-(-(a : Int) - 1) - 1).toNat ||| (-(-(b : Int) - 1) - 1).toNat : Nat) : Int) - 1) - 1 = _
  rw [e1, e2]
  omega
theorem bitAnd_nat (a b : Nat) : Builtin.bitAnd (a : Int) (b : Int) = ((a &&& b : Nat) : Int) := PySem.W.os_band a b
theorem or_sub_and (a b : Nat) : (a ||| b) - (a &&& b) = a ^^^ b ∧ (a &&& b) ≤ (a ||| b) := by
  -- by bits from below
  have key : ∀ n : Nat, ∀ a b : Nat, a < 2 ^ n → b < 2 ^ n → (a ||| b) = (a ^^^ b) + (a &&& b) := by
    intro n
    induction n with
    | zero =>
      intro a b ha hb
      have : a = 0 := by omega
      have : b = 0 := by omega
      subst_vars
      rfl
    | succ n ih =>
      intro a b ha hb
      have h1 := bit_and a b 0
      have h2 := bit_or a b 0
      have h3 := bit_xor a b 0
      have e1 : (a &&& b) / 2 = (a / 2) &&& (b / 2) := Nat.and_div_two
      have e2 : (a ||| b) / 2 = (a / 2) ||| (b / 2) := Nat.or_div_two
      have e3 : (a ^^^ b) / 2 = (a / 2) ^^^ (b / 2) := Nat.xor_div_two
      have hp : 2 ^ (n + 1) = 2 ^ n * 2 := Nat.pow_succ ..
      have := ih (a / 2) (b / 2) (by omega) (by omega)
      simp only [Nat.pow_zero, Nat.div_one] at h1 h2 h3
      have m1 := Nat.mod_lt a (show 2 > 0 by decide)
      have m2 := Nat.mod_lt b (show 2 > 0 by decide)
      split at h1 <;> split at h2 <;> split at h3 <;> omega
  have hm : ∀ a : Nat, a < 2 ^ a := fun a => Nat.lt_two_pow_self
  have ha : a < 2 ^ (a + b) := Nat.lt_of_lt_of_le (hm a) (Nat.pow_le_pow_right (by decide) (by omega))
  have hb : b < 2 ^ (a + b) := Nat.lt_of_lt_of_le (hm b) (Nat.pow_le_pow_right (by decide) (by omega))
  have := key (a + b) a b ha hb
  omega
theorem bitXor_nat (a b : Nat) : Builtin.bitXor (a : Int) (b : Int) = ((a ^^^ b : Nat) : Int) := by
  show Builtin.bitOr (a : Int) (b : Int) - Builtin.bitAnd (a : Int) (b : Int) = _
  rw [bitOr_nat, bitAnd_nat]
  have := or_sub_and a b
  omega
/-- the word of an op, as the document has it -/
def cmpS (op : Str) (n : Nat) (x y : Int) : Int :=
  if op = "add" then (x + y) % 2 ^ n else if op = "sub" then (x - y) % 2 ^ n else if op = "mul" then (x * y) % 2 ^ n
  else if op = "and" then Builtin.bitAnd x y else if op = "or" then Builtin.bitOr x y else if op = "xor" then Builtin.bitXor x y
  else if op = "less" then (if x < y then 1 else 0) else if op = "equal" then (if x = y then 1 else 0)
  else if (n : Int) ≤ y then 0 else if op = "shl" then (x * 2 ^ y.toNat) % 2 ^ n else x / 2 ^ y.toNat
theorem bitF_cmp {op : Str} (h : op = "and" ∨ op = "or" ∨ op = "xor") (n a b : Nat) : cmpS op n (a : Int) (b : Int) = ((bitF op a b : Nat) : Int) := by
  rcases h with rfl | rfl | rfl
  · exact bitAnd_nat a b
  · exact bitOr_nat a b
  · exact bitXor_nat a b
end My

set_option Elab.async false
set_option linter.all false
set_option maxRecDepth 100000
set_option maxHeartbeats 4000000
/-! all(e for x in xs), any(e for x in xs): the element any expression that gives a truth value, calls of own defs too -/
namespace My
open PySem PySem.Spec PyProof.Rows L2 GxR NdefX GenW
/-- the context of the generator's frame -/
def gcx (X : Cx) (s : Shared) (H : Hp) (A : Around) (N : List Str) (cenv : Env) (fp : List Addr) : Cx :=
  { X with A := A, N := N, s_0 := s, H_0 := H, env := cenv, outer := X.stack, stack := cenv :: X.stack, ex := fp, fn := fun _ => false, calm := true, pn := [], xe := fun _ _ => False }
/-- the names that the element reads of the def around it, with their slots there -/
def Caps (X : Cx) (scope : Scope) : List (Str × Nat) → Prop
  | [] => True
  | p :: r => (X.N[p.2]? = some p.1 ∧ scope.names.lookup p.1 = some .free ∧ (X.env.scope.names.lookup p.1 = some .cell ∨ X.env.scope.names.lookup p.1 = some .free)) ∧ Caps X scope r
def gσ (σ : L2.St) (own : List (Str × Nat)) (v : Option V) : L2.St := v :: own.map fun p => (σ[p.2]?).getD none
def gN (x : Str) (own : List (Str × Nat)) : List Str := x :: own.map (·.1)
theorem caps_at {X : Cx} {scope : Scope} : ∀ {own : List (Str × Nat)} {i : Nat} {p : Str × Nat}, Caps X scope own → own[i]? = some p → X.N[p.2]? = some p.1 ∧ scope.names.lookup p.1 = some .free ∧ (X.env.scope.names.lookup p.1 = some .cell ∨ X.env.scope.names.lookup p.1 = some .free)
  | [], _, _, _, e => by simp at e
  | q :: r, 0, p, h, e => by simp at e; subst e; exact h.1
  | q :: r, i + 1, p, h, e => caps_at (own := r) (i := i) h.2 (by simpa using e)
section
variable {X : Cx} {pins : List (Addr × Obj)} {σ : L2.St} {H : Hp} {s s' : Shared}
/-- the heap as it was -/
theorem inv_same (I : Inv X pins σ H s) (h : s'.heap = s.heap) (ho : s'.os = s.os) (hb : AllBare s'.gens) : Inv X pins σ H s' := by
  obtain ⟨hh, g, d, t, o⟩ := s'
  obtain rfl : hh = s.heap := h
  obtain rfl : o = s.os := ho
  exact I.step (g' := g) (d' := d) (t' := t) (ch := []) (fun _ z => nomatch z) (fun _ _ _ _ _ e _ => e) (fun _ o _ _ _ e _ => ⟨o.slots, e⟩) (fun _ _ _ _ n => n) (fun _ o _ e => ⟨o, e⟩) (fun _ _ e => e) (fun _ _ _ e => e)
    (fun b ps e => ⟨#[], by rw [e]; simp⟩) (fun _ hm => hm) I.hok hb
/-- the frame of the generator begins -/
theorem gen_start {it a : Addr} {go : Obj} {fp : List Addr} {scope : Scope} {x : Str} {own : List (Str × Nat)} {A : Around} {h' : Heap} {bi : Addr} {code : Value} {gg : Array GenState} {tk : Nat}
    (I : Inv X pins σ H s) (hfp : ∀ b ∈ fp, FpOk X pins H b ∧ b < s.heap.objs.size) (S : GenS X.env scope x) (hc : Caps X scope own) (hA : A.handled = none) (hF : A.frames = some (genEnv scope (cloFrom X.env.cells scope.names []) s.heap.objs.size code bi X.env :: X.stack)) (hbi : bi = builtinsNs)
    (hn : h'.Ns s.heap.objs.size fun y => if y = ".0" then some (.ref it) else none) (kp : ∀ b o, s.heap.get? b = some o → (h'.push go).get? b = some o) (hsz : h'.objs.size = s.heap.objs.size + 1) (ha : a = h'.objs.size) (hnc : ∀ v, go.data ≠ .cell v) (hfr : go.isFreed = false) (hg : AllBare gg) :
    Inv (gcx X s H A (gN x own) (genEnv scope (cloFrom X.env.cells scope.names []) s.heap.objs.size code bi X.env) fp) [(a, go)] (gσ σ own none) H { s with gens := gg, toks := tk, heap := h'.push go } := by
  have cm : ∀ {y c}, (cloFrom X.env.cells scope.names []).lookup y = some c → X.env.cells.lookup y = some c := fun {y c} e => clo_cm S.free e
  have okB : (gcx X s H A (gN x own) (genEnv scope (cloFrom X.env.cells scope.names []) s.heap.objs.size code bi X.env) fp).Ok := by
    refine ⟨I.ok.mod, S.kind, I.ok.glob, hbi, Nat.le_refl _, fun y z c e1 e2 => I.ok.inj y z c (cm e1) (cm e2), fun y hy => ?_, fun y c z _ => (by cases z), fun _ => hA, hF, .inr ⟨rfl, rfl⟩, fun b hb => ⟨Nat.ne_of_lt (hfp b hb).2, fun y c e z => (hfp b hb).1.2.2.2.2.1 y c (cm e) z⟩,
      I.bs, Nat.le_trans I.ok.bsz I.sz, fun b o e hb => ?_, fun b hb z => ?_, I.stack, I.stkFree⟩
    · have hy : scope.names.lookup y = some .cell ∨ scope.names.lookup y = some .free := hy
      rcases hy with hy | hy
      · exact absurd rfl (S.cell _ (PySem.mem_of_lookup hy))
      · obtain ⟨c, e⟩ := S.free _ (PySem.mem_of_lookup hy) rfl
        exact ⟨c, clo_has S.free (PySem.mem_of_lookup hy) e⟩
    · rcases (hfp b hb).1.2.2.2.1 with z | z
      · exact I.ok.noex b o e z
      · exact absurd (Nat.lt_of_lt_of_le (Heap.lt_size e) (Nat.le_trans I.ok.bsz z)) (Nat.lt_irrefl _)
    · rcases List.mem_cons.mp (I.stkSub b z) with z | z
      · exact (hfp b hb).1.2.1 z
      · exact (hfp b hb).1.2.2.1 z
  refine ⟨okB, rfl, hg, Un.kept kp, ⟨_, hn.push _, fun i y v e1 e2 _ => ?_⟩, fun y c e => ?_, I.hok.fresh (Nat.le_refl _), fun y c e => I.freeC y c (cm e), fun p hp => ?_, I.hok.kept kp, ?_⟩
  · cases i with
    | zero => cases e2
    | succ i =>
      have e1 : (own.map (·.1))[i]? = some y := e1
      have e2 : (own.map fun p => (σ[p.2]?).getD none)[i]? = some (some v) := e2
      rw [List.getElem?_map] at e1 e2
      cases q : own[i]? with
      | none => rw [q] at e1; cases e1
      | some p =>
        rw [q] at e1 e2
        cases e1
        obtain ⟨hN, hf, hk⟩ := caps_at hc q
        have e3 : σ[p.2]? = some (some v) := by
          have e2 : some ((σ[p.2]?).getD none) = some (some v) := e2
          cases r : σ[p.2]? with
          | none => rw [r] at e2; cases e2
          | some u => rw [r] at e2; exact e2
        obtain ⟨m, _, hl⟩ := I.loc
        obtain ⟨u, r, lk⟩ := hl p.2 p.1 v hN e3 (.inr hk)
        refine ⟨u, r, .inr ⟨.inr hf, ?_⟩⟩
        rcases lk with ⟨k, _⟩ | ⟨_, c, e, o, ho, hd⟩
        · have k : X.env.scope.names.lookup p.1 = some .local := k
          rcases hk with hk | hk <;> (rw [hk] at k; cases k)
        · exact ⟨c, clo_has S.free (PySem.mem_of_lookup hf) e, o, kp c o ho, hd⟩
  · obtain ⟨v, o, ho, hd⟩ := I.cell y c (cm e)
    exact ⟨v, o, kp c o ho, hd⟩
  · have hp : p = (a, go) := by simpa [gcx] using hp
    subst hp
    refine ⟨?_, I.hok.fresh (by rw [ha, hsz]; exact Nat.le_succ _), ?_, fun z => ?_, hnc⟩
    · show (h'.push go).get? a = some go
      rw [ha]
      exact Heap.get?_push_size _ hfr
    · show a ≠ s.heap.objs.size
      rw [ha, hsz]
      exact Nat.succ_ne_self _
    · have hlt : ∀ b, b ∈ frs X.stack → b < s.heap.objs.size := fun b hb => by
        rcases List.mem_cons.mp (I.stkSub b hb) with y | y
        · rw [y]; exact I.lt
        · by_cases q : b < s.heap.objs.size
          · exact q
          · exact absurd y (I.nofs (Nat.le_of_not_lt q))
      have q := hlt a z
      rw [ha, hsz] at q
      exact absurd q (Nat.not_lt.mpr (Nat.le_succ _))
  · simp [gσ, gN, gcx]
end

theorem bne_of : ∀ {a b : Bool}, ¬ a = b → a = !b
  | true, true, h => absurd rfl h
  | true, false, _ => rfl
  | false, true, _ => rfl
  | false, false, h => absurd rfl h
/-! ### the generator's turns -/
section
variable {X : Cx} {al : Bool} {W : Nat → Nat → Hp → Prop} {QF : V → Hp → Prop}
/-- what a turn hands out: the answer is settled, or it goes on -/
def YAll (X' : Cx) (pn : List (Addr × Obj)) (al : Bool) (QF : V → Hp → Prop) : Protocol := fun _ _ v s kap =>
  ∃ σ H, Inv X' pn σ H s ∧ ((v = .bool (!al) ∧ QF (.bl (!al)) H) ∨ (v = .bool al ∧ ∀ s', s'.heap = s.heap → s'.os = s.os → AllBare s'.gens → kap (.send .none) s'))
def PAll (X' : Cx) (pn : List (Addr × Obj)) (al : Bool) (QF : V → Hp → Prop) (_ : Nat) (_ s : Shared) : Prop := ∃ σ H, Inv X' pn σ H s ∧ QF (.bl al) H
/-- one turn of the reading -/
def TAll (σ : L2.St) (own : List (Str × Nat)) (te : TE) (al : Bool) (J : It) (W : Nat → Nat → Hp → Prop) (QF : V → Hp → Prop) : Prop := ∀ i m H, W i m H →
  (J.stop i H ∧ QF (.bl al) H) ∨ (J.go i H ∧ ∃ Nx : Hp → Prop, (∀ H', Nx H' → ∃ m', m' < m ∧ W (i + 1) m' H') ∧ ∀ v H', J.yld i H v H' → te (gσ σ own (some v)) H' fun y H2 => ∃ b, y = .bl b ∧ if b = al then Nx H2 else QF (.bl (!al)) H2)
theorem seg_all {A : Around} {elt iter : Expr} {x : Str} {px gpos : Pos} {scope : Scope} {cenv : Env} {s₁ : Shared} {H₁ : Hp} {own : List (Str × Nat)} {fp : List Addr} {it : Addr} {a : Addr} {go : Obj} {J : It} {tn : Nat → Heap → Prop} {σ : L2.St} {te : TE}
    (hsc : cenv.scope = scope) (hx : scope.names.lookup x = some .local) (hco : scope.isCoroutine = false) (hnd : (gN x own).Nodup) (haf : ∀ b ∈ fp, a ≠ b)
    (T : Turn X.prog X.w X.K (.Name x px) J fp it tn)
    (he : PE (gcx X s₁ H₁ (A.over (.compLoop (.GeneratorExp elt [⟨.Name x px, iter, [], 0⟩] scope gpos) 0 (.ref it) .none cenv) []) (gN x own) cenv fp) elt te)
    (turn : TAll σ own te al J W QF) : ∀ (m n i : Nat) (s₀ s : Shared) (H : Hp) (v₀ : Option V), m < n →
      Inv (gcx X s₁ H₁ (A.over (.compLoop (.GeneratorExp elt [⟨.Name x px, iter, [], 0⟩] scope gpos) 0 (.ref it) .none cenv) []) (gN x own) cenv fp) [(a, go)] (gσ σ own v₀) H s → tn i s.heap → (∀ b ∈ fp, H b = none) → W i m H →
      Seg (model X.prog X.w) A (fun n s₀ r s₂ => r = .ok .next ∧ PAll (gcx X s₁ H₁ (A.over (.compLoop (.GeneratorExp elt [⟨.Name x px, iter, [], 0⟩] scope gpos) 0 (.ref it) .none cenv) []) (gN x own) cenv fp) [(a, go)] al QF n s₀ s₂)
        (YAll (gcx X s₁ H₁ (A.over (.compLoop (.GeneratorExp elt [⟨.Name x px, iter, [], 0⟩] scope gpos) 0 (.ref it) .none cenv) []) (gN x own) cenv fp) [(a, go)] al QF) n s₀
        (.compLoop (.GeneratorExp elt [⟨.Name x px, iter, [], 0⟩] scope gpos) 0 (.ref it) .none cenv)
        ((model X.prog X.w).den (.compLoop (.GeneratorExp elt [⟨.Name x px, iter, [], 0⟩] scope gpos) 0 (.ref it) .none cenv)) [] s := by
  generalize hcd : (Code.compLoop (.GeneratorExp elt [⟨.Name x px, iter, [], 0⟩] scope gpos) 0 (.ref it) .none cenv) = cd at *
  have hcalm : ∀ (Y : Cx), (gcx X s₁ H₁ (A.over cd []) (gN x own) cenv fp).calm = true := fun _ => rfl
  intro m
  induction m using Nat.strongRecOn with
  | _ m ih =>
    intro n i s₀ s H v₀ hmn I st hfn w
    have stat : ∀ {σ' : L2.St} {H' : Hp} {s' : Shared}, Inv (gcx X s₁ H₁ (A.over cd []) (gN x own) cenv fp) [(a, go)] σ' H' s' → (∀ b ∈ fp, H' b = none) → ∀ b ∈ fp, FpOk (gcx X s₁ H₁ (A.over cd []) (gN x own) cenv fp) [(a, go)] H' b := fun {σ' H' s'} I' hn b hb =>
      ⟨hn b hb, (I'.ok.exf b hb).1, I'.ok.exfs b hb, .inl hb, fun x c e => (I'.ok.exf b hb).2 x c e, fun p hp => by
        have hp : p = (a, go) := by simpa [gcx] using hp
        rw [hp]
        exact haf b hb⟩
    have den : (model X.prog X.w).den cd = (compTurn (.GeneratorExp elt [⟨.Name x px, iter, [], 0⟩] scope gpos) 0 (.ref it) .none cenv).onRaise (leaving cenv) := by rw [← hcd]; rfl
    rw [den, compTurn_gen, Sem.onRaise_eq_wrap, hcd]
    refine seg_bind_wrap (wpAny_standAt ?_)
    rcases turn i m H w with ⟨stop, qq⟩ | ⟨gg, Nx, hNx, step⟩
    · refine seg_bind_wrap (thnF (T.done (gcx X s₁ H₁ (A.over cd []) (gN x own) cenv fp) rfl rfl rfl rfl i [(a, go)] s _ H (fun _ _ => False) I (stat I hfn) st stop) fun r s2 ⟨hr, I2⟩ => ?_)
      subst hr
      exact seg_end (.ok .next) ⟨rfl, _, H, I2, qq⟩
    · refine seg_bind_wrap (thnF (T.item (gcx X s₁ H₁ (A.over cd []) (gN x own) cenv fp) rfl rfl rfl rfl i [(a, go)] s _ H (fun _ _ => False) I (stat I hfn) st gg) fun r s2 ⟨u, hr, h2⟩ => ?_)
      subst hr
      refine seg_bind_wrap (thnF h2 fun _ s3 ⟨v, H3, I3, r3, y3, st3, n3⟩ => ?_)
      have I3' := I3.pinned (stat I3 n3) (T.obj _ _ st3)
      have hsx : cenv.scope.names.lookup x = some .local := by rw [hsc]; exact hx
      refine seg_bind_wrap (wpAny_assign_Name (store_ok (i := 0) (x := x) I3' hnd rfl (.inl hsx) r3 (fun s4 I4 => ?_) (.inr hsx)))
      have I4 : Inv (gcx X s₁ H₁ (A.over cd []) (gN x own) cenv fp) ([(a, go)] ++ pinsAt fp s3.heap) (gσ σ own (some v)) H3 s4 := I4
      refine seg_bind_wrap (wpAny_tests_nil ?_)
      simp only [if_true]
      have hy : ∀ v, yieldOut cenv v = yieldValue v := fun v => by simp only [yieldOut, hsc, hco, Bool.false_eq_true, if_false]
      simp only [hy]
      rw [Sem.bind_eq_wrap', Sem.bind_eq_wrap', Sem.wrap_wrap, Sem.wrap_wrap]
      refine seg_wrap (thnF (he.run _ s4 _ H3 _ I4 (step v H3 y3)) fun y s5 ⟨z, H5, I5, r5, b, hz, q5⟩ => ?_)
      subst hz
      obtain rfl : y = .bool b := r5
      obtain ⟨k, rfl⟩ : ∃ k, n = k + 1 := ⟨n - 1, by omega⟩
      refine seg_at (seg_yield rfl rfl rfl ⟨_, H5, I5.unpinned, ?_⟩)
      by_cases hb : b = al
      · subst hb
        rw [if_pos rfl] at q5
        obtain ⟨m', hm', w'⟩ := hNx H5 q5
        refine .inr ⟨rfl, fun s6 e6 o6 b6 => ?_⟩
        have pin' : ∀ b ∈ fp, ∀ o, s3.heap.get? b = some o → s5.heap.get? b = some o ∧ H5 b = none := fun b hb o e =>
          let z := I5.pin (b, o) (List.mem_append_right _ (List.mem_append_right _ (mem_pinsAt hb e)))
          ⟨z.1, z.2.1⟩
        refine seg_again (c' := cd) (by rw [← hcd]; rfl) (ih m' hm' k (i + 1) _ s6 H5 (some v) (by omega) (inv_same I5.unpinned e6 o6 b6) (T.keep _ _ _ st3 fun b hb o e => by rw [e6]; exact (pin' b hb o e).1) (fun b hb => ?_) w')
        obtain ⟨o, e, _⟩ := T.obj _ _ st3 b hb
        exact (pin' b hb o e).2
      · rw [if_neg hb] at q5
        have e : b = !al := bne_of hb
        exact .inl ⟨by rw [e], q5⟩
end
end My

set_option Elab.async false
set_option linter.all false
set_option maxRecDepth 100000
set_option maxHeartbeats 4000000
namespace My
open PySem PySem.Spec PyProof.Rows L2 GxR NdefX GenW
section
variable {Y : Cx} {QF : V → Hp → Prop} {a : Addr} {go : Obj} {g : Nat} {A0 : Around} {Re : Result → Shared → Prop}
theorem pull_all {al : Bool} {n : Nat} {s : Shared} {gs : GenState} {Q : Option Value → Shared → Prop} {E : Value → Shared → Prop} (hh : A0.handled = none) (hroom : A0.depth < recursionLimit) (hgen : ∀ h : Heap, h.get? a = some go → h.IsGen a g)
    (hgs : s.gens[g]? = some gs) (hI : ∃ σ H, Inv Y [(a, go)] σ H s)
    (hgo : gs.Goes (model Y.prog Y.w) A0.in1 (fun n s₀ r s₁ => r = .ok .next ∧ PAll Y [(a, go)] al QF n s₀ s₁) (YAll Y [(a, go)] al QF) n (.send .none) (s.setGen g .running))
    (hN : ∀ σ H s', Inv Y [(a, go)] σ H s' → QF (.bl al) H → Q none s') (hS : ∀ σ H s', Inv Y [(a, go)] σ H s' → QF (.bl (!al)) H → Q (some (.bool (!al))) s')
    (hG : ∀ m gs' s', n = m + 1 → s'.gens[g]? = some gs' → (∃ σ H, Inv Y [(a, go)] σ H s') →
      gs'.Goes (model Y.prog Y.w) A0.in1 (fun n s₀ r s₁ => r = .ok .next ∧ PAll Y [(a, go)] al QF n s₀ s₁) (YAll Y [(a, go)] al QF) m (.send .none) (s'.setGen g .running) → Q (some (.bool al)) s') :
    wpAny (model Y.prog Y.w) A0 (pyNext (.ref a)) Q E s := by
  obtain ⟨σ, H, I⟩ := hI
  have hlt : g + 1 ≤ s.gens.size := by
    obtain ⟨h, _⟩ := Array.getElem?_eq_some_iff.mp hgs
    exact h
  refine wpAny_gsz hlt ?_
  refine wpAny_pyNext_genexpQ (P := PAll Y [(a, go)] al QF) hh I.nolimit hroom (hgen _ (I.pin (a, go) (List.mem_append_right _ List.mem_cons_self)).1) hgs hgo (fun v s₁ gs' hb hy => ?_) (fun s₁ hp h' hk => ?_)
  · intro hz
    obtain ⟨σ1, H1, I1, hv⟩ := hy
    have I2 : Inv Y [(a, go)] σ1 H1 (s₁.setGen g gs') := inv_same I1 rfl rfl (allBare_setGen I1.bare hb)
    rcases hv with ⟨rfl, q⟩ | ⟨rfl, kap⟩
    · exact hS _ _ _ I2 q
    · have e := kap ((s₁.setGen g gs').setGen g .running) rfl rfl (allBare_setGen I2.bare rfl)
      cases n with
      | zero => exact e.elim
      | succ m =>
        have hz' : g < s₁.gens.size := by
          rw [setGen_size] at hz
          exact hz
        exact hG m gs' _ rfl (setGen_at hz') ⟨_, _, I2⟩ e
  · intro _
    obtain ⟨σ1, H1, I1, q⟩ := hp
    exact hN σ1 H1 _ ((inv_same (s' := s₁.setGen g .finished) I1 rfl rfl (allBare_setGen I1.bare rfl)).kept (t' := s₁.toks) hk) q
theorem all_turns (hh : A0.handled = none) (hroom : A0.depth < recursionLimit) (hgen : ∀ h : Heap, h.get? a = some go → h.IsGen a g)
    (hR : ∀ σ H b s, Inv Y [(a, go)] σ H s → QF (.bl b) H → Re (.ok (.ret (.bool b))) s) : ∀ (n : Nat) (s : Shared) (gs : GenState), s.gens[g]? = some gs → (∃ σ H, Inv Y [(a, go)] σ H s) →
      gs.Goes (model Y.prog Y.w) A0.in1.in1 (fun n s₀ r s₁ => r = .ok .next ∧ PAll Y [(a, go)] true QF n s₀ s₁) (YAll Y [(a, go)] true QF) n (.send .none) (s.setGen g .running) →
      codeAny (model Y.prog Y.w) A0 (.builtin "all.loop" ⟨[.ref a], []⟩) Re s := by
  intro n
  induction n with
  | zero =>
    intro s gs hgs hI hgo
    refine codeAny_builtin F.entry_all_loop ?_
    rw [Around.under_plainId F.plain_all_loop _]
    show wpAny _ A0.in1 (pyNext (.ref a) >>= _) _ _ s
    refine wpAny_bind (pull_all (A0 := A0.in1) hh hroom hgen hgs hI hgo (fun σ H s' I q => ?_) (fun σ H s' I q => ?_) fun m gs' s' e _ _ _ => ?_)
    · exact wpAny_bind (wpAny_rule (wpAny_pure (hR σ H true s' I q)))
    · refine wpAny_bind (wpAny_holding (wpAny_truthy_bool ?_))
      refine wpAny_bind (wpAny_letGo ?_)
      exact wpAny_bind (wpAny_rule (wpAny_pure (hR σ H false s' I q)))
    · cases e
  | succ n ih =>
    intro s gs hgs hI hgo
    refine codeAny_builtin F.entry_all_loop ?_
    rw [Around.under_plainId F.plain_all_loop _]
    show wpAny _ A0.in1 (pyNext (.ref a) >>= _) _ _ s
    refine wpAny_bind (pull_all (A0 := A0.in1) hh hroom hgen hgs hI hgo (fun σ H s' I q => ?_) (fun σ H s' I q => ?_) fun m gs' s' e h1 h2 h3 => ?_)
    · exact wpAny_bind (wpAny_rule (wpAny_pure (hR σ H true s' I q)))
    · refine wpAny_bind (wpAny_holding (wpAny_truthy_bool ?_))
      refine wpAny_bind (wpAny_letGo ?_)
      exact wpAny_bind (wpAny_rule (wpAny_pure (hR σ H false s' I q)))
    · obtain rfl : n = m := Nat.succ.inj e
      refine wpAny_bind (wpAny_holding (wpAny_truthy_bool ?_))
      refine wpAny_bind (wpAny_letGo ?_)
      exact wpAny_pure ⟨plainId_quiet F.plain_all_loop _, ih s' gs' h1 h2 h3⟩
theorem any_turns (hh : A0.handled = none) (hroom : A0.depth < recursionLimit) (hgen : ∀ h : Heap, h.get? a = some go → h.IsGen a g)
    (hR : ∀ σ H b s, Inv Y [(a, go)] σ H s → QF (.bl b) H → Re (.ok (.ret (.bool b))) s) : ∀ (n : Nat) (s : Shared) (gs : GenState), s.gens[g]? = some gs → (∃ σ H, Inv Y [(a, go)] σ H s) →
      gs.Goes (model Y.prog Y.w) A0.in1.in1 (fun n s₀ r s₁ => r = .ok .next ∧ PAll Y [(a, go)] false QF n s₀ s₁) (YAll Y [(a, go)] false QF) n (.send .none) (s.setGen g .running) →
      codeAny (model Y.prog Y.w) A0 (.builtin "any.loop" ⟨[.ref a], []⟩) Re s := by
  intro n
  induction n with
  | zero =>
    intro s gs hgs hI hgo
    refine codeAny_builtin F.entry_any_loop ?_
    rw [Around.under_plainId F.plain_any_loop _]
    show wpAny _ A0.in1 (pyNext (.ref a) >>= _) _ _ s
    refine wpAny_bind (pull_all (A0 := A0.in1) hh hroom hgen hgs hI hgo (fun σ H s' I q => ?_) (fun σ H s' I q => ?_) fun m gs' s' e _ _ _ => ?_)
    · exact wpAny_bind (wpAny_rule (wpAny_pure (hR σ H false s' I q)))
    · refine wpAny_bind (wpAny_holding (wpAny_truthy_bool ?_))
      refine wpAny_bind (wpAny_letGo ?_)
      exact wpAny_bind (wpAny_rule (wpAny_pure (hR σ H true s' I q)))
    · cases e
  | succ n ih =>
    intro s gs hgs hI hgo
    refine codeAny_builtin F.entry_any_loop ?_
    rw [Around.under_plainId F.plain_any_loop _]
    show wpAny _ A0.in1 (pyNext (.ref a) >>= _) _ _ s
    refine wpAny_bind (pull_all (A0 := A0.in1) hh hroom hgen hgs hI hgo (fun σ H s' I q => ?_) (fun σ H s' I q => ?_) fun m gs' s' e h1 h2 h3 => ?_)
    · exact wpAny_bind (wpAny_rule (wpAny_pure (hR σ H false s' I q)))
    · refine wpAny_bind (wpAny_holding (wpAny_truthy_bool ?_))
      refine wpAny_bind (wpAny_letGo ?_)
      exact wpAny_bind (wpAny_rule (wpAny_pure (hR σ H true s' I q)))
    · obtain rfl : n = m := Nat.succ.inj e
      refine wpAny_bind (wpAny_holding (wpAny_truthy_bool ?_))
      refine wpAny_bind (wpAny_letGo ?_)
      exact wpAny_pure ⟨plainId_quiet F.plain_any_loop _, ih s' gs' h1 h2 h3⟩
end
end My

set_option Elab.async false
set_option linter.all false
set_option maxRecDepth 100000
set_option maxHeartbeats 4000000
namespace My
open PySem PySem.Spec PyProof.Rows L2 GxR NdefX GenW
/-- all(e for x in ..): P the def's table of code objects; W by the turn and a measure -/
def tGen (al : Bool) (P : Addr) (wi : TI) (own : List (Str × Nat)) (te : TE) : TE := fun σ H Q => wi σ H fun J H1 => TabG H1 P ∧ ∀ H2, Tabbed P H1 H2 → ∃ W : Nat → Nat → Hp → Prop, (∃ m, W 0 m H2) ∧ TAll σ own te al J W Q
/-- the generator's scope is in order -/
def genOk (scope : Scope) (x : Str) : Bool := scope.kind == .function && !scope.isCoroutine && scope.names.all (fun y => y.2 != .cell) && scope.names.lookup (".0" : Str) == some NameKind.local && scope.names.lookup x == some NameKind.local
def freeOk (sc scope : Scope) : Bool := scope.names.all fun y => y.2 != .free || sc.names.lookup y.1 == some NameKind.cell || sc.names.lookup y.1 == some NameKind.free
theorem gens_of {env : Env} {scope : Scope} {x : Str} (h : genOk scope x = true) (hf : freeOk env.scope scope = true) (has : ∀ y, (env.kindOf y = some .cell ∨ env.kindOf y = some .free) → ∃ c, env.cells.lookup y = some c) : GenS env scope x := by
  unfold genOk at h
  simp only [Bool.and_eq_true, beq_iff_eq, Bool.not_eq_true', List.all_eq_true, bne_iff_ne] at h
  obtain ⟨⟨⟨⟨h1, h2⟩, h3⟩, h4⟩, h5⟩ := h
  refine ⟨h1, h2, h3, h4, h5, fun y hy e => ?_⟩
  unfold freeOk at hf
  have q := List.all_eq_true.mp hf y hy
  simp only [Bool.or_eq_true, bne_iff_ne, beq_iff_eq] at q
  refine has y.1 ?_
  rcases q with (q | q) | q
  · exact absurd e q
  · exact .inl q
  · exact .inr q
section
variable {X : Cx} {pins : List (Addr × Obj)} {σ : L2.St} {H : Hp} {s : Shared}
theorem gen_made {al : Bool} {c P : Addr} {elt iter : Expr} {x : Str} {px gpos : Pos} {scope : Scope} {wi : TI} {te : TE} {own : List (Str × Nat)} {k : Nat} {Q : VK} {Q' : Value → Shared → Prop}
    (hr : Room (k + 1) X.A) (hcalm : X.calm = true) (TB : TabB X.base X.mg c P) (hcode : X.env.code = .ref c) (S : GenS X.env scope x) (hc : Caps X scope own) (hnd : (gN x own).Nodup) (hi : PI X (.Name x px) iter wi)
    (he : ∀ (s : Shared) (H : Hp) (A : Around) (cl : List (Str × Addr)) (C : Addr) (code : Value) (bi : Addr) (fp : List Addr), Room k A → PE (gcx X s H A (gN x own) (genEnv scope cl C code bi X.env) fp) elt te)
    (hs : ∀ v, genFold iter X.env v = pure v) (I : Inv X pins σ H s) (h : tGen al P wi own te σ H Q)
    (hQ : ∀ (Y : Cx) (a g : Nat) (go : Obj) (n : Nat) (cs : Code) (s5 : Shared), Y.prog = X.prog → Y.w = X.w → (∀ h : Heap, h.get? a = some go → h.IsGen a g) → s5.gens[g]? = some (.fresh cs) → (∃ σ H, Inv Y [(a, go)] σ H s5) → s5.heap.IsGen a g →
      GenState.Goes (model X.prog X.w) X.A.in1.in1 (fun n s₀ r s₁ => r = .ok .next ∧ PAll Y [(a, go)] al Q n s₀ s₁) (YAll Y [(a, go)] al Q) n (.fresh cs) (.send .none) (s5.setGen g .running) →
      (∀ σ' H' s', Inv Y [(a, go)] σ' H' s' → Inv X pins σ H' s') → Q' (.ref a) s5) :
    wpAny (model X.prog X.w) X.A (eval (.GeneratorExp elt [⟨.Name x px, iter, [], 0⟩] scope gpos) X.env) Q' X.xe s := by
  refine wpAny_GeneratorExp_make S.co (closure_ok S.free) S.cell S.dot S.kind (by have := hr.dp; omega) ?_ hs
  refine thn (hi.run pins s σ H _ I h) fun xv s1 hx => thn hx fun itv s2 h2 => ?_
  obtain ⟨it, fp, tn, J, H2, e, I2, T, st2, f2, ⟨ps, hP, ht⟩, q⟩ := h2
  subst e
  refine ⟨I2.nolimit, ?_⟩
  have hPs : s2.heap.get? P = some { cls := .none, data := .fields ps } := I2.hok P _ hP
  have cd : PySem.W.CodeHd s2.heap c P := TB.code.keeps fun b u e => I2.bk b u e
  have nP : ∀ b ∈ fp, b ≠ P := fun b hb z => by
    have := (f2 b hb).1
    rw [z, hP] at this
    cases this
  have cont : ∀ (code : Value) (s3 : Shared) (H3 : Hp), Inv X pins σ H3 s3 → Tabbed P H2 H3 → (∀ b u, b ≠ P → s2.heap.get? b = some u → s3.heap.get? b = some u) →
      wpAny (model X.prog X.w) X.A (builtinsFor X.env.globals X.env.builtins) (fun bi s₄ =>
        ∀ h', h'.Ns s₄.heap.objs.size (fun y => if y = ".0" then some (.ref it) else none) → Heap.SameBut s₄.heap.objs.size (s₄.heap.push { cls := .type "frame", data := .dict #[] }) h' →
          Q' (.ref h'.objs.size) { s₄ with
            gens := s₄.gens.push (.fresh (.compStart (.GeneratorExp elt [⟨.Name x px, iter, [], 0⟩] scope gpos) 0 (.ref it) .none (genEnv scope (cloFrom X.env.cells scope.names []) s₄.heap.objs.size code bi X.env))),
            toks := s₄.toks + 1 + 1 + 1,
            heap := h'.push { cls := .type "generator", data := .fields #[.int s₄.gens.size 0, .str "<genexpr>" (s₄.toks + 1), .str (X.env.qual ++ "<genexpr>") (s₄.toks + 1 + 1)] } }) X.xe s3 := by
    intro code s3 H3 I3 hT kp3
    obtain ⟨bm, ob, e1, e2, e3, e4, e5, e6, e7, e8⟩ := TB.bm
    refine wpAny_builtinsFor (m := X.mg) (by rw [I3.ok.glob]; exact I3.mod.glob.keeps I3.bk) e1 e2 (I3.bk _ _ e5) e6 e7 e8 ?_
    intro h' hn' hs'
    have keep' : ∀ b o, s3.heap.get? b = some o → h'.get? b = some o := fun b o e => hs'.extBut b o (Nat.ne_of_lt (Heap.lt_size e)) (Heap.get?_push_of_some _ e)
    have hsz : h'.objs.size = s3.heap.objs.size + 1 := by rw [hs'.1, Heap.size_push]
    have ffp : ∀ b ∈ fp, FpOk X pins H3 b ∧ b < s3.heap.objs.size := fun b hb => by
      obtain ⟨o, e, _⟩ := T.obj _ _ st2 b hb
      exact ⟨⟨by rw [hT.2 b (nP b hb)]; exact (f2 b hb).1, (f2 b hb).2⟩, Heap.lt_size (kp3 b o (nP b hb) e)⟩
    have st3 : tn 0 s3.heap := T.keep _ _ _ st2 fun b hb o e => kp3 b o (nP b hb) e
    obtain ⟨W, ⟨m0, w0⟩, turn⟩ := q H3 hT
    generalize hgo : ({ cls := .type "generator", data := .fields #[.int s3.gens.size 0, .str "<genexpr>" (s3.toks + 1), .str (X.env.qual ++ "<genexpr>") (s3.toks + 1 + 1)] } : Obj) = go
    have kp5 : ∀ b o, s3.heap.get? b = some o → (h'.push go).get? b = some o := fun b o e => Heap.get?_push_of_some _ (keep' b o e)
    have hisg : ∀ h : Heap, h.get? h'.objs.size = some go → h.IsGen h'.objs.size s3.gens.size := fun h e => ⟨go, _, _, e, by rw [← hgo], by rw [← hgo], by rw [← hgo]⟩
    have hA : (X.A.in1.in1.over (.compLoop (.GeneratorExp elt [⟨.Name x px, iter, [], 0⟩] scope gpos) 0 (.ref it) .none (genEnv scope (cloFrom X.env.cells scope.names []) s3.heap.objs.size code builtinsNs X.env)) []).frames = some (genEnv scope (cloFrom X.env.cells scope.names []) s3.heap.objs.size code builtinsNs X.env :: X.stack) := by
      show pushEnvs [genEnv scope (cloFrom X.env.cells scope.names []) s3.heap.objs.size code builtinsNs X.env] (pushEnvs [] X.A.frames) = _
      rw [I3.ok.frames]
      rfl
    have hRm : Room k (X.A.in1.in1.over (.compLoop (.GeneratorExp elt [⟨.Name x px, iter, [], 0⟩] scope gpos) 0 (.ref it) .none (genEnv scope (cloFrom X.env.cells scope.names []) s3.heap.objs.size code builtinsNs X.env)) []) := by
      have d := hr.dp
      have u := hr.un
      refine ⟨hr.hd, ?_, ?_⟩
      · show X.A.depth + 0 + 1 + 3 * k + 5 < _
        omega
      · show X.A.units + 1 + 1 + 0 + 3 + 16 * k + 200 < _
        omega
    have I5 := gen_start (it := it) (a := h'.objs.size) (go := go) (fp := fp) (own := own) (A := X.A.in1.in1.over (.compLoop (.GeneratorExp elt [⟨.Name x px, iter, [], 0⟩] scope gpos) 0 (.ref it) .none (genEnv scope (cloFrom X.env.cells scope.names []) s3.heap.objs.size code builtinsNs X.env)) [])
      (gg := s3.gens.push (.fresh (.compStart (.GeneratorExp elt [⟨.Name x px, iter, [], 0⟩] scope gpos) 0 (.ref it) .none (genEnv scope (cloFrom X.env.cells scope.names []) s3.heap.objs.size code builtinsNs X.env)))) (tk := s3.toks + 1 + 1 + 1)
      I3 ffp S hc hr.hd hA rfl hn' kp5 hsz rfl (fun v z => by rw [← hgo] at z; cases z) (by rw [← hgo]; rfl) (I3.bare.push rfl)
    have haf : ∀ b ∈ fp, h'.objs.size ≠ b := fun b hb z => by
      have := (ffp b hb).2
      rw [← z, hsz] at this
      exact absurd this (Nat.not_lt.mpr (Nat.le_succ _))
    refine hQ (gcx X s3 H3 (X.A.in1.in1.over (.compLoop (.GeneratorExp elt [⟨.Name x px, iter, [], 0⟩] scope gpos) 0 (.ref it) .none (genEnv scope (cloFrom X.env.cells scope.names []) s3.heap.objs.size code builtinsNs X.env)) []) (gN x own) (genEnv scope (cloFrom X.env.cells scope.names []) s3.heap.objs.size code builtinsNs X.env) fp) h'.objs.size s3.gens.size go (m0 + 1) _ _ rfl rfl hisg (Array.getElem?_push_size ..) ⟨_, _, I5⟩ (hisg _ (Heap.get?_push_size _ (by rw [← hgo]; rfl))) ⟨rfl, ?_⟩ (fun σ' H' s' I6 => ?_)
    · have loop := seg_all (X := X) (A := X.A.in1.in1) (al := al) (W := W) (QF := Q) (elt := elt) (iter := iter) (x := x) (px := px) (gpos := gpos) (scope := scope) (cenv := genEnv scope (cloFrom X.env.cells scope.names []) s3.heap.objs.size code builtinsNs X.env)
        (s₁ := s3) (H₁ := H3) (own := own) (fp := fp) (it := it) (a := h'.objs.size) (go := go) (J := J) (tn := tn) (σ := σ) (te := te) rfl S.loc S.co hnd haf T (he _ _ _ _ _ _ _ _ hRm) turn m0 (m0 + 1) 0
      have st5 : tn 0 (h'.push go) := T.keep _ _ _ st3 fun b _ o e => kp5 b o e
      have nf5 : ∀ b ∈ fp, H3 b = none := fun b hb => (ffp b hb).1.1
      generalize hs5 : ({ s3 with gens := s3.gens.push (.fresh (.compStart (.GeneratorExp elt [⟨.Name x px, iter, [], 0⟩] scope gpos) 0 (.ref it) .none (genEnv scope (cloFrom X.env.cells scope.names []) s3.heap.objs.size code builtinsNs X.env))), toks := s3.toks + 1 + 1 + 1, heap := h'.push go } : Shared) = s5 at I5 ⊢
      have h5 : s5.heap = h'.push go := by rw [← hs5]
      have I5' := inv_same (s' := s5.setGen s3.gens.size .running) I5 rfl rfl (allBare_setGen I5.bare rfl)
      have lp := loop (s5.setGen s3.gens.size .running) (s5.setGen s3.gens.size .running) H3 none (Nat.lt_succ_self _) I5' (by show tn 0 s5.heap; rw [h5]; exact st5) nf5 w0
      show Seg _ _ _ _ _ _ _ ((compStart (.GeneratorExp elt [⟨.Name x px, iter, [], 0⟩] scope gpos) 0 (.ref it) .none (genEnv scope (cloFrom X.env.cells scope.names []) s3.heap.objs.size code builtinsNs X.env)).onRaise (leaving (genEnv scope (cloFrom X.env.cells scope.names []) s3.heap.objs.size code builtinsNs X.env))) [] _
      unfold compStart
      rw [Sem.onRaise_eq_wrap]
      show Seg _ _ _ _ _ _ _ ((ask >>= _).wrap _ _ _ _) [] _
      refine seg_bind_wrap (wpAny_askSetting ?_)
      have slf : tn 0 (s5.setGen s3.gens.size .running).heap := by
        show tn 0 s5.heap
        rw [h5]
        exact st5
      split
      · exact seg_again rfl lp
      · first
          | exact seg_bind_wrap (wpAny_rule (seg_bind_wrap (wpAny_standAt (seg_bind_wrap (T.self _ 0 _ _ _ slf (seg_again rfl lp))))))
          | (refine seg_bind_wrap (wpAny_rule ?_); show Seg _ _ _ _ _ _ _ ((standAt iter.pos >>= _).wrap _ _ _ _) [] _; exact seg_bind_wrap (wpAny_standAt (seg_bind_wrap (T.self _ 0 _ _ _ slf (seg_again rfl lp)))))
    · exact I3.call' (ch := fp) I6.os I6.base I6.hok I6.bare fun b hb => ⟨(ffp b hb).1.2.2.2.1, (ffp b hb).1.2.1, (ffp b hb).1.2.2.2.2.1, (ffp b hb).1.2.2.2.2.2⟩
  cases hf : codeAmong gpos ps.toList with
  | none =>
    refine wpAny_genexprCodeX hcode (cd.code hPs ht) (cd.tab hPs) hf fun c' h3 tk hx hge hlt hco' _ htab' _ => ?_
    obtain ⟨o1, vs, f1, tf, fl, tg, inF, tx, tt, op, _, _, _, _, _, _, _, _, _, htr, _⟩ := hco'
    have I3 := inv_tab (g' := s2.gens) (d' := s2.drawn) (t' := tk) I2 hP (fun b o hb e => hx b o hb e) htab'.2 I2.bare
    exact cont _ _ _ I3 ⟨⟨_, upd_same, htr⟩, fun b hb => upd_ne hb⟩ fun b u hb e => hx b u hb e
  | some cv =>
    refine wpAny_genexprCode_hit hcode (cd.code hPs ht) hf ?_
    exact cont cv s2 H2 I2 ⟨⟨ps, hP, ht⟩, fun _ _ => rfl⟩ fun _ _ _ e => e
theorem pe_allG {c P : Addr} {elt iter : Expr} {x : Str} {px p pos gpos : Pos} {scope : Scope} {wi : TI} {te : TE} (own : List (Str × Nat)) {k : Nat}
    (hr : Room (k + 1) X.A) (hg : Gl X "all") (hm : X.mg "all" = none) (TB : TabB X.base X.mg c P) (hcode : X.env.code = .ref c) (gk : genOk scope x = true) (fk : freeOk X.env.scope scope = true) (hc : Caps X scope own) (hnd : (gN x own).Nodup) (hcalm : X.calm = true) (hi : PI X (.Name x px) iter wi)
    (he : ∀ (s : Shared) (H : Hp) (A : Around) (cl : List (Str × Addr)) (C : Addr) (code : Value) (bi : Addr) (fp : List Addr), Room k A → PE (gcx X s H A (gN x own) (genEnv scope cl C code bi X.env) fp) elt te)
    (hs : ∀ v, genFold iter X.env v = pure v := by intro _; rfl)
    (hE : starEach [.GeneratorExp elt [⟨.Name x px, iter, [], 0⟩] scope gpos] X.env = (false, eval (.GeneratorExp elt [⟨.Name x px, iter, [], 0⟩] scope gpos) X.env) :: starEach [] X.env := by rfl) :
    PE X (.Call (.Name "all" p) [.GeneratorExp elt [⟨.Name x px, iter, [], 0⟩] scope gpos] [] pos) (tGen true P wi own te) := by
  refine ⟨fun pins s σ H Q I h => ?_⟩
  refine wpAny_Call_Name_kw (ld_blt I hg hm (by decide +kernel : bootBuiltins "all" = some (.builtin "all")) ?_)
  refine PyProof.Rows.callWith_builtin1 ?_ hE (by rfl)
  rw [hE]
  show wpAny _ _ (spliced ((false, eval (.GeneratorExp elt [⟨.Name x px, iter, [], 0⟩] scope gpos) X.env) :: backTo pos (starEach [] X.env))) _ _ s
  refine Calls.spliced_cons (gen_made hr hcalm TB hcode (gens_of gk fk I.ok.has) hc hnd hi he hs I h fun Y a g go n cs s5 hp hw hgen hgs hI hisg hgo hback => ?_)
  refine Calls.spliced_nil ?_
  refine call_function_tree F.kind_all F.plain_all F.entry_all (F.args_all1 _) ?_
  unfold Builtin.«all»
  refine wpAny_bind (m := oneArg "all" _) (wpAny_pure ?_)
  refine wpAny_bind (wpAny_pyIter_gen hisg ?_)
  rw [← hp, ← hw] at hgo ⊢
  exact wpAny_pure ⟨plainId_quiet F.plain_all_loop _, all_turns (A0 := X.A) (QF := Q) hr.hd (by have := hr.dp; omega) hgen (fun σ' H' b s6 I6 q => ⟨.bl b, H', hback _ _ _ I6, rfl, q⟩) n s5 _ hgs hI hgo⟩
theorem pe_anyG {c P : Addr} {elt iter : Expr} {x : Str} {px p pos gpos : Pos} {scope : Scope} {wi : TI} {te : TE} (own : List (Str × Nat)) {k : Nat}
    (hr : Room (k + 1) X.A) (hg : Gl X "any") (hm : X.mg "any" = none) (TB : TabB X.base X.mg c P) (hcode : X.env.code = .ref c) (gk : genOk scope x = true) (fk : freeOk X.env.scope scope = true) (hc : Caps X scope own) (hnd : (gN x own).Nodup) (hcalm : X.calm = true) (hi : PI X (.Name x px) iter wi)
    (he : ∀ (s : Shared) (H : Hp) (A : Around) (cl : List (Str × Addr)) (C : Addr) (code : Value) (bi : Addr) (fp : List Addr), Room k A → PE (gcx X s H A (gN x own) (genEnv scope cl C code bi X.env) fp) elt te)
    (hs : ∀ v, genFold iter X.env v = pure v := by intro _; rfl)
    (hE : starEach [.GeneratorExp elt [⟨.Name x px, iter, [], 0⟩] scope gpos] X.env = (false, eval (.GeneratorExp elt [⟨.Name x px, iter, [], 0⟩] scope gpos) X.env) :: starEach [] X.env := by rfl) :
    PE X (.Call (.Name "any" p) [.GeneratorExp elt [⟨.Name x px, iter, [], 0⟩] scope gpos] [] pos) (tGen false P wi own te) := by
  refine ⟨fun pins s σ H Q I h => ?_⟩
  refine wpAny_Call_Name_kw (ld_blt I hg hm (by decide +kernel : bootBuiltins "any" = some (.builtin "any")) ?_)
  refine PyProof.Rows.callWith_builtin1 ?_ hE (by rfl)
  rw [hE]
  show wpAny _ _ (spliced ((false, eval (.GeneratorExp elt [⟨.Name x px, iter, [], 0⟩] scope gpos) X.env) :: backTo pos (starEach [] X.env))) _ _ s
  refine Calls.spliced_cons (gen_made hr hcalm TB hcode (gens_of gk fk I.ok.has) hc hnd hi he hs I h fun Y a g go n cs s5 hp hw hgen hgs hI hisg hgo hback => ?_)
  refine Calls.spliced_nil ?_
  refine call_function_tree F.kind_any F.plain_any F.entry_any (F.args_any1 _) ?_
  unfold Builtin.«any»
  refine wpAny_bind (m := oneArg "any" _) (wpAny_pure ?_)
  refine wpAny_bind (wpAny_pyIter_gen hisg ?_)
  rw [← hp, ← hw] at hgo ⊢
  exact wpAny_pure ⟨plainId_quiet F.plain_any_loop _, any_turns (A0 := X.A) (QF := Q) hr.hd (by have := hr.dp; omega) hgen (fun σ' H' b s6 I6 q => ⟨.bl b, H', hback _ _ _ I6, rfl, q⟩) n s5 _ hgs hI hgo⟩
end
/-! ### a def whose code object is known -/
structure FunC (K : PySem.W.Frag) (x qual : Str) (st : Stmt) (f : Addr) (fd : FuncData) (c : Addr) : Prop where
  ex : ∃ (oc : Value) (od : Option Addr) (kV doc pm : Value) (an : Option Addr) (ct : Value) (osl : Array (Option Value)),
    fd = PySem.W.fnOf x qual (defArgs st) (defBody st) (defScope st) .none kV doc pm an (.ref c) ct ∧ K.lookup f = some ⟨oc, od, .func fd, osl⟩ ∧ PySem.W.codeIn K (.ref c) qual = true
  kp : PySem.W.keepIn K (.ref f) = true
section
variable {P : Program} {w : World} {K : PySem.W.Frag} {mg : Str → Option Value} {base : Heap}
theorem FunC.fun {x qual : Str} {st : Stmt} {f : Addr} {fd : FuncData} {c : Addr} (F : FunC K x qual st f fd c) : Fun K x qual st f fd :=
  ⟨let ⟨oc, od, kV, doc, pm, an, ct, osl, h⟩ := F.ex; ⟨oc, od, kV, doc, pm, an, .ref c, ct, osl, h⟩, F.kp⟩
theorem FunC.ok {x qual : Str} {st : Stmt} {f : Addr} {fd : FuncData} {c : Addr} {N ps : List Str} {k : Nat} {sp : Sp} (F : FunC K x qual st f fd c) (S : FnScope N ps (defScope st)) (len : ∀ vs H Q E, sp vs H Q E → vs.length = ps.length)
    (hbody : ∀ (A : Around) (outer : List Env) (s : Shared) (H : Hp) (vs : List V) (Q : VK) (E : XK), Room k (A.deeper (envOfC qual (defScope st) s.heap.objs.size f (.ref c))) → sp vs H Q E →
      ∃ t, PSs (cxOf CX0 P w K mg base N qual (defScope st) f (.ref c) A outer s H E).nox (defBody st) t ∧ t { nx := fun _ H' => Q .non H', rt := Q } (start N vs) H) : FnOk P w K mg base CX0 (k + 1) f fd ps sp := by
  obtain ⟨oc, od, kV, doc, pm, an, ct, osl, e, lk, hcd⟩ := F.ex
  cases e
  refine fn_of lk hcd S len fun A outer s H vs Q E hr hsp => ?_
  obtain ⟨t, h, q⟩ := hbody A outer s H vs Q E hr hsp
  exact ⟨t, h.nox, q⟩
theorem func_mk {x qual : Str} {st : Stmt} {f c : Addr} {oc : Value} {od an : Option Addr} {osl : Array (Option Value)} {kV doc pm ct : Value} (l : K.lookup f = some ⟨oc, od, .func (PySem.W.fnOf x qual (defArgs st) (defBody st) (defScope st) .none kV doc pm an (.ref c) ct), osl⟩)
    (h : PySem.W.codeIn K (.ref c) qual = true) (k : PySem.W.keepIn K (.ref f) = true) : FunC K x qual st f (PySem.W.fnOf x qual (defArgs st) (defBody st) (defScope st) .none kV doc pm an (.ref c) ct) c := ⟨⟨oc, od, kV, doc, pm, an, ct, osl, rfl, l, h⟩, k⟩
end
end My

set_option Elab.async false
set_option linter.all false
set_option maxRecDepth 100000
/-! data of ints, texts, truth values, None and tuples; heaps that keep all but some places -/
namespace My
open PySem PySem.Spec PyProof.Rows L2
/-! ### what is kept -/
structure KT (S : List Addr) (H H' : Hp) : Prop where
  kp : ∀ b o, b ∉ S → H b = some o → H' b = some o
  tp : ∀ b xs, H b = some (.tup xs) → H' b = some (.tup xs)
  fz : ∀ b o u, H b = some (.frz o u) → H' b = some (.frz o u)
  th : ∀ b o, H b = some o → ∃ o', H' b = some o'
  hd : ∀ b c t, H b = some (.lst (.ref c :: t)) → ∃ t', H' b = some (.lst (.ref c :: t'))
section
variable {S S' : List Addr} {H H1 H2 H' : Hp} {K : PySem.W.Frag}
theorem KT.refl (S : List Addr) (H : Hp) : KT S H H := ⟨fun _ _ _ e => e, fun _ _ e => e, fun _ _ _ e => e, fun _ o e => ⟨o, e⟩, fun _ _ t e => ⟨t, e⟩⟩
theorem KT.trans (a : KT S H H1) (b : KT S H1 H2) : KT S H H2 :=
  ⟨fun c o n e => b.kp c o n (a.kp c o n e), fun c xs e => b.tp c xs (a.tp c xs e), fun c o u e => b.fz c o u (a.fz c o u e), fun c o e => let ⟨o', e'⟩ := a.th c o e; b.th c o' e', fun c d t e => let ⟨t', e'⟩ := a.hd c d t e; b.hd c d t' e'⟩
theorem KT.mono (a : KT S H H1) (h : ∀ b ∈ S, b ∈ S') : KT S' H H1 := ⟨fun b o n e => a.kp b o (fun z => n (h b z)) e, a.tp, a.fz, a.th, a.hd⟩
theorem KT.new (S : List Addr) {p : Addr} {o : HO} (h : H p = none) : KT S H (upd H p o) :=
  ⟨fun b x _ e => by rw [upd_ne (ne_of_none e h)]; exact e, fun b x e => by rw [upd_ne (ne_of_none e h)]; exact e, fun b x u e => by rw [upd_ne (ne_of_none e h)]; exact e, fun b x e => ⟨x, by rw [upd_ne (ne_of_none e h)]; exact e⟩, fun b c t e => ⟨t, by rw [upd_ne (ne_of_none e h)]; exact e⟩⟩
theorem KT.of_same (a : Same H H1) : KT S H H1 := ⟨fun b o _ e => a b o e, fun b xs e => a b _ e, fun b o u e => a b _ e, fun b o e => ⟨o, a b o e⟩, fun b c t e => ⟨t, a b _ e⟩⟩
/-- a place changes that is no tuple and not locked -/
theorem KT.put {p : Addr} {u o : HO} (hp : p ∈ S) (h : H p = some u) (h1 : ∀ xs, u ≠ .tup xs) (h2 : ∀ o v, u ≠ .frz o v) (h3 : ∀ xs, u ≠ .lst xs) : KT S H (upd H p o) :=
  ⟨fun b x n e => by rw [upd_ne (fun z => n (by rw [z]; exact hp))]; exact e, fun b x e => by
    rw [upd_ne (fun z => by rw [z, h] at e; exact h1 x (Option.some.inj e))]; exact e, fun b x v e => by
    rw [upd_ne (fun z => by rw [z, h] at e; exact h2 x v (Option.some.inj e))]; exact e, fun b x e => by
    by_cases z : b = p
    · exact ⟨o, by rw [z, upd_same]⟩
    · exact ⟨x, by rw [upd_ne z]; exact e⟩, fun b c t e => ⟨t, by rw [upd_ne (fun z => by rw [z, h] at e; exact h3 _ (Option.some.inj e))]; exact e⟩⟩
/-- a place changes that did not stand at the start -/
theorem KT.late {p : Addr} {o : HO} (a : KT S H H1) (h : H p = none) : KT S H (upd H1 p o) :=
  ⟨fun b x n e => by rw [upd_ne (ne_of_none e h)]; exact a.kp b x n e, fun b x e => by rw [upd_ne (ne_of_none e h)]; exact a.tp b x e, fun b x u e => by rw [upd_ne (ne_of_none e h)]; exact a.fz b x u e,
    fun b x e => by rw [upd_ne (ne_of_none e h)]; exact a.th b x e, fun b c t e => by rw [upd_ne (ne_of_none e h)]; exact a.hd b c t e⟩
theorem KT.free (a : KT S H H1) {p : Addr} (h : H1 p = none) : H p = none := by
  cases q : H p with
  | none => rfl
  | some o =>
    obtain ⟨o', e⟩ := a.th p o q
    rw [h] at e
    cases e
theorem KT.tab {P : Addr} (h : GxR.Tabbed P H H1) (t : GxR.TabG H P) (hP : P ∈ S) : KT S H H1 := by
  obtain ⟨ps, e, _⟩ := t
  obtain ⟨⟨ps', e', _⟩, k⟩ := h
  have ne : ∀ b o, H b = some o → (∀ q, o ≠ .tbl q) → b ≠ P := fun b o q n z => by rw [z, e] at q; exact n ps (Option.some.inj q).symm
  refine ⟨fun b o n q => ?_, fun b xs q => ?_, fun b o u q => ?_, fun b o q => ?_, fun b c t q => ⟨t, by rw [k b (ne b _ q (fun _ z => by cases z))]; exact q⟩⟩
  · rw [k b (fun z => n (by rw [z]; exact hP))]; exact q
  · rw [k b (ne b _ q (fun _ z => by cases z))]; exact q
  · rw [k b (ne b _ q (fun _ z => by cases z))]; exact q
  · by_cases z : b = P
    · exact ⟨_, by rw [z]; exact e'⟩
    · exact ⟨o, by rw [k b z]; exact q⟩
theorem KT.sqT (a : KT S H H1) {p : Addr} {xs : List V} (h : SqT K H p xs) : SqT K H1 p xs := by
  rcases h with (h | ⟨o, h⟩) | h
  · exact .inl (.inl (a.tp _ _ h))
  · exact .inl (.inr ⟨o, a.fz _ _ _ h⟩)
  · exact .inr h
theorem KT.sqL (a : KT S H H1) {p : Addr} {xs : List V} (n : p ∉ S) (h : SqL K H p xs) : SqL K H1 p xs := by
  rcases h with (h | ⟨o, h⟩) | h
  · exact .inl (.inl (a.kp _ _ n h))
  · exact .inl (.inr ⟨o, a.fz _ _ _ h⟩)
  · exact .inr h
end
/-! ### data -/
mutual
inductive Rp (K : PySem.W.Frag) (H : Hp) : V → PyData → Prop
  | non : Rp K H .non .none
  | bl (b : Bool) : Rp K H (.bl b) (.bool b)
  | int (i : Int) : Rp K H (.int i) (.int i)
  | str (x : Str) : Rp K H (.str x) (.str x)
  | tup {a : Addr} {xs : List V} {ds : List PyData} : SqT K H a xs → RpA K H xs ds → Rp K H (.ref a) (.tuple ds)
inductive RpA (K : PySem.W.Frag) (H : Hp) : List V → List PyData → Prop
  | nil : RpA K H [] []
  | cons {v : V} {vs : List V} {d : PyData} {ds : List PyData} : Rp K H v d → RpA K H vs ds → RpA K H (v :: vs) (d :: ds)
end
section
variable {K : PySem.W.Frag} {S : List Addr} {H H' : Hp}
mutual
theorem Rp.keep (k : KT S H H') : ∀ {d : PyData} {v : V}, Rp K H v d → Rp K H' v d
  | .none, _, h => by cases h; exact .non
  | .bool b, _, h => by cases h; exact .bl b
  | .int i, _, h => by cases h; exact .int i
  | .str x, _, h => by cases h; exact .str x
  | .list ds, _, h => by cases h
  | .dict ds, _, h => by cases h
  | .tuple ds, _, h => by
    cases h with
    | tup hs ha => exact .tup (k.sqT hs) (RpA.keep k ha)
theorem RpA.keep (k : KT S H H') : ∀ {ds : List PyData} {vs : List V}, RpA K H vs ds → RpA K H' vs ds
  | [], _, h => by cases h; exact .nil
  | d :: ds, _, h => by
    cases h with
    | cons h1 h2 => exact .cons (Rp.keep k h1) (RpA.keep k h2)
end
mutual
theorem Rp.dp : ∀ {d : PyData} {v : V}, Rp K H v d → Dp K H v d
  | .none, _, h => by cases h; exact .non
  | .bool b, _, h => by cases h; exact .bl b
  | .int i, _, h => by cases h; exact .int i
  | .str x, _, h => by cases h; exact .str x
  | .list ds, _, h => by cases h
  | .dict ds, _, h => by cases h
  | .tuple ds, _, h => by
    cases h with
    | tup hs ha => exact .tup hs (RpA.dp ha)
theorem RpA.dp : ∀ {ds : List PyData} {vs : List V}, RpA K H vs ds → DpAll K H vs ds
  | [], _, h => by cases h; exact .nil
  | d :: ds, _, h => by
    cases h with
    | cons h1 h2 => exact .cons (Rp.dp h1) (RpA.dp h2)
end
theorem RpA.length : ∀ {ds : List PyData} {vs : List V}, RpA K H vs ds → vs.length = ds.length
  | [], _, h => by cases h; rfl
  | d :: ds, _, h => by
    cases h with
    | cons h1 h2 => rw [List.length_cons, List.length_cons, RpA.length h2]
theorem RpA.get : ∀ {ds : List PyData} {vs : List V} {i : Nat} {v : V}, RpA K H vs ds → vs[i]? = some v → ∃ d, ds[i]? = some d ∧ Rp K H v d
  | [], _, i, v, h, e => by cases h; simp at e
  | d :: ds, _, i, v, h, e => by
    cases h with
    | cons h1 h2 =>
      cases i with
      | zero => simp at e; subst e; exact ⟨d, rfl, h1⟩
      | succ i =>
        obtain ⟨d', e', r⟩ := RpA.get h2 (i := i) (v := v) (by simpa using e)
        exact ⟨d', by simpa using e', r⟩
theorem RpA.app : ∀ {ds es : List PyData} {vs us : List V}, RpA K H vs ds → RpA K H us es → RpA K H (vs ++ us) (ds ++ es)
  | [], _, _, _, h, g => by cases h; exact g
  | d :: ds, _, _, _, h, g => by
    cases h with
    | cons h1 h2 => exact .cons h1 (RpA.app h2 g)
theorem RpA.snoc {ds : List PyData} {vs : List V} {v : V} {d : PyData} (h : RpA K H vs ds) (g : Rp K H v d) : RpA K H (vs ++ [v]) (ds ++ [d]) := h.app (.cons g .nil)
theorem RpA.take : ∀ {ds : List PyData} {vs : List V} (n : Nat), RpA K H vs ds → RpA K H (vs.take n) (ds.take n)
  | _, _, 0, _ => by simp only [List.take_zero]; exact .nil
  | [], _, n + 1, h => by cases h; simp only [List.take_nil]; exact .nil
  | d :: ds, _, n + 1, h => by
    cases h with
    | cons h1 h2 => rw [List.take_succ_cons, List.take_succ_cons]; exact .cons h1 (RpA.take n h2)
theorem RpA.drop : ∀ {ds : List PyData} {vs : List V} (n : Nat), RpA K H vs ds → RpA K H (vs.drop n) (ds.drop n)
  | _, _, 0, h => h
  | [], _, n + 1, h => by cases h; simp only [List.drop_nil]; exact .nil
  | d :: ds, _, n + 1, h => by
    cases h with
    | cons h1 h2 => rw [List.drop_succ_cons, List.drop_succ_cons]; exact RpA.drop n h2
/-- a tuple just made -/
theorem Rp.made {p : Addr} {vs : List V} {ds : List PyData} (hp : H p = none) (h : RpA K H vs ds) : Rp K (upd H p (.tup vs)) (.ref p) (.tuple ds) := .tup (SqT.of upd_same) (h.keep (KT.new [] hp))
theorem Rp.inv {v : V} {ds : List PyData} (h : Rp K H v (.tuple ds)) : ∃ a xs, v = .ref a ∧ SqT K H a xs ∧ RpA K H xs ds := by
  cases h with
  | tup hs ha => exact ⟨_, _, rfl, hs, ha⟩
theorem RpA.inv {vs : List V} {d : PyData} {ds : List PyData} (h : RpA K H vs (d :: ds)) : ∃ v r, vs = v :: r ∧ Rp K H v d ∧ RpA K H r ds := by
  cases h with
  | cons h1 h2 => exact ⟨_, _, rfl, h1, h2⟩
theorem RpA.inv0 {vs : List V} (h : RpA K H vs []) : vs = [] := by cases h; rfl
theorem Rp.sInv {v : V} {x : Str} (h : Rp K H v (.str x)) : v = .str x := by cases h; rfl
theorem Rp.iInv {v : V} {x : Int} (h : Rp K H v (.int x)) : v = .int x := by cases h; rfl
end
end My

set_option Elab.async false
set_option linter.all false
set_option maxRecDepth 100000
set_option maxHeartbeats 4000000
namespace My
open PySem PySem.Spec PyProof.Rows L2
theorem tuple_mul1 (l : Addr) (items : Array Value) (n : Nat) (dd : Option Addr) (sl : Array (Option Value)) (x : Int) (u : Tok) (c0 : (decide (x < -(2 ^ 63)) || decide (x ≥ 2 ^ 63)) = false) (c1 : (items.isEmpty || x == 1) = true) :
    Meets (Builtin.«tuple.__mul__» ⟨[.ref l, .int x u], []⟩) (fun _ R s => s.heap.get? l = some { cls := .type "tuple", dict := dd, data := .seq items n, slots := sl } ∧
      R (.ok (.ret (Value.ref l))) s) :=
  .of_wp fun prog w A R s h => by
    obtain ⟨hp, g, d, tk, os⟩ := s
    obtain ⟨hl, h⟩ := h
    have f1 := AutoSeq1.idx_int
    wp_walk using wpAny_loadPart' hl
    repeat (first
      | (refine wpAny_ite_false (decide_eq_false (by rw [c0]; exact Bool.false_ne_true)) ?_; wp_walk using wpAny_loadPart' hl)
      | (refine wpAny_ite_true (decide_eq_true c1) ?_; wp_walk using wpAny_loadPart' hl))
    exact ⟨_, rfl, h⟩
/-- (x,) * k, k from 1 on: the same tuple for 1, else a new one -/
def rRepZ (K : PySem.W.Frag) : R2 := fun x y H Q => ∃ l k xs, x = .ref l ∧ y = .int k ∧ SqT K H l xs ∧ xs ≠ [] ∧ 1 ≤ k ∧ k ≤ 1000 ∧ xs.length ≤ 1000 ∧ (k = 1 → Q (.ref l) H) ∧ (2 ≤ k → ∀ p, H p = none → Q (.ref p) (upd H p (.tup (List.replicate k.toNat xs).flatten)))
section
variable {X : Cx} {K : PySem.W.Frag}
theorem op_repZ (h : X.K = K) : OpR X (binaryOp .Mult) (rRepZ K) := by
  subst h
  intro pins s σ H x y v u Q I rx ry h
  obtain ⟨l, k, xs, rfl, rfl, hT, hne, h1, h2, hz, q1, q2⟩ := h
  by_cases hk : k = 1
  · subst hk
    have q := q1 rfl
    cases rx
    obtain ⟨t, rfl⟩ := ry
    obtain ⟨its, r, ⟨⟨cls, dd, data, sl⟩, ho, hc, n, hd⟩, hs⟩ := I.tuple hT
    simp only at hc hd
    subst hc hd
    refine wpAny_binaryOp_repeat_ref (T := "tuple") (U := "int") (by decide) ⟨_, ho, rfl⟩ (fun s' => typeIs_int s' 1 t) noFill_tuple_mul F.fills_int_mul F.slot_int_rmul repeat_tuple F.slot_int_index.lookup
      (call_meets F.slot_int_rmul (typeIs_int s 1 t) F.entry_int_rmul (F.args_int_rmul_2 _ _) (int_rmul_tuple 1 t l its.toArray n dd sl)
        ⟨ho, rfl, ⟨_, ho, rfl⟩, call_meets F.slot_tuple_mul ⟨_, ho, rfl⟩ F.entry_tuple_mul (F.args_tuple_mul_2 _ _) (tuple_mul1 l its.toArray n dd sl 1 t (by decide) (by simp)) ⟨ho, ?_⟩⟩)
    exact ⟨.ref l, H, I, rfl, q⟩
  · exact op_repT pins s σ H _ _ v u Q I rx ry ⟨l, k, xs, rfl, rfl, hT, hne, by omega, h2, hz, q2 (by omega)⟩
end
/-- the truth of the name in the i-th slot -/
theorem pt_truthK {X : Cx} {K : PySem.W.Frag} (h : X.K = K) (i : Nat) {x : Str} {pos : Pos} (hN : X.N[i]? = some x := by rfl) (hv : Vis X.env.scope x := by first | exact Or.inl rfl | exact Or.inr (Or.inl rfl) | exact Or.inr (Or.inr rfl)) (hd : (x == ("__debug__" : Str)) = false := by decide)
    (hcd : (x == ("__classdict__" : Str)) = false := by decide) : PT X (.Name x pos) (fun σ H Q => tVar i σ H fun x H' => ∃ k, TruV K x H' k ∧ Q k H') := by
  subst h
  exact pt_truth (pv i hN hv hd hcd) (by intro _; rfl)
end My

set_option Elab.async false
set_option linter.all false
set_option maxRecDepth 100000
/-! the end of a row whose defs hold generator expressions -/
namespace My
open PySem PySem.Spec PyProof.Rows L2
/-- what the head tells of the defs' code objects: their tables are empty -/
def RecTabs (q : Program) (mg : Str → Option Value) (h : Heap) : Prop := ∀ d ∈ recsOf q, ∃ a o fd c P, mg d.name = some (.ref a) ∧ h.get? a = some o ∧ o.data = .func fd ∧ fd.code = .ref c ∧ h.IsCode c P #[] ∧ h.TableAt c P #[]
theorem walk_ofG {l : PySem.W.OpenLaw} {n k : Nat} {q : Program} {loose : List Str} {XP : (Str → Option Value) → Heap → Prop} {YP : World → Heap → Prop} {d : DefRec} {K : Params → PySem.W.Frag} {x : Str}
    (hn : l.most = some n) (hn2 : n ≤ sizeLine) (hdf : d.params.defaults = []) (hr : Room k callerA) (hY : ∀ (w : World) (h : Heap), YP w h → (K w.params).In h)
    (F : ∀ (w : World) (mg : Str → Option Value) (fa : Addr) (h : Heap), (K w.params).In h → h.Ns mainGlobals mg → mg d.name = some (.ref fa) → RecTabs q mg h → LamX.LawAtS l w (K w.params) CX0 k n x mg fa h) :
    PySem.W.WalkO q loose XP YP l.row.toRowW d [] (fun f vs => PySem.call f vs) := by
  refine Att.attach_callB hn hdf fun w s₀ s₁ mg mb fa o pm cd doc a vs ns G Y ho hd hcd hmg hobj hints hlen hbits hg => ?_
  have KX := hY w _ Y
  obtain ⟨fd, cs, sp, hT, nT, C, hb, hsp, hF⟩ := F w mg fa _ KX G.T.g hmg G.T.tab
  exact LamX.law_callTs KX G.T.g G.T.b G.T.builtins G.T.nolimit hg hT nT C G.T.bmain hobj hints (Nat.le_trans hlen hn2) hr hF hb (fun H hH hS => hsp H a ns hlen hbits hH hS) fun H e s' h => h
/-- the table of the code object at c -/
def codeTab (K : PySem.W.Frag) (c : Addr) : Option Addr := match K.lookup c with
  | some ⟨_, _, .fields vs, _⟩ => (match (vs[11]? : Option Value) with | some (.ref P) => some P | _ => none)
  | _ => none
/-- the table of the def that bears this name stands empty -/
theorem tab_of {q : Program} {mg : Str → Option Value} {h : Heap} {K : PySem.W.Frag} {nm : Str} {f c P : Addr} {oc : Value} {od : Option Addr} {fd : FuncData} {osl : Array (Option Value)} (T : RecTabs q mg h) (X : K.In h)
    (hrec : ((recsOf q).any fun e => e.name == nm) = true) (hm : mg nm = some (.ref f)) (lk : K.lookup f = some ⟨oc, od, .func fd, osl⟩) (hc : fd.code = .ref c) (hd : codeTab K c = some P) : h.get? P = some { cls := .none, data := .fields #[] } := by
  obtain ⟨d, hd1, e⟩ := List.any_eq_true.mp hrec
  have e : d.name = nm := beq_iff_eq.mp e
  obtain ⟨a, o, fd', c', P', h1, h2, h3, h4, h5, h6⟩ := T d hd1
  rw [e, hm] at h1
  cases h1
  rw [X _ _ lk] at h2
  cases h2
  cases h3
  rw [hc] at h4
  cases h4
  obtain ⟨⟨oc', vc, e1, _, e3, e4⟩, hP⟩ := h6
  unfold codeTab at hd
  split at hd
  · rename_i vs _ hk
    rw [X _ _ hk] at e1
    cases e1
    cases e3
    rw [e4] at hd
    cases hd
    exact hP
  · cases hd
/-- the code object's fields are in order -/
def hdOk (vs : Array Value) (c P : Addr) : Bool := (match (vs[11]? : Option Value) with | some (.ref P') => P' == P | _ => false) &&
  (match vs.getD 18 .none with | .str _ _ => true | _ => false) && (match vs.getD 7 .none with | .int _ _ => true | _ => false) &&
  (match vs.getD 9 .none with | .bool _ => true | _ => false) && (match vs.getD 10 .none with | .int _ _ => true | _ => false) && c != P
theorem codeHd_mk {K : PySem.W.Frag} {c P : Addr} {vs : Array Value} {dd : Option Addr} {sl : Array (Option Value)} (lk : K.lookup c = some ⟨.type "code", dd, .fields vs, sl⟩) (_ : vs[11]? = some (.ref P)) (h : hdOk vs c P = true) : PySem.W.codeHdIn K c P = true := by
  unfold PySem.W.codeHdIn
  rw [lk]
  exact h
theorem codeTab_mk {K : PySem.W.Frag} {c P : Addr} {vs : Array Value} {dd : Option Addr} {sl : Array (Option Value)} (lk : K.lookup c = some ⟨.type "code", dd, .fields vs, sl⟩) (h : vs[11]? = some (.ref P)) : codeTab K c = some P := by
  unfold codeTab
  rw [lk]
  show (match (vs[11]? : Option Value) with | some (.ref P) => some P | _ => none) = _
  rw [h]
end My

set_option Elab.async false
set_option linter.all false
set_option maxRecDepth 100000
namespace My
open PySem PySem.Spec PyProof.Rows L2
/-! small steps of a reading -/
theorem ite_f {c A B : Prop} [Decidable c] (h : ¬ c) (q : B) : if c then A else B := by rw [if_neg h]; exact q
theorem ite_t {c A B : Prop} [Decidable c] (h : c) (q : A) : if c then A else B := by rw [if_pos h]; exact q
theorem dstr_ne {a b : Str} (h : ¬ a = b) : ¬ decide (V.str a = V.str b) = true := fun z => h (V.str.inj (of_decide_eq_true z))
theorem dstr_eq {a b : Str} (h : a = b) : decide (V.str a = V.str b) = true := decide_eq_true (by rw [h])
theorem dint_ne {a b : Int} (h : ¬ a = b) : ¬ decide (V.int a = V.int b) = true := fun z => h (V.int.inj (of_decide_eq_true z))
theorem dint_eq {a b : Int} (h : a = b) : decide (V.int a = V.int b) = true := decide_eq_true (by rw [h])
theorem dget_s {H : Hp} {a : Addr} {kvs : List (Key × V)} {x : Str} {v : V} (e : H a = some (.dK kvs)) (h : valV kvs (.inr x) = some v) : DGet H a (.str x) (some v) := by
  rw [← h]
  exact DGet.k (k := Sum.inr x) e
theorem dget_f {H : Hp} {a : Addr} {o : Obj} {kvs : List (Key × V)} {x : Str} {v : V} (e : H a = some (.frz o (.dK kvs))) (h : valV kvs (.inr x) = some v) : DGet H a (.str x) (some v) := by
  rw [← h]
  exact .inl ⟨kvs, .inr x, .inr ⟨o, e⟩, rfl, rfl⟩
theorem not_bl {b : Bool} (h : b = false) : ¬ b = true := by rw [h]; exact Bool.false_ne_true
end My
namespace My
open PySem PySem.Spec PyProof.Rows L2
theorem or_bl {a b : Bool} {p : Prop} (h : ¬ a = true) (g : b = true ∨ p) : b = true ∨ p := g
theorem dp_strL {K : PySem.W.Frag} {H : Hp} : ∀ xs : List Str, DpAll K H (xs.map V.str) (xs.map PyData.str)
  | [] => .nil
  | x :: r => .cons (.str x) (dp_strL r)
theorem layAll_strs : ∀ xs : List Str, (∀ x ∈ xs, (PyData.str x).canLay0 = true) → PyData.canLayAll0 (xs.map PyData.str) = true
  | [], _ => rfl
  | x :: r, h => by
    show (PyData.canLay0 (.str x) && PyData.canLayAll0 (r.map PyData.str)) = true
    rw [layAll_strs r (fun y hy => h y (List.mem_cons_of_mem _ hy)), Bool.and_true]
    exact h x List.mem_cons_self
theorem depthAll_strs : ∀ xs : List Str, PyData.depthAll (xs.map PyData.str) = 0
  | [] => rfl
  | x :: r => by
    show max (PyData.depth (.str x)) (PyData.depthAll (r.map PyData.str)) = 0
    rw [depthAll_strs r]
    rfl
theorem shaped_strs (xs : List Str) (h : ∀ x ∈ xs, (PyData.str x).canLay0 = true) : SeqAt.shaped (.list (xs.map PyData.str)) = true := by
  unfold SeqAt.shaped
  rw [Bool.and_eq_true]
  refine ⟨layAll_strs xs h, decide_eq_true ?_⟩
  show PyData.depthAll (xs.map PyData.str) + 1 ≤ 64
  rw [depthAll_strs]
  decide
theorem eqv_nil (xs : List PyData) : PyData.eqv (.list xs) (.list []) = xs.isEmpty := by
  cases xs with
  | nil => rfl
  | cons x r => rfl
/-! a statement laid open -/
theorem seq_asg_op {r : R2} {ta tb : TE} {g : TG} {u : TS} {D : Ends} {σ : L2.St} {H : Hp} (h : ta σ H fun x H1 => tb σ H1 fun y H2 => r x y H2 fun v H3 => g v σ H3 (u D)) : tSeq (tAsg (tOp r ta tb) g) u D σ H := h
theorem seq_asg {te : TE} {g : TG} {u : TS} {D : Ends} {σ : L2.St} {H : Hp} (h : te σ H fun v H3 => g v σ H3 (u D)) : tSeq (tAsg te g) u D σ H := h
theorem seq_any {t u : TS} {D : Ends} {σ : L2.St} {H : Hp} (h : t { D with nx := u D } σ H) : tSeq t u D σ H := h
end My
namespace My
open PySem PySem.Spec PyProof.Rows L2
/-! the same operators, the written part by its name: within a comprehension's block -/
section
variable {X : Cx} {K : PySem.W.Frag}
theorem opNI (h : X.K = K) : OpR X (compareOp .NotIn) (rIn K true) := by subst h; exact op_notIn_seq
theorem opIN (h : X.K = K) : OpR X (compareOp .In) (rIn K false) := by subst h; exact op_in_seq
theorem ixL (h : X.K = K) : IxR X (rIxL K) := by subst h; exact ix_list
theorem ixT (h : X.K = K) : IxR X (rIxT K) := by subst h; exact ix_tup
theorem ixQ (h : X.K = K) : IxR X (rIx K) := by subst h; exact ix_seq
theorem opED (h : X.K = K) (hu : X.A.units + 64 < cLine) : OpR X (compareOp .Eq) (rEqD K) := by subst h; exact op_eqD hu
theorem opND (h : X.K = K) (hu : X.A.units + 64 < cLine) : OpR X (compareOp .NotEq) (rNeD K) := by subst h; exact op_neD hu
theorem slL (h : X.K = K) : SlR X (rSlL K) := by subst h; exact sl_list
theorem slT (h : X.K = K) : SlR X (rSlA K) := by subst h; exact sl_tupA
theorem catT (h : X.K = K) : OpR X (binaryOp .Add) (rCatA K) := by subst h; exact op_catA
theorem lnQ (h : X.K = K) : CallR X (.builtin "len") (fun xs H Q => ∃ p ys, xs = [.ref p] ∧ (SqL K H p ys ∨ SqT K H p ys) ∧ Q (.int ys.length) H) := by subst h; exact call_len_seq
theorem lsO (h : X.K = K) : CallR X (.type "list") (fun xs H Q => ∃ p ys, xs = [.ref p] ∧ (SqL K H p ys ∨ SqT K H p ys) ∧ ∀ l, H l = none → Q (.ref l) (upd H l (.lst ys))) := by subst h; exact call_list_of
theorem tpO (h : X.K = K) : CallR X (.type "tuple") (fun xs H Q => ∃ p ys, xs = [.ref p] ∧ ((SqL K H p ys ∧ ∀ l, H l = none → Q (.ref l) (upd H l (.tup ys))) ∨ (SqT K H p ys ∧ Q (.ref p) H))) := by subst h; exact call_tuple_of
theorem isI (h : X.K = K) : CallR X (.builtin "isinstance") (rIsi K) := by subst h; exact call_isi
end
end My
namespace My
open PySem PySem.Spec PyProof.Rows L2
/-! a walk over a list or a tuple, as it comes -/
section
variable {X : Cx} {tg : Expr}
def iSeq (K : PySem.W.Frag) (tl : TE) : TI := fun σ H R => tl σ H fun x H1 => ∃ (a : Addr) (xs : List V) (G : Hp → Prop), x = .ref a ∧ ((G = fun H => SqL K H a xs) ∨ (G = fun H => SqT K H a xs)) ∧ G H1 ∧ ∀ J, Walk J xs.length G (YAt xs) → R J H1
theorem pi_seq {l : Expr} {tl : TE} (hl : PE X l tl) : PI X tg l (iSeq X.K tl) := by
  refine ⟨fun pins s σ H R I h => ?_⟩
  refine thn (hl.run pins s σ H _ I h) fun v s1 ⟨x, H1, I1, r1, q1⟩ => ?_
  obtain ⟨a, xs, G, e, hG, g1, q⟩ := q1
  subst e
  cases r1
  have fp : ∀ b ∈ [s1.heap.objs.size], FpOk X pins H1 b := fun b hb => by
    rw [List.mem_singleton.mp hb]
    exact I1.fpOk (Nat.le_refl _) (I1.hok.fresh (Nat.le_refl _))
  rcases hG with rfl | rfl
  · have hq : SqL X.K H1 a xs := g1
    obtain ⟨its, _, p, _⟩ := I1.list hq
    refine wpAny_pyIter_list p.isList ?_
    exact ⟨_, _, _, _, H1, rfl, I1.kept (t' := s1.toks) fun b o e => Heap.get?_push_of_some _ e, turn_list a _, ⟨_, Heap.get?_push_size _ rfl, rfl, rfl⟩, fp, q _ walk_list⟩
  · have hq : SqT X.K H1 a xs := g1
    obtain ⟨its, _, p, _⟩ := I1.tuple hq
    refine wpAny_pyIter_tuple (show s1.heap.IsTuple a its.toArray from p) ?_
    exact ⟨_, _, _, _, H1, rfl, I1.kept (t' := s1.toks) fun b o e => Heap.get?_push_of_some _ e, turn_tuple a _, ⟨_, Heap.get?_push_size _ rfl, rfl, rfl⟩, fp, q _ walk_tup⟩
end
theorem lookup_memG {β : Type} {nm : List (Str × β)} (nd : (nm.map (·.1)).Nodup) {x : Str} {s : β} (h : (x, s) ∈ nm) : nm.lookup x = some s := by
  induction nm with
  | nil => cases h
  | cons p r ih =>
    obtain ⟨y, t⟩ := p
    rw [List.map_cons, List.nodup_cons] at nd
    rcases List.mem_cons.mp h with e | h
    · cases e
      rw [List.lookup_cons_self]
    · have ne : ¬ x = y := fun z => nd.1 (by rw [← z]; exact List.mem_map.mpr ⟨_, h, rfl⟩)
      rw [List.lookup_cons]
      have : (x == y) = false := by simpa using ne
      rw [this]
      exact ih nd.2 h
end My

set_option Elab.async false
set_option linter.all false
set_option maxRecDepth 100000
namespace My
open PySem PySem.Spec PyProof.Rows L2
/-! expressions of the language as trees -/
inductive Ex where
  | int (n : Int) | var (x : Str) | cell (x : Str) (i : Ex) | not (a : Ex) | op (o : Str) (a b : Ex)
abbrev Nm := List (Str × Int)
def opl : List Str := ["add", "sub", "mul", "and", "or", "xor", "less", "equal", "shl", "shr"]
def Ex.d : Ex → PyData
  | .int n => .tuple [.str "int", .int n]
  | .var x => .tuple [.str "var", .str x]
  | .cell x i => .tuple [.str "cell", .str x, i.d]
  | .not a => .tuple [.str "not", a.d]
  | .op o a b => .tuple [.str o, a.d, b.d]
def Ex.dep : Ex → Nat
  | .int _ => 1 | .var _ => 1 | .cell _ i => i.dep + 1 | .not a => a.dep + 1 | .op _ a b => max a.dep b.dep + 1
def EOk (w : Nat) (nm : Nm) : Ex → Prop
  | .int n => 0 ≤ n ∧ n < 2 ^ w
  | .var x => nm.lookup x = some 0
  | .cell x i => (∃ s, nm.lookup x = some s ∧ 0 < s) ∧ EOk w nm i
  | .not a => EOk w nm a
  | .op o a b => o ∈ opl ∧ EOk w nm a ∧ EOk w nm b
def Ex.val (w : Nat) (en : Str → List Int) : Ex → Int
  | .int n => n
  | .var x => (en x).getD 0 0
  | .cell x i => (en x).getD (i.val w en % (en x).length).toNat 0
  | .not a => if a.val w en = 0 then 1 else 0
  | .op o a b => cmpS o w (a.val w en) (b.val w en)
theorem Ex.dep_pos : ∀ e : Ex, 1 ≤ e.dep
  | .int _ => Nat.le_refl _ | .var _ => Nat.le_refl _ | .cell _ _ => Nat.le_add_left .. | .not _ => Nat.le_add_left .. | .op _ _ _ => Nat.le_add_left ..
/-- the words that the names have: a variable one, an array so many as it is long -/
def EnOk (w : Nat) (nm : Nm) (en : Str → List Int) : Prop := ∀ x s, nm.lookup x = some s → (∀ i ∈ en x, 0 ≤ i ∧ i < 2 ^ w) ∧ (s = 0 → (en x).length = 1) ∧ (0 < s → ((en x).length : Int) = s)
theorem opl_ne {o : Str} (h : o ∈ opl) : o ≠ "int" ∧ o ≠ "var" ∧ o ≠ "cell" ∧ o ≠ "not" := by
  have key : ∀ o ∈ opl, o ≠ "int" ∧ o ≠ "var" ∧ o ≠ "cell" ∧ o ≠ "not" := by decide +kernel
  exact key o h
theorem pow2_pos (n : Nat) : (0 : Int) < 2 ^ n := Int.pow_pos (by decide)
theorem pow2_two {n : Nat} (h : 1 ≤ n) : (1 : Int) < 2 ^ n := by
  obtain ⟨k, rfl⟩ : ∃ k, n = k + 1 := ⟨n - 1, by omega⟩
  have := pow2_pos k
  rw [Int.pow_succ]
  omega
theorem cmpS_in {o : Str} {n : Nat} {x y : Int} (hn : 1 ≤ n) (x0 : 0 ≤ x) (x1 : x < 2 ^ n) (y0 : 0 ≤ y) (y1 : y < 2 ^ n) : 0 ≤ cmpS o n x y ∧ cmpS o n x y < 2 ^ n := by
  have p := pow2_pos n
  have p2 := pow2_two hn
  have md : ∀ a : Int, 0 ≤ a % 2 ^ n ∧ a % 2 ^ n < 2 ^ n := fun a => ⟨Int.emod_nonneg _ (by omega), Int.emod_lt_of_pos _ p⟩
  obtain ⟨a, rfl⟩ := int_nat x0
  obtain ⟨b, rfl⟩ := int_nat y0
  have ha : a < 2 ^ n := by exact_mod_cast x1
  have hb : b < 2 ^ n := by exact_mod_cast y1
  have bits : ∀ op : Str, (op = "and" ∨ op = "or" ∨ op = "xor") → 0 ≤ cmpS op n (a : Int) (b : Int) ∧ cmpS op n (a : Int) (b : Int) < 2 ^ n := fun op h => by
    rw [bitF_cmp h]
    have := bitF_lt op ha hb
    exact ⟨Int.natCast_nonneg _, by exact_mod_cast this⟩
  by_cases h : o = "and" ∨ o = "or" ∨ o = "xor"
  · exact bits o h
  · have h1 : ¬ o = "and" := fun z => h (.inl z)
    have h2 : ¬ o = "or" := fun z => h (.inr (.inl z))
    have h3 : ¬ o = "xor" := fun z => h (.inr (.inr z))
    unfold cmpS
    rw [if_neg h1, if_neg h2, if_neg h3]
    split
    · exact md _
    · split
      · exact md _
      · split
        · exact md _
        · split
          · split <;> omega
          · split
            · split <;> omega
            · split
              · omega
              · split
                · exact md _
                · have q : (0 : Int) < 2 ^ (b : Int).toNat := pow2_pos _
                  refine ⟨Int.ediv_nonneg x0 (by omega), Int.lt_of_le_of_lt (Int.ediv_le_self _ x0) x1⟩
theorem val_in {w : Nat} {nm : Nm} {en : Str → List Int} (hw : 1 ≤ w) (hen : EnOk w nm en) : ∀ {e : Ex}, EOk w nm e → 0 ≤ e.val w en ∧ e.val w en < 2 ^ w
  | .int n, h => h
  | .var x, h => by
    obtain ⟨h1, h2, _⟩ := hen x 0 h
    have hl := h2 rfl
    show 0 ≤ (en x).getD 0 0 ∧ (en x).getD 0 0 < 2 ^ w
    have hm : (en x).getD 0 0 ∈ en x := by
      rw [List.getD_eq_getElem?_getD, List.getElem?_eq_getElem (by omega)]
      exact List.getElem_mem _
    exact h1 _ hm
  | .cell x i, h => by
    obtain ⟨⟨s, hs, s0⟩, hi⟩ := h
    obtain ⟨h1, _, h3⟩ := hen x s hs
    have hl := h3 s0
    have q := val_in hw hen hi
    show 0 ≤ (en x).getD (i.val w en % (en x).length).toNat 0 ∧ _ < (2 : Int) ^ w
    have m0 : 0 ≤ i.val w en % (en x).length := Int.emod_nonneg _ (by omega)
    have m1 : i.val w en % (en x).length < (en x).length := Int.emod_lt_of_pos _ (by omega)
    have hm : (en x).getD (i.val w en % (en x).length).toNat 0 ∈ en x := by
      rw [List.getD_eq_getElem?_getD, List.getElem?_eq_getElem (by omega)]
      exact List.getElem_mem _
    exact h1 _ hm
  | .not a, h => by
    have p2 := pow2_two hw
    show 0 ≤ (if a.val w en = 0 then (1 : Int) else 0) ∧ (if a.val w en = 0 then (1 : Int) else 0) < 2 ^ w
    split <;> omega
  | .op o a b, h => by
    obtain ⟨_, ha, hb⟩ := h
    have qa := val_in hw hen ha
    have qb := val_in hw hen hb
    exact cmpS_in hw qa.1 qa.2 qb.1 qb.2
section
variable {K : PySem.W.Frag} {H : Hp} {v : V}
theorem rp_int {n : Int} (h : Rp K H v (Ex.int n).d) : ∃ a, v = .ref a ∧ SqT K H a [.str "int", .int n] := by
  obtain ⟨a, xs, rfl, hs, ha⟩ := Rp.inv h
  obtain ⟨v1, r1, rfl, h1, ha⟩ := ha.inv
  obtain ⟨v2, r2, rfl, h2, ha⟩ := ha.inv
  rw [ha.inv0, h1.sInv, h2.iInv] at hs
  exact ⟨a, rfl, hs⟩
theorem rp_var {x : Str} (h : Rp K H v (Ex.var x).d) : ∃ a, v = .ref a ∧ SqT K H a [.str "var", .str x] := by
  obtain ⟨a, xs, rfl, hs, ha⟩ := Rp.inv h
  obtain ⟨v1, r1, rfl, h1, ha⟩ := ha.inv
  obtain ⟨v2, r2, rfl, h2, ha⟩ := ha.inv
  rw [ha.inv0, h1.sInv, h2.sInv] at hs
  exact ⟨a, rfl, hs⟩
theorem rp_cell {x : Str} {i : Ex} (h : Rp K H v (Ex.cell x i).d) : ∃ a u, v = .ref a ∧ SqT K H a [.str "cell", .str x, u] ∧ Rp K H u i.d := by
  obtain ⟨a, xs, rfl, hs, ha⟩ := Rp.inv (ds := [.str "cell", .str x, i.d]) h
  obtain ⟨v1, r1, rfl, h1, ha⟩ := ha.inv
  obtain ⟨v2, r2, rfl, h2, ha⟩ := ha.inv
  obtain ⟨v3, r3, rfl, h3, ha⟩ := ha.inv
  rw [ha.inv0, h1.sInv, h2.sInv] at hs
  exact ⟨a, v3, rfl, hs, h3⟩
theorem rp_not {i : Ex} (h : Rp K H v (Ex.not i).d) : ∃ a u, v = .ref a ∧ SqT K H a [.str "not", u] ∧ Rp K H u i.d := by
  obtain ⟨a, xs, rfl, hs, ha⟩ := Rp.inv (ds := [.str "not", i.d]) h
  obtain ⟨v1, r1, rfl, h1, ha⟩ := ha.inv
  obtain ⟨v3, r3, rfl, h3, ha⟩ := ha.inv
  rw [ha.inv0, h1.sInv] at hs
  exact ⟨a, v3, rfl, hs, h3⟩
theorem rp_op {o : Str} {i j : Ex} (h : Rp K H v (Ex.op o i j).d) : ∃ a u t, v = .ref a ∧ SqT K H a [.str o, u, t] ∧ Rp K H u i.d ∧ Rp K H t j.d := by
  obtain ⟨a, xs, rfl, hs, ha⟩ := Rp.inv (ds := [.str o, i.d, j.d]) h
  obtain ⟨v1, r1, rfl, h1, ha⟩ := ha.inv
  obtain ⟨v2, r2, rfl, h2, ha⟩ := ha.inv
  obtain ⟨v3, r3, rfl, h3, ha⟩ := ha.inv
  rw [ha.inv0, h1.sInv] at hs
  exact ⟨a, v2, v3, rfl, hs, h2, h3⟩
end
end My

set_option Elab.async false
set_option linter.all false
set_option maxRecDepth 100000
set_option maxHeartbeats 1000000
namespace My
open PySem PySem.Spec PyProof.Rows L2
/-! dicts of names and sizes -/
def nmK (nm : Nm) : List (Key × V) := nm.map fun p => (Sum.inr p.1, V.int p.2)
theorem valV_nm (nm : Nm) (x : Str) : valV (nmK nm) (.inr x) = (nm.lookup x).map V.int := by
  induction nm with
  | nil => rfl
  | cons p r ih =>
    obtain ⟨y, s⟩ := p
    show valV ((Sum.inr y, V.int s) :: nmK r) _ = _
    by_cases h : x = y
    · subst h
      rw [valV_pos rfl, List.lookup_cons_self]
      rfl
    · rw [valV_neg (fun z => h (Sum.inr.inj z).symm), ih, List.lookup_cons]
      have : (x == y) = false := by simpa using h
      rw [this]
theorem nmK_get {nm : Nm} {i : Nat} {k : Key} {v : V} (h : (nmK nm)[i]? = some (k, v)) : ∃ x s, nm[i]? = some (x, s) ∧ k = .inr x ∧ v = .int s := by
  unfold nmK at h
  rw [List.getElem?_map] at h
  cases e : nm[i]? with
  | none => rw [e] at h; cases h
  | some p => rw [e] at h; cases h; exact ⟨p.1, p.2, rfl, rfl, rfl⟩
theorem nmK_length (nm : Nm) : (nmK nm).length = nm.length := List.length_map ..
/-- the names that pass -/
def pick (pz : Int → Bool) (nm : Nm) : List Str := (nm.filter fun p => pz p.2).map (·.1)
theorem pick_take {pz : Int → Bool} {nm : Nm} {i : Nat} {x : Str} {s : Int} (h : nm[i]? = some (x, s)) : pick pz (nm.take (i + 1)) = if pz s = true then pick pz (nm.take i) ++ [x] else pick pz (nm.take i) := by
  unfold pick
  rw [List.take_succ, h]
  show ((nm.take i ++ [(x, s)]).filter _).map _ = _
  rw [List.filter_append, List.map_append]
  cases hp : pz s with
  | true => simp [List.filter, hp]
  | false => simp [List.filter, hp]
theorem pick_length (pz : Int → Bool) (nm : Nm) : (pick pz nm).length ≤ nm.length := by
  unfold pick
  rw [List.length_map]
  exact List.length_filter_le ..
theorem mem_pick {pz : Int → Bool} {nm : Nm} {x : Str} (h : x ∈ pick pz nm) : ∃ s, (x, s) ∈ nm ∧ pz s = true := by
  unfold pick at h
  obtain ⟨p, hp, e⟩ := List.mem_map.mp h
  obtain ⟨h1, h2⟩ := List.mem_filter.mp hp
  exact ⟨p.2, by rw [← e]; exact h1, h2⟩
theorem lookup_mem {nm : Nm} (nd : (nm.map (·.1)).Nodup) {x : Str} {s : Int} (h : (x, s) ∈ nm) : nm.lookup x = some s := by
  induction nm with
  | nil => cases h
  | cons p r ih =>
    obtain ⟨y, t⟩ := p
    rw [List.map_cons, List.nodup_cons] at nd
    rcases List.mem_cons.mp h with e | h
    · cases e
      rw [List.lookup_cons_self]
    · have ne : ¬ x = y := fun z => nd.1 (by rw [← z]; exact List.mem_map.mpr ⟨_, h, rfl⟩)
      rw [List.lookup_cons]
      have : (x == y) = false := by simpa using ne
      rw [this]
      exact ih nd.2 h
theorem mem_of_lookup' {nm : Nm} {x : Str} {s : Int} (h : nm.lookup x = some s) : (x, s) ∈ nm := by
  induction nm with
  | nil => cases h
  | cons p r ih =>
    obtain ⟨y, t⟩ := p
    rw [List.lookup_cons] at h
    by_cases e : x = y
    · subst e
      simp at h
      subst h
      exact List.mem_cons_self
    · have : (x == y) = false := by simpa using e
      rw [this] at h
      exact List.mem_cons_of_mem _ (ih h)
/-- a locked dict is let go: the heap but for what came new -/
theorem unlock {H : Hp} {d l : Addr} {u f o o' : HO} (hu : H d = some u) (hl : (upd H d f) l = none) : upd (upd (upd (upd H d f) l o) l o') d u = upd H l o' := by
  have ne : l ≠ d := fun z => by rw [z, upd_same] at hl; cases hl
  funext b
  by_cases h1 : b = d
  · rw [h1, upd_same, upd_ne (fun z => ne z.symm), hu]
  · rw [upd_ne h1]
    by_cases h2 : b = l
    · rw [h2, upd_same, upd_same]
    · rw [upd_ne h2, upd_ne h2, upd_ne h1, upd_ne h2]
theorem unlock_free {H : Hp} {d l : Addr} {f : HO} (hl : (upd H d f) l = none) : H l = none := by
  have ne : l ≠ d := fun z => by rw [z, upd_same] at hl; cases hl
  rw [upd_ne ne] at hl
  exact hl
/-- y = [x for x in names if .. names[x] ..] -/
theorem names_comp {σ : L2.St} {H : Hp} {nd : Addr} {nm : Nm} {D : Ends} {a j own : Nat} {tt : TT} (pz : Int → Bool) (ha : σ[a]? = some (some (.ref nd))) (hn : H nd = some (.dK (nmK nm))) (hz : nm.length ≤ 1000) (ho : decide (own < σ.length) = true)
    (ht : ∀ od H1 x s, (x, s) ∈ nm → H1 nd = some (.frz od (.dK (nmK nm))) → ∀ Q : Bool → Hp → Prop, Q (pz s) H1 → tt ((wipe σ [own]).set own (some (.str x))) H1 Q)
    (hd : ∀ l, H l = none → D.nx (σ.set j (some (.ref l))) (upd H l (.lst ((pick pz nm).map V.str)))) : tLock (tAsg (tLc (iKeys (tVar a)) (gName own) tt (tVar own) [own]) (gName j)) D σ H := by
  refine ⟨nd, _, hn, trivial, fun od => ?_⟩
  refine ⟨_, ha, nd, od, rfl, .inl ⟨_, upd_same, fun l hl => ?_⟩⟩
  have nl : l ≠ nd := fun z => by rw [z, upd_same] at hl; cases hl
  refine lc_it (walk_keys (o := od) (kvs := nmK nm)) (fun i H1 => H1 = upd (upd H nd (.frz od (.dK (nmK nm)))) l (.lst ((pick pz (nm.take i)).map V.str))) rfl (fun i H1 _ e => ?_) (fun i x H1 H2 hi e y => ?_) (fun H1 e => ?_)
  · rw [e, upd_ne (fun z => nl z.symm), upd_same]
  · obtain ⟨e2, k, v, hk, rfl⟩ := y
    obtain ⟨x, s, hx, rfl, rfl⟩ := nmK_get hk
    subst e2
    subst e
    have hwl : own < (wipe σ [own]).length := by rw [wipe_length]; exact of_decide_eq_true ho
    refine ⟨by simp [wipe, List.set_set], ?_⟩
    refine ht od _ x s (List.mem_of_getElem? hx) (by rw [upd_ne (fun z => nl z.symm), upd_same]) _ ?_
    refine ite2 (fun hp => ?_) (fun hp => ?_)
    · refine ⟨_, List.getElem?_set_self hwl, _, upd_same, ?_, ?_⟩
      · rw [List.length_map]
        have := pick_length pz (nm.take i)
        rw [List.length_take] at this
        exact small1000 (by omega)
      · show upd _ l _ = _
        rw [upd_upd, pick_take hx, if_pos hp, List.map_append]
        rfl
    · show upd _ l _ = upd _ l _
      rw [pick_take hx, if_neg hp]
  · subst e
    refine ⟨by rw [upd_ne (fun z => nl z.symm), upd_same], ?_⟩
    have e : upd (upd (upd H nd (.frz od (.dK (nmK nm)))) l (.lst ((pick pz (nm.take (nmK nm).length)).map V.str))) nd (.dK (nmK nm)) = upd H l (.lst ((pick pz nm).map V.str)) := by
      rw [nmK_length, List.take_length]
      have := unlock (o := .lst []) (o' := .lst ((pick pz nm).map V.str)) hn hl
      rw [upd_upd] at this
      exact this
    show D.nx _ (upd _ nd _)
    rw [e]
    exact hd l (unlock_free hl)
end My

set_option Elab.async false
set_option linter.all false
set_option maxRecDepth 100000
set_option maxHeartbeats 1000000
namespace My
open PySem PySem.Spec PyProof.Rows L2
/-! statements and programs of the language as trees -/
inductive Sm where
  | chg (wd : Str) (p e : Ex) | swap (p q : Ex) | ite (e : Ex) (a b : List Sm) (f : Ex) | loop (e : Ex) (a b : List Sm) (f : Ex)
  | call (wd x : Str) (as : List Str) | loc (x : Str) (e : Ex) (b : List Sm) (f : Ex) | skip
mutual
def Sm.d : Sm → PyData
  | .chg wd p e => .tuple [.str wd, p.d, e.d]
  | .swap p q => .tuple [.str "swap", p.d, q.d]
  | .ite e a b f => .tuple [.str "if", e.d, .tuple (bd a), .tuple (bd b), f.d]
  | .loop e a b f => .tuple [.str "loop", e.d, .tuple (bd a), .tuple (bd b), f.d]
  | .call wd x as => .tuple [.str wd, .str x, .tuple (as.map PyData.str)]
  | .loc x e b f => .tuple [.str "local", .str x, e.d, .tuple (bd b), f.d]
  | .skip => .tuple [.str "skip"]
def bd : List Sm → List PyData
  | [] => []
  | s :: r => s.d :: bd r
end
theorem bd_app : ∀ a b : List Sm, bd (a ++ b) = bd a ++ bd b
  | [], b => rfl
  | s :: r, b => by rw [List.cons_append, bd, bd, bd_app r b]; rfl
theorem bd_len : ∀ a : List Sm, (bd a).length = a.length
  | [] => rfl
  | s :: r => by rw [bd, List.length_cons, List.length_cons, bd_len r]
/-- the names without some -/
def wo (gone : List Str) (nm : Nm) : Nm := nm.filter fun p => !decide (p.1 ∈ gone)
def Ex.nm : Ex → Str
  | .var x => x
  | .cell x _ => x
  | _ => ""
def PlOk (w : Nat) (nm : Nm) (gone : List Str) : Ex → Prop
  | .var x => nm.lookup x = some 0
  | .cell x i => (∃ s, nm.lookup x = some s ∧ 0 < s) ∧ EOk w (wo gone nm) i
  | _ => False
/-- an expression that is in order and not deep -/
def EO (w : Nat) (nm : Nm) (e : Ex) : Prop := EOk w nm e ∧ e.dep ≤ 4
def tn (j : Nat) : Str := ("t" : Str) ++ Str.ofString (toString (j : Int))
def LocN (x : Str) : Prop := x = "t" ∨ ∃ j : Nat, j ≤ 100000 ∧ x = tn j
mutual
def SOk (ps : List (Str × Nm)) (w : Nat) (nm : Nm) : Sm → Prop
  | .chg wd p e => wd ∈ (["plus", "minus", "xor"] : List Str) ∧ PlOk w nm [p.nm] p ∧ p.dep ≤ 4 ∧ EO w (wo [p.nm] nm) e
  | .swap p q => p.nm ≠ q.nm ∧ PlOk w nm [p.nm, q.nm] p ∧ PlOk w nm [p.nm, q.nm] q ∧ p.dep ≤ 4 ∧ q.dep ≤ 4
  | .ite e a b f => EO w nm e ∧ EO w nm f ∧ BOk ps w nm a ∧ BOk ps w nm b
  | .loop e a b f => EO w nm e ∧ EO w nm f ∧ BOk ps w nm a ∧ BOk ps w nm b
  | .call wd x as => (wd = "call" ∨ wd = "uncall") ∧ as.Nodup ∧ ∃ prm, ps.lookup x = some prm ∧ as.map (fun a => nm.lookup a) = prm.map fun p => some p.2
  | .loc x e b f => nm.lookup x = none ∧ LocN x ∧ EO w nm e ∧ EO w nm f ∧ BOk ps w (nm ++ [(x, 0)]) b
  | .skip => True
def BOk (ps : List (Str × Nm)) (w : Nat) (nm : Nm) : List Sm → Prop
  | [] => True
  | s :: r => SOk ps w nm s ∧ BOk ps w nm r
end
mutual
/-- how deep statements nest -/
def Sm.dp : Sm → Nat
  | .ite _ a b _ => max (bdp a) (bdp b) + 1
  | .loop _ a b _ => max (bdp a) (bdp b) + 1
  | .loc _ _ b _ => bdp b + 1
  | _ => 1
def bdp : List Sm → Nat
  | [] => 0
  | s :: r => max s.dp (bdp r)
end
section
variable {ps : List (Str × Nm)} {w : Nat} {nm : Nm}
theorem bok_app : ∀ {a b : List Sm}, BOk ps w nm a → BOk ps w nm b → BOk ps w nm (a ++ b)
  | [], _, _, h => h
  | s :: r, _, ⟨h1, h2⟩, h => ⟨h1, bok_app h2 h⟩
theorem bdp_app : ∀ a b : List Sm, bdp (a ++ b) = max (bdp a) (bdp b)
  | [], b => by rw [List.nil_append, bdp]; omega
  | s :: r, b => by rw [List.cons_append, bdp, bdp, bdp_app r b]; omega
theorem wo_mem {gone : List Str} {p : Str × Int} : p ∈ wo gone nm ↔ p ∈ nm ∧ p.1 ∉ gone := by
  unfold wo
  rw [List.mem_filter]
  simp
theorem wo_nd {gone : List Str} (h : (nm.map (·.1)).Nodup) : ((wo gone nm).map (·.1)).Nodup := h.sublist (List.Sublist.map _ List.filter_sublist)
theorem wo_len (gone : List Str) : (wo gone nm).length ≤ nm.length := List.length_filter_le ..
theorem wo_nil : wo [] nm = nm := by
  unfold wo
  rw [List.filter_eq_self]
  intro p _
  simp
theorem wo_lookup {gone : List Str} {x : Str} {s : Int} (nd : (nm.map (·.1)).Nodup) (h : (wo gone nm).lookup x = some s) : nm.lookup x = some s ∧ x ∉ gone := by
  have := wo_mem.mp (mem_of_lookup' h)
  exact ⟨lookup_mem nd this.1, this.2⟩
end
theorem lookup_none {nm : Nm} {x : Str} (h : ∀ p ∈ nm, p.1 ≠ x) : nm.lookup x = none := by
  cases e : nm.lookup x with
  | none => rfl
  | some s => exact absurd rfl (h _ (mem_of_lookup' e))
/-! ### the names of locals -/
theorem tn_cps (j : Nat) : (tn j).cps.toList = 116 :: (Str.ofString (toString (j : Int))).cps.toList := by
  unfold tn
  show (("t" : Str).cps ++ (Str.ofString (toString (j : Int))).cps).toList = _
  rw [Array.toList_append]
  rfl
theorem tn_inj {i j : Nat} (hi : i < 10 ^ 9) (hj : j < 10 ^ 9) (h : tn i = tn j) : i = j := by
  have e : (tn i).cps.toList = (tn j).cps.toList := by rw [h]
  rw [tn_cps, tn_cps] at e
  have e2 : (Str.ofString (toString (i : Int))).cps.toList = (Str.ofString (toString (j : Int))).cps.toList := (List.cons.inj e).2
  have e3 : Str.ofString (toString (i : Int)) = Str.ofString (toString (j : Int)) := by
    have : (Str.ofString (toString (i : Int))).cps = (Str.ofString (toString (j : Int))).cps := Array.toList_inj.mp e2
    cases ha : Str.ofString (toString (i : Int)) with
    | mk ca =>
      cases hb : Str.ofString (toString (j : Int)) with
      | mk cb => rw [ha, hb] at this; rw [show ca = cb from this]
  have r1 := PySem.W.KIN.num_reads (n := (i : Int)) (by omega) (by omega)
  have r2 := PySem.W.KIN.num_reads (n := (j : Int)) (by omega) (by omega)
  rw [e3, r2] at r1
  have := Option.some.inj r1
  omega
def bases : List Str := ["a", "b", "c_1", "list", "row", "u", "v", "cells"]
theorem tn_base (j : Nat) : tn j ∉ bases := by
  intro h
  have key : ∀ x ∈ bases, x.cps.toList.head? ≠ some 116 := by decide +kernel
  refine key _ h ?_
  rw [tn_cps]
  rfl
/-- the names that stand there: the given ones, and locals up to the count -/
def Frs (nm : Nm) (c : Nat) : Prop := ∀ p ∈ nm, p.1 ∈ bases ∨ ∃ j, j ≤ c ∧ p.1 = tn j
theorem Frs.mono {nm : Nm} {c c' : Nat} (h : Frs nm c) (hc : c ≤ c') : Frs nm c' := fun p hp => (h p hp).imp id fun ⟨j, h1, h2⟩ => ⟨j, Nat.le_trans h1 hc, h2⟩
theorem Frs.fresh {nm : Nm} {c : Nat} (h : Frs nm c) (hc : c < 100000) : nm.lookup (tn (c + 1)) = none := lookup_none fun p hp e => by
  rcases h p hp with z | ⟨j, h1, h2⟩
  · rw [e] at z; exact tn_base _ z
  · rw [e] at h2
    have := tn_inj (by omega) (by omega) h2
    omega
theorem Frs.add {nm : Nm} {c : Nat} (h : Frs nm c) : Frs (nm ++ [(tn c, 0)]) c := fun p hp => by
  rcases List.mem_append.mp hp with z | z
  · exact h p z
  · rw [List.mem_singleton.mp z]
    exact .inr ⟨c, Nat.le_refl _, rfl⟩
theorem char_lt (c : Char) : c.toNat < 0x110000 := by
  have h := c.valid
  rcases h with h | h
  · have : c.toNat < 0xd800 := h
    omega
  · have : c.toNat < 0x110000 := h.2
    exact this
theorem tn_lay (j : Nat) : (PyData.str (tn j)).canLay0 = true := by
  show (tn j).cps.all (· < 0x110000) = true
  rw [← Array.all_toList, tn_cps, List.all_cons, Bool.and_eq_true]
  refine ⟨by decide, ?_⟩
  rw [PySem.W.KIN.signs_num, List.all_eq_true]
  intro x hx
  obtain ⟨c, _, e⟩ := List.mem_map.mp hx
  rw [← e]
  exact decide_eq_true (char_lt c)
theorem base_lay : ∀ x ∈ bases, (PyData.str x).canLay0 = true := by decide +kernel
theorem Frs.lay {nm : Nm} {c : Nat} (h : Frs nm c) : ∀ p ∈ nm, (PyData.str p.1).canLay0 = true := fun p hp => by
  rcases h p hp with z | ⟨j, _, e⟩
  · exact base_lay _ z
  · rw [e]; exact tn_lay j
end My

set_option Elab.async false
set_option linter.all false
set_option maxRecDepth 100000
namespace My
open PySem PySem.Spec PyProof.Rows L2
def topS (i : Nat) : Stmt := PySem.Challenge.pw_backrun_k04_values_and_stores.main.body.getD i (.Pass ⟨0, 0, 0, 0⟩)
abbrev s_top : Stmt := topS 1
abbrev N_top : List Str := ["w"]
theorem sc_top : FnScope N_top ["w"] (defScope s_top) := ⟨rfl, rfl, rfl, by decide +kernel, rfl, by decide +kernel, by decide +kernel⟩
abbrev s_shift : Stmt := topS 3
abbrev N_shift : List Str := ["op", "w", "x", "y"]
theorem sc_shift : FnScope N_shift ["op", "w", "x", "y"] (defScope s_shift) := ⟨rfl, rfl, rfl, by decide +kernel, rfl, by decide +kernel, by decide +kernel⟩
abbrev s_compute : Stmt := topS 2
abbrev N_compute : List Str := ["op", "w", "x", "y"]
theorem sc_compute : FnScope N_compute ["op", "w", "x", "y"] (defScope s_compute) := ⟨rfl, rfl, rfl, by decide +kernel, rfl, by decide +kernel, by decide +kernel⟩
abbrev s_value_of : Stmt := topS 5
abbrev N_value_of : List Str := ["w", "e", "look", "word"]
theorem sc_value_of : FnScope N_value_of ["w", "e", "look"] (defScope s_value_of) := ⟨rfl, rfl, rfl, by decide +kernel, rfl, by decide +kernel, by decide +kernel⟩
abbrev s_cell_index : Stmt := topS 6
abbrev N_cell_index : List Str := ["w", "e", "look"]
theorem sc_cell_index : FnScope N_cell_index ["w", "e", "look"] (defScope s_cell_index) := ⟨rfl, rfl, rfl, by decide +kernel, rfl, by decide +kernel, by decide +kernel⟩
abbrev s_is_whole : Stmt := topS 8
abbrev N_is_whole : List Str := ["value"]
theorem sc_is_whole : FnScope N_is_whole ["value"] (defScope s_is_whole) := ⟨rfl, rfl, rfl, by decide +kernel, rfl, by decide +kernel, by decide +kernel⟩
abbrev s_is_integer : Stmt := topS 9
abbrev N_is_integer : List Str := ["value", "low", "high"]
theorem sc_is_integer : FnScope N_is_integer ["value", "low", "high"] (defScope s_is_integer) := ⟨rfl, rfl, rfl, by decide +kernel, rfl, by decide +kernel, by decide +kernel⟩
abbrev s_is_word : Stmt := topS 10
abbrev N_is_word : List Str := ["value", "w"]
theorem sc_is_word : FnScope N_is_word ["value", "w"] (defScope s_is_word) := ⟨rfl, rfl, rfl, by decide +kernel, rfl, by decide +kernel, by decide +kernel⟩
abbrev s_empty_store : Stmt := topS 12
abbrev N_empty_store : List Str := ["program", "name", "size"]
theorem sc_empty_store : FnScope N_empty_store ["program"] (defScope s_empty_store) := ⟨rfl, rfl, rfl, by decide +kernel, rfl, by decide +kernel, by decide +kernel⟩
abbrev s_is_store : Stmt := topS 13
abbrev N_is_store : List Str := ["program", "value", "width", "declared", "_", "item", "name", "size"]
theorem sc_is_store : FnScope N_is_store ["program", "value"] (defScope s_is_store) := ⟨rfl, rfl, rfl, by decide +kernel, rfl, by decide +kernel, by decide +kernel⟩
abbrev s_is_entry : Stmt := topS 14
abbrev N_is_entry : List Str := ["width", "name", "size", "item", "value"]
theorem sc_is_entry : FnScope N_is_entry ["width", "name", "size", "item"] (defScope s_is_entry) := ⟨rfl, rfl, rfl, by decide +kernel, rfl, by decide +kernel, by decide +kernel⟩
abbrev s_z_draw : Stmt := topS 16
abbrev N_z_draw : List Str := ["script", "seed", "cell"]
theorem sc_z_draw : FnScope N_z_draw ["script"] (defScope s_z_draw) := ⟨rfl, rfl, rfl, by decide +kernel, rfl, by decide +kernel, by decide +kernel⟩
abbrev s_z_take : Stmt := topS 17
abbrev N_z_take : List Str := ["draw", "many", "found"]
theorem sc_z_take : FnScope N_z_take ["draw", "many"] (defScope s_z_take) := ⟨rfl, rfl, rfl, by decide +kernel, rfl, by decide +kernel, by decide +kernel⟩
abbrev s_z_top : Stmt := topS 18
abbrev N_z_top : List Str := ["w"]
theorem sc_z_top : FnScope N_z_top ["w"] (defScope s_z_top) := ⟨rfl, rfl, rfl, by decide +kernel, rfl, by decide +kernel, by decide +kernel⟩
abbrev s_z_compute : Stmt := topS 19
abbrev N_z_compute : List Str := ["op", "w", "x", "y", "size", "found", "k", "both"]
theorem sc_z_compute : FnScope N_z_compute ["op", "w", "x", "y"] (defScope s_z_compute) := ⟨rfl, rfl, rfl, by decide +kernel, rfl, by decide +kernel, by decide +kernel⟩
abbrev s_z_word : Stmt := topS 20
abbrev N_z_word : List Str := ["draw", "w", "k"]
theorem sc_z_word : FnScope N_z_word ["draw", "w"] (defScope s_z_word) := ⟨rfl, rfl, rfl, by decide +kernel, rfl, by decide +kernel, by decide +kernel⟩
abbrev s_z_expression : Stmt := topS 21
abbrev N_z_expression : List Str := ["p", "names", "depth", "draw", "variables", "arrays", "k", "ops", "op", "name"]
theorem sc_z_expression : FnScope N_z_expression ["p", "names", "depth"] (defScope s_z_expression) := ⟨rfl, rfl, rfl, by decide +kernel, rfl, by decide +kernel, by decide +kernel⟩
abbrev s_z_without : Stmt := topS 22
abbrev N_z_without : List Str := ["names", "gone", "found", "name"]
theorem sc_z_without : FnScope N_z_without ["names", "gone"] (defScope s_z_without) := ⟨rfl, rfl, rfl, by decide +kernel, rfl, by decide +kernel, by decide +kernel⟩
abbrev s_z_place : Stmt := topS 23
abbrev N_z_place : List Str := ["p", "names", "name"]
theorem sc_z_place : FnScope N_z_place ["p", "names", "name"] (defScope s_z_place) := ⟨rfl, rfl, rfl, by decide +kernel, rfl, by decide +kernel, by decide +kernel⟩
abbrev s_z_change : Stmt := topS 24
abbrev N_z_change : List Str := ["p", "names", "free", "draw", "name", "other", "rest", "one", "two", "word", "row"]
theorem sc_z_change : FnScope N_z_change ["p", "names", "free"] (defScope s_z_change) := ⟨rfl, rfl, rfl, by decide +kernel, rfl, by decide +kernel, by decide +kernel⟩
abbrev s_z_fresh : Stmt := topS 25
abbrev N_z_fresh : List Str := ["p"]
theorem sc_z_fresh : FnScope N_z_fresh ["p"] (defScope s_z_fresh) := ⟨rfl, rfl, rfl, by decide +kernel, rfl, by decide +kernel, by decide +kernel⟩
abbrev s_z_names_of : Stmt := topS 26
abbrev N_z_names_of : List Str := ["e", "found", "part"]
theorem sc_z_names_of : FnScope N_z_names_of ["e"] (defScope s_z_names_of) := ⟨rfl, rfl, rfl, by decide +kernel, rfl, by decide +kernel, by decide +kernel⟩
abbrev s_z_if : Stmt := topS 27
abbrev N_z_if : List Str := ["p", "names", "free", "depth", "draw", "e", "f", "kept", "name"]
theorem sc_z_if : FnScope N_z_if ["p", "names", "free", "depth"] (defScope s_z_if) := ⟨rfl, rfl, rfl, by decide +kernel, rfl, by decide +kernel, by decide +kernel⟩
abbrev s_z_loop : Stmt := topS 28
abbrev N_z_loop : List Str := ["p", "names", "free", "depth", "draw", "name", "n", "inner", "one", "first", "second", "last", "turns"]
theorem sc_z_loop : FnScope N_z_loop ["p", "names", "free", "depth"] (defScope s_z_loop) := ⟨rfl, rfl, rfl, by decide +kernel, rfl, by decide +kernel, by decide +kernel⟩
abbrev s_z_lent : Stmt := topS 29
abbrev N_z_lent : List Str := ["p", "names", "free", "local", "draw", "name", "params", "args", "row", "fit", "other"]
theorem sc_z_lent : FnScope N_z_lent ["p", "names", "free", "local"] (defScope s_z_lent) := ⟨rfl, rfl, rfl, by decide +kernel, rfl, by decide +kernel, by decide +kernel⟩
abbrev s_z_local : Stmt := topS 30
abbrev N_z_local : List Str := ["p", "names", "free", "depth", "draw", "name", "e", "f", "kept", "inner", "body", "word", "row"]
theorem sc_z_local : FnScope N_z_local ["p", "names", "free", "depth"] (defScope s_z_local) := ⟨rfl, rfl, rfl, by decide +kernel, rfl, by decide +kernel, by decide +kernel⟩
abbrev s_z_call : Stmt := topS 31
abbrev N_z_call : List Str := ["p", "names", "free", "draw", "name", "params", "args", "row", "fit", "other"]
theorem sc_z_call : FnScope N_z_call ["p", "names", "free"] (defScope s_z_call) := ⟨rfl, rfl, rfl, by decide +kernel, rfl, by decide +kernel, by decide +kernel⟩
abbrev s_z_body : Stmt := topS 32
abbrev N_z_body : List Str := ["p", "names", "free", "depth", "draw", "rows", "k", "what"]
theorem sc_z_body : FnScope N_z_body ["p", "names", "free", "depth"] (defScope s_z_body) := ⟨rfl, rfl, rfl, by decide +kernel, rfl, by decide +kernel, by decide +kernel⟩
abbrev s_z_counting : Stmt := topS 33
abbrev N_z_counting : List Str := ["name", "other", "word", "n", "test", "rows", "kept"]
theorem sc_z_counting : FnScope N_z_counting ["name", "other", "word"] (defScope s_z_counting) := ⟨rfl, rfl, rfl, by decide +kernel, rfl, by decide +kernel, by decide +kernel⟩
abbrev s_z_program : Stmt := topS 34
abbrev N_z_program : List Str := ["draw", "left", "width", "p", "names", "rows", "k", "name", "procedures", "two", "one", "params", "seen", "row", "body"]
theorem sc_z_program : FnScope N_z_program ["draw", "left"] (defScope s_z_program) := ⟨rfl, rfl, rfl, by decide +kernel, rfl, by decide +kernel, by decide +kernel⟩
abbrev s_z_store : Stmt := topS 35
abbrev N_z_store : List Str := ["draw", "program", "rows", "name", "size", "k"]
theorem sc_z_store : FnScope N_z_store ["draw", "program"] (defScope s_z_store) := ⟨rfl, rfl, rfl, by decide +kernel, rfl, by decide +kernel, by decide +kernel⟩
abbrev s_z_value : Stmt := topS 36
abbrev N_z_value : List Str := ["w", "e", "frame", "word", "cells"]
theorem sc_z_value : FnScope N_z_value ["w", "e", "frame"] (defScope s_z_value) := ⟨rfl, rfl, rfl, by decide +kernel, rfl, by decide +kernel, by decide +kernel⟩
abbrev s_law : Stmt := topS 37
abbrev N_law : List Str := ["script", "draw", "j", "w", "names", "look", "frame", "e", "answer", "program", "store", "name", "value", "first", "bad", "k", "word"]
theorem sc_law : FnScope N_law ["script"] (defScope s_law) := ⟨rfl, rfl, rfl, by decide +kernel, rfl, by decide +kernel, by decide +kernel⟩
/-- what the top has left -/
structure Txt (K : PySem.W.Frag) (mg : Str → Option Value) where
  f_top : Addr
  d_top : FuncData
  F_top : Fun K "top" "top" s_top f_top d_top
  g_top : mg "top" = some (.ref f_top)
  b_top : Binds K d_top ["w"] []
  f_shift : Addr
  d_shift : FuncData
  F_shift : Fun K "shift" "shift" s_shift f_shift d_shift
  g_shift : mg "shift" = some (.ref f_shift)
  b_shift : Binds K d_shift ["op", "w", "x", "y"] []
  f_compute : Addr
  d_compute : FuncData
  F_compute : Fun K "compute" "compute" s_compute f_compute d_compute
  g_compute : mg "compute" = some (.ref f_compute)
  b_compute : Binds K d_compute ["op", "w", "x", "y"] []
  f_value_of : Addr
  d_value_of : FuncData
  F_value_of : Fun K "value_of" "value_of" s_value_of f_value_of d_value_of
  g_value_of : mg "value_of" = some (.ref f_value_of)
  b_value_of : Binds K d_value_of ["w", "e", "look"] []
  f_cell_index : Addr
  d_cell_index : FuncData
  F_cell_index : Fun K "cell_index" "cell_index" s_cell_index f_cell_index d_cell_index
  g_cell_index : mg "cell_index" = some (.ref f_cell_index)
  b_cell_index : Binds K d_cell_index ["w", "e", "look"] []
  f_is_whole : Addr
  d_is_whole : FuncData
  F_is_whole : Fun K "is_whole" "is_whole" s_is_whole f_is_whole d_is_whole
  g_is_whole : mg "is_whole" = some (.ref f_is_whole)
  b_is_whole : Binds K d_is_whole ["value"] []
  f_is_integer : Addr
  d_is_integer : FuncData
  F_is_integer : Fun K "is_integer" "is_integer" s_is_integer f_is_integer d_is_integer
  g_is_integer : mg "is_integer" = some (.ref f_is_integer)
  b_is_integer : Binds K d_is_integer ["value", "low", "high"] []
  f_is_word : Addr
  d_is_word : FuncData
  F_is_word : Fun K "is_word" "is_word" s_is_word f_is_word d_is_word
  g_is_word : mg "is_word" = some (.ref f_is_word)
  b_is_word : Binds K d_is_word ["value", "w"] []
  f_empty_store : Addr
  d_empty_store : FuncData
  F_empty_store : Fun K "empty_store" "empty_store" s_empty_store f_empty_store d_empty_store
  g_empty_store : mg "empty_store" = some (.ref f_empty_store)
  b_empty_store : Binds K d_empty_store ["program"] []
  f_is_store : Addr
  d_is_store : FuncData
  F_is_store : Fun K "is_store" "is_store" s_is_store f_is_store d_is_store
  g_is_store : mg "is_store" = some (.ref f_is_store)
  b_is_store : Binds K d_is_store ["program", "value"] []
  f_is_entry : Addr
  d_is_entry : FuncData
  c_is_entry : Addr
  P_is_entry : Addr
  F_is_entry : FunC K "is_entry" "is_entry" s_is_entry f_is_entry d_is_entry c_is_entry
  g_is_entry : mg "is_entry" = some (.ref f_is_entry)
  b_is_entry : Binds K d_is_entry ["width", "name", "size", "item"] []
  f_z_draw : Addr
  d_z_draw : FuncData
  F_z_draw : Fun K "_law_draw" "_law_draw" s_z_draw f_z_draw d_z_draw
  g_z_draw : mg "_law_draw" = some (.ref f_z_draw)
  b_z_draw : Binds K d_z_draw ["script"] []
  f_z_take : Addr
  d_z_take : FuncData
  F_z_take : Fun K "_law_take" "_law_take" s_z_take f_z_take d_z_take
  g_z_take : mg "_law_take" = some (.ref f_z_take)
  b_z_take : Binds K d_z_take ["draw", "many"] []
  f_z_top : Addr
  d_z_top : FuncData
  F_z_top : Fun K "_law_top" "_law_top" s_z_top f_z_top d_z_top
  g_z_top : mg "_law_top" = some (.ref f_z_top)
  b_z_top : Binds K d_z_top ["w"] []
  f_z_compute : Addr
  d_z_compute : FuncData
  F_z_compute : Fun K "_law_compute" "_law_compute" s_z_compute f_z_compute d_z_compute
  g_z_compute : mg "_law_compute" = some (.ref f_z_compute)
  b_z_compute : Binds K d_z_compute ["op", "w", "x", "y"] []
  f_z_word : Addr
  d_z_word : FuncData
  F_z_word : Fun K "_law_word" "_law_word" s_z_word f_z_word d_z_word
  g_z_word : mg "_law_word" = some (.ref f_z_word)
  b_z_word : Binds K d_z_word ["draw", "w"] []
  f_z_expression : Addr
  d_z_expression : FuncData
  F_z_expression : Fun K "_law_expression" "_law_expression" s_z_expression f_z_expression d_z_expression
  g_z_expression : mg "_law_expression" = some (.ref f_z_expression)
  b_z_expression : Binds K d_z_expression ["p", "names", "depth"] []
  f_z_without : Addr
  d_z_without : FuncData
  F_z_without : Fun K "_law_without" "_law_without" s_z_without f_z_without d_z_without
  g_z_without : mg "_law_without" = some (.ref f_z_without)
  b_z_without : Binds K d_z_without ["names", "gone"] []
  f_z_place : Addr
  d_z_place : FuncData
  F_z_place : Fun K "_law_place" "_law_place" s_z_place f_z_place d_z_place
  g_z_place : mg "_law_place" = some (.ref f_z_place)
  b_z_place : Binds K d_z_place ["p", "names", "name"] []
  f_z_change : Addr
  d_z_change : FuncData
  F_z_change : Fun K "_law_change" "_law_change" s_z_change f_z_change d_z_change
  g_z_change : mg "_law_change" = some (.ref f_z_change)
  b_z_change : Binds K d_z_change ["p", "names", "free"] []
  f_z_fresh : Addr
  d_z_fresh : FuncData
  F_z_fresh : Fun K "_law_fresh" "_law_fresh" s_z_fresh f_z_fresh d_z_fresh
  g_z_fresh : mg "_law_fresh" = some (.ref f_z_fresh)
  b_z_fresh : Binds K d_z_fresh ["p"] []
  f_z_names_of : Addr
  d_z_names_of : FuncData
  F_z_names_of : Fun K "_law_names_of" "_law_names_of" s_z_names_of f_z_names_of d_z_names_of
  g_z_names_of : mg "_law_names_of" = some (.ref f_z_names_of)
  b_z_names_of : Binds K d_z_names_of ["e"] []
  f_z_if : Addr
  d_z_if : FuncData
  F_z_if : Fun K "_law_if" "_law_if" s_z_if f_z_if d_z_if
  g_z_if : mg "_law_if" = some (.ref f_z_if)
  b_z_if : Binds K d_z_if ["p", "names", "free", "depth"] []
  f_z_loop : Addr
  d_z_loop : FuncData
  F_z_loop : Fun K "_law_loop" "_law_loop" s_z_loop f_z_loop d_z_loop
  g_z_loop : mg "_law_loop" = some (.ref f_z_loop)
  b_z_loop : Binds K d_z_loop ["p", "names", "free", "depth"] []
  f_z_lent : Addr
  d_z_lent : FuncData
  F_z_lent : Fun K "_law_lent" "_law_lent" s_z_lent f_z_lent d_z_lent
  g_z_lent : mg "_law_lent" = some (.ref f_z_lent)
  b_z_lent : Binds K d_z_lent ["p", "names", "free", "local"] []
  f_z_local : Addr
  d_z_local : FuncData
  F_z_local : Fun K "_law_local" "_law_local" s_z_local f_z_local d_z_local
  g_z_local : mg "_law_local" = some (.ref f_z_local)
  b_z_local : Binds K d_z_local ["p", "names", "free", "depth"] []
  f_z_call : Addr
  d_z_call : FuncData
  F_z_call : Fun K "_law_call" "_law_call" s_z_call f_z_call d_z_call
  g_z_call : mg "_law_call" = some (.ref f_z_call)
  b_z_call : Binds K d_z_call ["p", "names", "free"] []
  f_z_body : Addr
  d_z_body : FuncData
  F_z_body : Fun K "_law_body" "_law_body" s_z_body f_z_body d_z_body
  g_z_body : mg "_law_body" = some (.ref f_z_body)
  b_z_body : Binds K d_z_body ["p", "names", "free", "depth"] []
  f_z_counting : Addr
  d_z_counting : FuncData
  F_z_counting : Fun K "_law_counting" "_law_counting" s_z_counting f_z_counting d_z_counting
  g_z_counting : mg "_law_counting" = some (.ref f_z_counting)
  b_z_counting : Binds K d_z_counting ["name", "other", "word"] []
  f_z_program : Addr
  d_z_program : FuncData
  F_z_program : Fun K "_law_program" "_law_program" s_z_program f_z_program d_z_program
  g_z_program : mg "_law_program" = some (.ref f_z_program)
  b_z_program : Binds K d_z_program ["draw", "left"] []
  f_z_store : Addr
  d_z_store : FuncData
  F_z_store : Fun K "_law_store" "_law_store" s_z_store f_z_store d_z_store
  g_z_store : mg "_law_store" = some (.ref f_z_store)
  b_z_store : Binds K d_z_store ["draw", "program"] []
  f_z_value : Addr
  d_z_value : FuncData
  F_z_value : Fun K "_law_value" "_law_value" s_z_value f_z_value d_z_value
  g_z_value : mg "_law_value" = some (.ref f_z_value)
  b_z_value : Binds K d_z_value ["w", "e", "frame"] []
  f_law : Addr
  d_law : FuncData
  F_law : Fun K "law" "law" s_law f_law d_law
  g_law : mg "law" = some (.ref f_law)
  m_abs : mg "abs" = none
  m_all : mg "all" = none
  m_bool : mg "bool" = none
  m_int : mg "int" = none
  m_isinstance : mg "isinstance" = none
  m_len : mg "len" = none
  m_min : mg "min" = none
  m_range : mg "range" = none
  m_str : mg "str" = none
  m_tuple : mg "tuple" = none
  m_zip : mg "zip" = none
/-- the code objects and tables of the defs that hold generator expressions -/
def Txt.tabs {K : PySem.W.Frag} {mg : Str → Option Value} (T : Txt K mg) : List (Addr × Addr) := [(T.c_is_entry, T.P_is_entry)]
structure TBs {K : PySem.W.Frag} {mg : Str → Option Value} (T : Txt K mg) (base : Heap) : Prop where
  B_is_entry : GxR.TabB base mg T.c_is_entry T.P_is_entry

section
variable {P : Program} {w : World} {K : PySem.W.Frag} {mg : Str → Option Value} {base : Heap}
/-! ### the draw -/
/-- the cells stay where they are -/
def Cs (p : Addr) (H H' : Hp) : Prop := ∀ c t, H p = some (.lst (.ref c :: t)) → ∃ t', H' p = some (.lst (.ref c :: t'))
theorem Cs.refl (p : Addr) (H : Hp) : Cs p H H := fun _ t e => ⟨t, e⟩
theorem Cs.trans {p : Addr} {H H1 H2 : Hp} (a : Cs p H H1) (b : Cs p H1 H2) : Cs p H H2 := fun c t e => let ⟨t', e'⟩ := a c t e; b c t' e'
theorem Cs.new {p q : Addr} {H : Hp} {o : HO} (h : H q = none) : Cs p H (upd H q o) := fun c t e => ⟨t, by rw [upd_ne (ne_of_none e h)]; exact e⟩
/-- a number from 0 to m - 1, the draw turned -/
def spTake : Sp := fun vs H Q _ => ∃ (p : Addr) (m : Int), vs = [.ref p, .int m] ∧ DrawAt H p ∧ 0 < m ∧ m ≤ 2 ^ 40 ∧ ∀ (r : Int) (H' : Hp), 0 ≤ r → r < m → KeepBut p H H' → Cs p H H' → DrawAt H' p → Q (.int r) H'
theorem ok_z_take (T : Txt K mg) : FnOk P w K mg base CX0 1 T.f_z_take T.d_z_take ["draw", "many"] spTake := by
  refine T.F_z_take.ok sc_z_take (fun vs H Q E h => ?_) (fun cdv A outer s H vs Q E hr h => ?_)
  · obtain ⟨p, m, rfl, _⟩ := h
    rfl
  · obtain ⟨p, m, rfl, ⟨c, cells, pos, rest, seed, D⟩, hm, hm2, q⟩ := h
    have hc0 := D.hp
    refine ⟨_, (pss_cons (ps_cut (ps_if (pt_cmpR op_eq (pe_ix ix_list (pv 0) pe_int (fun _ _ => rfl)) pe_int (nomark _))
        (pss_cons (ps_asg (pe_op op_add (pe_ix ix_list (pv 0) pe_int (fun _ _ => rfl)) pe_int) (pg_sub (pv 0) pe_int set_list))
        (pss_cons (ps_cut (ps_if (pt_cmpR op_lt (pe_ix ix_list (pv 0) pe_int (fun _ _ => rfl)) (pe_callB call_len_seq (by rfl) T.m_len (by decide +kernel) (pa_cons (pe_ix ix_list (pv 0) pe_int (fun _ _ => rfl)) pa_nil)) (nomark _))
          (pss_one (ps_asg (pe_ix ix_list (pe_ix ix_list (pv 0) pe_int (fun _ _ => rfl)) (pe_ix ix_list (pv 0) pe_int (fun _ _ => rfl)) (fun _ _ => rfl)) (pg_sub (pv 0) pe_int set_list)))
          pss_nil))
        (pss_one (ps_if (pt_cmpR op_eq (pe_ix ix_list (pv 0) pe_int (fun _ _ => rfl)) pe_int (nomark _))
          (pss_cons (ps_asg (pe_op op_modN (pe_callTy call_int1 (by rfl) T.m_int (by decide +kernel) (pa_cons (pe_op op_add (pe_op op_mul (pe_ix ix_list (pv 0) pe_int (fun _ _ => rfl)) pe_int) pe_int) pa_nil)) pe_int) (pg_sub (pv 0) pe_int set_list))
          (pss_one (ps_asg (pe_ix ix_list (pv 0) pe_int (fun _ _ => rfl)) (pg_sub (pv 0) pe_int set_list))))
          pss_nil))))
        pss_nil))
      (pss_cons (ps_set (i := 2) sc_z_take.nd rfl (Or.inl rfl) (pe_op op_modN (pe_callTy call_int1 (by rfl) T.m_int (by decide +kernel) (pa_cons (pe_ix ix_list (pv 0) pe_int (fun _ _ => rfl)) pa_nil)) (pv 1)))
      (pss_cons (ps_asg (pe_op op_fdivW (pe_ix ix_list (pv 0) pe_int (fun _ _ => rfl)) (pv 1)) (pg_sub (pv 0) pe_int set_list))
      (pss_one (ps_ret (pv 2)))))), ?_⟩
    refine ⟨fun σ H1 => ∃ pos rest seed, σ = [some (.ref p), some (.int m), none] ∧ DrawIs H1 p c cells pos rest seed ∧ KeepBut p H H1, ?_, ?_⟩
    · -- draw[2] == 0
      refine ⟨_, rfl, _, _, _, _, rfl, rfl, SqL.of D.hp, rfl, rfl, _, rfl, ite2 (fun e => ?_) (fun e => ?_)⟩
      · -- draw[1] = draw[1] + 1
        refine ⟨_, rfl, _, _, _, _, rfl, rfl, SqL.of D.hp, rfl, _, _, rfl, rfl, _, rfl, _, _, _, 1, rfl, rfl, D.hp, rfl, ?_⟩
        have h1 := D.po
        have D1 : DrawIs (upd H p (.lst [.ref c, .int (pos + 1), .int rest, .int seed])) p c cells (pos + 1) rest seed := D.put (by omega) D.re D.s0 D.s1
        have k1 : KeepBut p H (upd H p (.lst [.ref c, .int (pos + 1), .int rest, .int seed])) := .put _ _ _
        refine ⟨fun σ H1 => ∃ rest, σ = [some (.ref p), some (.int m), none] ∧ DrawIs H1 p c cells (pos + 1) rest seed ∧ KeepBut p H H1, ?_, ?_⟩
        · -- draw[1] < len(draw[0])
          refine ⟨_, rfl, _, _, _, _, rfl, rfl, SqL.of D1.hp, rfl, _, rfl, _, _, _, _, rfl, rfl, SqL.of D1.hp, rfl, _, _, rfl, .inl (SqL.of D1.hc), _, _, rfl, rfl, _, rfl, ite2 (fun e => ?_) (fun e => ?_)⟩
          · have e1 : pos + 1 < ((cells.map V.int).length : Int) := of_decide_eq_true e
            rw [List.length_map] at e1
            obtain ⟨n, hn⟩ := int_nat (show 0 ≤ pos + 1 by omega)
            have hn2 : n < cells.length := by omega
            refine ⟨_, rfl, _, _, _, _, rfl, rfl, SqL.of D1.hp, rfl, _, rfl, _, _, _, _, rfl, rfl, SqL.of D1.hp, rfl, _, _, _, .int cells[n], rfl, rfl, SqL.of D1.hc, ?_, _, rfl, _, _, _, 2, rfl, rfl, D1.hp, rfl, ?_⟩
            · rw [hn]
              exact atI_nat (by rw [List.getElem?_map, List.getElem?_eq_getElem hn2]; rfl)
            · exact ⟨_, rfl, D1.put D1.po (D1.nn _ (List.getElem_mem hn2)) D1.s0 D1.s1, k1.trans (.put _ _ _)⟩
          · exact ⟨rest, rfl, D1, k1⟩
        · rintro σ H1 ⟨rest1, rfl, D2, k2⟩
          -- draw[2] == 0
          refine ⟨_, rfl, _, _, _, _, rfl, rfl, SqL.of D2.hp, rfl, rfl, _, rfl, ite2 (fun e => ?_) (fun e => ?_)⟩
          · have s0 := D2.s0
            have s1 := D2.s1
            refine ⟨_, rfl, _, _, _, _, rfl, rfl, SqL.of D2.hp, rfl, _, _, rfl, rfl, .inl ⟨by omega, by omega⟩, _, _, rfl, rfl, .inl ⟨_, rfl, _, _, rfl, rfl, (show (2147483647 : Int) ≠ 0 by decide), _, rfl, _, _, _, 3, rfl, rfl, D2.hp, rfl, ?_⟩⟩
            have f0 : 0 ≤ (seed * 48271 + 11).fmod 2147483647 := fmod_lo (by decide)
            have f1 : (seed * 48271 + 11).fmod 2147483647 < 2147483647 := fmod_hi (by decide)
            have D3 := D2.put (seed' := (seed * 48271 + 11).fmod 2147483647) D2.po D2.re f0 f1
            refine ⟨_, rfl, _, _, _, _, rfl, rfl, SqL.of D3.hp, rfl, _, rfl, _, _, _, 2, rfl, rfl, D3.hp, rfl, ?_⟩
            exact ⟨_, _, _, rfl, D3.put D3.po f0 f0 f1, (k2.trans (.put _ _ _)).trans (.put _ _ _)⟩
          · exact ⟨_, _, _, rfl, D2, k2⟩
      · exact ⟨_, _, _, rfl, D, .refl _ _⟩
    · rintro σ H1 ⟨pos, rest, seed, rfl, D, k⟩
      -- found = int(draw[2]) % many; draw[2] = draw[2] // many
      refine ⟨_, rfl, _, _, _, _, rfl, rfl, SqL.of D.hp, rfl, .inl ⟨_, rfl, _, rfl, _, _, rfl, rfl, (by omega), ?_⟩⟩
      refine ⟨_, rfl, _, _, _, _, rfl, rfl, SqL.of D.hp, rfl, _, rfl, _, _, rfl, rfl, wide_div (b := 41) hm (by omega) (by decide) (by decide), _, rfl, _, _, _, 2, rfl, rfl, D.hp, rfl, ?_⟩
      exact ⟨_, rfl, q _ _ (fmod_lo hm) (fmod_hi hm) (k.trans (.put _ _ _)) (fun c' t e => by rw [hc0] at e; cases e; exact ⟨_, upd_same⟩) ⟨_, _, _, _, _, D.put D.po (div_lo D.re hm) D.s0 D.s1⟩⟩

def spTop : Sp := fun vs H Q _ => ∃ n : Nat, vs = [.int n] ∧ n ≤ 32 ∧ Q (.int (2 ^ n - 1)) H
theorem ok_z_top (T : Txt K mg) : FnOk P w K mg base CX0 1 T.f_z_top T.d_z_top ["w"] spTop := by
  refine T.F_z_top.ok sc_z_top (fun vs H Q E h => ?_) (fun cdv A outer s H vs Q E hr h => ?_)
  · obtain ⟨n, rfl, _⟩ := h
    rfl
  · obtain ⟨n, rfl, hn, q⟩ := h
    refine ⟨_, (pss_one (ps_ret (pe_op op_sub (pe_op op_shl pe_int (pv 0)) pe_int))), ?_⟩
    refine ⟨_, rfl, _, _, rfl, rfl, ⟨by omega, by omega, by decide⟩, _, _, rfl, rfl, ?_⟩
    rw [Int.one_mul]
    exact q
theorem ok_top (T : Txt K mg) : FnOk P w K mg base CX0 1 T.f_top T.d_top ["w"] spTop := by
  refine T.F_top.ok sc_top (fun vs H Q E h => ?_) (fun cdv A outer s H vs Q E hr h => ?_)
  · obtain ⟨n, rfl, _⟩ := h
    rfl
  · obtain ⟨n, rfl, hn, q⟩ := h
    refine ⟨_, (pss_one (ps_ret (pe_op op_sub (pe_op op_shl pe_int (pv 0)) pe_int))), ?_⟩
    refine ⟨_, rfl, _, _, rfl, rfl, ⟨by omega, by omega, by decide⟩, _, _, rfl, rfl, ?_⟩
    rw [Int.one_mul]
    exact q
/-- a word of the width -/
def spWord : Sp := fun vs H Q _ => ∃ (p : Addr) (n : Nat), vs = [.ref p, .int n] ∧ DrawAt H p ∧ 1 ≤ n ∧ n ≤ 32 ∧ ∀ (r : Int) (H' : Hp), 0 ≤ r → r < 2 ^ n → KeepBut p H H' → Cs p H H' → DrawAt H' p → Q (.int r) H'
theorem pow_ge (n : Nat) (h : 1 ≤ n) : (2 : Int) ≤ 2 ^ n := by
  obtain ⟨k, rfl⟩ : ∃ k, n = k + 1 := ⟨n - 1, by omega⟩
  have : (0 : Int) < 2 ^ k := Int.pow_pos (by decide)
  rw [Int.pow_succ]
  omega
theorem pow_le {n m : Nat} (h : n ≤ m) : (2 : Int) ^ n ≤ 2 ^ m := by
  have h2 : (2 : Nat) ^ n ≤ 2 ^ m := Nat.pow_le_pow_right (by decide) h
  exact_mod_cast h2
theorem ok_z_word (T : Txt K mg) : FnOk P w K mg base CX0 2 T.f_z_word T.d_z_word ["draw", "w"] spWord := by
  have G_z_take := ok_z_take (P := P) (w := w) (base := base) T
  have G_z_top := ok_z_top (P := P) (w := w) (base := base) T
  refine T.F_z_word.ok sc_z_word (fun vs H Q E h => ?_) (fun cdv A outer s H vs Q E hr h => ?_)
  · obtain ⟨p, n, rfl, _⟩ := h
    rfl
  · obtain ⟨p, n, rfl, D, hn1, hn, q⟩ := h
    have p2 := pow_ge n hn1
    refine ⟨_, (pss_cons (ps_set (i := 2) sc_z_word.nd rfl (Or.inl rfl) (pe_call G_z_take (hr.mono (by omega)) (by rfl) T.g_z_take T.F_z_take.kp T.b_z_take .nil pass0 (pa_cons (pv 0) (pa_cons pe_int pa_nil))))
      (pss_cons (ps_if (pt_cmpR op_lt (pv 2) pe_int (nomark _))
        (pss_one (ps_ret (pe_callB (call_min2 rfl) (by rfl) T.m_min (by decide +kernel) (pa_cons (pe_ix ix_list (pe_lst (pa_cons pe_int (pa_cons pe_int (pa_cons pe_int pa_nil)))) (pv 2) (fun _ _ => rfl)) (pa_cons (pe_call G_z_top (hr.mono (by omega)) (by rfl) T.g_z_top T.F_z_top.kp T.b_z_top .nil pass0 (pa_cons (pv 1) pa_nil)) pa_nil)))))
        pss_nil)
      (pss_cons (ps_if (pt_cmpR op_eq (pv 2) pe_int (nomark _))
        (pss_one (ps_ret (pe_call G_z_top (hr.mono (by omega)) (by rfl) T.g_z_top T.F_z_top.kp T.b_z_top .nil pass0 (pa_cons (pv 1) pa_nil))))
        pss_nil)
      (pss_one (ps_ret (pe_op op_modN (pe_callTy call_int1 (by rfl) T.m_int (by decide +kernel) (pa_cons (pe_call G_z_take (hr.mono (by omega)) (by rfl) T.g_z_take T.F_z_take.kp T.b_z_take .nil pass0 (pa_cons (pv 0) (pa_cons (pe_op op_shl pe_int (pe_callB (call_min2 rfl) (by rfl) T.m_min (by decide +kernel) (pa_cons (pv 1) (pa_cons pe_int pa_nil)))) pa_nil))) pa_nil)) (pe_op op_shl pe_int (pv 1)))))))), ?_⟩
    refine ⟨_, rfl, p, 6, rfl, D, by decide, by decide, fun k H1 k0 k1 kp1 cs1 D1 => ?_⟩
    refine ⟨_, rfl, _, _, rfl, rfl, _, rfl, ite2 (fun e => ?_) (fun e => ?_)⟩
    · have e1 : k < 3 := of_decide_eq_true e
      refine ⟨by decide, fun l hl => ⟨_, rfl, ?_⟩⟩
      have hk : ∃ v : Int, atI [V.int 0, V.int 1, V.int 3] k = some (.int v) ∧ 0 ≤ v := by
        have : k = 0 ∨ k = 1 ∨ k = 2 := by omega
        rcases this with rfl | rfl | rfl
        · exact ⟨0, rfl, by decide⟩
        · exact ⟨1, rfl, by decide⟩
        · exact ⟨3, rfl, by decide⟩
      obtain ⟨v, hv, v0⟩ := hk
      refine ⟨_, _, _, _, rfl, rfl, SqL.of upd_same, hv, _, rfl, n, rfl, hn, _, _, rfl, ?_⟩
      refine q _ _ ?_ ?_ (kp1.new hl) (cs1.trans (.new hl)) (D1.upd hl)
      · split <;> omega
      · split <;> omega
    · refine ⟨_, rfl, rfl, _, rfl, ite2 (fun e => ?_) (fun e => ?_)⟩
      · refine ⟨_, rfl, n, rfl, hn, ?_⟩
        exact q _ _ (by omega) (by omega) kp1 cs1 D1
      · refine ⟨_, rfl, _, rfl, _, _, rfl, _, _, rfl, rfl, ⟨?_, ?_, by decide⟩, p, _, rfl, D1, ?_, ?_, fun r H2 r0 r1 kp2 cs2 D2 => ?_⟩
        · split <;> omega
        · split <;> omega
        · rw [Int.one_mul]; exact Int.pow_pos (by decide)
        · rw [Int.one_mul]
          refine Int.le_trans (pow_le (m := 32) ?_) (by decide)
          split <;> omega
        · refine .inl ⟨_, rfl, _, rfl, _, _, rfl, rfl, ⟨by omega, by omega, by decide⟩, _, _, rfl, rfl, ?_, ?_⟩
          · rw [Int.one_mul]; exact Int.ne_of_gt (Int.pow_pos (by decide))
          · rw [Int.one_mul]
            have hp : (0 : Int) < 2 ^ (n : Int).toNat := Int.pow_pos (by decide)
            exact q _ _ (fmod_lo hp) (fmod_hi hp) (kp1.trans kp2) (cs1.trans cs2) D2
end

section
variable {P : Program} {w : World} {K : PySem.W.Frag} {mg : Str → Option Value} {base : Heap}
theorem str_eq {a b : Str} (e : decide (V.str a = V.str b) = true) : a = b := V.str.inj (of_decide_eq_true e)
theorem str_ne {a b : Str} (e : ¬ decide (V.str a = V.str b) = true) : ¬ a = b := fun q => e (decide_eq_true (by rw [q]))
theorem int_eq {a b : Int} (e : decide (V.int a = V.int b) = true) : a = b := V.int.inj (of_decide_eq_true e)
theorem int_ne {a b : Int} (e : ¬ decide (V.int a = V.int b) = true) : ¬ a = b := fun q => e (decide_eq_true (by rw [q]))
def spCmp : Sp := fun vs H Q _ => ∃ (op : Str) (n : Nat) (x y : Int), vs = [.str op, .int n, .int x, .int y] ∧ n ≤ 32 ∧ 0 ≤ x ∧ x < 2 ^ n ∧ 0 ≤ y ∧ y < 2 ^ n ∧ Q (.int (cmpS op n x y)) H
/-- shl and shr alone -/
def spShift : Sp := fun vs H Q _ => ∃ (op : Str) (n : Nat) (x y : Int), vs = [.str op, .int n, .int x, .int y] ∧ n ≤ 32 ∧ 0 ≤ x ∧ x < 2 ^ n ∧ 0 ≤ y ∧ y < 2 ^ n ∧ Q (.int (if (n : Int) ≤ y then 0 else if op = "shl" then (x * 2 ^ y.toNat) % 2 ^ n else x / 2 ^ y.toNat)) H
theorem lt64 {n : Nat} {x : Int} (hn : n ≤ 32) (h0 : 0 ≤ x) (h : x < 2 ^ n) : x < 4294967296 := Int.lt_of_lt_of_le h (pow_le (m := 32) hn)
theorem bit_top {Q : VK} {H : Hp} {x : Int} {n : Nat} (q : Q (.int (x % 2 ^ n)) H) : Q (.int (Builtin.bitAnd x (2 ^ n - 1))) H := by
  rw [PySem.W.kbt_mask]
  exact q
theorem ok_shift (T : Txt K mg) : FnOk P w K mg base CX0 2 T.f_shift T.d_shift ["op", "w", "x", "y"] spShift := by
  have G_top := ok_top (P := P) (w := w) (base := base) T
  refine T.F_shift.ok sc_shift (fun vs H Q E h => ?_) (fun cdv A outer s H vs Q E hr h => ?_)
  · obtain ⟨op, n, x, y, rfl, _⟩ := h
    rfl
  · obtain ⟨op, n, x, y, rfl, hn, x0, x1, y0, y1, q⟩ := h
    have xl := lt64 hn x0 x1
    refine ⟨_, (pss_cons (ps_if (pt_cmpR op_ge (pv 3) (pv 1) (nomark _))
        (pss_one (ps_ret pe_int))
        pss_nil)
      (pss_cons (ps_if (pt_cmpR op_eq (pv 0) pe_str (nomark _))
        (pss_one (ps_ret (pe_op op_and (pe_op op_shl (pv 2) (pv 3)) (pe_call G_top (hr.mono (by omega)) (by rfl) T.g_top T.F_top.kp T.b_top .nil pass0 (pa_cons (pv 1) pa_nil)))))
        pss_nil)
      (pss_one (ps_ret (pe_op op_shr (pv 2) (pv 3)))))), ?_⟩
    refine ⟨_, rfl, _, rfl, _, _, rfl, rfl, _, rfl, ite2 (fun e => ?_) (fun e => ?_)⟩
    · have e1 : (n : Int) ≤ y := of_decide_eq_true e
      rw [if_pos e1] at q
      exact q
    · have e1 : ¬ (n : Int) ≤ y := fun z => e (decide_eq_true z)
      rw [if_neg e1] at q
      refine ⟨_, rfl, rfl, _, rfl, ite2 (fun e => ?_) (fun e => ?_)⟩
      · rw [if_pos (str_eq e)] at q
        exact ⟨_, rfl, _, rfl, _, _, rfl, rfl, ⟨y0, by omega, by omega⟩, _, rfl, n, rfl, hn, _, _, rfl, rfl, bit_top q⟩
      · rw [if_neg (str_ne e)] at q
        exact ⟨_, rfl, _, rfl, _, _, rfl, rfl, y0, q⟩
theorem ok_compute (T : Txt K mg) : FnOk P w K mg base CX0 3 T.f_compute T.d_compute ["op", "w", "x", "y"] spCmp := by
  have G_top := ok_top (P := P) (w := w) (base := base) T
  have G_shift := ok_shift (P := P) (w := w) (base := base) T
  refine T.F_compute.ok sc_compute (fun vs H Q E h => ?_) (fun cdv A outer s H vs Q E hr h => ?_)
  · obtain ⟨op, n, x, y, rfl, _⟩ := h
    rfl
  · obtain ⟨op, n, x, y, rfl, hn, x0, x1, y0, y1, q⟩ := h
    have xl := lt64 hn x0 x1
    unfold cmpS at q
    refine ⟨_, (pss_cons (ps_if (pt_cmpR op_eq (pv 0) pe_str (nomark _))
        (pss_one (ps_ret (pe_op op_and (pe_op op_add (pv 2) (pv 3)) (pe_call G_top (hr.mono (by omega)) (by rfl) T.g_top T.F_top.kp T.b_top .nil pass0 (pa_cons (pv 1) pa_nil)))))
        pss_nil)
      (pss_cons (ps_if (pt_cmpR op_eq (pv 0) pe_str (nomark _))
        (pss_one (ps_ret (pe_op op_and (pe_op op_sub (pv 2) (pv 3)) (pe_call G_top (hr.mono (by omega)) (by rfl) T.g_top T.F_top.kp T.b_top .nil pass0 (pa_cons (pv 1) pa_nil)))))
        pss_nil)
      (pss_cons (ps_if (pt_cmpR op_eq (pv 0) pe_str (nomark _))
        (pss_one (ps_ret (pe_op op_and (pe_op op_mul (pv 2) (pv 3)) (pe_call G_top (hr.mono (by omega)) (by rfl) T.g_top T.F_top.kp T.b_top .nil pass0 (pa_cons (pv 1) pa_nil)))))
        pss_nil)
      (pss_cons (ps_if (pt_cmpR op_eq (pv 0) pe_str (nomark _))
        (pss_one (ps_ret (pe_op op_and (pv 2) (pv 3))))
        pss_nil)
      (pss_cons (ps_if (pt_cmpR op_eq (pv 0) pe_str (nomark _))
        (pss_one (ps_ret (pe_op op_or (pv 2) (pv 3))))
        pss_nil)
      (pss_cons (ps_if (pt_cmpR op_eq (pv 0) pe_str (nomark _))
        (pss_one (ps_ret (pe_op op_xor (pv 2) (pv 3))))
        pss_nil)
      (pss_cons (ps_if (pt_cmpR op_eq (pv 0) pe_str (nomark _))
        (pss_one (ps_ret (pe_ifExp (pt_cmpR op_lt (pv 2) (pv 3) (nomark _)) pe_int pe_int)))
        pss_nil)
      (pss_cons (ps_if (pt_cmpR op_eq (pv 0) pe_str (nomark _))
        (pss_one (ps_ret (pe_ifExp (pt_cmpR op_eq (pv 2) (pv 3) (nomark _)) pe_int pe_int)))
        pss_nil)
      (pss_one (ps_ret (pe_call G_shift (hr.mono (by omega)) (by rfl) T.g_shift T.F_shift.kp T.b_shift .nil pass0 (pa_cons (pv 0) (pa_cons (pv 1) (pa_cons (pv 2) (pa_cons (pv 3) pa_nil))))))))))))))), ?_⟩
    refine ⟨_, rfl, rfl, _, rfl, ite2 (fun e => ?_) (fun e => ?_)⟩
    · rw [if_pos (str_eq e)] at q
      refine ⟨_, rfl, _, rfl, _, _, rfl, rfl, _, rfl, n, rfl, hn, _, _, rfl, rfl, bit_top q⟩
    rw [if_neg (str_ne e)] at q
    clear e
    refine ⟨_, rfl, rfl, _, rfl, ite2 (fun e => ?_) (fun e => ?_)⟩
    · rw [if_pos (str_eq e)] at q
      refine ⟨_, rfl, _, rfl, _, _, rfl, rfl, _, rfl, n, rfl, hn, _, _, rfl, rfl, bit_top q⟩
    rw [if_neg (str_ne e)] at q
    clear e
    refine ⟨_, rfl, rfl, _, rfl, ite2 (fun e => ?_) (fun e => ?_)⟩
    · rw [if_pos (str_eq e)] at q
      refine ⟨_, rfl, _, rfl, _, _, rfl, rfl, .inl ⟨by omega, by omega⟩, _, rfl, n, rfl, hn, _, _, rfl, rfl, bit_top q⟩
    rw [if_neg (str_ne e)] at q
    clear e
    refine ⟨_, rfl, rfl, _, rfl, ite2 (fun e => ?_) (fun e => ?_)⟩
    · rw [if_pos (str_eq e)] at q
      exact ⟨_, rfl, _, rfl, _, _, rfl, rfl, q⟩
    rw [if_neg (str_ne e)] at q
    clear e
    refine ⟨_, rfl, rfl, _, rfl, ite2 (fun e => ?_) (fun e => ?_)⟩
    · rw [if_pos (str_eq e)] at q
      exact ⟨_, rfl, _, rfl, _, _, rfl, rfl, q⟩
    rw [if_neg (str_ne e)] at q
    clear e
    refine ⟨_, rfl, rfl, _, rfl, ite2 (fun e => ?_) (fun e => ?_)⟩
    · rw [if_pos (str_eq e)] at q
      exact ⟨_, rfl, _, rfl, _, _, rfl, rfl, q⟩
    rw [if_neg (str_ne e)] at q
    clear e
    refine ⟨_, rfl, rfl, _, rfl, ite2 (fun e => ?_) (fun e => ?_)⟩
    · rw [if_pos (str_eq e)] at q
      refine ⟨_, rfl, _, rfl, _, _, rfl, rfl, _, rfl, ite2 (fun e => ?_) (fun e => ?_)⟩
      · rw [if_pos (of_decide_eq_true e)] at q
        exact q
      · rw [if_neg (fun z => e (decide_eq_true z))] at q
        exact q
    rw [if_neg (str_ne e)] at q
    clear e
    refine ⟨_, rfl, rfl, _, rfl, ite2 (fun e => ?_) (fun e => ?_)⟩
    · rw [if_pos (str_eq e)] at q
      refine ⟨_, rfl, _, rfl, rfl, _, rfl, ite2 (fun e => ?_) (fun e => ?_)⟩
      · rw [if_pos (int_eq e)] at q
        exact q
      · rw [if_neg (int_ne e)] at q
        exact q
    rw [if_neg (str_ne e)] at q
    clear e
    exact ⟨_, rfl, _, rfl, _, rfl, _, rfl, op, n, x, y, rfl, hn, x0, x1, y0, y1, q⟩

def OPL : List Str := ["add", "sub", "mul", "and", "or", "xor", "less", "equal", "shl", "shr"]
def spZc : Sp := fun vs H Q _ => ∃ (op : Str) (n : Nat) (x y : Int), vs = [.str op, .int n, .int x, .int y] ∧ op ∈ OPL ∧ n ≤ 32 ∧ 0 ≤ x ∧ x < 2 ^ n ∧ 0 ≤ y ∧ y < 2 ^ n ∧ ∀ H', Same H H' → Q (.int (cmpS op n x y)) H'
theorem add_mod {x y m : Int} (x0 : 0 ≤ x) (x1 : x < m) (y0 : 0 ≤ y) (y1 : y < m) : (x + y) % m = if x + y < m then x + y else x + y - m := by
  split
  · exact Int.emod_eq_of_lt (by omega) (by assumption)
  · have e : (x + y - m) % m = (x + y) % m := Int.sub_emod_right ..
    rw [← e]
    exact Int.emod_eq_of_lt (by omega) (by omega)
theorem sub_mod {x y m : Int} (x0 : 0 ≤ x) (x1 : x < m) (y0 : 0 ≤ y) (y1 : y < m) : (x - y) % m = if y ≤ x then x - y else x - y + m := by
  split
  · exact Int.emod_eq_of_lt (by omega) (by omega)
  · have e : (x - y + m) % m = (x - y) % m := Int.add_emod_right ..
    rw [← e]
    exact Int.emod_eq_of_lt (by omega) (by omega)
theorem mul_mod' (a m : Int) : a % m = a - a / m * m := by
  rw [Int.emod_def, Int.mul_comm m]
theorem flat_ops : ([V.str "and", V.str "or", V.str "xor"] : List V).all flatV = true := by decide +kernel
theorem in_ops (op : Str) : inV (V.str op) [V.str "and", V.str "or", V.str "xor"] = decide (op = "and" ∨ op = "or" ∨ op = "xor") := by
  unfold inV
  show (decide (("and" : Str) = op) || (decide (("or" : Str) = op) || (decide (("xor" : Str) = op) || false))) = _
  rw [Bool.or_false, ← Bool.decide_or, ← Bool.decide_or]
  apply decide_eq_decide.mpr
  constructor
  · rintro (h | h | h)
    · exact .inl h.symm
    · exact .inr (.inl h.symm)
    · exact .inr (.inr h.symm)
  · rintro (h | h | h)
    · exact .inl h.symm
    · exact .inr (.inl h.symm)
    · exact .inr (.inr h.symm)
set_option maxHeartbeats 4000000 in
theorem ok_z_compute (T : Txt K mg) : FnOk P w K mg base CX0 1 T.f_z_compute T.d_z_compute ["op", "w", "x", "y"] spZc := by
  refine T.F_z_compute.ok sc_z_compute (fun vs H Q E h => ?_) (fun cdv A outer s H vs Q E hr h => ?_)
  · obtain ⟨op, n, x, y, rfl, _⟩ := h
    rfl
  · obtain ⟨op, n, x, y, rfl, hop, hn, x0, x1, y0, y1, q⟩ := h
    have xl := lt64 hn x0 x1
    have yl := lt64 hn y0 y1
    have hpn : (0 : Int) < 2 ^ n := Int.pow_pos (by decide)
    have hpn2 : (2 : Int) ^ n ≤ 4294967296 := pow_le (m := 32) hn
    have q0 := q H (.refl H)
    unfold cmpS at q0
    refine ⟨_, (pss_cons (ps_set (i := 4) sc_z_compute.nd rfl (Or.inl rfl) (pe_op op_shl pe_int (pv 1)))
      (pss_cons (ps_if (pt_cmpR op_eq (pv 0) pe_str (nomark _))
        (pss_one (ps_ret (pe_ifExp (pt_cmpR op_lt (pe_op op_add (pv 2) (pv 3)) (pv 4) (nomark _)) (pe_op op_add (pv 2) (pv 3)) (pe_op op_sub (pe_op op_add (pv 2) (pv 3)) (pv 4)))))
        pss_nil)
      (pss_cons (ps_if (pt_cmpR op_eq (pv 0) pe_str (nomark _))
        (pss_one (ps_ret (pe_ifExp (pt_cmpR op_ge (pv 2) (pv 3) (nomark _)) (pe_op op_sub (pv 2) (pv 3)) (pe_op op_add (pe_op op_sub (pv 2) (pv 3)) (pv 4)))))
        pss_nil)
      (pss_cons (ps_if (pt_cmpR op_eq (pv 0) pe_str (nomark _))
        (pss_one (ps_ret (pe_op op_sub (pe_op op_mul (pv 2) (pv 3)) (pe_op op_mul (pe_op op_fdivW (pe_op op_mul (pv 2) (pv 3)) (pv 4)) (pv 4)))))
        pss_nil)
      (pss_cons (ps_if (pt_cmpR op_in_seq (pv 0) (pe_lst (pa_cons pe_str (pa_cons pe_str (pa_cons pe_str pa_nil)))) (by rfl))
        (pss_cons (ps_set (i := 5) sc_z_compute.nd rfl (Or.inl rfl) pe_int)
        (pss_cons (ps_for PassesOwn.never rfl (pi_range1 (by rfl) T.m_range (pa_cons (pv 1) pa_nil)) (pg_name (i := 6) sc_z_compute.nd rfl (Or.inl rfl))
          (pss_cons (ps_set (i := 7) sc_z_compute.nd rfl (Or.inl rfl) (pe_op op_add (pe_op op_modN (pe_op op_fdivW (pv 2) (pe_op op_shl pe_int (pv 6))) pe_int) (pe_op op_modN (pe_op op_fdivW (pv 3) (pe_op op_shl pe_int (pv 6))) pe_int)))
          (pss_one (ps_if (pt_cut (PW.pt (pw_or (PW.pt (pw_and (pt_cmpR op_eq (pv 0) pe_str (nomark _)) (pw_and1 (pt_cmpR op_eq (pv 7) pe_int (nomark _))))) (pw_or (PW.pt (pw_and (pt_cmpR op_eq (pv 0) pe_str (nomark _)) (pw_and1 (pt_cmpR op_gt (pv 7) pe_int (nomark _))))) (pw_or1 (PW.pt (pw_and (pt_cmpR op_eq (pv 0) pe_str (nomark _)) (pw_and1 (pt_cmpR op_eq (pv 7) pe_int (nomark _))))))))))
            (pss_one (ps_set (i := 5) sc_z_compute.nd rfl (Or.inl rfl) (pe_op op_add (pv 5) (pe_op op_shl pe_int (pv 6)))))
            pss_nil))))
        (pss_one (ps_ret (pv 5)))))
        pss_nil)
      (pss_cons (ps_if (pt_cmpR op_eq (pv 0) pe_str (nomark _))
        (pss_one (ps_ret (pe_ifExp (pt_cmpR op_lt (pv 2) (pv 3) (nomark _)) pe_int pe_int)))
        pss_nil)
      (pss_cons (ps_if (pt_cmpR op_eq (pv 0) pe_str (nomark _))
        (pss_one (ps_ret (pe_ifExp (pt_cmpR op_eq (pv 2) (pv 3) (nomark _)) pe_int pe_int)))
        pss_nil)
      (pss_cons (ps_if (pt_cmpR op_ge (pv 3) (pv 1) (nomark _))
        (pss_one (ps_ret pe_int))
        pss_nil)
      (pss_cons (ps_if (pt_cmpR op_eq (pv 0) pe_str (nomark _))
        (pss_one (ps_ret (pe_op op_fdivW (pv 2) (pe_op op_shl pe_int (pv 3)))))
        pss_nil)
      (pss_one (ps_ret (pe_op op_sub (pe_op op_mul (pv 2) (pe_op op_shl pe_int (pv 3))) (pe_op op_mul (pe_op op_fdivW (pe_op op_mul (pv 2) (pe_op op_shl pe_int (pv 3))) (pv 4)) (pv 4)))))))))))))), ?_⟩
    refine ⟨_, rfl, _, _, rfl, rfl, ⟨by omega, by omega, by decide⟩, ?_⟩
    dsimp only
    rw [Int.one_mul, Int.toNat_natCast]
    -- add
    refine ⟨_, rfl, rfl, _, rfl, ite2 (fun e => ?_) (fun e => ?_)⟩
    · rw [if_pos (str_eq e), add_mod x0 x1 y0 y1] at q0
      refine ⟨_, rfl, _, rfl, _, _, rfl, rfl, _, rfl, _, _, rfl, rfl, _, rfl, ite2 (fun e => ?_) (fun e => ?_)⟩
      · rw [if_pos (of_decide_eq_true e)] at q0
        exact ⟨_, rfl, _, rfl, _, _, rfl, rfl, q0⟩
      · rw [if_neg (fun z => e (decide_eq_true z))] at q0
        exact ⟨_, rfl, _, rfl, _, _, rfl, rfl, _, rfl, _, _, rfl, rfl, q0⟩
    rw [if_neg (str_ne e)] at q0
    have n1 := str_ne e
    clear e
    refine ⟨_, rfl, rfl, _, rfl, ite2 (fun e => ?_) (fun e => ?_)⟩
    · rw [if_pos (str_eq e), sub_mod x0 x1 y0 y1] at q0
      refine ⟨_, rfl, _, rfl, _, _, rfl, rfl, _, rfl, ite2 (fun e => ?_) (fun e => ?_)⟩
      · rw [if_pos (of_decide_eq_true e)] at q0
        exact ⟨_, rfl, _, rfl, _, _, rfl, rfl, q0⟩
      · rw [if_neg (fun z => e (decide_eq_true z))] at q0
        exact ⟨_, rfl, _, rfl, _, _, rfl, rfl, _, rfl, _, _, rfl, rfl, q0⟩
    rw [if_neg (str_ne e)] at q0
    have n2 := str_ne e
    clear e
    refine ⟨_, rfl, rfl, _, rfl, ite2 (fun e => ?_) (fun e => ?_)⟩
    · rw [if_pos (str_eq e), mul_mod'] at q0
      exact ⟨_, rfl, _, rfl, _, _, rfl, rfl, .inl ⟨by omega, by omega⟩, _, rfl, _, rfl, _, _, rfl, rfl, .inl ⟨by omega, by omega⟩, _, rfl, _, _, rfl, rfl, wide_div (b := 34) hpn (by omega) (by decide) (by decide), _, rfl, _, _, rfl, rfl, .inr ⟨by omega, by omega⟩, _, _, rfl, rfl, q0⟩
    rw [if_neg (str_ne e)] at q0
    have n3 := str_ne e
    clear e
    -- the ops bit by bit
    refine ⟨_, rfl, by decide, fun l hl => ⟨_, _, rfl, .inl (SqL.of upd_same), rfl, flat_ops, _, rfl, ?_⟩⟩
    rw [in_ops]
    refine ite2 (fun e => ?_) (fun e => ?_)
    · have eo : op = "and" ∨ op = "or" ∨ op = "xor" := of_decide_eq_true e
      obtain ⟨a, rfl⟩ := int_nat x0
      obtain ⟨b, rfl⟩ := int_nat y0
      have hk : ((2 ^ n : Nat) : Int) = (2 : Int) ^ n := PySem.W.kbt_cast n
      have la : a < 2 ^ n := by omega
      have lb : b < 2 ^ n := by omega
      -- found = 0; for k in range(w)
      refine ⟨_, rfl, _, rfl, by omega, by omega, for_range (n := n) (fun i σ H2 => ∃ k6 k7, σ = [some (.str op), some (.int n), some (.int a), some (.int b), some (.int (2 ^ n)), some (.int ((bitF op a b % 2 ^ i : Nat) : Int)), k6, k7] ∧ H2 = upd H l (.lst [V.str "and", V.str "or", V.str "xor"])) ?_ ?_ ?_⟩
      · refine ⟨none, none, ?_, rfl⟩
        rw [Nat.pow_zero, Nat.mod_one]
        rfl
      · rintro i σ H2 hi ⟨k6, k7, rfl, rfl⟩
        have ei : ((0 : Int) + (i : Int)).toNat = i := by omega
        have hpi : (0 : Int) < 2 ^ i := Int.pow_pos (by decide)
        have hpi2 : (2 : Int) ^ i ≤ 4294967296 := pow_le (m := 32) (by omega)
        have hki : ((2 ^ i : Nat) : Int) = (2 : Int) ^ i := PySem.W.kbt_cast i
        have fm : ∀ a : Nat, ((a : Int) / (1 * 2 ^ ((0 : Int) + (i : Int)).toNat)).fmod 2 = ((a / 2 ^ i % 2 : Nat) : Int) := fun a => by
          rw [ei, Int.one_mul, fmod_e (by decide), ← hki]
          omega
        -- both
        refine ⟨_, rfl, _, rfl, _, _, rfl, rfl, ⟨by omega, by omega, by decide⟩, _, _, rfl, rfl, wide_div (b := 34) (by rw [ei]; omega) (by rw [ei]; omega) (by decide) (by decide), _, _, rfl, rfl, (by show (2 : Int) ≠ 0; decide),
          _, rfl, _, rfl, _, _, rfl, rfl, ⟨by omega, by omega, by decide⟩, _, _, rfl, rfl, wide_div (b := 34) (by rw [ei]; omega) (by rw [ei]; omega) (by decide) (by decide), _, _, rfl, rfl, (by show (2 : Int) ≠ 0; decide), _, _, rfl, rfl, ?_⟩
        dsimp only
        rw [fm a, fm b]
        have st := bitF_step op a b i
        generalize hz : ((a / 2 ^ i % 2 : Nat) : Int) + ((b / 2 ^ i % 2 : Nat) : Int) = z at st
        -- the test, by its answer
        refine ⟨fun c H3 => c = bitC op z ∧ H3 = upd H l (.lst [V.str "and", V.str "or", V.str "xor"]), ?_, ?_⟩
        · refine ⟨_, rfl, rfl, _, rfl, ite2 (fun e => ?_) (fun e => ?_)⟩
          · have eq := str_eq e
            refine ⟨_, rfl, rfl, _, rfl, ite2 (fun e2 => ?_) (fun e2 => ?_)⟩
            · exact ⟨by unfold bitC; rw [if_pos eq, decide_eq_true (int_eq e2)], rfl⟩
            · refine ⟨_, rfl, rfl, _, rfl, ite2 (fun e3 => absurd (eq.symm.trans (str_eq e3)) (by decide +kernel)) (fun e3 => iteF ?_)⟩
              refine ⟨_, rfl, rfl, _, rfl, ite2 (fun e3 => absurd (eq.symm.trans (str_eq e3)) (by decide +kernel)) (fun e3 => ?_)⟩
              exact ⟨by unfold bitC; rw [if_pos eq, decide_eq_false (int_ne e2)], rfl⟩
          · have ne := str_ne e
            refine iteF ⟨_, rfl, rfl, _, rfl, ite2 (fun e3 => ?_) (fun e3 => ?_)⟩
            · have eq := str_eq e3
              refine ⟨_, rfl, _, _, rfl, rfl, _, rfl, ite2 (fun e2 => ?_) (fun e2 => ?_)⟩
              · exact ⟨by unfold bitC; rw [if_neg ne, if_pos eq, decide_eq_true (of_decide_eq_true e2)], rfl⟩
              · refine ⟨_, rfl, rfl, _, rfl, ite2 (fun e3 => absurd (eq.symm.trans (str_eq e3)) (by decide +kernel)) (fun e3 => ?_)⟩
                exact ⟨by unfold bitC; rw [if_neg ne, if_pos eq, decide_eq_false (fun z => e2 (decide_eq_true z))], rfl⟩
            · have ne2 := str_ne e3
              have eq : op = "xor" := by
                rcases eo with z | z | z
                · exact absurd z ne
                · exact absurd z ne2
                · exact z
              refine iteF ⟨_, rfl, rfl, _, rfl, ite2 (fun e4 => ?_) (fun e4 => absurd eq (str_ne e4))⟩
              refine ⟨_, rfl, rfl, _, rfl, ?_⟩
              refine ⟨?_, rfl⟩
              unfold bitC
              rw [if_neg ne, if_neg ne2]
              exact decide_eq_decide.mpr ⟨fun q => V.int.inj q, fun q => by rw [q]⟩
        · rintro c H3 ⟨hc, rfl⟩
          rw [← hc] at st
          cases c with
          | true =>
            refine iteT ⟨_, rfl, _, rfl, _, _, rfl, rfl, ⟨by omega, by omega, by decide⟩, _, _, rfl, rfl, some (.int (0 + i)), some (.int z), ?_, rfl⟩
            rw [if_pos rfl] at st
            rw [st, ei, Int.one_mul]
            rfl
          | false =>
            refine iteF ⟨some (.int (0 + i)), some (.int z), ?_, rfl⟩
            rw [if_neg Bool.false_ne_true, Int.add_zero] at st
            rw [st]
            rfl
      · rintro σ H2 ⟨k6, k7, rfl, rfl⟩
        refine ⟨_, rfl, ?_⟩
        rw [Nat.mod_eq_of_lt (bitF_lt op la lb), ← bitF_cmp eo n]
        exact q _ (same_upd hl)
    · have en : ¬ (op = "and" ∨ op = "or" ∨ op = "xor") := fun z => e (decide_eq_true z)
      rw [if_neg (fun z => en (.inl z)), if_neg (fun z => en (.inr (.inl z))), if_neg (fun z => en (.inr (.inr z)))] at q0
      have q1 := q (upd H l (.lst [V.str "and", V.str "or", V.str "xor"])) (same_upd hl)
      unfold cmpS at q1
      rw [if_neg n1, if_neg n2, if_neg n3, if_neg (fun z => en (.inl z)), if_neg (fun z => en (.inr (.inl z))), if_neg (fun z => en (.inr (.inr z)))] at q1
      clear q0
      refine ⟨_, rfl, rfl, _, rfl, ite2 (fun e => ?_) (fun e => ?_)⟩
      · rw [if_pos (str_eq e)] at q1
        refine ⟨_, rfl, _, rfl, _, _, rfl, rfl, _, rfl, ite2 (fun e => ?_) (fun e => ?_)⟩
        · rw [if_pos (of_decide_eq_true e)] at q1
          exact q1
        · rw [if_neg (fun z => e (decide_eq_true z))] at q1
          exact q1
      rw [if_neg (str_ne e)] at q1
      have n4 := str_ne e
      refine ⟨_, rfl, rfl, _, rfl, ite2 (fun e => ?_) (fun e => ?_)⟩
      · rw [if_pos (str_eq e)] at q1
        refine ⟨_, rfl, _, rfl, rfl, _, rfl, ite2 (fun e => ?_) (fun e => ?_)⟩
        · rw [if_pos (int_eq e)] at q1
          exact q1
        · rw [if_neg (int_ne e)] at q1
          exact q1
      rw [if_neg (str_ne e)] at q1
      have n5 := str_ne e
      refine ⟨_, rfl, _, rfl, _, _, rfl, rfl, _, rfl, ite2 (fun e => ?_) (fun e => ?_)⟩
      · rw [if_pos (of_decide_eq_true e)] at q1
        exact q1
      rw [if_neg (fun z => e (decide_eq_true z))] at q1
      have yn : ¬ (n : Int) ≤ y := fun z => e (decide_eq_true z)
      obtain ⟨b, rfl⟩ := int_nat y0
      have hpb : (0 : Int) < 2 ^ b := Int.pow_pos (by decide)
      have hpb2 : (2 : Int) ^ b ≤ 4294967296 := pow_le (m := 32) (by omega)
      rw [Int.toNat_natCast] at q1
      refine ⟨_, rfl, rfl, _, rfl, ite2 (fun e => ?_) (fun e => ?_)⟩
      · have eq := str_eq e
        rw [if_neg (by rw [eq]; decide +kernel)] at q1
        refine ⟨_, rfl, _, rfl, _, _, rfl, rfl, ⟨by omega, by omega, by decide⟩, _, _, rfl, rfl, wide_div (b := 34) (by rw [Int.one_mul, Int.toNat_natCast]; omega) (by rw [Int.one_mul, Int.toNat_natCast]; omega) (by decide) (by decide), ?_⟩
        dsimp only
        rw [Int.one_mul, Int.toNat_natCast]
        exact q1
      · have eq : op = "shl" := by
          have n6 := str_ne e
          have hop' := hop
          unfold OPL at hop'
          simp only [List.mem_cons, List.not_mem_nil, or_false] at hop'
          rcases hop' with z | z | z | z | z | z | z | z | z | z
          · exact absurd z n1
          · exact absurd z n2
          · exact absurd z n3
          · exact absurd (.inl z) en
          · exact absurd (.inr (.inl z)) en
          · exact absurd (.inr (.inr z)) en
          · exact absurd z n4
          · exact absurd z n5
          · exact z
          · exact absurd z n6
        rw [if_pos eq, mul_mod'] at q1
        refine ⟨_, rfl, _, rfl, _, _, rfl, rfl, ⟨by omega, by omega, by decide⟩, _, _, rfl, rfl, .inl ⟨by omega, by omega⟩, _, rfl, _, rfl, _, _, rfl, rfl, ⟨by omega, by omega, by decide⟩, _, _, rfl, rfl, .inl ⟨by omega, by omega⟩, _, rfl, _, _, rfl, rfl, wide_div (b := 34) hpn (by omega) (by decide) (by decide), _, rfl, _, _, rfl, rfl, .inr ⟨by omega, by omega⟩, _, _, rfl, rfl, ?_⟩
        dsimp only
        rw [Int.one_mul, Int.toNat_natCast]
        exact q1
end

section
variable {P : Program} {w : World} {K : PySem.W.Frag} {mg : Str → Option Value} {base : Heap}
def spDraw (K : PySem.W.Frag) : Sp := fun vs H Q _ => ∃ (a : Addr) (ns : List Int), vs = [.ref a] ∧ SqL K H a (ns.map V.int) ∧ ns.length ≤ 63 ∧ ∀ (H' : Hp) (p : Addr), Same H H' → H p = none → DrawAt H' p → Q (.ref p) H'
def absI (i : Int) : Int := if i < 0 then -i else i
theorem absI_nn (i : Int) : 0 ≤ absI i := by
  unfold absI
  split <;> omega
theorem ok_z_draw (T : Txt K mg) : FnOk P w K mg base CX0 1 T.f_z_draw T.d_z_draw ["script"] (spDraw K) := by
  refine T.F_z_draw.ok sc_z_draw (fun vs H Q E h => ?_) (fun cdv A outer s H vs Q E hr h => ?_)
  · obtain ⟨a, ns, rfl, _⟩ := h
    rfl
  · obtain ⟨a, ns, rfl, hS, hlen, q⟩ := h
    have itm : ∀ (i : Nat) (x : V), (ns.map V.int)[i]? = some x → ∃ z, ns[i]? = some z ∧ x = V.int z := fun i x e => by
      rw [List.getElem?_map] at e
      cases e2 : ns[i]? with
      | none => rw [e2] at e; cases e
      | some z => rw [e2] at e; exact ⟨z, rfl, (Option.some.inj e).symm⟩
    refine ⟨_, (pss_cons (ps_set (i := 1) sc_z_draw.nd rfl (Or.inl rfl) pe_int)
      (pss_cons (ps_for PassesOwn.never rfl (pi_list (pv 0)) (pg_name (i := 2) sc_z_draw.nd rfl (Or.inl rfl))
        (pss_one (ps_set (i := 1) sc_z_draw.nd rfl (Or.inl rfl) (pe_op op_modN (pe_callTy call_int1 (by rfl) T.m_int (by decide +kernel) (pa_cons (pe_op op_add (pe_op op_add (pe_op op_mul (pv 1) pe_int) (pe_op op_modN (pe_callB call_abs (by rfl) T.m_abs (by decide +kernel) (pa_cons (pe_callTy call_int1 (by rfl) T.m_int (by decide +kernel) (pa_cons (pv 2) pa_nil)) pa_nil)) pe_int)) pe_int) pa_nil)) pe_int))))
      (pss_one (ps_ret (pe_lst (pa_cons (pe_lc (own := [("cell", 2)]) (g := gName 2) (by rfl) sc_z_draw.nd (pi_list (pv 0)) (blkOk_by (own := [("cell", 2)]) (N := N_z_draw) (sc := defScope s_z_draw) (by decide +kernel)) (fun _ _ _ _ _ => (pg_name (i := 2) sc_z_draw.nd rfl (Or.inl rfl))) (fun _ _ _ _ _ => pts_nil) (fun _ _ _ _ _ => (pe_callB call_abs (by rfl) T.m_abs (by decide +kernel) (pa_cons (pe_callTy call_int1 (by rfl) T.m_int (by decide +kernel) (pa_cons (pv 2) pa_nil)) pa_nil)))) (pa_cons (pe_un un_neg pe_int) (pa_cons pe_int (pa_cons (pv 1) pa_nil))))))))), ?_⟩
    refine ⟨_, rfl, a, rfl, ⟨_, hS⟩, for_list (xs := ns.map V.int) (fun i σ H1 => ∃ (seed : Int) (c : Option V), σ = [some (.ref a), some (.int seed), c] ∧ H1 = H ∧ 0 ≤ seed ∧ seed < 2147483647) ⟨7, none, rfl, rfl, by decide, by decide⟩ ?_ ?_ ?_⟩
    · rintro i σ H1 _ ⟨_, _, _, rfl, _⟩
      exact hS
    · rintro i x σ H1 hx ⟨seed, c, rfl, rfl, s0, s1⟩
      obtain ⟨z, hz, rfl⟩ := itm i x hx
      refine ⟨_, rfl, _, _, rfl, rfl, .inl ⟨by omega, by omega⟩, _, rfl, .inl ⟨_, rfl, _, rfl, _, _, rfl, rfl, (show (65521 : Int) ≠ 0 by decide), _, _, rfl, rfl, _, _, rfl, rfl, .inl ⟨_, rfl, _, _, rfl, rfl, (show (2147483647 : Int) ≠ 0 by decide), ?_⟩⟩⟩
      exact ⟨_, _, rfl, rfl, fmod_lo (by decide), fmod_hi (by decide)⟩
    · rintro σ H1 ⟨seed, c, rfl, rfl, s0, s1⟩
      -- the cells
      refine ⟨_, rfl, a, rfl, ⟨_, hS⟩, fun D hD => lc_list (xs := ns.map V.int) (fun i H2 => ∃ acc : List Int, Same H1 H2 ∧ H2 D = some (.lst (acc.map V.int)) ∧ acc.length = i ∧ ∀ x ∈ acc, 0 ≤ x) ⟨[], same_upd hD, upd_same, rfl, fun _ z => nomatch z⟩ ?_ ?_ ?_⟩
      · rintro i H2 _ ⟨acc, sm, _⟩
        exact sm.seq hS
      · rintro i x H2 hx ⟨acc, sm, hA, hl, hn⟩
        obtain ⟨z, hz, rfl⟩ := itm i x hx
        have hi : i < ns.length := (List.getElem?_eq_some_iff.mp hz).1
        refine ⟨rfl, ⟨_, rfl, .inl ⟨_, rfl, _, rfl, _, hA, small1000 (by rw [List.length_map]; omega), acc ++ [absI z], fun b o e => ?_, ?_, ?_, fun x hx => ?_⟩⟩⟩
        · rw [upd_ne (ne_of_none e hD)]
          exact sm _ _ e
        · rw [upd_same, List.map_append]
          rfl
        · rw [List.length_append, hl]; rfl
        · rcases List.mem_append.mp hx with h | h
          · exact hn x h
          · rw [List.mem_singleton.mp h]
            exact absI_nn z
      · rintro H2 ⟨acc, sm, hA, hl, hn⟩
        refine ⟨_, rfl, _, rfl, (by show 4 ≤ sizeLine; decide), fun p hp => ?_⟩
        refine q _ p (sm.trans (same_upd hp)) (sm.free hp) ⟨D, acc, -1, 0, seed, ⟨upd_same, ?_, hn, by decide, by decide, s0, s1⟩⟩
        rw [upd_ne (ne_of_none hA hp)]
        exact hA
/-! ### the law -/
theorem dp_strs {K : PySem.W.Frag} {H : Hp} : ∀ xs : List Str, DpAll K H (xs.map V.str) (xs.map PyData.str)
  | [] => .nil
  | x :: r => .cons (.str x) (dp_strs r)
theorem opl_shaped : SeqAt.shaped (.list (OPL.map PyData.str)) = true := by decide +kernel
theorem opl_eqv : PyData.eqv (.list (OPL.map PyData.str)) (.list (OPL.map PyData.str)) = true := SeqAt.eqv_refl _ (SeqAt.canLay_of_shaped opl_shaped)
theorem atI_in {α : Type} {xs : List α} {r : Int} (h0 : 0 ≤ r) (h1 : r < xs.length) : ∃ v, atI xs r = some v ∧ v ∈ xs := by
  obtain ⟨n, rfl⟩ := int_nat h0
  have hn : n < xs.length := by omega
  exact ⟨xs[n], atI_nat (List.getElem?_eq_getElem hn), List.getElem_mem hn⟩
set_option maxHeartbeats 4000000 in
end

end My

set_option Elab.async false
set_option linter.all false
set_option maxRecDepth 100000
namespace My
open PySem PySem.Spec PyProof.Rows L2
local macro_rules | `(tactic| walk_at "asm") => `(tactic| (refine' of_eq_true (eq_true ?_); assumption))
local macro_rules | `(tactic| walk_at "go1") => `(tactic| first
  | (with_reducible rfl) | walk_at "asm" | (apply And.intro) | (apply Exists.intro)
  | (refine' ite_f (by decide +kernel) ?_) | (refine' ite_t (by decide +kernel) ?_) | (refine' ite_f (dstr_ne (by assumption)) ?_) | (refine' ite_t (dstr_eq (by assumption)) ?_)
  | (exact SqT.of upd_same) | (exact SqL.of upd_same) | (exact SqL.of (by assumption)) | (exact SqT.of (by assumption)) | (exact dget_s (by assumption) (by assumption)) | (exact dget_f (by assumption) (by assumption))
  | (exact Or.inl (by assumption)) | (exact Or.inr (by assumption)) | (exact Or.inl (SqL.of (by assumption))) | (exact Or.inr (SqT.of (by assumption))) | rfl)
local macro_rules | `(tactic| walk_at "go") => `(tactic| repeat' walk_at "go1")

section
variable {P : Program} {w : World} {K : PySem.W.Frag} {mg : Str → Option Value} {base : Heap}
theorem at_mod {α β : Type} {f : α → β} (xs : List α) [Inhabited α] (v : Int) {d : α} (h : 0 < xs.length) : atI (xs.map f) (v % (xs.length : Int)) = some (f (xs.getD (v % (xs.length : Int)).toNat d)) := by
  have m0 : 0 ≤ v % (xs.length : Int) := Int.emod_nonneg _ (by omega)
  have m1 : v % (xs.length : Int) < xs.length := Int.emod_lt_of_pos _ (by omega)
  obtain ⟨k, hk⟩ := int_nat m0
  rw [hk, Int.toNat_natCast]
  have hk2 : k < xs.length := by omega
  refine atI_nat ?_
  rw [List.getElem?_map, List.getElem?_eq_getElem hk2, List.getD_eq_getElem?_getD, List.getElem?_eq_getElem hk2]
  rfl
/-- the dict of words at lk -/
def LookV (K : PySem.W.Frag) (H : Hp) (lk : Addr) (nm : Nm) (en : Str → List Int) : Prop := ∃ kvs, H lk = some (.dK kvs) ∧ ∀ x s, nm.lookup x = some s →
  (s = 0 → valV kvs (.inr x) = some (.int ((en x).getD 0 0))) ∧ (0 < s → ∃ a, valV kvs (.inr x) = some (.ref a) ∧ SqL K H a ((en x).map V.int))
def spVal (K : PySem.W.Frag) (n : Nat) : Sp := fun vs H Q _ => ∃ (wd : Nat) (v : V) (lk : Addr) (e : Ex) (nm : Nm) (en : Str → List Int), vs = [.int wd, v, .ref lk] ∧ Rp K H v e.d ∧ EOk wd nm e ∧ EnOk wd nm en ∧ 1 ≤ wd ∧ wd ≤ 32 ∧ e.dep ≤ n ∧ LookV K H lk nm en ∧
  Q (.int (e.val wd en)) H
def spCix (K : PySem.W.Frag) (n : Nat) : Sp := fun vs H Q _ => ∃ (wd : Nat) (v : V) (lk : Addr) (x : Str) (e : Ex) (nm : Nm) (en : Str → List Int), vs = [.int wd, v, .ref lk] ∧ Rp K H v (Ex.cell x e).d ∧ EOk wd nm (.cell x e) ∧ EnOk wd nm en ∧ 1 ≤ wd ∧ wd ≤ 32 ∧ e.dep ≤ n ∧ LookV K H lk nm en ∧
  Q (.int (e.val wd en % (en x).length)) H
theorem ok_cell_index (T : Txt K mg) (n : Nat) (G_value_of : FnOk P w K mg base CX0 (2 * n + 4) T.f_value_of T.d_value_of ["w", "e", "look"] (spVal K n)) : FnOk P w K mg base CX0 (2 * n + 5) T.f_cell_index T.d_cell_index ["w", "e", "look"] (spCix K n) := by
  refine T.F_cell_index.ok sc_cell_index (fun vs H Q E h => ?_) (fun cdv A outer s H vs Q E hr h => ?_)
  · obtain ⟨wd, v, lk, x, e, nm, en, rfl, _⟩ := h
    rfl
  · obtain ⟨wd, v, lk, x, e, nm, en, rfl, hv, he, hen, w1, w2, hd, hl, q⟩ := h
    obtain ⟨a, u, rfl, hs, hu⟩ := rp_cell hv
    obtain ⟨⟨sz, hsz, s0⟩, hei⟩ := _root_.id he
    obtain ⟨kvs, hk, hx⟩ := _root_.id hl
    obtain ⟨l, hx2, hls⟩ := (hx x sz hsz).2 s0
    have len := (hen x sz hsz).2.2 s0
    refine ⟨_, (pss_one (ps_ret (pe_op op_modN (pe_call G_value_of (hr.mono (by omega)) (by rfl) T.g_value_of T.F_value_of.kp T.b_value_of .nil pass0 (pa_cons (pv 0) (pa_cons (pe_ix ix_tup (pv 1) pe_int (fun _ _ => rfl)) (pa_cons (pv 2) pa_nil)))) (pe_callB call_len_seq (by rfl) T.m_len (by decide +kernel) (pa_cons (pe_dget (hu_of hr) (pv 2) (pe_ix ix_tup (pv 1) pe_int (fun _ _ => rfl)) (fun _ _ => rfl)) pa_nil))))), ?_⟩
    walk_at "go"
    · show ((en x).map V.int).length ≠ (0 : Int)
      rw [List.length_map]
      omega
    · show Q (.int ((e.val wd en).fmod (((en x).map V.int).length : Nat))) H
      rw [List.length_map, fmod_e (by omega)]
      exact q
theorem ok_value_of (T : Txt K mg) : ∀ n, FnOk P w K mg base CX0 (2 * n + 4) T.f_value_of T.d_value_of ["w", "e", "look"] (spVal K n) := by
  intro n
  induction n with
  | zero => exact T.F_value_of.ok sc_value_of (fun vs H Q E ⟨wd, v, lk, e, nm, en, h, _⟩ => by rw [h]; rfl) (fun cdv A outer s H vs Q E hr ⟨wd, v, lk, e, nm, en, _, _, _, _, _, _, h, _⟩ => absurd (Ex.dep_pos e) (by omega))
  | succ n G_value_of =>
    have G_cell_index := ok_cell_index T n G_value_of
    have G_compute := ok_compute (P := P) (w := w) (base := base) T
    refine T.F_value_of.ok sc_value_of (fun vs H Q E h => ?_) (fun cdv A outer s H vs Q E hr h => ?_)
    · obtain ⟨wd, v, lk, e, nm, en, rfl, _⟩ := h
      rfl
    · obtain ⟨wd, v, lk, e, nm, en, rfl, hv, he, hen, w1, w2, hd, hl, q⟩ := h
      have hr : Room (2 * n + 5) _ := hr
      refine ⟨_, (pss_cons (ps_set (i := 3) sc_value_of.nd rfl (Or.inl rfl) (pe_ix ix_tup (pv 1) pe_int (fun _ _ => rfl)))
      (pss_cons (ps_if (pt_cmpR op_eq (pv 3) pe_str (nomark _))
        (pss_one (ps_ret (pe_ix ix_tup (pv 1) pe_int (fun _ _ => rfl))))
        pss_nil)
      (pss_cons (ps_if (pt_cmpR op_eq (pv 3) pe_str (nomark _))
        (pss_one (ps_ret (pe_dget (hu_of hr) (pv 2) (pe_ix ix_tup (pv 1) pe_int (fun _ _ => rfl)) (fun _ _ => rfl))))
        pss_nil)
      (pss_cons (ps_if (pt_cmpR op_eq (pv 3) pe_str (nomark _))
        (pss_one (ps_ret (pe_ix ix_list (pe_dget (hu_of hr) (pv 2) (pe_ix ix_tup (pv 1) pe_int (fun _ _ => rfl)) (fun _ _ => rfl)) (pe_call G_cell_index (hr.mono (by omega)) (by rfl) T.g_cell_index T.F_cell_index.kp T.b_cell_index .nil pass0 (pa_cons (pv 0) (pa_cons (pv 1) (pa_cons (pv 2) pa_nil)))) (fun _ _ => rfl))))
        pss_nil)
      (pss_cons (ps_if (pt_cmpR op_eq (pv 3) pe_str (nomark _))
        (pss_one (ps_ret (pe_ifExp (pt_cmpR op_eq (pe_call G_value_of (hr.mono (by omega)) (by rfl) T.g_value_of T.F_value_of.kp T.b_value_of .nil pass0 (pa_cons (pv 0) (pa_cons (pe_ix ix_tup (pv 1) pe_int (fun _ _ => rfl)) (pa_cons (pv 2) pa_nil)))) pe_int (nomark _)) pe_int pe_int)))
        pss_nil)
      (pss_one (ps_ret (pe_call G_compute (hr.mono (by omega)) (by rfl) T.g_compute T.F_compute.kp T.b_compute .nil pass0 (pa_cons (pv 3) (pa_cons (pv 0) (pa_cons (pe_call G_value_of (hr.mono (by omega)) (by rfl) T.g_value_of T.F_value_of.kp T.b_value_of .nil pass0 (pa_cons (pv 0) (pa_cons (pe_ix ix_tup (pv 1) pe_int (fun _ _ => rfl)) (pa_cons (pv 2) pa_nil)))) (pa_cons (pe_call G_value_of (hr.mono (by omega)) (by rfl) T.g_value_of T.F_value_of.kp T.b_value_of .nil pass0 (pa_cons (pv 0) (pa_cons (pe_ix ix_tup (pv 1) pe_int (fun _ _ => rfl)) (pa_cons (pv 2) pa_nil)))) pa_nil)))))))))))), ?_⟩
      cases e with
      | int i =>
        obtain ⟨a, rfl, hs⟩ := rp_int hv
        walk_at "go"
      | var x =>
        obtain ⟨a, rfl, hs⟩ := rp_var hv
        obtain ⟨kvs, hk, hx⟩ := _root_.id hl
        have hx2 := (hx x 0 he).1 rfl
        walk_at "go"
      | cell x i =>
        obtain ⟨a, u, rfl, hs, hu⟩ := rp_cell hv
        obtain ⟨⟨sz, hsz, s0⟩, hei⟩ := _root_.id he
        obtain ⟨kvs, hk, hx⟩ := _root_.id hl
        obtain ⟨l, hx2, hls⟩ := (hx x sz hsz).2 s0
        have len := (hen x sz hsz).2.2 s0
        have hd2 : i.dep ≤ n := Nat.le_of_succ_le_succ hd
        have at_ := at_mod (f := V.int) (d := 0) (en x) (i.val wd en) (by omega)
        walk_at "go"
      | not i =>
        obtain ⟨a, u, rfl, hs, hu⟩ := rp_not hv
        have hd2 : i.dep ≤ n := Nat.le_of_succ_le_succ hd
        have he2 : EOk wd nm i := he
        have q : Q (.int (if i.val wd en = 0 then 1 else 0)) H := q
        walk_at "go"
        refine ite2 (fun e => ?_) (fun e => ?_)
        · rw [if_pos (int_eq e)] at q
          exact q
        · rw [if_neg (int_ne e)] at q
          exact q
      | op o x y =>
        obtain ⟨a, u, t, rfl, hs, hu, ht⟩ := rp_op hv
        obtain ⟨ho, hx, hy⟩ := _root_.id he
        obtain ⟨o1, o2, o3, o4⟩ := opl_ne ho
        have hd2 : x.dep ≤ n := by have : max x.dep y.dep + 1 ≤ n + 1 := hd; omega
        have hd3 : y.dep ≤ n := by have : max x.dep y.dep + 1 ≤ n + 1 := hd; omega
        have ⟨x0, x1⟩ := val_in w1 hen hx
        have ⟨y0, y1⟩ := val_in w1 hen hy
        walk_at "go"
end
end My

set_option Elab.async false
set_option linter.all false
set_option maxRecDepth 100000
set_option maxHeartbeats 4000000
namespace My
open PySem PySem.Spec PyProof.Rows L2
local macro_rules | `(tactic| walk_at "asm") => `(tactic| (refine' of_eq_true (eq_true ?_); assumption))
local macro_rules | `(tactic| walk_at "go1") => `(tactic| first
  | (with_reducible rfl) | walk_at "asm" | (apply And.intro) | (apply Exists.intro)
  | (refine' ite_f (by decide +kernel) ?_) | (refine' ite_t (by decide +kernel) ?_) | (refine' ite_f (dstr_ne (by assumption)) ?_) | (refine' ite_t (dstr_eq (by assumption)) ?_)
  | (exact SqT.of upd_same) | (exact SqL.of upd_same) | (exact SqL.of (by assumption)) | (exact SqT.of (by assumption)) | (exact dget_s (by assumption) (by assumption)) | (exact dget_f (by assumption) (by assumption))
  | (exact Or.inl (by assumption)) | (exact Or.inr (by assumption)) | (exact Or.inl (SqL.of (by assumption))) | (exact Or.inr (SqT.of (by assumption))) | rfl)
local macro_rules | `(tactic| walk_at "go") => `(tactic| repeat' walk_at "go1")

section
variable {P : Program} {w : World} {K : PySem.W.Frag} {mg : Str → Option Value} {base : Heap}
/-- the dict of the names' lists at lk -/
def LookF (K : PySem.W.Frag) (H : Hp) (lk : Addr) (nm : Nm) (en : Str → List Int) : Prop := ∃ kvs, H lk = some (.dK kvs) ∧ ∀ x s, nm.lookup x = some s → ∃ a, valV kvs (.inr x) = some (.ref a) ∧ SqL K H a ((en x).map V.int)
def spLv (K : PySem.W.Frag) (n : Nat) : Sp := fun vs H Q _ => ∃ (wd : Nat) (v : V) (lk : Addr) (e : Ex) (nm : Nm) (en : Str → List Int), vs = [.int wd, v, .ref lk] ∧ Rp K H v e.d ∧ EOk wd nm e ∧ EnOk wd nm en ∧ 1 ≤ wd ∧ wd ≤ 32 ∧ e.dep ≤ n ∧ LookF K H lk nm en ∧
  ∀ H', Same H H' → Q (.int (e.val wd en)) H'
theorem opl_OPL {o : Str} (h : o ∈ opl) : o ∈ OPL := h
theorem LookF.keep {H H' : Hp} {lk : Addr} {nm : Nm} {en : Str → List Int} (h : LookF K H lk nm en) (k : Same H H') : LookF K H' lk nm en := by
  obtain ⟨kvs, e, h⟩ := h
  exact ⟨kvs, k _ _ e, fun x s q => let ⟨a, h1, h2⟩ := h x s q; ⟨a, h1, k.seq h2⟩⟩
theorem ok_z_value (T : Txt K mg) : ∀ n, FnOk P w K mg base CX0 (n + 2) T.f_z_value T.d_z_value ["w", "e", "frame"] (spLv K n) := by
  intro n
  induction n with
  | zero => exact T.F_z_value.ok sc_z_value (fun vs H Q E ⟨wd, v, lk, e, nm, en, h, _⟩ => by rw [h]; rfl) (fun cdv A outer s H vs Q E hr ⟨wd, v, lk, e, nm, en, _, _, _, _, _, _, h, _⟩ => absurd (Ex.dep_pos e) (by omega))
  | succ n G_z_value =>
    have G_z_compute := ok_z_compute (P := P) (w := w) (base := base) T
    refine T.F_z_value.ok sc_z_value (fun vs H Q E h => ?_) (fun cdv A outer s H vs Q E hr h => ?_)
    · obtain ⟨wd, v, lk, e, nm, en, rfl, _⟩ := h
      rfl
    · obtain ⟨wd, v, lk, e, nm, en, rfl, hv, he, hen, w1, w2, hd, hl, q⟩ := h
      have hr : Room (n + 2) _ := hr
      refine ⟨_, (pss_cons (ps_set (i := 3) sc_z_value.nd rfl (Or.inl rfl) (pe_ix ix_tup (pv 1) pe_int (fun _ _ => rfl)))
      (pss_cons (ps_if (pt_cmpR op_eq (pv 3) pe_str (nomark _))
        (pss_one (ps_ret (pe_ix ix_tup (pv 1) pe_int (fun _ _ => rfl))))
        pss_nil)
      (pss_cons (ps_if (pt_cmpR op_eq (pv 3) pe_str (nomark _))
        (pss_one (ps_ret (pe_ix ix_list (pe_dget (hu_of hr) (pv 2) (pe_ix ix_tup (pv 1) pe_int (fun _ _ => rfl)) (fun _ _ => rfl)) pe_int (fun _ _ => rfl))))
        pss_nil)
      (pss_cons (ps_if (pt_cmpR op_eq (pv 3) pe_str (nomark _))
        (pss_cons (ps_set (i := 4) sc_z_value.nd rfl (Or.inl rfl) (pe_dget (hu_of hr) (pv 2) (pe_ix ix_tup (pv 1) pe_int (fun _ _ => rfl)) (fun _ _ => rfl)))
        (pss_one (ps_ret (pe_ix ix_list (pv 4) (pe_op op_modN (pe_call G_z_value (hr.mono (by omega)) (by rfl) T.g_z_value T.F_z_value.kp T.b_z_value .nil pass0 (pa_cons (pv 0) (pa_cons (pe_ix ix_tup (pv 1) pe_int (fun _ _ => rfl)) (pa_cons (pv 2) pa_nil)))) (pe_callB call_len_seq (by rfl) T.m_len (by decide +kernel) (pa_cons (pv 4) pa_nil))) (fun _ _ => rfl)))))
        pss_nil)
      (pss_cons (ps_if (pt_cmpR op_eq (pv 3) pe_str (nomark _))
        (pss_one (ps_ret (pe_ifExp (pt_cmpR op_eq (pe_call G_z_value (hr.mono (by omega)) (by rfl) T.g_z_value T.F_z_value.kp T.b_z_value .nil pass0 (pa_cons (pv 0) (pa_cons (pe_ix ix_tup (pv 1) pe_int (fun _ _ => rfl)) (pa_cons (pv 2) pa_nil)))) pe_int (nomark _)) pe_int pe_int)))
        pss_nil)
      (pss_one (ps_ret (pe_call G_z_compute (hr.mono (by omega)) (by rfl) T.g_z_compute T.F_z_compute.kp T.b_z_compute .nil pass0 (pa_cons (pv 3) (pa_cons (pv 0) (pa_cons (pe_call G_z_value (hr.mono (by omega)) (by rfl) T.g_z_value T.F_z_value.kp T.b_z_value .nil pass0 (pa_cons (pv 0) (pa_cons (pe_ix ix_tup (pv 1) pe_int (fun _ _ => rfl)) (pa_cons (pv 2) pa_nil)))) (pa_cons (pe_call G_z_value (hr.mono (by omega)) (by rfl) T.g_z_value T.F_z_value.kp T.b_z_value .nil pass0 (pa_cons (pv 0) (pa_cons (pe_ix ix_tup (pv 1) pe_int (fun _ _ => rfl)) (pa_cons (pv 2) pa_nil)))) pa_nil)))))))))))), ?_⟩
      cases e with
      | int i =>
        obtain ⟨a, rfl, hs⟩ := rp_int hv
        have q := q H (.refl H)
        walk_at "go"
      | var x =>
        obtain ⟨a, rfl, hs⟩ := rp_var hv
        obtain ⟨kvs, hk, hx⟩ := _root_.id hl
        obtain ⟨l, hx2, hls⟩ := hx x 0 he
        have len := (hen x 0 he).2.1 rfl
        have at_ : atI ((en x).map V.int) 0 = some (.int ((en x).getD 0 0)) := by
          refine atI_nat (j := 0) ?_
          rw [List.getElem?_map, List.getElem?_eq_getElem (by omega), List.getD_eq_getElem?_getD, List.getElem?_eq_getElem (by omega)]
          rfl
        have q := q H (.refl H)
        walk_at "go"
      | cell x i =>
        obtain ⟨a, u, rfl, hs, hu⟩ := rp_cell hv
        obtain ⟨⟨sz, hsz, s0⟩, hei⟩ := _root_.id he
        obtain ⟨kvs, hk, hx⟩ := _root_.id hl
        obtain ⟨l, hx2, hls⟩ := hx x sz hsz
        have len := (hen x sz hsz).2.2 s0
        have hd2 : i.dep ≤ n := Nat.le_of_succ_le_succ hd
        have at_ := at_mod (f := V.int) (d := 0) (en x) (i.val wd en) (by omega)
        walk_at "go"
        intro H1 k1
        have hls1 := k1.seq hls
        walk_at "go"
        · show ((en x).map V.int).length ≠ (0 : Int)
          rw [List.length_map]
          omega
        · show atI ((en x).map V.int) ((i.val wd en).fmod (((en x).map V.int).length : Nat)) = some (.int ((Ex.cell x i).val wd en))
          rw [List.length_map, fmod_e (by omega)]
          exact at_
        · exact q H1 k1
      | not i =>
        obtain ⟨a, u, rfl, hs, hu⟩ := rp_not hv
        have hd2 : i.dep ≤ n := Nat.le_of_succ_le_succ hd
        have he2 : EOk wd nm i := he
        walk_at "go"
        intro H1 k1
        have q1 : Q (.int (if i.val wd en = 0 then 1 else 0)) H1 := q H1 k1
        walk_at "go"
        refine ite2 (fun e => ?_) (fun e => ?_)
        · rw [if_pos (int_eq e)] at q1
          exact q1
        · rw [if_neg (int_ne e)] at q1
          exact q1
      | op o x y =>
        obtain ⟨a, u, t, rfl, hs, hu, ht⟩ := rp_op hv
        obtain ⟨ho, hx, hy⟩ := _root_.id he
        obtain ⟨o1, o2, o3, o4⟩ := opl_ne ho
        have hd2 : x.dep ≤ n := by have : max x.dep y.dep + 1 ≤ n + 1 := hd; omega
        have hd3 : y.dep ≤ n := by have : max x.dep y.dep + 1 ≤ n + 1 := hd; omega
        have ⟨x0, x1⟩ := val_in w1 hen hx
        have ⟨y0, y1⟩ := val_in w1 hen hy
        have ho2 := opl_OPL ho
        walk_at "go"
        intro H1 k1
        have hs1 := (KT.of_same (S := []) k1).sqT hs
        have ht1 := ht.keep (KT.of_same (S := []) k1)
        have hl1 := hl.keep k1
        walk_at "go"
        intro H2 k2
        walk_at "go"
        intro H3 k3
        exact q H3 ((k1.trans k2).trans k3)
end
end My

set_option Elab.async false
set_option linter.all false
set_option maxRecDepth 100000
set_option maxHeartbeats 4000000
namespace My
open PySem PySem.Spec PyProof.Rows L2
local macro_rules | `(tactic| walk_at "asm") => `(tactic| (refine' of_eq_true (eq_true ?_); assumption))
local macro_rules | `(tactic| walk_at "go1") => `(tactic| first
  | (with_reducible rfl) | walk_at "asm" | (apply And.intro) | (apply Exists.intro)
  | (refine' ite_f (by decide +kernel) ?_) | (refine' ite_t (by decide +kernel) ?_) | (refine' ite_f (dstr_ne (by assumption)) ?_) | (refine' ite_t (dstr_eq (by assumption)) ?_)
  | (exact SqT.of upd_same) | (exact SqL.of upd_same) | (exact SqL.of (by assumption)) | (exact SqT.of (by assumption)) | (exact dget_s (by assumption) (by assumption)) | (exact dget_f (by assumption) (by assumption))
  | (exact Or.inl (by assumption)) | (exact Or.inr (by assumption)) | (exact Or.inl (SqL.of (by assumption))) | (exact Or.inr (SqT.of (by assumption))) | rfl)
local macro_rules | `(tactic| walk_at "go") => `(tactic| repeat' walk_at "go1")

section
variable {P : Program} {w : World} {K : PySem.W.Frag} {mg : Str → Option Value} {base : Heap}
theorem drawAt_isl {H : Hp} {p : Addr} (D : DrawAt H p) : ∃ xs, H p = some (.lst xs) := by
  obtain ⟨c, cells, pos, rest, seed, d⟩ := D
  exact ⟨_, d.hp⟩
theorem KT.of_but {H H' : Hp} {p : Addr} (D : DrawAt H p) (D' : DrawAt H' p) (k : KeepBut p H H') (cs : Cs p H H') : KT [p] H H' := by
  obtain ⟨xs, e⟩ := (drawAt_isl D)
  obtain ⟨ys, e'⟩ := (drawAt_isl D')
  have ne : ∀ b o, H b = some o → (∀ q, o ≠ .lst q) → b ≠ p := fun b o q n z => by rw [z, e] at q; exact n xs (Option.some.inj q).symm
  refine ⟨fun b o n q => k b o (fun z => n (by rw [z]; exact List.mem_singleton.mpr rfl)) q, fun b xs q => k b _ (ne b _ q fun _ z => by cases z) q, fun b o u q => k b _ (ne b _ q fun _ z => by cases z) q, fun b o q => ?_, fun b c t q => ?_⟩
  rotate_left
  · by_cases z : b = p
    · subst z
      exact cs c t q
    · exact ⟨t, k b _ z q⟩
  by_cases z : b = p
  · exact ⟨_, by rw [z]; exact e'⟩
  · exact ⟨o, k b o z q⟩
/-- the draw is led on: all else stays -/
structure GS (dr : Addr) (H H' : Hp) : Prop where
  k : KT [dr] H H'
  d : DrawAt H' dr
  c : Cs dr H H'
theorem GS.trans {dr : Addr} {H H1 H2 : Hp} (a : GS dr H H1) (b : GS dr H1 H2) : GS dr H H2 := ⟨a.k.trans b.k, b.d, a.c.trans b.c⟩
theorem GS.new {dr p : Addr} {H : Hp} {o : HO} (D : DrawAt H dr) (h : H p = none) : GS dr H (upd H p o) := ⟨KT.new _ h, D.upd h, .new h⟩
theorem GS.refl {dr : Addr} {H : Hp} (D : DrawAt H dr) : GS dr H H := ⟨KT.refl _ _, D, .refl _ _⟩
theorem sz1 : (1 : Nat) ≤ sizeLine := by decide
theorem sz2 : (2 : Nat) ≤ sizeLine := by decide
theorem sz3 : (3 : Nat) ≤ sizeLine := by decide
theorem sz4 : (4 : Nat) ≤ sizeLine := by decide
theorem sz5 : (5 : Nat) ≤ sizeLine := by decide
theorem atI_map {α β : Type} {f : α → β} {xs : List α} {i : Int} {y : α} (h : atI xs i = some y) : atI (xs.map f) i = some (f y) := by
  unfold atI at h ⊢
  rw [List.length_map]
  cases e : ixN xs.length i with
  | none => rw [e] at h; cases h
  | some j =>
    rw [e] at h
    have h : xs[j]? = some y := h
    show (xs.map f)[j]? = some (f y)
    rw [List.getElem?_map, h]
    rfl
def spTakeG : Sp := fun vs H Q _ => ∃ (p : Addr) (m : Int), vs = [.ref p, .int m] ∧ DrawAt H p ∧ 0 < m ∧ m ≤ 2 ^ 40 ∧ ∀ (r : Int) (H' : Hp), 0 ≤ r → r < m → GS p H H' → Q (.int r) H'
theorem okG_z_take (T : Txt K mg) : FnOk P w K mg base CX0 1 T.f_z_take T.d_z_take ["draw", "many"] spTakeG :=
  (ok_z_take T).imp fun vs H Q E ⟨p, m, h1, h2, h3, h4, h5⟩ => ⟨p, m, h1, h2, h3, h4, fun r H' r0 r1 k c D => h5 r H' r0 r1 ⟨KT.of_but h2 D k c, D, c⟩⟩
def spWordG : Sp := fun vs H Q _ => ∃ (p : Addr) (n : Nat), vs = [.ref p, .int n] ∧ DrawAt H p ∧ 1 ≤ n ∧ n ≤ 32 ∧ ∀ (r : Int) (H' : Hp), 0 ≤ r → r < 2 ^ n → GS p H H' → Q (.int r) H'
theorem okG_z_word (T : Txt K mg) : FnOk P w K mg base CX0 2 T.f_z_word T.d_z_word ["draw", "w"] spWordG :=
  (ok_z_word T).imp fun vs H Q E ⟨p, m, h1, h2, h3, h4, h5⟩ => ⟨p, m, h1, h2, h3, h4, fun r H' r0 r1 k c D => h5 r H' r0 r1 ⟨KT.of_but h2 D k c, D, c⟩⟩
/-- a dict of names and sizes -/
structure NmAt (H : Hp) (nd : Addr) (nm : Nm) : Prop where
  h : H nd = some (.dK (nmK nm))
  nd : (nm.map (·.1)).Nodup
  z : nm.length ≤ 1000
  s : ∀ p ∈ nm, 0 ≤ p.2
  l : ∀ p ∈ nm, (PyData.str p.1).canLay0 = true
/-- the dict p: the draw, the width, and what else it may hold -/
structure PdAt (H : Hp) (pd dr : Addr) (wd : Nat) : Prop where
  h : ∃ kvs, H pd = some (.dK kvs) ∧ valV kvs (.inr "draw") = some (.ref dr) ∧ valV kvs (.inr "width") = some (.int wd)
  w1 : 1 ≤ wd
  w2 : wd ≤ 32
  d : DrawAt H dr
theorem PdAt.ne {H : Hp} {pd dr : Addr} {wd : Nat} (h : PdAt H pd dr wd) : pd ∉ [dr] := by
  obtain ⟨kvs, e, _⟩ := h.h
  obtain ⟨xs, e'⟩ := (drawAt_isl h.d)
  intro z
  rw [List.mem_singleton.mp z, e'] at e
  cases e
theorem PdAt.keep {H H' : Hp} {pd dr : Addr} {wd : Nat} (h : PdAt H pd dr wd) (k : GS dr H H') : PdAt H' pd dr wd := by
  obtain ⟨kvs, e, e1, e2⟩ := h.h
  exact ⟨⟨kvs, k.k.kp _ _ h.ne e, e1, e2⟩, h.w1, h.w2, k.d⟩
theorem NmAt.ne {H : Hp} {nd dr : Addr} {nm : Nm} (h : NmAt H nd nm) (D : DrawAt H dr) : nd ∉ [dr] := by
  obtain ⟨xs, e'⟩ := (drawAt_isl D)
  have e := h.h
  intro z
  rw [List.mem_singleton.mp z, e'] at e
  cases e
theorem NmAt.keep {H H' : Hp} {nd dr : Addr} {nm : Nm} (h : NmAt H nd nm) (D : DrawAt H dr) (k : GS dr H H') : NmAt H' nd nm := ⟨k.k.kp _ _ (h.ne D) h.h, h.nd, h.z, h.s, h.l⟩
/-- a drawn expression over the names -/
def spExp (K : PySem.W.Frag) (n : Nat) : Sp := fun vs H Q _ => ∃ (pd nd dr : Addr) (d wd : Nat) (nm : Nm), vs = [.ref pd, .ref nd, .int d] ∧ d < n ∧ PdAt H pd dr wd ∧ NmAt H nd nm ∧
  ∀ (v : V) (e : Ex) (H' : Hp), GS dr H H' → Rp K H' v e.d → EOk wd nm e → e.dep ≤ d + 1 → Q v H'
theorem ok_z_expression (T : Txt K mg) : ∀ n, FnOk P w K mg base CX0 (n + 3) T.f_z_expression T.d_z_expression ["p", "names", "depth"] (spExp K n) := by
  intro n
  induction n with
  | zero => exact T.F_z_expression.ok sc_z_expression (fun vs H Q E ⟨pd, nd, dr, d, wd, nm, h, _⟩ => by rw [h]; rfl) (fun cdv A outer s H vs Q E hr ⟨pd, nd, dr, d, wd, nm, _, h, _⟩ => absurd h (Nat.not_lt_zero _))
  | succ n G_z_expression =>
    have G_z_take := okG_z_take (P := P) (w := w) (base := base) T
    have G_z_word := okG_z_word (P := P) (w := w) (base := base) T
    refine T.F_z_expression.ok sc_z_expression (fun vs H Q E h => ?_) (fun cdv A outer s H vs Q E hr h => ?_)
    · obtain ⟨pd, nd, dr, d, wd, nm, rfl, _⟩ := h
      rfl
    · obtain ⟨pd, nd, dr, d, wd, nm, rfl, hd, hp, hn, q⟩ := h
      have hr : Room (n + 3) _ := hr
      obtain ⟨kvs, hpd, hdr, hwd⟩ := hp.h
      refine ⟨_, (pss_cons (ps_set (i := 3) sc_z_expression.nd rfl (Or.inl rfl) (pe_dget (hu_of hr) (pv 0) pe_str (fun _ _ => rfl)))
      (pss_cons (ps_lock (ps_setLc (i := 4) (own := [("name", 9)]) (g := gName 9) rfl sc_z_expression.nd rfl rfl (sw_true rfl rfl rfl (by decide +kernel)) (pi_keys (pv 1)) (blkOk_by (own := [("name", 9)]) (N := N_z_expression) (sc := defScope s_z_expression) (by decide +kernel)) (fun _ _ _ _ _ => (pg_name (i := 9) sc_z_expression.nd rfl (Or.inl rfl))) (fun _ _ _ _ _ => (pts_one (pt_cmpR op_eq (pe_dget (hu_of hr) (pv 1) (pv 9) (fun _ _ => rfl)) pe_int (nomark _)))) (fun _ _ _ _ _ => (pv 9))))
      (pss_cons (ps_lock (ps_setLc (i := 5) (own := [("name", 9)]) (g := gName 9) rfl sc_z_expression.nd rfl rfl (sw_true rfl rfl rfl (by decide +kernel)) (pi_keys (pv 1)) (blkOk_by (own := [("name", 9)]) (N := N_z_expression) (sc := defScope s_z_expression) (by decide +kernel)) (fun _ _ _ _ _ => (pg_name (i := 9) sc_z_expression.nd rfl (Or.inl rfl))) (fun _ _ _ _ _ => (pts_one (pt_cmpR op_gt (pe_dget (hu_of hr) (pv 1) (pv 9) (fun _ _ => rfl)) pe_int (nomark _)))) (fun _ _ _ _ _ => (pv 9))))
      (pss_cons (ps_set (i := 6) sc_z_expression.nd rfl (Or.inl rfl) (pe_call G_z_take (hr.mono (by omega)) (by rfl) T.g_z_take T.F_z_take.kp T.b_z_take .nil pass0 (pa_cons (pv 3) (pa_cons pe_int pa_nil))))
      (pss_cons (ps_if (pt_cut (PW.pt (pw_or (pt_cmpR op_eq (pv 2) pe_int (nomark _)) (pw_or1 (pt_cmpR op_lt (pv 6) pe_int (nomark _))))))
        (pss_cons (ps_if (pt_cut (PW.pt (pw_or (pt_cmpR (op_eqD hr.units) (pv 4) (pe_lst pa_nil) (nomark _)) (pw_or1 (pt_cmpR op_eq (pe_call G_z_take (hr.mono (by omega)) (by rfl) T.g_z_take T.F_z_take.kp T.b_z_take .nil pass0 (pa_cons (pv 3) (pa_cons pe_int pa_nil))) pe_int (nomark _))))))
          (pss_one (ps_ret (pe_tup (pa_cons pe_str (pa_cons (pe_call G_z_word (hr.mono (by omega)) (by rfl) T.g_z_word T.F_z_word.kp T.b_z_word .nil pass0 (pa_cons (pv 3) (pa_cons (pe_dget (hu_of hr) (pv 0) pe_str (fun _ _ => rfl)) pa_nil))) pa_nil)))))
          pss_nil)
        (pss_one (ps_ret (pe_tup (pa_cons pe_str (pa_cons (pe_ix ix_list (pv 4) (pe_call G_z_take (hr.mono (by omega)) (by rfl) T.g_z_take T.F_z_take.kp T.b_z_take .nil pass0 (pa_cons (pv 3) (pa_cons (pe_callB call_len_seq (by rfl) T.m_len (by decide +kernel) (pa_cons (pv 4) pa_nil)) pa_nil))) (fun _ _ => rfl)) pa_nil))))))
        pss_nil)
      (pss_cons (ps_if (pt_cut (PW.pt (pw_and (pt_cmpR op_eq (pv 6) pe_int (nomark _)) (pw_and1 (pt_cmpR (op_neD hr.units) (pv 5) (pe_lst pa_nil) (nomark _))))))
        (pss_one (ps_ret (pe_tup (pa_cons pe_str (pa_cons (pe_ix ix_list (pv 5) (pe_call G_z_take (hr.mono (by omega)) (by rfl) T.g_z_take T.F_z_take.kp T.b_z_take .nil pass0 (pa_cons (pv 3) (pa_cons (pe_callB call_len_seq (by rfl) T.m_len (by decide +kernel) (pa_cons (pv 5) pa_nil)) pa_nil))) (fun _ _ => rfl)) (pa_cons (pe_call G_z_expression (hr.mono (by omega)) (by rfl) T.g_z_expression T.F_z_expression.kp T.b_z_expression .nil pass0 (pa_cons (pv 0) (pa_cons (pv 1) (pa_cons (pe_op op_sub (pv 2) pe_int) pa_nil)))) pa_nil))))))
        pss_nil)
      (pss_cons (ps_if (pt_cmpR op_eq (pv 6) pe_int (nomark _))
        (pss_one (ps_ret (pe_tup (pa_cons pe_str (pa_cons (pe_call G_z_expression (hr.mono (by omega)) (by rfl) T.g_z_expression T.F_z_expression.kp T.b_z_expression .nil pass0 (pa_cons (pv 0) (pa_cons (pv 1) (pa_cons (pe_op op_sub (pv 2) pe_int) pa_nil)))) pa_nil)))))
        pss_nil)
      (pss_cons (ps_set (i := 7) sc_z_expression.nd rfl (Or.inl rfl) (pe_lst (pa_cons pe_str (pa_cons pe_str (pa_cons pe_str (pa_cons pe_str (pa_cons pe_str (pa_cons pe_str (pa_cons pe_str (pa_cons pe_str (pa_cons pe_str (pa_cons pe_str pa_nil))))))))))))
      (pss_cons (ps_set (i := 8) sc_z_expression.nd rfl (Or.inl rfl) (pe_ix ix_list (pv 7) (pe_call G_z_take (hr.mono (by omega)) (by rfl) T.g_z_take T.F_z_take.kp T.b_z_take .nil pass0 (pa_cons (pv 3) (pa_cons pe_int pa_nil))) (fun _ _ => rfl)))
      (pss_one (ps_ret (pe_tup (pa_cons (pv 8) (pa_cons (pe_call G_z_expression (hr.mono (by omega)) (by rfl) T.g_z_expression T.F_z_expression.kp T.b_z_expression .nil pass0 (pa_cons (pv 0) (pa_cons (pv 1) (pa_cons (pe_op op_sub (pv 2) pe_int) pa_nil)))) (pa_cons (pe_call G_z_expression (hr.mono (by omega)) (by rfl) T.g_z_expression T.F_z_expression.kp T.b_z_expression .nil pass0 (pa_cons (pv 0) (pa_cons (pv 1) (pa_cons (pe_op op_sub (pv 2) pe_int) pa_nil)))) pa_nil))))))))))))))), ?_⟩
      refine ⟨_, rfl, _, _, rfl, dget_s hpd hdr, ?_⟩
      refine names_comp (fun s => decide (V.int s = V.int 0)) rfl hn.h hn.z rfl (fun od H1 x s hm h1 Q q => ?_) (fun l1 nl1 => ?_)
      · have hv : valV (nmK nm) (.inr x) = some (.int s) := by rw [valV_nm, lookup_mem hn.nd hm]; rfl
        walk_at "go"
      refine names_comp (fun s => decide (0 < s)) rfl (KT.new [] nl1 |>.kp _ _ (by simp) hn.h) hn.z rfl (fun od H1 x s hm h1 Q q => ?_) (fun l2 nl2 => ?_)
      · have hv : valV (nmK nm) (.inr x) = some (.int s) := by rw [valV_nm, lookup_mem hn.nd hm]; rfl
        walk_at "go"
      have g1 := GS.new (o := .lst ((pick (fun s => decide (V.int s = V.int 0)) nm).map V.str)) hp.d nl1
      have g2 := g1.trans (GS.new (o := .lst ((pick (fun s => decide (0 < s)) nm).map V.str)) g1.d nl2)
      have hv1 : (upd (upd H l1 (.lst ((pick (fun s => decide (V.int s = V.int 0)) nm).map V.str))) l2 (.lst ((pick (fun s => decide (0 < s)) nm).map V.str))) l1 = some (.lst ((pick (fun s => decide (V.int s = V.int 0)) nm).map V.str)) := by
        rw [upd_ne (ne_of_none upd_same nl2), upd_same]
      have hv2 : (upd (upd H l1 (.lst ((pick (fun s => decide (V.int s = V.int 0)) nm).map V.str))) l2 (.lst ((pick (fun s => decide (0 < s)) nm).map V.str))) l2 = some (.lst ((pick (fun s => decide (0 < s)) nm).map V.str)) := upd_same
      generalize upd (upd H l1 (.lst ((pick (fun s => decide (V.int s = V.int 0)) nm).map V.str))) l2 (.lst ((pick (fun s => decide (0 < s)) nm).map V.str)) = H2 at g2 hv1 hv2 ⊢
      have hvl := pick_length (fun s => decide (V.int s = V.int 0)) nm
      have hal := pick_length (fun s => decide (0 < s)) nm
      have hpk := fun x (h : x ∈ pick (fun s => decide (V.int s = V.int 0)) nm) => mem_pick h
      have hpk2 := fun x (h : x ∈ pick (fun s => decide (0 < s)) nm) => mem_pick h
      generalize pick (fun s => decide (V.int s = V.int 0)) nm = vars at hv1 hpk hvl ⊢
      generalize pick (fun s => decide (0 < s)) nm = arrs at hv2 hpk2 hal ⊢
      have D2 := g2.d
      have n1 : l1 ∉ [dr] := fun z => by
        obtain ⟨xs, e⟩ := drawAt_isl hp.d
        rw [List.mem_singleton.mp z, e] at nl1
        cases nl1
      have n2 : l2 ∉ [dr] := fun z => by
        obtain ⟨xs, e⟩ := drawAt_isl hp.d
        rw [List.mem_singleton.mp z, upd_ne (ne_of_none e nl1), e] at nl2
        cases nl2
      refine ⟨_, rfl, dr, 9, rfl, D2, by decide, by decide, fun k H3 k0 k1 g3 => ?_⟩
      have gA := g2.trans g3
      have hvA := g3.k.kp _ _ n1 hv1
      have hwA := g3.k.kp _ _ n2 hv2
      have pA := hp.keep gA
      have nA := hn.keep hp.d gA
      have vin : ∀ x ∈ vars, nm.lookup x = some 0 := fun x hx => by
        obtain ⟨s, h1, h2⟩ := hpk x hx
        rw [lookup_mem hn.nd h1, int_eq h2]
      have ain : ∀ x ∈ arrs, ∃ s, nm.lookup x = some s ∧ 0 < s := fun x hx => by
        obtain ⟨s, h1, h2⟩ := hpk2 x hx
        exact ⟨s, lookup_mem hn.nd h1, of_decide_eq_true h2⟩
      have lv : vars.length ≤ 1000 := Nat.le_trans hvl hn.z
      have la : arrs.length ≤ 1000 := Nat.le_trans hal hn.z
      have shv : SeqAt.shaped (.list (vars.map PyData.str)) = true := shaped_strs _ fun x hx => by
        obtain ⟨s, h1, _⟩ := hpk x hx
        exact hn.l _ h1
      have sha : SeqAt.shaped (.list (arrs.map PyData.str)) = true := shaped_strs _ fun x hx => by
        obtain ⟨s, h1, _⟩ := hpk2 x hx
        exact hn.l _ h1
      refine ⟨fun b H' => H3 = H' ∧ (b = false → 0 < d), ?_, ?_⟩
      · refine ⟨_, rfl, rfl, _, rfl, ite2 (fun e => ⟨rfl, fun z => by cases z⟩) (fun e => ?_)⟩
        have hd0 : ¬ (d : Int) = 0 := int_ne e
        refine ⟨_, rfl, _, _, rfl, rfl, _, rfl, rfl, fun _ => by omega⟩
      rintro b H' ⟨rfl, hb⟩
      refine ite2 (fun e => ?_) (fun e => ?_)
      · -- a number or a variable
        refine ⟨fun b H' => GS dr H3 H' ∧ (b = false → vars ≠ []), ?_, ?_⟩
        · refine ⟨_, rfl, by decide, fun l3 nl3 => ⟨_, _, .lst (SqL.of ((KT.new [] nl3).kp _ _ (by simp) hvA)) (dp_strL vars), .lst (SqL.of upd_same) .nil, shv, rfl, _, rfl, ?_⟩⟩
          rw [eqv_nil]
          refine ite2 (fun e => ⟨GS.new gA.d nl3, fun z => by cases z⟩) (fun e => ?_)
          refine ⟨_, rfl, dr, 4, rfl, (GS.new gA.d nl3).d, by decide, by decide, fun r H4 r0 r1 g4 => ⟨rfl, _, rfl, (GS.new gA.d nl3).trans g4, fun _ z => e (by rw [z]; rfl)⟩⟩
        rintro b H4 ⟨g4, hb4⟩
        have gB := gA.trans g4
        have pB := pA.keep g4
        obtain ⟨kvs4, hpd4, hdr4, hwd4⟩ := pB.h
        refine ite2 (fun e => ?_) (fun e => ?_)
        · refine ⟨_, rfl, _, rfl, _, _, rfl, dget_s hpd4 hwd4, dr, wd, rfl, pB.d, hp.w1, hp.w2, fun r H5 r0 r1 g5 => ⟨sz2, fun t nt => ?_⟩⟩
          exact q _ (.int r) _ ((gB.trans g5).trans (.new (gB.trans g5).d nt)) (.made nt (.cons (.str _) (.cons (.int _) .nil))) ⟨r0, r1⟩ (Nat.le_add_left ..)
        · have hne := hb4 (by cases b with | true => exact absurd rfl e | false => rfl)
          have hpos : 0 < vars.length := List.length_pos_iff.mpr hne
          have hvB := g4.k.kp _ _ n1 hvA
          refine ⟨_, rfl, _, rfl, _, rfl, _, _, rfl, .inl (SqL.of hvB), dr, _, rfl, gB.d, (by rw [List.length_map]; omega), (by rw [List.length_map]; exact Int.le_trans (by omega : (vars.length : Int) ≤ 1000) (by decide)), fun r H5 r0 r1 g5 => ?_⟩
          rw [List.length_map] at r1
          obtain ⟨y, hy, hm⟩ := atI_in (xs := vars) r0 r1
          have hvC := g5.k.kp _ _ n1 hvB
          refine ⟨_, _, _, _, rfl, rfl, SqL.of hvC, atI_map hy, sz2, fun t nt => ?_⟩
          exact q _ (.var y) _ ((gB.trans g5).trans (.new (gB.trans g5).d nt)) (.made nt (.cons (.str _) (.cons (.str _) .nil))) (vin y hm) (Nat.le_add_left ..)
      · have d0 := hb (by cases b with | true => exact absurd rfl e | false => rfl)
        have hd1 : ((d : Int) - 1) = ((d - 1 : Nat) : Int) := by omega
        have harg : [V.ref pd, V.ref nd, V.int ((d : Int) - 1)] = [V.ref pd, V.ref nd, V.int ((d - 1 : Nat) : Int)] := by rw [hd1]
        refine ⟨fun b H' => GS dr H3 H' ∧ (b = true → arrs ≠ []), ?_, ?_⟩
        · refine ⟨_, rfl, rfl, _, rfl, ite2 (fun e => ?_) (fun e => ⟨.refl gA.d, fun z => by cases z⟩)⟩
          refine ⟨_, rfl, by decide, fun l3 nl3 => ⟨_, _, .lst (SqL.of ((KT.new [] nl3).kp _ _ (by simp) hwA)) (dp_strL arrs), .lst (SqL.of upd_same) .nil, sha, rfl, _, rfl, GS.new gA.d nl3, fun z => ?_⟩⟩
          rw [eqv_nil] at z
          intro y
          rw [y] at z
          cases z
        rintro b H4 ⟨g4, hb4⟩
        have gB := gA.trans g4
        have pB := pA.keep g4
        have nB := nA.keep gA.d g4
        refine ite2 (fun e => ?_) (fun e => ?_)
        · have hne := hb4 e
          have hpos : 0 < arrs.length := List.length_pos_iff.mpr hne
          have hvB := g4.k.kp _ _ n2 hwA
          refine ⟨_, rfl, _, rfl, _, rfl, _, _, rfl, .inl (SqL.of hvB), dr, _, rfl, gB.d, (by rw [List.length_map]; omega), (by rw [List.length_map]; exact Int.le_trans (by omega : (arrs.length : Int) ≤ 1000) (by decide)), fun r H5 r0 r1 g5 => ?_⟩
          rw [List.length_map] at r1
          obtain ⟨y, hy, hm⟩ := atI_in (xs := arrs) r0 r1
          have hvC := g5.k.kp _ _ n2 hvB
          refine ⟨_, _, _, _, rfl, rfl, SqL.of hvC, atI_map hy, _, rfl, _, rfl, _, rfl, _, _, rfl, rfl, pd, nd, dr, d - 1, wd, nm, harg, by omega, pB.keep g5, nB.keep gB.d g5, fun v e H6 g6 he hk hdp => ⟨sz3, fun t nt => ?_⟩⟩
          have gC := (gB.trans g5).trans g6
          exact q _ (.cell y e) _ (gC.trans (.new gC.d nt)) (.made nt (.cons (.str _) (.cons (.str _) (.cons he .nil)))) ⟨ain y hm, hk⟩ (by show e.dep + 1 ≤ d + 1; omega)
        · refine ⟨_, rfl, rfl, _, rfl, ite2 (fun e => ?_) (fun e => ?_)⟩
          · refine ⟨_, rfl, _, rfl, _, rfl, _, _, rfl, rfl, pd, nd, dr, d - 1, wd, nm, harg, by omega, pB, nB, fun v e H6 g6 he hk hdp => ⟨sz2, fun t nt => ?_⟩⟩
            have gC := gB.trans g6
            exact q _ (.not e) _ (gC.trans (.new gC.d nt)) (.made nt (.cons (.str _) (.cons he .nil))) hk (by show e.dep + 1 ≤ d + 1; omega)
          · refine ⟨by decide, fun l3 nl3 => ⟨_, rfl, _, rfl, dr, 10, rfl, (GS.new gB.d nl3).d, by decide, by decide, fun r H5 r0 r1 g5 => ?_⟩⟩
            have gC0 := GS.new (o := .lst (opl.map V.str)) gB.d nl3
            have gC1 := gC0.trans g5
            have n3 : l3 ∉ [dr] := fun z => by
              obtain ⟨xs, e⟩ := drawAt_isl gB.d
              rw [List.mem_singleton.mp z, e] at nl3
              cases nl3
            obtain ⟨y, hy, hm⟩ := atI_in (xs := opl) r0 r1
            have hvC := g5.k.kp _ _ n3 (upd_same (H := H4) (a := l3) (o := .lst (opl.map V.str)))
            refine ⟨_, _, _, _, rfl, rfl, SqL.of hvC, atI_map hy, ?_⟩
            refine ⟨_, rfl, _, rfl, _, rfl, _, rfl, _, _, rfl, rfl, pd, nd, dr, d - 1, wd, nm, harg, by omega, pB.keep gC1, nB.keep gB.d gC1, fun v e H6 g6 he hk hdp => ?_⟩
            have gC2 := gC1.trans g6
            refine ⟨_, rfl, _, rfl, _, rfl, _, _, rfl, rfl, pd, nd, dr, d - 1, wd, nm, harg, by omega, pB.keep gC2, nB.keep gB.d gC2, fun v2 e2 H7 g7 he2 hk2 hdp2 => ⟨sz3, fun t nt => ?_⟩⟩
            have gC := (gB.trans gC2).trans g7
            exact q _ (.op y e e2) _ (gC.trans (.new gC.d nt)) (.made nt (.cons (.str _) (.cons (he.keep g7.k) (.cons he2 .nil)))) ⟨hm, hk, hk2⟩ (by show max e.dep e2.dep + 1 ≤ d + 1; omega)
end

end My

set_option Elab.async false
set_option linter.all false
set_option maxRecDepth 100000
set_option maxHeartbeats 4000000
namespace My
open PySem PySem.Spec PyProof.Rows L2
local macro_rules | `(tactic| walk_at "asm") => `(tactic| (refine' of_eq_true (eq_true ?_); assumption))
local macro_rules | `(tactic| walk_at "go1") => `(tactic| first
  | (with_reducible rfl) | walk_at "asm" | (apply And.intro) | (apply Exists.intro)
  | (refine' ite_f (by decide +kernel) ?_) | (refine' ite_t (by decide +kernel) ?_) | (refine' ite_f (dstr_ne (by assumption)) ?_) | (refine' ite_t (dstr_eq (by assumption)) ?_)
  | (exact SqT.of upd_same) | (exact SqL.of upd_same) | (exact SqL.of (by assumption)) | (exact SqT.of (by assumption)) | (exact dget_s (by assumption) (by assumption)) | (exact dget_f (by assumption) (by assumption))
  | (exact Or.inl (by assumption)) | (exact Or.inr (by assumption)) | (exact Or.inl (SqL.of (by assumption))) | (exact Or.inr (SqT.of (by assumption))) | rfl)
local macro_rules | `(tactic| walk_at "go") => `(tactic| repeat' walk_at "go1")

section
variable {P : Program} {w : World} {K : PySem.W.Frag} {mg : Str → Option Value} {base : Heap}
theorem flat_strs : ∀ xs : List Str, (xs.map V.str).all flatV = true
  | [] => rfl
  | x :: r => by rw [List.map_cons, List.all_cons, flat_strs r]; rfl
theorem inV_strs (x : Str) : ∀ xs : List Str, inV (V.str x) (xs.map V.str) = decide (x ∈ xs)
  | [] => by simp [inV]
  | y :: r => by
    have ih := inV_strs x r
    have e : inV (V.str x) ((y :: r).map V.str) = (eqV (V.str y) (V.str x) || inV (V.str x) (r.map V.str)) := rfl
    rw [e, ih]
    have : eqV (V.str y) (V.str x) = decide (x = y) := by
      show decide (y = x) = _
      by_cases h : x = y
      · rw [h]
      · rw [decide_eq_false h, decide_eq_false (fun z => h z.symm)]
    rw [this]
    by_cases h : x = y <;> simp [h]
def spWithout (K : PySem.W.Frag) : Sp := fun vs H Q _ => ∃ (nd gl : Addr) (nm : Nm) (gone : List Str), vs = [.ref nd, .ref gl] ∧ NmAt H nd nm ∧ SqL K H gl (gone.map V.str) ∧ gl ≠ nd ∧ ∀ f, H f = none → NmAt (upd H f (.dK (nmK (wo gone nm)))) f (wo gone nm) → Q (.ref f) (upd H f (.dK (nmK (wo gone nm))))
theorem wo_take {gone : List Str} {nm : Nm} {i : Nat} {x : Str} {s : Int} (h : nm[i]? = some (x, s)) : wo gone (nm.take (i + 1)) = if x ∈ gone then wo gone (nm.take i) else wo gone (nm.take i) ++ [(x, s)] := by
  unfold wo
  rw [List.take_succ, h]
  show (nm.take i ++ [(x, s)]).filter _ = _
  rw [List.filter_append]
  by_cases hp : x ∈ gone
  · simp [List.filter, hp]
  · simp [List.filter, hp]
theorem ok_z_without (T : Txt K mg) : FnOk P w K mg base CX0 1 T.f_z_without T.d_z_without ["names", "gone"] (spWithout K) := by
  refine T.F_z_without.ok sc_z_without (fun vs H Q E h => ?_) (fun cdv A outer s H vs Q E hr h => ?_)
  · obtain ⟨nd, gl, nm, gone, rfl, _⟩ := h
    rfl
  · obtain ⟨nd, gl, nm, gone, rfl, hn, hg, hne, q⟩ := h
    refine ⟨_, (pss_cons (ps_set (i := 2) sc_z_without.nd rfl (Or.inl rfl) pe_dnewK)
      (pss_cons (ps_lock (ps_for PassesOwn.never rfl (pi_keys (pv 0)) (pg_name (i := 3) sc_z_without.nd rfl (Or.inl rfl))
        (pss_one (ps_if (pt_cmpR op_notIn_seq (pv 3) (pv 1) (by rfl))
          (pss_one (ps_dput (hu_of hr) (pv 2) (pv 3) (pe_dget (hu_of hr) (pv 0) (pv 3) (fun _ _ => rfl)) rfl))
          pss_nil))))
      (pss_one (ps_ret (pv 2))))), ?_⟩
    refine fun f nf => ?_
    have fnd : f ≠ nd := fun z => by rw [z, hn.h] at nf; cases nf
    refine ⟨nd, .dK (nmK nm), by rw [upd_ne (fun z => fnd z.symm)]; exact hn.h, trivial, fun od => ?_⟩
    refine ⟨_, rfl, nd, od, rfl, .inl ⟨nmK nm, upd_same, ?_⟩⟩
    refine for_it (walk_keys (o := od) (kvs := nmK nm)) (fun i σ H1 => (∃ v, σ = [some (.ref nd), some (.ref gl), some (.ref f), v]) ∧ H1 = upd (upd (upd H f (.dK [])) nd (.frz od (.dK (nmK nm)))) f (.dK (nmK (wo gone (nm.take i)))))
      ⟨⟨_, rfl⟩, ?_⟩ (fun i σ H1 _ e => ?_) (fun i x σ H1 H2 hi e y => ?_) (fun σ H1 e => ?_)
    · show _ = upd _ f (.dK [])
      funext b
      by_cases h1 : b = f
      · rw [h1, upd_same, upd_ne fnd, upd_same]
      · rw [upd_ne h1]
    · rw [e.2, upd_ne (fun z => fnd z.symm), upd_same]
    · obtain ⟨e2, k, v, hk, rfl⟩ := y
      obtain ⟨x, s, hx, rfl, rfl⟩ := nmK_get hk
      obtain ⟨⟨v0, rfl⟩, e⟩ := e
      subst e2
      subst e
      have hm := List.mem_of_getElem? hx
      have hgl : SqL K (upd (upd (upd H f (.dK [])) nd (.frz od (.dK (nmK nm)))) f (.dK (nmK (wo gone (nm.take i))))) gl (gone.map V.str) := by
        rcases hg with (h | ⟨o, h⟩) | h
        · refine .inl (.inl ?_)
          have e1 : gl ≠ f := ne_of_none h nf
          rw [upd_ne e1, upd_ne hne, upd_ne e1]
          exact h
        · refine .inl (.inr ⟨o, ?_⟩)
          have e1 : gl ≠ f := ne_of_none h nf
          rw [upd_ne e1, upd_ne hne, upd_ne e1]
          exact h
        · exact .inr h
      have hv : valV (nmK nm) (.inr x) = some (.int s) := by rw [valV_nm, lookup_mem hn.nd hm]; rfl
      have hf1 : (upd (upd (upd H f (.dK [])) nd (.frz od (.dK (nmK nm)))) f (.dK (nmK (wo gone (nm.take i))))) nd = some (.frz od (.dK (nmK nm))) := by rw [upd_ne (fun z => fnd z.symm), upd_same]
      refine ⟨_, rfl, _, rfl, gl, _, rfl, .inl hgl, rfl, flat_strs gone, _, rfl, ?_⟩
      have wt := wo_take (gone := gone) hx
      have e0 : (if true = true then !inV (V.str x) (gone.map V.str) else inV (V.str x) (gone.map V.str)) = !decide (x ∈ gone) := by rw [if_pos rfl, inV_strs]
      refine ite2 (fun e => ?_) (fun e => ?_)
      · have e1 : x ∉ gone := by
          have e : (if true = true then !inV (V.str x) (gone.map V.str) else inV (V.str x) (gone.map V.str)) = true := e
          rw [e0] at e
          simpa using e
        rw [if_neg e1] at wt
        have hnew : valV (nmK (wo gone (nm.take i))) (.inr x) = none := by
          rw [valV_nm, lookup_none (fun p hp z => ?_)]
          · rfl
          · have hp2 := (wo_mem.mp hp).1
            have nd2 := hn.nd
            rw [← List.take_append_drop i nm, List.map_append, List.nodup_append] at nd2
            have hd : x ∈ (nm.drop i).map (·.1) := by
              have : nm[i]? = some (x, s) := hx
              have hi2 : (nm.drop i)[0]? = some (x, s) := by rw [List.getElem?_drop]; simpa using this
              exact List.mem_map.mpr ⟨_, List.mem_of_getElem? hi2, rfl⟩
            exact nd2.2.2 _ (List.mem_map.mpr ⟨p, hp2, rfl⟩) _ hd z
        refine ⟨_, rfl, _, rfl, _, _, rfl, dget_f hf1 hv, _, rfl, _, rfl, _, _, rfl, DPut.k (k := Sum.inr x) upd_same ?_, ?_⟩
        · rw [nmK_length]
          have := wo_len (nm := nm.take i) gone
          rw [List.length_take] at this
          exact small1000 (by have := hn.z; omega)
        · refine ⟨⟨_, rfl⟩, ?_⟩
          rw [upd_upd, wt, putK_new _ hnew]
          unfold nmK
          rw [List.map_append]
          rfl
      · have e1 : x ∈ gone := by
          have e : ¬ (if true = true then !inV (V.str x) (gone.map V.str) else inV (V.str x) (gone.map V.str)) = true := e
          rw [e0] at e
          simpa using e
        rw [if_pos e1] at wt
        exact ⟨⟨_, rfl⟩, by rw [wt]⟩
    · obtain ⟨⟨v0, rfl⟩, rfl⟩ := e
      refine ⟨by rw [upd_ne (fun z => fnd z.symm), upd_same], ?_⟩
      have e : upd (upd (upd (upd H f (.dK [])) nd (.frz od (.dK (nmK nm)))) f (.dK (nmK (wo gone (nm.take (nmK nm).length))))) nd (.dK (nmK nm)) = upd H f (.dK (nmK (wo gone nm))) := by
        rw [nmK_length, List.take_length]
        funext b
        by_cases h1 : b = nd
        · rw [h1, upd_same, upd_ne (fun z => fnd z.symm), hn.h]
        · rw [upd_ne h1]
          by_cases h2 : b = f
          · rw [h2, upd_same, upd_same]
          · rw [upd_ne h2, upd_ne h2, upd_ne h1, upd_ne h2]
      rw [e]
      refine ⟨_, rfl, q f nf ⟨upd_same, wo_nd hn.nd, Nat.le_trans (wo_len gone) hn.z, fun p hp => hn.s p (wo_mem.mp hp).1, fun p hp => hn.l p (wo_mem.mp hp).1⟩⟩
def spPlace (K : PySem.W.Frag) : Sp := fun vs H Q _ => ∃ (pd nd dr : Addr) (wd : Nat) (nm : Nm) (x : Str) (sz : Int), vs = [.ref pd, .ref nd, .str x] ∧ PdAt H pd dr wd ∧ NmAt H nd nm ∧ nm.lookup x = some sz ∧
  ∀ (v : V) (e : Ex) (H' : Hp), GS dr H H' → Rp K H' v e.d → PlOk wd nm [x] e → e.nm = x → e.dep ≤ 4 → Q v H'
theorem ok_z_place (T : Txt K mg) : FnOk P w K mg base CX0 6 T.f_z_place T.d_z_place ["p", "names", "name"] (spPlace K) := by
  have G_z_without := ok_z_without (P := P) (w := w) (base := base) T
  have G_z_expression := ok_z_expression (P := P) (w := w) (base := base) T 2
  refine T.F_z_place.ok sc_z_place (fun vs H Q E h => ?_) (fun cdv A outer s H vs Q E hr h => ?_)
  · obtain ⟨pd, nd, dr, wd, nm, x, sz, rfl, _⟩ := h
    rfl
  · obtain ⟨pd, nd, dr, wd, nm, x, sz, rfl, hp, hn, hx, q⟩ := h
    have hv : valV (nmK nm) (.inr x) = some (.int sz) := by rw [valV_nm, hx]; rfl
    have sz0 := hn.s _ (mem_of_lookup' hx)
    have hnh := hn.h
    refine ⟨_, (pss_cons (ps_if (pt_cmpR op_eq (pe_dget (hu_of hr) (pv 1) (pv 2) (fun _ _ => rfl)) pe_int (nomark _))
        (pss_one (ps_ret (pe_tup (pa_cons pe_str (pa_cons (pv 2) pa_nil)))))
        pss_nil)
      (pss_one (ps_ret (pe_tup (pa_cons pe_str (pa_cons (pv 2) (pa_cons (pe_call G_z_expression (hr.mono (by omega)) (by rfl) T.g_z_expression T.F_z_expression.kp T.b_z_expression .nil pass0 (pa_cons (pv 0) (pa_cons (pe_call G_z_without (hr.mono (by omega)) (by rfl) T.g_z_without T.F_z_without.kp T.b_z_without .nil pass0 (pa_cons (pv 1) (pa_cons (pe_lst (pa_cons (pv 2) pa_nil)) pa_nil))) (pa_cons pe_int pa_nil)))) pa_nil))))))), ?_⟩
    refine ⟨_, rfl, _, rfl, _, _, rfl, dget_s hnh hv, rfl, _, rfl, ite2 (fun e => ?_) (fun e => ?_)⟩
    · refine ⟨_, rfl, sz2, fun t nt => ?_⟩
      exact q _ (.var x) _ (.new hp.d nt) (.made nt (.cons (.str _) (.cons (.str _) .nil))) (show nm.lookup x = some 0 by rw [hx, int_eq e]) rfl (show 1 ≤ 4 by decide)
    · have e1 := int_ne e
      have g1 : ∀ {l : Addr} {o : HO}, H l = none → GS dr H (upd H l o) := fun h => .new hp.d h
      refine ⟨_, rfl, _, rfl, _, rfl, _, rfl, sz1, fun l nl => ?_⟩
      have n1 := hn.keep hp.d (g1 (o := .lst [V.str x]) nl)
      refine ⟨nd, l, nm, [x], rfl, n1, SqL.of upd_same, (fun z => by rw [z, hnh] at nl; cases nl), fun f nf hf => ?_⟩
      have gA := (g1 (o := .lst [V.str x]) nl).trans (GS.new (o := .dK (nmK (wo [x] nm))) (g1 (o := .lst [V.str x]) nl).d nf)
      refine ⟨pd, f, dr, 1, wd, wo [x] nm, rfl, by decide, hp.keep gA, hf, fun v e H1 g2 he hk hd => ⟨sz3, fun t nt => ?_⟩⟩
      have gB := gA.trans g2
      exact q _ (.cell x e) _ (gB.trans (.new gB.d nt)) (.made nt (.cons (.str _) (.cons (.str _) (.cons he .nil)))) ⟨⟨sz, hx, by omega⟩, hk⟩ rfl (by show e.dep + 1 ≤ 4; omega)
end

section
variable {P : Program} {w : World} {K : PySem.W.Frag} {mg : Str → Option Value} {base : Heap}
theorem filt_snoc {fs : List Str} {pz : Str → Bool} {i : Nat} {x : Str} (h : fs[i]? = some x) : (fs.take (i + 1)).filter pz = if pz x = true then (fs.take i).filter pz ++ [x] else (fs.take i).filter pz := by
  rw [List.take_succ, h]
  show (fs.take i ++ [x]).filter pz = _
  rw [List.filter_append]
  cases hp : pz x <;> simp [List.filter, hp]
/-- [x for x in xs if ..], texts -/
theorem filt_comp {σ : L2.St} {H : Hp} {fl : Addr} {fs : List Str} {a own : Nat} {tt : TT} {Q : VK} (pz : Str → Bool) (ha : σ[a]? = some (some (.ref fl))) (hf : H fl = some (.lst (fs.map V.str))) (hz : fs.length ≤ 1000) (ho : decide (own < σ.length) = true)
    (ht : ∀ H1 x, x ∈ fs → KT [] H H1 → ∀ Q : Bool → Hp → Prop, Q (pz x) H1 → tt ((wipe σ [own]).set own (some (.str x))) H1 Q)
    (hd : ∀ l, H l = none → Q (.ref l) (upd H l (.lst ((fs.filter pz).map V.str)))) : tLc (iList K (tVar a)) (gName own) tt (tVar own) [own] σ H Q := by
  refine ⟨_, ha, fl, rfl, ⟨_, SqL.of hf⟩, fun l hl => ?_⟩
  have ne : fl ≠ l := ne_of_none hf hl
  refine lc_it (walk_list (K := K) (a := fl) (xs := fs.map V.str)) (fun i H1 => H1 = upd H l (.lst (((fs.take i).filter pz).map V.str))) rfl (fun i H1 _ e => ?_) (fun i x H1 H2 hi e y => ?_) (fun H1 e => ?_)
  · rw [e]
    exact SqL.of (by rw [upd_ne ne]; exact hf)
  · obtain ⟨e2, hx⟩ := y
    rw [List.getElem?_map] at hx
    cases hfx : fs[i]? with
    | none => rw [hfx] at hx; cases hx
    | some y =>
      rw [hfx] at hx
      cases hx
      subst e2
      subst e
      have hwl : own < (wipe σ [own]).length := by rw [wipe_length]; exact of_decide_eq_true ho
      refine ⟨by simp [wipe, List.set_set], ?_⟩
      refine ht _ y (List.mem_of_getElem? hfx) (KT.new [] hl) _ ?_
      have fst := filt_snoc (pz := pz) hfx
      refine ite2 (fun hp => ?_) (fun hp => ?_)
      · refine ⟨_, List.getElem?_set_self hwl, _, upd_same, ?_, ?_⟩
        · rw [List.length_map]
          have := List.length_filter_le pz (fs.take i)
          rw [List.length_take] at this
          exact small1000 (by omega)
        · show upd _ l _ = _
          rw [upd_upd, fst, if_pos hp, List.map_append]
          rfl
      · show upd _ l _ = upd _ l _
        rw [fst, if_neg hp]
  · rw [List.length_map, List.take_length] at e
    rw [e]
    exact hd l hl
theorem nodup_without {fs : List Str} {x : Str} (nd : fs.Nodup) (h : x ∈ fs) : (fs.filter fun y => !decide (V.str y = V.str x)).length + 1 = fs.length := by
  induction fs with
  | nil => cases h
  | cons y r ih =>
    rw [List.nodup_cons] at nd
    rcases List.mem_cons.mp h with e | e
    · subst e
      have key : r.filter (fun y => !decide (V.str y = V.str x)) = r := by
        rw [List.filter_eq_self]
        intro z hz
        have : ¬ V.str z = V.str x := fun q => nd.1 (by cases q; exact hz)
        simp [this]
      have e0 : (!decide (V.str x = V.str x)) = false := by simp
      rw [List.filter_cons, e0]
      simp only [Bool.false_eq_true, if_false]
      rw [key]
      rfl
    · have ne : ¬ V.str y = V.str x := fun q => nd.1 (by cases q; exact e)
      rw [List.filter_cons]
      simp only [ne, decide_false, Bool.not_false, if_true, List.length_cons]
      have := ih nd.2 e
      omega
/-- a list of free names -/
structure FrAt (H : Hp) (fl : Addr) (free : List Str) (nm : Nm) : Prop where
  h : H fl = some (.lst (free.map V.str))
  nd : free.Nodup
  z : free.length ≤ 1000
  i : ∀ x ∈ free, ∃ s, nm.lookup x = some s
theorem FrAt.ne {H : Hp} {fl dr : Addr} {free : List Str} {nm : Nm} (h : FrAt H fl free nm) (D : DrawAt H dr) : fl ≠ dr := by
  obtain ⟨c, cells, pos, rest, seed, d⟩ := D
  intro z
  have e := h.h
  rw [z, d.hp] at e
  have e := HO.lst.inj (Option.some.inj e)
  cases free with
  | nil => cases e
  | cons x r => cases e
theorem FrAt.keep {H H' : Hp} {fl dr : Addr} {free : List Str} {nm : Nm} (h : FrAt H fl free nm) (D : DrawAt H dr) (k : GS dr H H') : FrAt H' fl free nm := ⟨k.k.kp _ _ (by simpa using h.ne D) h.h, h.nd, h.z, h.i⟩
def spChange (K : PySem.W.Frag) : Sp := fun vs H Q _ => ∃ (pd nd fl dr : Addr) (wd : Nat) (nm : Nm) (free : List Str), vs = [.ref pd, .ref nd, .ref fl] ∧ PdAt H pd dr wd ∧ NmAt H nd nm ∧ FrAt H fl free nm ∧ free ≠ [] ∧
  ∀ (v : V) (s : Sm) (H' : Hp), GS dr H H' → Rp K H' v s.d → (∀ ps, SOk ps wd nm s) → s.dp ≤ 1 → Q v H'
theorem ok_z_change (T : Txt K mg) : FnOk P w K mg base CX0 7 T.f_z_change T.d_z_change ["p", "names", "free"] (spChange K) := by
  have G_z_take := okG_z_take (P := P) (w := w) (base := base) T
  have G_z_without := ok_z_without (P := P) (w := w) (base := base) T
  have G_z_place := ok_z_place (P := P) (w := w) (base := base) T
  have G_z_expression := (ok_z_expression (P := P) (w := w) (base := base) T 3)
  refine T.F_z_change.ok sc_z_change (fun vs H Q E h => ?_) (fun cdv A outer s H vs Q E hr h => ?_)
  · obtain ⟨pd, nd, fl, dr, wd, nm, free, rfl, _⟩ := h
    rfl
  · obtain ⟨pd, nd, fl, dr, wd, nm, free, rfl, hp, hn, hf, hne, q⟩ := h
    have hr : Room 6 _ := hr
    obtain ⟨kvs, hpd, hdr, hwd⟩ := hp.h
    have hpos : 0 < free.length := List.length_pos_iff.mpr hne
    have hz := hf.z
    refine ⟨_, (pss_cons (ps_set (i := 3) sc_z_change.nd rfl (Or.inl rfl) (pe_dget (hu_of hr) (pv 0) pe_str (fun _ _ => rfl)))
      (pss_cons (ps_set (i := 4) sc_z_change.nd rfl (Or.inr rfl) (pe_ix ix_list (pv 2) (pe_call G_z_take (hr.mono (by omega)) (by rfl) T.g_z_take T.F_z_take.kp T.b_z_take .nil pass0 (pa_cons (pv 3) (pa_cons (pe_callB call_len_seq (by rfl) T.m_len (by decide +kernel) (pa_cons (pv 2) pa_nil)) pa_nil))) (fun _ _ => rfl)))
      (pss_cons (ps_if (pt_cut (PW.pt (pw_and (pt_cmpR op_eq (pe_call G_z_take (hr.mono (by omega)) (by rfl) T.g_z_take T.F_z_take.kp T.b_z_take .nil pass0 (pa_cons (pv 3) (pa_cons pe_int pa_nil))) pe_int (nomark _)) (pw_and1 (pt_cmpR op_gt (pe_callB call_len_seq (by rfl) T.m_len (by decide +kernel) (pa_cons (pv 2) pa_nil)) pe_int (nomark _))))))
        (pss_cons (ps_set (i := 5) sc_z_change.nd rfl (Or.inl rfl) (pe_ix ix_list (pe_lc (own := [("row", 10)]) (g := gName 10) (by rfl) sc_z_change.nd (pi_list (pv 2)) (blkOk_by (own := [("row", 10)]) (N := N_z_change) (sc := defScope s_z_change) (by decide +kernel)) (fun _ _ _ _ _ => (pg_name (i := 10) sc_z_change.nd rfl (Or.inl rfl))) (fun _ _ _ _ _ => (pts_one (pt_cmpR op_ne (pv 10) (pv 4) (nomark _)))) (fun _ _ _ _ _ => (pv 10))) (pe_call G_z_take (hr.mono (by omega)) (by rfl) T.g_z_take T.F_z_take.kp T.b_z_take .nil pass0 (pa_cons (pv 3) (pa_cons (pe_op op_sub (pe_callB call_len_seq (by rfl) T.m_len (by decide +kernel) (pa_cons (pv 2) pa_nil)) pe_int) pa_nil))) (fun _ _ => rfl)))
        (pss_cons (ps_set (i := 6) sc_z_change.nd rfl (Or.inl rfl) (pe_call G_z_without (hr.mono (by omega)) (by rfl) T.g_z_without T.F_z_without.kp T.b_z_without .nil pass0 (pa_cons (pv 1) (pa_cons (pe_lst (pa_cons (pv 4) (pa_cons (pv 5) pa_nil))) pa_nil))))
        (pss_cons (ps_set (i := 7) sc_z_change.nd rfl (Or.inl rfl) (pe_cut (pe_ifExp (pt_cmpR op_eq (pe_dget (hu_of hr) (pv 1) (pv 4) (fun _ _ => rfl)) pe_int (nomark _)) (pe_tup (pa_cons pe_str (pa_cons (pv 4) pa_nil))) (pe_tup (pa_cons pe_str (pa_cons (pv 4) (pa_cons (pe_call G_z_expression (hr.mono (by omega)) (by rfl) T.g_z_expression T.F_z_expression.kp T.b_z_expression .nil pass0 (pa_cons (pv 0) (pa_cons (pv 6) (pa_cons pe_int pa_nil)))) pa_nil)))))))
        (pss_cons (ps_set (i := 8) sc_z_change.nd rfl (Or.inl rfl) (pe_cut (pe_ifExp (pt_cmpR op_eq (pe_dget (hu_of hr) (pv 1) (pv 5) (fun _ _ => rfl)) pe_int (nomark _)) (pe_tup (pa_cons pe_str (pa_cons (pv 5) pa_nil))) (pe_tup (pa_cons pe_str (pa_cons (pv 5) (pa_cons (pe_call G_z_expression (hr.mono (by omega)) (by rfl) T.g_z_expression T.F_z_expression.kp T.b_z_expression .nil pass0 (pa_cons (pv 0) (pa_cons (pv 6) (pa_cons pe_int pa_nil)))) pa_nil)))))))
        (pss_one (ps_ret (pe_tup (pa_cons pe_str (pa_cons (pv 7) (pa_cons (pv 8) pa_nil))))))))))
        pss_nil)
      (pss_cons (ps_set (i := 9) sc_z_change.nd rfl (Or.inl rfl) (pe_ix ix_list (pe_lst (pa_cons pe_str (pa_cons pe_str (pa_cons pe_str pa_nil)))) (pe_call G_z_take (hr.mono (by omega)) (by rfl) T.g_z_take T.F_z_take.kp T.b_z_take .nil pass0 (pa_cons (pv 3) (pa_cons pe_int pa_nil))) (fun _ _ => rfl)))
      (pss_cons (ps_set (i := 6) sc_z_change.nd rfl (Or.inl rfl) (pe_call G_z_without (hr.mono (by omega)) (by rfl) T.g_z_without T.F_z_without.kp T.b_z_without .nil pass0 (pa_cons (pv 1) (pa_cons (pe_lst (pa_cons (pv 4) pa_nil)) pa_nil))))
      (pss_one (ps_ret (pe_tup (pa_cons (pv 9) (pa_cons (pe_call G_z_place (hr.mono (by omega)) (by rfl) T.g_z_place T.F_z_place.kp T.b_z_place .nil pass0 (pa_cons (pv 0) (pa_cons (pv 1) (pa_cons (pv 4) pa_nil)))) (pa_cons (pe_call G_z_expression (hr.mono (by omega)) (by rfl) T.g_z_expression T.F_z_expression.kp T.b_z_expression .nil pass0 (pa_cons (pv 0) (pa_cons (pv 6) (pa_cons pe_int pa_nil)))) pa_nil))))))))))), ?_⟩
    refine ⟨_, rfl, _, _, rfl, dget_s hpd hdr, ?_⟩
    -- name = free[..]
    refine ⟨_, rfl, _, rfl, _, rfl, _, _, rfl, .inl (SqL.of hf.h), dr, _, rfl, hp.d, (by rw [List.length_map]; omega), (by rw [List.length_map]; exact Int.le_trans (by omega : (free.length : Int) ≤ 1000) (by decide)), fun r H1 r0 r1 g1 => ?_⟩
    rw [List.length_map] at r1
    obtain ⟨x, hx, hm⟩ := atI_in (xs := free) r0 r1
    have f1 := hf.keep hp.d g1
    have p1 := hp.keep g1
    have n1 := hn.keep hp.d g1
    refine ⟨_, _, _, _, rfl, rfl, SqL.of f1.h, atI_map hx, ?_⟩
    obtain ⟨sx, hsx⟩ := hf.i x hm
    have sx0 := hn.s _ (mem_of_lookup' hsx)
    refine ⟨fun b H' => GS dr H1 H' ∧ (b = true → 1 < free.length), ?_, ?_⟩
    · refine ⟨_, rfl, dr, 5, rfl, p1.d, by decide, by decide, fun r H2 _ _ g2 => ?_⟩
      refine ⟨rfl, _, rfl, ite2 (fun e => ?_) (fun e => ⟨g2, fun z => by cases z⟩)⟩
      refine ⟨_, rfl, _, _, rfl, .inl (SqL.of (f1.keep p1.d g2).h), _, _, rfl, rfl, _, rfl, g2, fun z => ?_⟩
      have z1 := of_decide_eq_true z
      rw [List.length_map] at z1
      omega
    rintro b H2 ⟨g2, hb⟩
    have p2 := p1.keep g2
    have f2 := f1.keep p1.d g2
    have n2 := n1.keep p1.d g2
    have gA := g1.trans g2
    have wo_mk : ∀ {gone : List Str} {Hx : Hp} {f : Addr} {o : HO}, Hx f = none → DrawAt Hx dr → GS dr Hx (upd Hx f o) := fun h D => .new D h
    refine ite2 (fun e => ?_) (fun e => ?_)
    · -- swap
      have h1 := hb e
      refine seq_asg_op ?_
      refine filt_comp (K := K) (fun y => !decide (V.str y = V.str x)) (by rfl) f2.h hz (by rfl) (fun H3 y _ _ Q q => ?_) (fun l nl => ?_)
      · refine ⟨_, rfl, _, rfl, rfl, _, rfl, q⟩
      have cnt := nodup_without hf.nd hm
      have g3 : GS dr H2 (upd H2 l (.lst ((free.filter fun y => !decide (V.str y = V.str x)).map V.str))) := .new p2.d nl
      have hl3 : (upd H2 l (.lst ((free.filter fun y => !decide (V.str y = V.str x)).map V.str))) l = some (.lst ((free.filter fun y => !decide (V.str y = V.str x)).map V.str)) := upd_same
      have nld : l ≠ dr := fun z => by
        obtain ⟨xs, e⟩ := drawAt_isl p2.d
        rw [z, e] at nl
        cases nl
      have fin : ∀ y ∈ free.filter (fun y => !decide (V.str y = V.str x)), y ∈ free ∧ y ≠ x := fun y hy => by
        obtain ⟨h1, h2⟩ := List.mem_filter.mp hy
        exact ⟨h1, fun z => by subst z; simp at h2⟩
      generalize free.filter (fun y => !decide (V.str y = V.str x)) = oth at cnt g3 hl3 fin ⊢
      generalize upd H2 l (.lst (oth.map V.str)) = H3 at g3 hl3 ⊢
      have p3 := p2.keep g3
      have f3 := f2.keep p2.d g3
      have n3 := n2.keep p2.d g3
      refine ⟨_, rfl, _, rfl, _, _, rfl, .inl (SqL.of f3.h), _, _, rfl, rfl, dr, _, rfl, p3.d, (by rw [List.length_map]; omega), (by rw [List.length_map]; exact Int.le_trans (by omega : (free.length : Int) - 1 ≤ 1000) (by decide)), fun r H4 r0 r1 g4 => ?_⟩
      rw [List.length_map] at r1
      obtain ⟨y, hy, hmy⟩ := atI_in (xs := oth) r0 (by omega)
      obtain ⟨hyf, hyx⟩ := fin y hmy
      obtain ⟨sy, hsy⟩ := hf.i y hyf
      have sy0 := hn.s _ (mem_of_lookup' hsy)
      refine ⟨_, _, _, _, rfl, rfl, SqL.of (g4.k.kp _ _ (by simpa using nld) hl3), atI_map hy, ?_⟩
      have p4 := p3.keep g4
      have n4 := n3.keep p3.d g4
      -- rest
      refine ⟨_, rfl, _, rfl, _, rfl, sz2, fun l2 nl2 => ?_⟩
      have g5 : GS dr H4 (upd H4 l2 (.lst [V.str x, V.str y])) := .new p4.d nl2
      have n5 := n4.keep p4.d g5
      have hnh := n4.h
      refine ⟨nd, l2, nm, [x, y], rfl, n5, SqL.of upd_same, (fun z => by rw [z, hnh] at nl2; cases nl2), fun f nf hfA => ?_⟩
      have g6 : GS dr H4 (upd (upd H4 l2 (.lst [V.str x, V.str y])) f (.dK (nmK (wo [x, y] nm)))) := g5.trans (.new g5.d nf)
      generalize upd (upd H4 l2 (.lst [V.str x, V.str y])) f (.dK (nmK (wo [x, y] nm))) = H6 at g6 hfA ⊢
      have p6 := p4.keep g6
      have n6 := n4.keep p4.d g6
      have vx : valV (nmK nm) (.inr x) = some (.int sx) := by rw [valV_nm, hsx]; rfl
      have vy : valV (nmK nm) (.inr y) = some (.int sy) := by rw [valV_nm, hsy]; rfl
      -- a place of one of the two
      have plc : ∀ (Hs : Hp) (z : Str) (sz : Int), z ∈ [x, y] → nm.lookup z = some sz → GS dr H6 Hs → ∀ (J : V → Hp → Prop), (∀ v e H', GS dr Hs H' → Rp K H' v e.d → PlOk wd nm [x, y] e → e.nm = z → e.dep ≤ 4 → J v H') → ∀ (σ : L2.St) (k : Nat), σ[0]? = some (some (.ref pd)) → σ[1]? = some (some (.ref nd)) → σ[6]? = some (some (.ref f)) → σ[k]? = some (some (.str z)) →
          (tIf (tTest (tOp rEq (tDGet (tVar 1) (tVar k)) (tC (.int 0)))) (tTup (tCons (tC (.str "var")) (tCons (tVar k) tNil))) (tTup (tCons (tC (.str "cell")) (tCons (tVar k) (tCons (tCall (spExp K 3) [] E0 (tCons (tVar 0) (tCons (tVar 6) (tCons (tC (.int 1)) tNil)))) tNil))))) σ Hs J := by
        intro Hs z sz _ hs gs J hJ σ k s0 s1 s6 sk
        have ns := n6.keep p6.d gs
        have pss := p6.keep gs
        have fs := hfA.keep p6.d gs
        have vz : valV (nmK nm) (.inr z) = some (.int sz) := by rw [valV_nm, hs]; rfl
        have sz0 := hn.s _ (mem_of_lookup' hs)
        refine ⟨_, s1, _, sk, _, _, rfl, dget_s ns.h vz, rfl, _, rfl, ite2 (fun e => ?_) (fun e => ?_)⟩
        · refine ⟨_, sk, sz2, fun t nt => ?_⟩
          exact hJ _ (.var z) _ (.new pss.d nt) (.made nt (.cons (.str _) (.cons (.str _) .nil))) (show nm.lookup z = some 0 by rw [hs, int_eq e]) rfl (show 1 ≤ 4 by decide)
        · have e1 := int_ne e
          refine ⟨_, sk, _, s0, _, s6, pd, f, dr, 1, wd, wo [x, y] nm, rfl, by decide, pss, fs, fun v e H8 g8 he hk hd => ⟨sz3, fun t nt => ?_⟩⟩
          exact hJ _ (.cell z e) _ (g8.trans (.new g8.d nt)) (.made nt (.cons (.str _) (.cons (.str _) (.cons he .nil)))) ⟨⟨sz, hs, by omega⟩, hk⟩ rfl (show e.dep + 1 ≤ 4 by omega)
      have gH6 := ((gA.trans g3).trans g4).trans g6
      refine ⟨fun v H' => ∃ e, GS dr H6 H' ∧ Rp K H' v e.d ∧ PlOk wd nm [x, y] e ∧ e.nm = x ∧ e.dep ≤ 4, plc H6 x sx (by simp) hsx (.refl g6.d) _ (fun v e H' a1 a2 a3 a4 a5 => ⟨e, a1, a2, a3, a4, a5⟩) _ 4 rfl rfl rfl rfl, ?_⟩
      rintro v1 H7 ⟨e1, g7, r1, o1, m1, d1⟩
      refine ⟨fun v H' => ∃ e, GS dr H7 H' ∧ Rp K H' v e.d ∧ PlOk wd nm [x, y] e ∧ e.nm = y ∧ e.dep ≤ 4, plc H7 y sy (by simp) hsy g7 _ (fun v e H' a1 a2 a3 a4 a5 => ⟨e, a1, a2, a3, a4, a5⟩) _ 5 rfl rfl rfl rfl, ?_⟩
      rintro v2 H8 ⟨e2, g8, r2, o2, m2, d2⟩
      refine ⟨_, rfl, _, rfl, sz3, fun t nt => ?_⟩
      have gE := (gH6.trans g7).trans g8
      refine q _ (.swap e1 e2) _ (gE.trans (.new gE.d nt)) (.made nt (.cons (.str _) (.cons (r1.keep g8.k) (.cons r2 .nil)))) (fun ps => ?_) (show 1 ≤ 1 by decide)
      show e1.nm ≠ e2.nm ∧ _
      rw [m1, m2]
      exact ⟨fun z => hyx z.symm, o1, o2, d1, d2⟩
    · -- a change
      refine ⟨sz3, fun l nl => ⟨_, rfl, dr, 3, rfl, (GS.new p2.d nl).d, by decide, by decide, fun r H3 r0 r1 g3 => ?_⟩⟩
      have g3a : GS dr H2 (upd H2 l (.lst [V.str "plus", V.str "minus", V.str "xor"])) := .new p2.d nl
      have nld : l ≠ dr := fun z => by
        obtain ⟨xs, e⟩ := drawAt_isl p2.d
        rw [z, e] at nl
        cases nl
      obtain ⟨wd', hy, hmw⟩ := atI_in (xs := (["plus", "minus", "xor"] : List Str)) r0 r1
      refine ⟨_, _, _, _, rfl, rfl, SqL.of (g3.k.kp _ _ (by simpa using nld) (upd_same (H := H2) (a := l) (o := .lst [V.str "plus", V.str "minus", V.str "xor"]))), atI_map hy, ?_⟩
      have gB := g3a.trans g3
      have p3 := p2.keep gB
      have n3 := n2.keep p2.d gB
      refine ⟨_, rfl, _, rfl, sz1, fun l2 nl2 => ?_⟩
      have g5 : GS dr H3 (upd H3 l2 (.lst [V.str x])) := .new p3.d nl2
      have n5 := n3.keep p3.d g5
      have hnh := n3.h
      refine ⟨nd, l2, nm, [x], rfl, n5, SqL.of upd_same, (fun z => by rw [z, hnh] at nl2; cases nl2), fun f nf hfA => ?_⟩
      have g6 : GS dr H3 (upd (upd H3 l2 (.lst [V.str x])) f (.dK (nmK (wo [x] nm)))) := g5.trans (.new g5.d nf)
      generalize upd (upd H3 l2 (.lst [V.str x])) f (.dK (nmK (wo [x] nm))) = H6 at g6 hfA ⊢
      have p6 := p3.keep g6
      have n6 := n3.keep p3.d g6
      refine ⟨_, rfl, _, rfl, _, rfl, _, rfl, pd, nd, dr, wd, nm, x, sx, rfl, p6, n6, hsx, fun v1 e1 H7 g7 r1 o1 m1 d1 => ?_⟩
      have p7 := p6.keep g7
      refine ⟨_, rfl, _, rfl, pd, f, dr, 2, wd, wo [x] nm, rfl, by decide, p7, hfA.keep p6.d g7, fun v2 e2 H8 g8 r2 o2 d2 => ⟨sz3, fun t nt => ?_⟩⟩
      have gE := (((gA.trans gB).trans g6).trans g7).trans g8
      refine q _ (.chg wd' e1 e2) _ (gE.trans (.new gE.d nt)) (.made nt (.cons (.str _) (.cons (r1.keep g8.k) (.cons r2 .nil)))) (fun ps => ?_) (show 1 ≤ 1 by decide)
      show wd' ∈ _ ∧ PlOk wd nm [e1.nm] e1 ∧ _
      rw [m1]
      exact ⟨hmw, o1, d1, o2, by omega⟩
end

end My

set_option Elab.async false
set_option linter.all false
set_option maxRecDepth 100000
set_option maxHeartbeats 4000000
namespace My
open PySem PySem.Spec PyProof.Rows L2
local macro_rules | `(tactic| walk_at "asm") => `(tactic| (refine' of_eq_true (eq_true ?_); assumption))
local macro_rules | `(tactic| walk_at "go1") => `(tactic| first
  | (with_reducible rfl) | walk_at "asm" | (apply And.intro) | (apply Exists.intro)
  | (refine' ite_f (by decide +kernel) ?_) | (refine' ite_t (by decide +kernel) ?_) | (refine' ite_f (dstr_ne (by assumption)) ?_) | (refine' ite_t (dstr_eq (by assumption)) ?_)
  | (exact SqT.of upd_same) | (exact SqL.of upd_same) | (exact SqL.of (by assumption)) | (exact SqT.of (by assumption)) | (exact dget_s (by assumption) (by assumption)) | (exact dget_f (by assumption) (by assumption))
  | (exact Or.inl (by assumption)) | (exact Or.inr (by assumption)) | (exact Or.inl (SqL.of (by assumption))) | (exact Or.inr (SqT.of (by assumption))) | rfl)
local macro_rules | `(tactic| walk_at "go") => `(tactic| repeat' walk_at "go1")

section
variable {P : Program} {w : World} {K : PySem.W.Frag} {mg : Str → Option Value} {base : Heap}
/-- the whole dict p -/
def pdK (dr : Addr) (wd c l : Nat) (pl : Addr) : List (Key × V) := [(.inr "draw", .ref dr), (.inr "width", .int wd), (.inr "count", .int c), (.inr "left", .int l), (.inr "procedures", .ref pl)]
theorem pd_count (dr : Addr) (wd c l : Nat) (pl : Addr) (n : Nat) : putK (pdK dr wd c l pl) (.inr "count") (.int n) = pdK dr wd n l pl := by kernel_rfl
theorem pd_left (dr : Addr) (wd c l : Nat) (pl : Addr) (n : Nat) : putK (pdK dr wd c l pl) (.inr "left") (.int n) = pdK dr wd c n pl := by kernel_rfl
theorem pd_get_draw (dr : Addr) (wd c l : Nat) (pl : Addr) : valV (pdK dr wd c l pl) (.inr "draw") = some (.ref dr) := by kernel_rfl
theorem pd_get_width (dr : Addr) (wd c l : Nat) (pl : Addr) : valV (pdK dr wd c l pl) (.inr "width") = some (.int wd) := by kernel_rfl
theorem pd_get_count (dr : Addr) (wd c l : Nat) (pl : Addr) : valV (pdK dr wd c l pl) (.inr "count") = some (.int c) := by kernel_rfl
theorem pd_get_left (dr : Addr) (wd c l : Nat) (pl : Addr) : valV (pdK dr wd c l pl) (.inr "left") = some (.int l) := by kernel_rfl
theorem pd_get_procs (dr : Addr) (wd c l : Nat) (pl : Addr) : valV (pdK dr wd c l pl) (.inr "procedures") = some (.ref pl) := by kernel_rfl
/-- a procedure that may be called: its name, its params in a tuple or a list -/
def ProcOk (K : PySem.W.Frag) (H : Hp) (v : V) (p : Str × Nm) : Prop := ∃ t q rows, v = .ref t ∧ H t = some (.tup [.str p.1, .ref q]) ∧ (H q = some (.lst rows) ∨ H q = some (.tup rows)) ∧ RpA K H rows (p.2.map fun r => .tuple [.str r.1, .int r.2])
structure ProcsAt (K : PySem.W.Frag) (H : Hp) (pl : Addr) (ps : List (Str × Nm)) : Prop where
  h : ∃ vs, H pl = some (.lst vs) ∧ Paired (ProcOk K H) vs ps
  nd : (ps.map (·.1)).Nodup
  z : ps.length ≤ 20
  y : ∀ p ∈ ps, p.2.length ≤ 3
  lay : ∀ p ∈ ps, (PyData.str p.1).canLay0 = true ∧ ∀ r ∈ p.2, (PyData.str r.1).canLay0 = true
theorem Paired.mapQ {α β : Type} {F G : α → β → Prop} : ∀ {l₁ : List α} {l₂ : List β}, Paired F l₁ l₂ → (∀ a b, F a b → G a b) → Paired G l₁ l₂
  | _, _, .nil, _ => .nil
  | _, _, .cons r t, f => .cons (f _ _ r) (Paired.mapQ t f)
theorem rpa_refs {H : Hp} {rows : List V} {nm : Nm} (h : RpA K H rows (nm.map fun r => .tuple [.str r.1, .int r.2])) : ∀ v ∈ rows, ∃ a, v = .ref a := by
  intro v hv
  obtain ⟨i, hi, rfl⟩ := List.getElem_of_mem hv
  obtain ⟨d, hd, r⟩ := h.get (List.getElem?_eq_getElem hi)
  rw [List.getElem?_map] at hd
  cases e : nm[i]? with
  | none => rw [e] at hd; cases hd
  | some p =>
    rw [e] at hd
    cases hd
    obtain ⟨a, xs, h1, _⟩ := Rp.inv r
    exact ⟨a, h1⟩
theorem not_dr {H : Hp} {dr q : Addr} {rows : List V} (D : DrawAt H dr) (h : H q = some (.lst rows)) (hr : ∀ v ∈ rows, ∃ a, v = .ref a) : q ≠ dr := by
  obtain ⟨c, cells, pos, rest, seed, d⟩ := D
  intro z
  rw [z, d.hp] at h
  have e := HO.lst.inj (Option.some.inj h)
  subst e
  obtain ⟨a, ha⟩ := hr (.int pos) (by simp)
  cases ha
theorem ProcOk.keep {H H' : Hp} {dr pd : Addr} {kvs : List (Key × V)} {v : V} {p : Str × Nm} (D : DrawAt H dr) (hpd : H pd = some (.dK kvs)) (k : KT [dr, pd] H H') (h : ProcOk K H v p) : ProcOk K H' v p := by
  obtain ⟨t, q, rows, h1, h2, h3, h4⟩ := h
  refine ⟨t, q, rows, h1, k.tp _ _ h2, ?_, h4.keep k⟩
  rcases h3 with h3 | h3
  · refine .inl (k.kp _ _ (fun z => ?_) h3)
    simp only [List.mem_cons, List.not_mem_nil, or_false] at z
    rcases z with z | z
    · exact not_dr D h3 (rpa_refs h4) z
    · rw [z, hpd] at h3; cases h3
  · exact .inr (k.tp _ _ h3)
theorem ProcsAt.keep {H H' : Hp} {dr pd pl : Addr} {kvs : List (Key × V)} {ps : List (Str × Nm)} (D : DrawAt H dr) (hpd : H pd = some (.dK kvs)) (k : KT [dr, pd] H H') (h : ProcsAt K H pl ps) : ProcsAt K H' pl ps := by
  obtain ⟨vs, h1, h2⟩ := h.h
  refine ⟨⟨vs, k.kp _ _ (fun z => ?_) h1, Paired.mapQ h2 fun a b => ProcOk.keep D hpd k⟩, h.nd, h.z, h.y, h.lay⟩
  simp only [List.mem_cons, List.not_mem_nil, or_false] at z
  rcases z with z | z
  · refine not_dr D h1 (fun v hv => ?_) z
    have key : ∀ {vs : List V} {ps : List (Str × Nm)}, Paired (ProcOk K H) vs ps → ∀ v ∈ vs, ∃ a, v = .ref a := by
      intro vs ps hp
      induction hp with
      | nil => intro v hv; cases hv
      | cons r t ih =>
        intro v hv
        rcases List.mem_cons.mp hv with e | e
        · obtain ⟨t, _, _, h1, _⟩ := r
          exact ⟨t, by rw [e]; exact h1⟩
        · exact ih v e
    exact key h2 v hv
  · rw [z, hpd] at h1; cases h1
theorem GS.of0 {dr : Addr} {H H' : Hp} (D : DrawAt H dr) (k : KT [] H H') : GS dr H H' := ⟨k.mono (fun _ z => by cases z), by
  obtain ⟨cc, cells, pos, rest, seed, dd⟩ := D
  exact ⟨cc, cells, pos, rest, seed, ⟨k.kp _ _ (by simp) dd.hp, k.kp _ _ (by simp) dd.hc, dd.nn, dd.po, dd.re, dd.s0, dd.s1⟩⟩, fun c t e => ⟨t, k.kp _ _ (by simp) e⟩⟩
/-- where the drawing of statements stands: c names given, l statements left -/
structure PSt (K : PySem.W.Frag) (H : Hp) (pd dr : Addr) (wd c l : Nat) (pl : Addr) (ps : List (Str × Nm)) : Prop where
  h : H pd = some (.dK (pdK dr wd c l pl))
  d : DrawAt H dr
  w1 : 1 ≤ wd
  w2 : wd ≤ 32
  pr : ProcsAt K H pl ps
  cb : c + l ≤ 900
section
variable {H H' : Hp} {pd dr pl nd fl : Addr} {wd c l c' l' : Nat} {ps : List (Str × Nm)} {nm : Nm} {free : List Str}
theorem PSt.at_ (h : PSt K H pd dr wd c l pl ps) : PdAt H pd dr wd := ⟨⟨_, h.h, pd_get_draw .., pd_get_width ..⟩, h.w1, h.w2, h.d⟩
theorem PSt.keep (h : PSt K H pd dr wd c l pl ps) (k : GS dr H H') : PSt K H' pd dr wd c l pl ps :=
  ⟨k.k.kp _ _ h.at_.ne h.h, k.d, h.w1, h.w2, h.pr.keep h.d h.h (k.k.mono fun b hb => by simp at hb; simp [hb]), h.cb⟩
theorem PSt.put (h : PSt K H pd dr wd c l pl ps) (hb : c' + l' ≤ 900) : PSt K (upd H pd (.dK (pdK dr wd c' l' pl))) pd dr wd c' l' pl ps ∧ KT [dr, pd] H (upd H pd (.dK (pdK dr wd c' l' pl))) := by
  have k : KT [dr, pd] H (upd H pd (.dK (pdK dr wd c' l' pl))) := KT.put (by simp) h.h (fun _ z => by cases z) (fun _ _ z => by cases z) (fun _ z => by cases z)
  have ne : dr ≠ pd := fun z => h.at_.ne (by simp [z])
  refine ⟨⟨upd_same, ?_, h.w1, h.w2, h.pr.keep h.d h.h k, hb⟩, k⟩
  obtain ⟨cc, cells, pos, rest, seed, d⟩ := h.d
  refine ⟨cc, cells, pos, rest, seed, ⟨by rw [upd_ne ne]; exact d.hp, ?_, d.nn, d.po, d.re, d.s0, d.s1⟩⟩
  rw [upd_ne (fun z => by have := d.hc; rw [z, h.h] at this; cases this)]
  exact d.hc
theorem NmAt.keepP (h : NmAt H nd nm) (p : PSt K H pd dr wd c l pl ps) (k : KT [dr, pd] H H') : NmAt H' nd nm := by
  refine ⟨k.kp _ _ (fun z => ?_) h.h, h.nd, h.z, h.s, h.l⟩
  simp only [List.mem_cons, List.not_mem_nil, or_false] at z
  rcases z with z | z
  · exact h.ne p.d (by simp [z])
  · have e := h.h
    rw [z, p.h] at e
    have e := HO.dK.inj (Option.some.inj e)
    cases nm with
    | nil => exact absurd (congrArg List.length e) (by show ¬ 5 = 0; decide)
    | cons x r =>
      have e3 : V.ref dr = V.int x.2 := congrArg Prod.snd (List.cons.inj e).1
      cases e3
theorem FrAt.keepP (h : FrAt H fl free nm) (p : PSt K H pd dr wd c l pl ps) (k : KT [dr, pd] H H') : FrAt H' fl free nm := by
  refine ⟨k.kp _ _ (fun z => ?_) h.h, h.nd, h.z, h.i⟩
  simp only [List.mem_cons, List.not_mem_nil, or_false] at z
  rcases z with z | z
  · exact h.ne p.d z
  · have e := h.h
    rw [z, p.h] at e
    cases e
theorem GS.kp (k : GS dr H H') : KT [dr, pd] H H' := k.k.mono fun b hb => by simp at hb; simp [hb]
end
/-- the name of a new local -/
def spFresh (K : PySem.W.Frag) : Sp := fun vs H Q _ => ∃ (pd dr pl : Addr) (wd c l : Nat) (ps : List (Str × Nm)), vs = [.ref pd] ∧ PSt K H pd dr wd c l pl ps ∧ c + l + 1 ≤ 900 ∧
  ∀ H', KT [dr, pd] H H' → PSt K H' pd dr wd (c + 1) l pl ps → Q (.str (tn (c + 1))) H'
theorem ok_z_fresh (T : Txt K mg) : FnOk P w K mg base CX0 1 T.f_z_fresh T.d_z_fresh ["p"] (spFresh K) := by
  refine T.F_z_fresh.ok sc_z_fresh (fun vs H Q E h => ?_) (fun cdv A outer s H vs Q E hr h => ?_)
  · obtain ⟨pd, dr, pl, wd, c, l, ps, rfl, _⟩ := h
    rfl
  · obtain ⟨pd, dr, pl, wd, c, l, ps, rfl, hp, hb, q⟩ := h
    refine ⟨_, (pss_cons (ps_dput (hu_of hr) (pv 0) pe_str (pe_op op_add (pe_dget (hu_of hr) (pv 0) pe_str (fun _ _ => rfl)) pe_int) rfl)
      (pss_one (ps_ret (pe_op op_add_str pe_str (pe_callTy call_str_int (by rfl) T.m_str (by decide +kernel) (pa_cons (pe_dget (hu_of hr) (pv 0) pe_str (fun _ _ => rfl)) pa_nil)))))), ?_⟩
    obtain ⟨p1, k1⟩ := hp.put (c' := c + 1) (l' := l) (by omega)
    refine ⟨_, rfl, _, _, rfl, dget_s hp.h (pd_get_count ..), _, _, rfl, rfl, _, rfl, pd, _, rfl, DPut.k (k := Sum.inr "count") hp.h (show 5 < sizeLine by decide), ?_⟩
    have e : putK (pdK dr wd c l pl) (.inr "count") (.int ((c : Int) + 1)) = pdK dr wd (c + 1) l pl := pd_count dr wd c l pl (c + 1)
    rw [e]
    refine ⟨_, rfl, _, _, rfl, dget_s p1.h (pd_get_count ..), _, rfl, ?_, _, _, rfl, rfl, ?_, q _ k1 p1⟩
    · have h2 : c + 1 < 2 ^ 20 := by have := hp.cb; omega
      have : (((c + 1 : Nat) : Int)).natAbs.log2 < 20 := by
        rw [Int.natAbs_natCast]
        exact (Nat.log2_lt (by omega)).mpr h2
      exact Nat.lt_trans this (by decide)
    · show 1 + (Str.ofString (toString ((c + 1 : Nat) : Int))).cps.size ≤ sizeLine
      rw [← Array.length_toList, PySem.W.KIN.signs_num, List.length_map]
      have h1 := toDigits_len_le 10 (c + 1)
      have h2 := hp.cb
      exact Nat.le_trans (by omega : _ ≤ 60100) (by decide)
/-! ### the names of an expression -/
end
def Ex.ns : Ex → List Str
  | .int _ => []
  | .var x => [x]
  | .cell x i => [x] ++ i.ns
  | .not a => a.ns
  | .op _ a b => a.ns ++ b.ns
theorem Ex.ns_len : ∀ e : Ex, e.ns.length ≤ 2 ^ e.dep
  | .int _ => Nat.zero_le _
  | .var _ => by show 1 ≤ 2 ^ 1; decide
  | .cell x i => by
    have h := i.ns_len
    have p : 0 < 2 ^ i.dep := Nat.pow_pos (by decide)
    show ([x] ++ i.ns).length ≤ 2 ^ (i.dep + 1)
    rw [List.length_append, Nat.pow_succ]
    show 1 + i.ns.length ≤ _
    omega
  | .not a => by
    have h := a.ns_len
    show a.ns.length ≤ 2 ^ (a.dep + 1)
    rw [Nat.pow_succ]
    omega
  | .op _ a b => by
    have h := a.ns_len
    have g := b.ns_len
    show (a.ns ++ b.ns).length ≤ 2 ^ (max a.dep b.dep + 1)
    have h1 : 2 ^ a.dep ≤ 2 ^ max a.dep b.dep := Nat.pow_le_pow_right (by decide) (by omega)
    have h2 : 2 ^ b.dep ≤ 2 ^ max a.dep b.dep := Nat.pow_le_pow_right (by decide) (by omega)
    rw [List.length_append, Nat.pow_succ]
    omega
def Ex.wd : Ex → Str
  | .int _ => "int" | .var _ => "var" | .cell _ _ => "cell" | .not _ => "not" | .op o _ _ => o
def Ex.hd : Ex → List Str
  | .var x => [x] | .cell x _ => [x] | _ => []
def Ex.pt : Ex → List (PyData ⊕ Ex)
  | .int n => [.inl (.int n)] | .var x => [.inl (.str x)] | .cell x i => [.inl (.str x), .inr i] | .not a => [.inr a] | .op _ a b => [.inr a, .inr b]
def ptD : PyData ⊕ Ex → PyData
  | .inl d => d
  | .inr e => e.d
def ptN : PyData ⊕ Ex → List Str
  | .inl _ => []
  | .inr e => e.ns
theorem Ex.d_pt : ∀ e : Ex, e.d = .tuple (.str e.wd :: e.pt.map ptD)
  | .int _ => rfl | .var _ => rfl | .cell _ _ => rfl | .not _ => rfl | .op _ _ _ => rfl
theorem Ex.ns_pt : ∀ e : Ex, e.ns = e.hd ++ e.pt.flatMap ptN
  | .int _ => rfl | .var _ => rfl
  | .cell x i => by simp [Ex.ns, Ex.hd, Ex.pt, ptN]
  | .not a => by simp [Ex.ns, Ex.hd, Ex.pt, ptN]
  | .op _ a b => by simp [Ex.ns, Ex.hd, Ex.pt, ptN]
theorem Ex.pt_ok : ∀ (e : Ex) (p : PyData ⊕ Ex), p ∈ e.pt → (∃ n, p = .inl (.int n)) ∨ (∃ x, p = .inl (.str x)) ∨ ∃ a, p = .inr a ∧ a.dep + 1 ≤ e.dep
  | .int n, p, h => .inl ⟨n, by simpa [Ex.pt] using h⟩
  | .var x, p, h => .inr (.inl ⟨x, by simpa [Ex.pt] using h⟩)
  | .cell x i, p, h => by
    rcases (by simpa [Ex.pt] using h : p = .inl (.str x) ∨ p = .inr i) with h | h
    · exact .inr (.inl ⟨x, h⟩)
    · exact .inr (.inr ⟨i, h, Nat.le_refl _⟩)
  | .not a, p, h => .inr (.inr ⟨a, by simpa [Ex.pt] using h, Nat.le_refl _⟩)
  | .op _ a b, p, h => by
    rcases (by simpa [Ex.pt] using h : p = .inr a ∨ p = .inr b) with h | h
    · exact .inr (.inr ⟨a, h, by show a.dep + 1 ≤ max a.dep b.dep + 1; omega⟩)
    · exact .inr (.inr ⟨b, h, by show b.dep + 1 ≤ max a.dep b.dep + 1; omega⟩)
section
variable {P : Program} {w : World} {K : PySem.W.Frag} {mg : Str → Option Value} {base : Heap}
theorem hd_in {wd : Nat} {nm : Nm} : ∀ {e : Ex}, EOk wd nm e → (e.wd ∈ (["var", "cell"] : List Str) → ∃ x rest, e.pt = .inl (.str x) :: rest ∧ e.hd = [x]) ∧ (e.wd ∉ (["var", "cell"] : List Str) → e.hd = [])
  | .int _, _ => ⟨fun h => absurd h (show ("int" : Str) ∉ (["var", "cell"] : List Str) by decide +kernel), fun _ => rfl⟩
  | .var x, _ => ⟨fun _ => ⟨x, [], rfl, rfl⟩, fun h => absurd (show ("var" : Str) ∈ (["var", "cell"] : List Str) by decide +kernel) h⟩
  | .cell x i, _ => ⟨fun _ => ⟨x, [.inr i], rfl, rfl⟩, fun h => absurd (show ("cell" : Str) ∈ (["var", "cell"] : List Str) by decide +kernel) h⟩
  | .not _, _ => ⟨fun h => absurd h (show ("not" : Str) ∉ (["var", "cell"] : List Str) by decide +kernel), fun _ => rfl⟩
  | .op o _ _, h => ⟨fun z => by
      have := opl_ne h.1
      rcases List.mem_cons.mp z with e | e
      · exact absurd e this.2.1
      · exact absurd (List.mem_singleton.mp e) this.2.2.1, fun _ => rfl⟩
theorem pt_eok {wd : Nat} {nm : Nm} : ∀ {e a : Ex}, EOk wd nm e → .inr a ∈ e.pt → EOk wd nm a
  | .int _, _, _, h => by simp [Ex.pt] at h
  | .var _, _, _, h => by simp [Ex.pt] at h
  | .cell x i, a, k, h => by
    have : a = i := by simpa [Ex.pt] using h
    rw [this]; exact k.2
  | .not i, a, k, h => by
    have : a = i := by simpa [Ex.pt] using h
    rw [this]; exact k
  | .op _ i j, a, k, h => by
    rcases (by simpa [Ex.pt] using h : a = i ∨ a = j) with h | h
    · rw [h]; exact k.2.1
    · rw [h]; exact k.2.2
theorem atI_0 {α : Type} {v : α} {r : List α} : atI (v :: r) 0 = some v := atI_nat (j := 0) rfl
theorem atI_1 {α : Type} {v u : α} {r : List α} : atI (v :: u :: r) 1 = some u := atI_nat (j := 1) rfl
theorem tyx_tup {H : Hp} {a : Addr} {xs : List V} (h : SqT K H a xs) : TyX K H (.ref a) (.type "tuple") := by
  rcases h with (h | ⟨o, h⟩) | ⟨o, _, _, h, c, _⟩
  · exact .base (.tup h)
  · exact .fTuple h
  · exact .kTuple h c
def spNames (K : PySem.W.Frag) (n : Nat) : Sp := fun vs H Q _ => ∃ (v : V) (e : Ex) (wd : Nat) (nm : Nm), vs = [v] ∧ Rp K H v e.d ∧ EOk wd nm e ∧ e.dep ≤ n ∧ e.dep ≤ 9 ∧ ∀ l H', H l = none → KT [] H H' → H' l = some (.lst (e.ns.map V.str)) → Q (.ref l) H'
theorem ok_z_names_of (T : Txt K mg) : ∀ n, FnOk P w K mg base CX0 (n + 1) T.f_z_names_of T.d_z_names_of ["e"] (spNames K n) := by
  intro n
  induction n with
  | zero => exact T.F_z_names_of.ok sc_z_names_of (fun vs H Q E ⟨v, e, wd, nm, h, _⟩ => by rw [h]; rfl) (fun cdv A outer s H vs Q E hr ⟨v, e, wd, nm, _, _, _, h, _⟩ => absurd (Ex.dep_pos e) (by omega))
  | succ n G_z_names_of =>
    refine T.F_z_names_of.ok sc_z_names_of (fun vs H Q E h => ?_) (fun cdv A outer s H vs Q E hr h => ?_)
    · obtain ⟨v, e, wd, nm, rfl, _⟩ := h
      rfl
    · obtain ⟨v, e, wd, nm, rfl, hv, hk, hd, hd9, q⟩ := h
      have hr : Room (n + 1) _ := hr
      rw [Ex.d_pt] at hv
      obtain ⟨a, xs, rfl, hs, ha⟩ := hv.inv
      obtain ⟨v0, parts, rfl, h0, hp⟩ := ha.inv
      rw [h0.sInv] at hs
      have hplen : parts.length = e.pt.length := by rw [hp.length, List.length_map]
      refine ⟨_, (pss_cons (ps_set (i := 1) sc_z_names_of.nd rfl (Or.inl rfl) (pe_lst pa_nil))
      (pss_cons (ps_cut (ps_if (pt_cmpR op_in_seq (pe_ix ix_tup (pv 0) pe_int (fun _ _ => rfl)) (pe_lst (pa_cons pe_str (pa_cons pe_str pa_nil))) (by rfl))
        (pss_one (ps_set (i := 1) sc_z_names_of.nd rfl (Or.inl rfl) (pe_lst (pa_cons (pe_ix ix_tup (pv 0) pe_int (fun _ _ => rfl)) pa_nil))))
        pss_nil))
      (pss_cons (ps_for PassesOwn.never rfl (pi_tup (pe_slice sl_tupA (pv 0) (po_some pe_int) po_none)) (pg_name (i := 2) sc_z_names_of.nd rfl (Or.inl rfl))
        (pss_one (ps_if (pt_val (pe_callB call_isi (by rfl) T.m_isinstance (by decide +kernel) (pa_cons (pv 2) (pa_cons (pe_bltn (v := .ty "tuple") (by rfl) T.m_tuple (by decide +kernel) rfl) pa_nil))))
          (pss_one (ps_set (i := 1) sc_z_names_of.nd rfl (Or.inl rfl) (pe_op op_cat (pv 1) (pe_call G_z_names_of (hr.mono (by omega)) (by rfl) T.g_z_names_of T.F_z_names_of.kp T.b_z_names_of .nil pass0 (pa_cons (pv 2) pa_nil)))))
          pss_nil)))
      (pss_one (ps_ret (pv 1)))))), ?_⟩
      refine ⟨Nat.zero_le _, fun f nf => ?_⟩
      have k0 : KT [] H (upd H f (.lst [])) := KT.new [] nf
      have hs1 := k0.sqT hs
      -- found: nothing, or the name itself
      refine ⟨fun σ H1 => ∃ l, σ = [some (.ref a), some (.ref l), none] ∧ KT [] H H1 ∧ H l = none ∧ H1 l = some (.lst (e.hd.map V.str)), ?_, ?_⟩
      · refine ⟨_, rfl, a, _, 0, _, rfl, rfl, hs1, atI_0, sz2, fun t nt => ⟨t, _, rfl, .inl (SqL.of upd_same), rfl, by decide +kernel, _, rfl, ?_⟩⟩
        have k1 := k0.trans (KT.new [] nt (o := .lst [V.str "var", V.str "cell"]))
        have in2 : inV (V.str e.wd) [V.str "var", V.str "cell"] = decide (e.wd ∈ (["var", "cell"] : List Str)) := inV_strs e.wd ["var", "cell"]
        refine ite2 (fun c => ?_) (fun c => ?_)
        · have c : e.wd ∈ (["var", "cell"] : List Str) := by
            have c : (if false = true then !inV (V.str e.wd) [V.str "var", V.str "cell"] else inV (V.str e.wd) [V.str "var", V.str "cell"]) = true := c
            rw [if_neg (by decide), in2] at c
            exact of_decide_eq_true c
          obtain ⟨x, rest, e1, e2⟩ := (hd_in hk).1 c
          have hp2 := hp
          rw [e1] at hp2
          obtain ⟨u, r, e3, hu, _⟩ := hp2.inv
          rw [show ptD (.inl (.str x)) = PyData.str x from rfl] at hu
          rw [hu.sInv] at e3
          subst e3
          refine ⟨_, rfl, a, _, 1, _, rfl, rfl, k1.sqT hs, atI_1, sz1, fun l nl => ⟨l, rfl, k1.trans (KT.new [] nl), k1.free nl, ?_⟩⟩
          rw [e2]
          exact upd_same
        · have c : e.wd ∉ (["var", "cell"] : List Str) := fun z => c (by
            show (if false = true then !inV (V.str e.wd) [V.str "var", V.str "cell"] else inV (V.str e.wd) [V.str "var", V.str "cell"]) = true
            rw [if_neg (by decide), in2]
            exact decide_eq_true z)
          refine ⟨f, rfl, k1, nf, ?_⟩
          rw [(hd_in hk).2 c, upd_ne (ne_of_none upd_same nt)]
          exact upd_same
      · rintro σ H1 ⟨l, rfl, k1, nl, hl⟩
        have hsl : cutV (V.str e.wd :: parts) (some 1) none = parts := by
          unfold cutV HT.sIx
          simp
        have hpos : 0 < parts.length := by
          rw [hplen]
          cases e <;> simp [Ex.pt]
        refine ⟨_, rfl, _, rfl, a, V.str e.wd :: parts, rfl, k1.sqT hs, (fun z => ?_), fun _ t nt => ?_⟩
        · have z1 := z.1
          rw [show (some 1 : Option Int) = some ((1 : Nat) : Int) from rfl, HT.sIx_nat, List.length_cons] at z1
          omega
        rw [hsl]
        refine ⟨t, rfl, ⟨_, SqT.of upd_same⟩, ?_⟩
        have k2 := k1.trans (KT.new [] nt (o := .tup parts))
        refine for_it (walk_tup (K := K) (a := t) (xs := parts)) (fun i σ H2 => ∃ l u, σ = [some (.ref a), some (.ref l), u] ∧ KT [] H H2 ∧ H l = none ∧ H2 l = some (.lst ((e.hd ++ (e.pt.take i).flatMap ptN).map V.str)) ∧ SqT K H2 t parts)
          ⟨l, _, rfl, k2, nl, ?_, SqT.of upd_same⟩ (fun i σ H2 _ ⟨_, _, _, _, _, _, h⟩ => h) (fun i x σ H2 H3 hi ⟨l2, u2, e0, k3, nl2, hl2, ht⟩ y => ?_) (fun σ H2 ⟨l2, u2, e0, k3, nl2, hl2, _⟩ => ?_)
        · rw [upd_ne (ne_of_none hl nt)]
          simpa using hl
        · obtain ⟨rfl, hx⟩ := y
          subst e0
          obtain ⟨d, hdx, hr2⟩ := hp.get hx
          rw [List.getElem?_map] at hdx
          cases hpt : e.pt[i]? with
          | none => rw [hpt] at hdx; cases hdx
          | some p =>
            rw [hpt] at hdx
            obtain rfl : ptD p = d := Option.some.inj hdx
            have tk : (e.hd ++ (e.pt.take (i + 1)).flatMap ptN) = (e.hd ++ (e.pt.take i).flatMap ptN) ++ ptN p := by
              rw [List.take_succ, hpt]
              simp
            rw [tk]
            have hr3 := hr2.keep k3
            rcases Ex.pt_ok e p (List.mem_of_getElem? hpt) with ⟨m, rfl⟩ | ⟨m, rfl⟩ | ⟨b, rfl, hb⟩
            · rw [show ptD (.inl (.int m)) = PyData.int m from rfl] at hr3
              rw [hr3.iInv]
              refine ⟨_, rfl, _, _, _, _, false, rfl, .ty "tuple", .base (.int m), kit_ty (by decide +kernel), _, rfl, ?_⟩
              exact ⟨l2, _, rfl, k3, nl2, by simpa [ptN] using hl2, ht⟩
            · rw [show ptD (.inl (.str m)) = PyData.str m from rfl] at hr3
              rw [hr3.sInv]
              refine ⟨_, rfl, _, _, _, _, false, rfl, .ty "tuple", .base (.str m), kit_ty (by decide +kernel), _, rfl, ?_⟩
              exact ⟨l2, _, rfl, k3, nl2, by simpa [ptN] using hl2, ht⟩
            · have hr4 : Rp K H3 x b.d := hr3
              have hr5 := hr4
              rw [Ex.d_pt] at hr5
              obtain ⟨a2, ys, rfl, hs2, _⟩ := hr5.inv
              refine ⟨_, rfl, _, _, _, _, true, rfl, .ty "tuple", tyx_tup hs2, kit_ty (by decide +kernel), _, rfl, ?_⟩
              refine ⟨_, rfl, _, rfl, .ref a2, b, wd, nm, rfl, hr4, pt_eok hk (List.mem_of_getElem? hpt), by omega, by omega, fun l3 H4 nl3 k4 hl3 => ?_⟩
              have hl2' := k4.kp _ _ (by simp) hl2
              refine ⟨l2, l3, _, _, rfl, rfl, hl2', hl3, ?_, fun l4 nl4 => ?_⟩
              · rw [List.length_map, List.length_map]
                have h1 : (e.hd ++ (e.pt.take i).flatMap ptN).length ≤ e.ns.length := by
                  rw [Ex.ns_pt]
                  have : e.pt.flatMap ptN = (e.pt.take i).flatMap ptN ++ (e.pt.drop i).flatMap ptN := by rw [← List.flatMap_append, List.take_append_drop]
                  rw [this]
                  simp only [List.length_append]
                  omega
                have h2 := e.ns_len
                have h3 := b.ns_len
                have h4 : 2 ^ e.dep ≤ 2 ^ 9 := Nat.pow_le_pow_right (by decide) hd9
                have h5 : 2 ^ b.dep ≤ 2 ^ 9 := Nat.pow_le_pow_right (by decide) (by omega)
                exact Nat.le_trans (by omega : _ ≤ 2 ^ 9 + 2 ^ 9) (by decide)
              · refine ⟨l4, _, rfl, (k3.trans k4).trans (KT.new [] nl4), (k3.trans k4).free nl4, ?_, (KT.new [] nl4).sqT (k4.sqT ht)⟩
                rw [upd_same, List.map_append (l₂ := ptN (.inr b))]
                rfl
        · subst e0
          rw [hplen, List.take_length, ← Ex.ns_pt] at hl2
          exact ⟨_, rfl, q l2 H2 nl2 k3 hl2⟩
end

end My

set_option Elab.async false
set_option linter.all false
set_option maxRecDepth 100000
set_option maxHeartbeats 4000000
namespace My
open PySem PySem.Spec PyProof.Rows L2
local macro_rules | `(tactic| walk_at "asm") => `(tactic| (refine' of_eq_true (eq_true ?_); assumption))
local macro_rules | `(tactic| walk_at "go1") => `(tactic| first
  | (with_reducible rfl) | walk_at "asm" | (apply And.intro) | (apply Exists.intro)
  | (refine' ite_f (by decide +kernel) ?_) | (refine' ite_t (by decide +kernel) ?_) | (refine' ite_f (dstr_ne (by assumption)) ?_) | (refine' ite_t (dstr_eq (by assumption)) ?_)
  | (exact SqT.of upd_same) | (exact SqL.of upd_same) | (exact SqL.of (by assumption)) | (exact SqT.of (by assumption)) | (exact dget_s (by assumption) (by assumption)) | (exact dget_f (by assumption) (by assumption))
  | (exact Or.inl (by assumption)) | (exact Or.inr (by assumption)) | (exact Or.inl (SqL.of (by assumption))) | (exact Or.inr (SqT.of (by assumption))) | rfl)
local macro_rules | `(tactic| walk_at "go") => `(tactic| repeat' walk_at "go1")

section
variable {P : Program} {w : World} {K : PySem.W.Frag} {mg : Str → Option Value} {base : Heap}
/-- the turns of [x for x in xs if ..], texts; a turn may make new things -/
theorem filt_in {σ : L2.St} {H : Hp} {fl l : Addr} {fs : List Str} {own : Nat} {tt : TT} {Qd : Hp → Prop} (pz : Str → Bool) (hf : H fl = some (.lst (fs.map V.str))) (hz : fs.length ≤ 1001) (ho : decide (own < σ.length) = true) (hl : H l = none)
    (ht : ∀ H1 x, x ∈ fs → KT [] H H1 → ∀ Q : Bool → Hp → Prop, (∀ H2, KT [] H1 H2 → Q (pz x) H2) → tt ((wipe σ [own]).set own (some (.str x))) H1 Q)
    (hd : ∀ H', KT [] H H' → H' l = some (.lst ((fs.filter pz).map V.str)) → Qd H') :
    ∃ W : Nat → Nat → Hp → Prop, (∃ m, W 0 m (upd H l (.lst []))) ∧ ∀ i m H, W i m H →
      ((Itl K fl).stop i H ∧ Qd H) ∨ ((Itl K fl).go i H ∧ ∃ Nx : Hp → Prop, (∀ H', Nx H' → ∃ m', m' < m ∧ W (i + 1) m' H') ∧ ∀ x H', (Itl K fl).yld i H x H' → gName own x (wipe σ [own]) H' fun σ2 H2 => wipe σ2 [own] = wipe σ [own] ∧ tt σ2 H2 fun b H3 =>
        if b = true then tVar own σ2 H3 fun y H4 => ∃ acc, H4 l = some (.lst acc) ∧ acc.length < sizeLine ∧ Nx (upd H4 l (.lst (acc ++ [y]))) else Nx H3) := by
  have ne : fl ≠ l := ne_of_none hf hl
  refine lc_it (walk_list (K := K) (a := fl) (xs := fs.map V.str)) (fun i H1 => KT [] H H1 ∧ H1 l = some (.lst (((fs.take i).filter pz).map V.str))) ⟨KT.late (KT.refl [] H) hl, by simpa using upd_same⟩ (fun i H1 _ e => ?_) (fun i x H1 H2 hi e y => ?_) (fun H1 e => ?_)
  · exact SqL.of (e.1.kp _ _ (by simp) hf)
  · obtain ⟨e2, hx⟩ := y
    rw [List.getElem?_map] at hx
    cases hfx : fs[i]? with
    | none => rw [hfx] at hx; cases hx
    | some y =>
      rw [hfx] at hx
      cases hx
      subst e2
      obtain ⟨k1, hl1⟩ := e
      have hwl : own < (wipe σ [own]).length := by rw [wipe_length]; exact of_decide_eq_true ho
      refine ⟨by simp [wipe, List.set_set], ?_⟩
      refine ht _ y (List.mem_of_getElem? hfx) k1 _ fun H3 k3 => ?_
      have fst := filt_snoc (pz := pz) hfx
      have hl3 := k3.kp _ _ (by simp) hl1
      refine ite2 (fun hp => ?_) (fun hp => ?_)
      · refine ⟨_, List.getElem?_set_self hwl, _, hl3, ?_, ?_⟩
        · rw [List.length_map]
          have := List.length_filter_le pz (fs.take i)
          rw [List.length_take] at this
          exact Nat.lt_of_le_of_lt (by omega : _ ≤ 1001) (by decide)
        · refine ⟨(k1.trans k3).late hl, ?_⟩
          rw [upd_same, fst, if_pos hp, List.map_append]
          rfl
      · refine ⟨k1.trans k3, ?_⟩
        rw [fst, if_neg hp]
        exact hl3
  · rw [List.length_map, List.take_length] at e
    exact hd H1 e.1 e.2
/-- all that the drawing of a statement starts from -/
structure Stt (K : PySem.W.Frag) (H : Hp) (pd nd fl dr pl : Addr) (wd c l : Nat) (ps : List (Str × Nm)) (nm : Nm) (free : List Str) : Prop where
  p : PSt K H pd dr wd c l pl ps
  n : NmAt H nd nm
  f : FrAt H fl free nm
  r : Frs nm c
  z : nm.length ≤ 8 + c
section
variable {H H' : Hp} {pd dr pl nd fl : Addr} {wd c l c' l' : Nat} {ps : List (Str × Nm)} {nm : Nm} {free : List Str}
theorem Stt.keep (h : Stt K H pd nd fl dr pl wd c l ps nm free) (k : GS dr H H') : Stt K H' pd nd fl dr pl wd c l ps nm free := ⟨h.p.keep k, h.n.keep h.p.d k, h.f.keep h.p.d k, h.r, h.z⟩
theorem Stt.keepP (h : Stt K H pd nd fl dr pl wd c l ps nm free) (k : KT [dr, pd] H H') (p : PSt K H' pd dr wd c' l' pl ps) (hc : c ≤ c') : Stt K H' pd nd fl dr pl wd c' l' ps nm free := ⟨p, h.n.keepP h.p k, h.f.keepP h.p k, h.r.mono hc, Nat.le_trans h.z (by omega)⟩
theorem FrAt.sub {fl2 : Addr} {pz : Str → Bool} (h : FrAt H fl free nm) (e : H' fl2 = some (.lst ((free.filter pz).map V.str))) : FrAt H' fl2 (free.filter pz) nm :=
  ⟨e, h.nd.sublist List.filter_sublist, Nat.le_trans (List.length_filter_le ..) h.z, fun x hx => h.i x (List.mem_filter.mp hx).1⟩
end
/-- what a drawn statement is good for -/
def StPost (K : PySem.W.Frag) (Q : VK) (H : Hp) (dr pd pl : Addr) (wd c l : Nat) (ps : List (Str × Nm)) (nm : Nm) (d : Nat) : Prop :=
  ∀ (v : V) (s : Sm) (H' : Hp) (c' l' : Nat), KT [dr, pd] H H' → PSt K H' pd dr wd c' l' pl ps → c ≤ c' → c' + l' ≤ c + l + 1 → Rp K H' v s.d → SOk ps wd nm s → s.dp ≤ 2 * d + 1 → Q v H'
def BdPost (K : PySem.W.Frag) (Q : VK) (H : Hp) (dr pd pl : Addr) (wd c l : Nat) (ps : List (Str × Nm)) (nm : Nm) (d : Nat) : Prop :=
  ∀ (v : V) (b : List Sm) (H' : Hp) (c' l' : Nat), KT [dr, pd] H H' → PSt K H' pd dr wd c' l' pl ps → c ≤ c' → c' + l' ≤ c + l → Rp K H' v (.tuple (bd b)) → BOk ps wd nm b → bdp b ≤ 2 * d + 1 → b.length ≤ 3 → Q v H'
def spStm (K : PySem.W.Frag) (n : Nat) : Sp := fun vs H Q _ => ∃ (pd nd fl dr pl : Addr) (wd c l d : Nat) (ps : List (Str × Nm)) (nm : Nm) (free : List Str), vs = [.ref pd, .ref nd, .ref fl, .int d] ∧ 1 ≤ d ∧ d ≤ n ∧ d ≤ 3 ∧
  Stt K H pd nd fl dr pl wd c l ps nm free ∧ c + l + 1 ≤ 900 ∧ StPost K Q H dr pd pl wd c l ps nm d
def spBody (K : PySem.W.Frag) (n : Nat) : Sp := fun vs H Q _ => ∃ (pd nd fl dr pl : Addr) (wd c l d : Nat) (ps : List (Str × Nm)) (nm : Nm) (free : List Str), vs = [.ref pd, .ref nd, .ref fl, .int d] ∧ d < n ∧ d ≤ 3 ∧
  Stt K H pd nd fl dr pl wd c l ps nm free ∧ BdPost K Q H dr pd pl wd c l ps nm d
theorem Frs.nb {nm : Nm} {c : Nat} (h : Frs nm c) : True := trivial
theorem ok_z_if (T : Txt K mg) (n : Nat) (G_z_body : FnOk P w K mg base CX0 (4 * n + 20) T.f_z_body T.d_z_body ["p", "names", "free", "depth"] (spBody K n)) : FnOk P w K mg base CX0 (4 * n + 22) T.f_z_if T.d_z_if ["p", "names", "free", "depth"] (spStm K n) := by
  have G_z_take := okG_z_take (P := P) (w := w) (base := base) T
  have G_z_expression := (ok_z_expression (P := P) (w := w) (base := base) T 3)
  have G_z_names_of := (ok_z_names_of (P := P) (w := w) (base := base) T 4)
  refine T.F_z_if.ok sc_z_if (fun vs H Q E h => ?_) (fun cdv A outer s H vs Q E hr h => ?_)
  · obtain ⟨pd, nd, fl, dr, pl, wd, c, l, d, ps, nm, free, rfl, _⟩ := h
    rfl
  · obtain ⟨pd, nd, fl, dr, pl, wd, c, l, d, ps, nm, free, rfl, d1, dn, d3, st, cl, q⟩ := h
    have hr : Room (4 * n + 21) _ := hr
    have hd1 : ((d : Int) - 1) = ((d - 1 : Nat) : Int) := by omega
    refine ⟨_, (pss_cons (ps_set (i := 4) sc_z_if.nd rfl (Or.inl rfl) (pe_dget (hu_of hr) (pv 0) pe_str (fun _ _ => rfl)))
      (pss_cons (ps_set (i := 5) sc_z_if.nd rfl (Or.inr rfl) (pe_call G_z_expression (hr.mono (by omega)) (by rfl) T.g_z_expression T.F_z_expression.kp T.b_z_expression .nil pass0 (pa_cons (pv 0) (pa_cons (pv 1) (pa_cons pe_int pa_nil)))))
      (pss_cons (ps_set (i := 6) sc_z_if.nd rfl (Or.inl rfl) (pv 5))
      (pss_cons (ps_setLc (i := 7) (own := [("name", 8)]) (g := gName 8) rfl sc_z_if.nd rfl rfl (sw_true rfl rfl rfl (by decide +kernel)) (pi_list (pv 2)) (blkOk_by (own := [("name", 8)]) (N := N_z_if) (sc := defScope s_z_if) (by decide +kernel)) (fun _ _ _ _ _ => (pg_name (i := 8) sc_z_if.nd rfl (Or.inl rfl))) (fun _ _ _ _ _ => (pts_one (pt_cmpR (opNI (K := K) rfl) (pv 8) (pe_call G_z_names_of (hr.mono (by omega)) (by rfl) T.g_z_names_of T.F_z_names_of.kp T.b_z_names_of .nil pass0 (pa_cons (pv 5) pa_nil)) (by rfl)))) (fun _ _ _ _ _ => (pv 8)))
      (pss_cons (ps_cut (ps_if (pt_cmpR op_eq (pe_call G_z_take (hr.mono (by omega)) (by rfl) T.g_z_take T.F_z_take.kp T.b_z_take .nil pass0 (pa_cons (pv 4) (pa_cons pe_int pa_nil))) pe_int (nomark _))
        (pss_one (ps_set (i := 6) sc_z_if.nd rfl (Or.inl rfl) (pe_call G_z_expression (hr.mono (by omega)) (by rfl) T.g_z_expression T.F_z_expression.kp T.b_z_expression .nil pass0 (pa_cons (pv 0) (pa_cons (pv 1) (pa_cons pe_int pa_nil))))))
        pss_nil))
      (pss_one (ps_ret (pe_tup (pa_cons pe_str (pa_cons (pv 5) (pa_cons (pe_call G_z_body (hr.mono (by omega)) (by rfl) T.g_z_body T.F_z_body.kp T.b_z_body .nil pass0 (pa_cons (pv 0) (pa_cons (pv 1) (pa_cons (pv 7) (pa_cons (pe_op op_sub (pv 3) pe_int) pa_nil))))) (pa_cons (pe_call G_z_body (hr.mono (by omega)) (by rfl) T.g_z_body T.F_z_body.kp T.b_z_body .nil pass0 (pa_cons (pv 0) (pa_cons (pv 1) (pa_cons (pv 7) (pa_cons (pe_op op_sub (pv 3) pe_int) pa_nil))))) (pa_cons (pv 6) pa_nil))))))))))))), ?_⟩
    refine ⟨_, rfl, _, _, rfl, dget_s st.p.h (pd_get_draw ..), ?_⟩
    refine ⟨_, rfl, _, rfl, pd, nd, dr, 2, wd, nm, rfl, by decide, st.p.at_, st.n, fun v1 e1 H1 g1 r1 o1 m1 => ?_⟩
    have s1 := st.keep g1
    refine ⟨_, rfl, ?_⟩
    refine ⟨_, rfl, fl, rfl, ⟨_, SqL.of s1.f.h⟩, fun kl nk => ?_⟩
    refine filt_in (fun y => !decide (y ∈ e1.ns)) s1.f.h (Nat.le_succ_of_le s1.f.z) (by rfl) nk (fun H2 y hy k2 Q q => ?_) (fun H2 k2 hk2 => ?_)
    · refine ⟨_, rfl, _, rfl, v1, e1, wd, nm, rfl, r1.keep k2, o1, by omega, by omega, fun l3 H3 nl3 k3 hl3 => ?_⟩
      refine ⟨l3, _, rfl, .inl (SqL.of hl3), rfl, flat_strs _, _, rfl, ?_⟩
      rw [if_pos rfl, inV_strs]
      exact q _ k3
    have g2 : GS dr H1 H2 := .of0 s1.p.d k2
    have s2 := s1.keep g2
    have f2 := s1.f.sub hk2
    generalize free.filter (fun y => !decide (y ∈ e1.ns)) = kept at f2 hk2
    have g12 := g1.trans g2
    -- the later test
    refine ⟨fun σ H3 => ∃ v2 e2, σ = [some (.ref pd), some (.ref nd), some (.ref fl), some (.int d), some (.ref dr), some v1, some v2, some (.ref kl), none] ∧ GS dr H2 H3 ∧ Rp K H3 v2 e2.d ∧ EO wd nm e2, ?_, ?_⟩
    · refine ⟨_, rfl, dr, 6, rfl, s2.p.d, by decide, by decide, fun r H3 r0 r1' g3 => ?_⟩
      have s3 := s2.keep g3
      refine ⟨rfl, _, rfl, ite2 (fun e => ?_) (fun e => ?_)⟩
      · refine ⟨_, rfl, _, rfl, pd, nd, dr, 1, wd, nm, rfl, by decide, s3.p.at_, s3.n, fun v2 e2 H4 g4 r2 o2 m2 => ?_⟩
        exact ⟨v2, e2, rfl, g3.trans g4, r2, o2, by omega⟩
      · exact ⟨v1, e1, rfl, g3, (r1.keep g2.k).keep g3.k, o1, by omega⟩
    rintro σ H3 ⟨v2, e2, rfl, g3, r2, o2⟩
    have s3 := s2.keep g3
    have f3 := f2.keep s2.p.d g3
    have gA := g12.trans g3
    have harg : [V.ref pd, V.ref nd, V.ref kl, V.int ((d : Int) - 1)] = [V.ref pd, V.ref nd, V.ref kl, V.int ((d - 1 : Nat) : Int)] := by rw [hd1]
    refine ⟨_, rfl, _, rfl, _, rfl, _, rfl, _, rfl, _, _, rfl, rfl, pd, nd, kl, dr, pl, wd, c, l, d - 1, ps, nm, kept, harg, by omega, by omega, ⟨s3.p, s3.n, f3, s3.r, s3.z⟩, ?_⟩
    intro va ba H4 c4 l4 k4 p4 c4' b4 ra oa ma _
    have s4 := s3.keepP k4 p4 c4'
    have f4 := f3.keepP s3.p k4
    refine ⟨_, rfl, _, rfl, _, rfl, _, rfl, _, _, rfl, rfl, pd, nd, kl, dr, pl, wd, c4, l4, d - 1, ps, nm, kept, harg, by omega, by omega, ⟨s4.p, s4.n, f4, s4.r, s4.z⟩, ?_⟩
    intro vb bb H5 c5 l5 k5 p5 c5' b5 rb ob mb _
    refine ⟨_, rfl, sz5, fun t nt => ?_⟩
    have kA := (gA.kp (pd := pd)).trans (k4.trans k5)
    have kn := KT.new [dr, pd] nt (o := .tup [V.str "if", v1, va, vb, v2])
    refine q _ (.ite e1 ba bb e2) _ c5 l5 (kA.trans kn) (p5.keep (GS.new p5.d nt)) (by omega) (by omega) (.made nt ?_) ⟨⟨o1, by omega⟩, o2, oa, ob⟩ ?_
    · exact .cons (.str _) (.cons ((((r1.keep g2.k).keep g3.k).keep k4).keep k5) (.cons (ra.keep k5) (.cons rb (.cons ((r2.keep k4).keep k5) .nil))))
    · show max (bdp ba) (bdp bb) + 1 ≤ 2 * d + 1
      omega
end

end My

set_option Elab.async false
set_option linter.all false
set_option maxRecDepth 100000
set_option maxHeartbeats 4000000
namespace My
open PySem PySem.Spec PyProof.Rows L2
local macro_rules | `(tactic| walk_at "asm") => `(tactic| (refine' of_eq_true (eq_true ?_); assumption))
local macro_rules | `(tactic| walk_at "go1") => `(tactic| first
  | (with_reducible rfl) | walk_at "asm" | (apply And.intro) | (apply Exists.intro)
  | (refine' ite_f (by decide +kernel) ?_) | (refine' ite_t (by decide +kernel) ?_) | (refine' ite_f (dstr_ne (by assumption)) ?_) | (refine' ite_t (dstr_eq (by assumption)) ?_)
  | (exact SqT.of upd_same) | (exact SqL.of upd_same) | (exact SqL.of (by assumption)) | (exact SqT.of (by assumption)) | (exact dget_s (by assumption) (by assumption)) | (exact dget_f (by assumption) (by assumption))
  | (exact Or.inl (by assumption)) | (exact Or.inr (by assumption)) | (exact Or.inl (SqL.of (by assumption))) | (exact Or.inr (SqT.of (by assumption))) | rfl)
local macro_rules | `(tactic| walk_at "go") => `(tactic| repeat' walk_at "go1")

section
variable {P : Program} {w : World} {K : PySem.W.Frag} {mg : Str → Option Value} {base : Heap}
theorem mk_tup {dr p : Addr} {H : Hp} {vs : List V} {ds : List PyData} (D : DrawAt H dr) (n : H p = none) (r : RpA K H vs ds) : GS dr H (upd H p (.tup vs)) ∧ Rp K (upd H p (.tup vs)) (.ref p) (.tuple ds) := ⟨.new D n, .made n r⟩
theorem cat_j {dr : Addr} {H : Hp} {x y : V} {ds es : List PyData} {J : V → Hp → Prop} (D : DrawAt H dr) (ha : Rp K H x (.tuple ds)) (hb : Rp K H y (.tuple es)) (hl : ds.length + es.length ≤ 1000)
    (hJ : ∀ v H', GS dr H H' → Rp K H' v (.tuple (ds ++ es)) → J v H') : rCatA K x y H J := by
  obtain ⟨a, xs, rfl, hs, hx⟩ := ha.inv
  obtain ⟨b, ys, rfl, ht, hy⟩ := hb.inv
  have l1 := hx.length
  have l2 := hy.length
  refine ⟨a, b, xs, ys, rfl, rfl, hs, ht, Nat.le_trans (by omega : _ ≤ 1000) (by decide), fun e => ?_, fun e1 e => ?_, fun e1 e2 p np => ?_⟩
  · subst e
    have : ds = [] := List.eq_nil_of_length_eq_zero l1.symm
    subst this
    exact hJ _ _ (.refl D) hb
  · subst e
    have : es = [] := List.eq_nil_of_length_eq_zero l2.symm
    subst this
    exact hJ _ _ (.refl D) (by rw [List.append_nil]; exact ha)
  · exact hJ _ _ (.new D np) (.made np (hx.app hy))
theorem lookup_app {nm : Nm} {x y : Str} {s : Int} (h : nm.lookup x = some s) : (nm ++ [(y, 0)]).lookup x = some s := by
  rw [List.lookup_append, h]
  rfl
theorem lookup_new {nm : Nm} {x : Str} (h : nm.lookup x = none) : (nm ++ [(x, 0)]).lookup x = some 0 := by
  rw [List.lookup_append, h]
  simp
theorem nm_add {nm : Nm} {x : Str} (h : nm.lookup x = none) : putK (nmK nm) (.inr x) (.int 0) = nmK (nm ++ [(x, 0)]) := by
  rw [putK_new _ (by rw [valV_nm, h]; rfl)]
  unfold nmK
  rw [List.map_append]
  rfl
theorem NmAt.add {H : Hp} {f : Addr} {nm : Nm} {x : Str} {o : HO} (hx : nm.lookup x = none) (h : NmAt (upd H f o) f nm) (hz : nm.length < 1000) (hl : (PyData.str x).canLay0 = true) : NmAt (upd H f (.dK (nmK (nm ++ [(x, 0)])))) f (nm ++ [(x, 0)]) := by
  refine ⟨upd_same, ?_, by rw [List.length_append]; exact hz, fun p hp => ?_, fun p hp => ?_⟩
  · rw [List.map_append, List.nodup_append]
    refine ⟨h.nd, by simp, fun a ha b hb e => ?_⟩
    have hb : b = x := by simpa using hb
    obtain ⟨p, hp, rfl⟩ := List.mem_map.mp ha
    have := lookup_mem h.nd (x := p.1) (s := p.2) hp
    rw [e, hb, hx] at this
    cases this
  · rcases List.mem_append.mp hp with z | z
    · exact h.s p z
    · rw [List.mem_singleton.mp z]
      exact Int.le_refl 0
  · rcases List.mem_append.mp hp with z | z
    · exact h.l p z
    · rw [List.mem_singleton.mp z]
      exact hl
theorem FrAt.app {H : Hp} {fl : Addr} {free : List Str} {nm : Nm} {x : Str} (h : FrAt H fl free nm) : FrAt H fl free (nm ++ [(x, 0)]) := ⟨h.h, h.nd, h.z, fun y hy => let ⟨s, e⟩ := h.i y hy; ⟨s, lookup_app e⟩⟩
theorem ok_z_loop (T : Txt K mg) (n : Nat) (G_z_body : FnOk P w K mg base CX0 (4 * n + 20) T.f_z_body T.d_z_body ["p", "names", "free", "depth"] (spBody K n)) : FnOk P w K mg base CX0 (4 * n + 22) T.f_z_loop T.d_z_loop ["p", "names", "free", "depth"] (spStm K n) := by
  have G_z_take := okG_z_take (P := P) (w := w) (base := base) T
  have G_z_expression := (ok_z_expression (P := P) (w := w) (base := base) T 3)
  have G_z_fresh := ok_z_fresh (P := P) (w := w) (base := base) T
  have G_z_top := ok_z_top (P := P) (w := w) (base := base) T
  have G_z_without := ok_z_without (P := P) (w := w) (base := base) T
  refine T.F_z_loop.ok sc_z_loop (fun vs H Q E h => ?_) (fun cdv A outer s H vs Q E hr h => ?_)
  · obtain ⟨pd, nd, fl, dr, pl, wd, c, l, d, ps, nm, free, rfl, _⟩ := h
    rfl
  · obtain ⟨pd, nd, fl, dr, pl, wd, c, l, d, ps, nm, free, rfl, d1, dn, d3, st, cl, q⟩ := h
    have hr : Room (4 * n + 21) _ := hr
    have hd1 : ((d : Int) - 1) = ((d - 1 : Nat) : Int) := by omega
    have p2 := pow2_two st.p.w1
    refine ⟨_, (pss_cons (ps_set (i := 4) sc_z_loop.nd rfl (Or.inl rfl) (pe_dget (hu_of hr) (pv 0) pe_str (fun _ _ => rfl)))
      (pss_cons (ps_set (i := 5) sc_z_loop.nd rfl (Or.inl rfl) (pe_call G_z_fresh (hr.mono (by omega)) (by rfl) T.g_z_fresh T.F_z_fresh.kp T.b_z_fresh .nil pass0 (pa_cons (pv 0) pa_nil)))
      (pss_cons (ps_set (i := 6) sc_z_loop.nd rfl (Or.inl rfl) (pe_callB (call_min2 rfl) (by rfl) T.m_min (by decide +kernel) (pa_cons (pe_op op_add pe_int (pe_call G_z_take (hr.mono (by omega)) (by rfl) T.g_z_take T.F_z_take.kp T.b_z_take .nil pass0 (pa_cons (pv 4) (pa_cons pe_int pa_nil)))) (pa_cons (pe_call G_z_top (hr.mono (by omega)) (by rfl) T.g_z_top T.F_z_top.kp T.b_z_top .nil pass0 (pa_cons (pe_dget (hu_of hr) (pv 0) pe_str (fun _ _ => rfl)) pa_nil)) pa_nil))))
      (pss_cons (ps_set (i := 7) sc_z_loop.nd rfl (Or.inl rfl) (pe_call G_z_without (hr.mono (by omega)) (by rfl) T.g_z_without T.F_z_without.kp T.b_z_without .nil pass0 (pa_cons (pv 1) (pa_cons (pe_lst pa_nil) pa_nil))))
      (pss_cons (ps_dput (hu_of hr) (pv 7) (pv 5) pe_int rfl)
      (pss_cons (ps_set (i := 8) sc_z_loop.nd rfl (Or.inl rfl) (pe_tup (pa_cons pe_str (pa_cons (pe_tup (pa_cons pe_str (pa_cons (pv 5) pa_nil))) (pa_cons (pe_tup (pa_cons pe_str (pa_cons pe_int pa_nil))) pa_nil)))))
      (pss_cons (ps_set (i := 9) sc_z_loop.nd rfl (Or.inl rfl) (pe_cut (pe_op op_catA (pe_call G_z_body (hr.mono (by omega)) (by rfl) T.g_z_body T.F_z_body.kp T.b_z_body .nil pass0 (pa_cons (pv 0) (pa_cons (pv 7) (pa_cons (pv 2) (pa_cons (pe_op op_sub (pv 3) pe_int) pa_nil))))) (pe_tup (pa_cons (pv 8) pa_nil)))))
      (pss_cons (ps_set (i := 10) sc_z_loop.nd rfl (Or.inl rfl) (pe_call G_z_body (hr.mono (by omega)) (by rfl) T.g_z_body T.F_z_body.kp T.b_z_body .nil pass0 (pa_cons (pv 0) (pa_cons (pv 7) (pa_cons (pv 2) (pa_cons (pe_op op_sub (pv 3) pe_int) pa_nil))))))
      (pss_cons (ps_set (i := 11) sc_z_loop.nd rfl (Or.inl rfl) (pe_tup (pa_cons pe_str (pa_cons (pe_tup (pa_cons pe_str (pa_cons (pv 5) pa_nil))) (pa_cons (pe_tup (pa_cons pe_str (pa_cons (pv 6) pa_nil))) pa_nil)))))
      (pss_cons (ps_cut (ps_if (pt_cmpR op_eq (pe_call G_z_take (hr.mono (by omega)) (by rfl) T.g_z_take T.F_z_take.kp T.b_z_take .nil pass0 (pa_cons (pv 4) (pa_cons pe_int pa_nil))) pe_int (nomark _))
        (pss_one (ps_set (i := 11) sc_z_loop.nd rfl (Or.inl rfl) (pe_call G_z_expression (hr.mono (by omega)) (by rfl) T.g_z_expression T.F_z_expression.kp T.b_z_expression .nil pass0 (pa_cons (pv 0) (pa_cons (pv 7) (pa_cons pe_int pa_nil))))))
        pss_nil))
      (pss_cons (ps_set (i := 12) sc_z_loop.nd rfl (Or.inl rfl) (pe_tup (pa_cons pe_str (pa_cons (pe_tup (pa_cons pe_str (pa_cons (pe_tup (pa_cons pe_str (pa_cons (pv 5) pa_nil))) (pa_cons (pe_tup (pa_cons pe_str (pa_cons pe_int pa_nil))) pa_nil)))) (pa_cons (pv 9) (pa_cons (pv 10) (pa_cons (pv 11) pa_nil)))))))
      (pss_one (ps_ret (pe_tup (pa_cons pe_str (pa_cons (pv 5) (pa_cons (pe_tup (pa_cons pe_str (pa_cons pe_int pa_nil))) (pa_cons (pe_tup (pa_cons (pv 12) pa_nil)) (pa_cons (pe_tup (pa_cons pe_str (pa_cons (pv 6) pa_nil))) pa_nil))))))))))))))))))), ?_⟩
    refine ⟨_, rfl, _, _, rfl, dget_s st.p.h (pd_get_draw ..), ?_⟩
    refine ⟨_, rfl, pd, dr, pl, wd, c, l, ps, rfl, st.p, cl, fun H1 k1 p1 => ?_⟩
    have s1 := st.keepP k1 p1 (Nat.le_succ c)
    have hx : nm.lookup (tn (c + 1)) = none := st.r.fresh (by omega)
    have hxl := tn_lay (c + 1)
    have fr2 : Frs (nm ++ [(tn (c + 1), 0)]) (c + 1) := (st.r.mono (Nat.le_succ c)).add
    have loc : LocN (tn (c + 1)) := .inr ⟨c + 1, by omega, rfl⟩
    generalize tn (c + 1) = x at hx hxl fr2 loc ⊢
    refine ⟨_, rfl, dr, 3, rfl, p1.d, by decide, by decide, fun r H2 r0 r1 g2 => ?_⟩
    have s2 := s1.keep g2
    refine ⟨_, _, rfl, rfl, _, rfl, _, _, rfl, dget_s s2.p.h (pd_get_width ..), wd, rfl, s2.p.w2, _, _, rfl, ?_⟩
    -- the number of turns
    have hm : ∃ m : Int, (if (2 : Int) ^ wd - 1 < 1 + r then (2 : Int) ^ wd - 1 else 1 + r) = m ∧ 0 ≤ m ∧ m < 2 ^ wd := ⟨_, rfl, by split <;> omega, by split <;> omega⟩
    obtain ⟨m, em, m0, m1⟩ := hm
    rw [em]
    refine ⟨_, rfl, Nat.zero_le _, fun l1 nl1 => ?_⟩
    have g3 : GS dr H2 (upd H2 l1 (.lst [])) := .new s2.p.d nl1
    have s3 := s2.keep g3
    have hnd := s2.n.h
    refine ⟨nd, l1, nm, [], rfl, s3.n, SqL.of upd_same, (fun z => by rw [z, hnd] at nl1; cases nl1), fun f nf hfA => ?_⟩
    rw [wo_nil] at hfA ⊢
    have ad := NmAt.add hx hfA (by have := st.z; omega) hxl
    refine ⟨_, rfl, _, rfl, f, _, rfl, DPut.k (k := Sum.inr x) upd_same (by rw [nmK_length]; exact small1000 s3.n.z), ?_⟩
    rw [upd_upd, nm_add hx]
    have g4 : GS dr (upd H2 l1 (.lst [])) (upd (upd H2 l1 (.lst [])) f (.dK (nmK (nm ++ [(x, 0)])))) := .new s3.p.d nf
    have g24 := g3.trans g4
    generalize upd (upd H2 l1 (.lst [])) f (.dK (nmK (nm ++ [(x, 0)]))) = H4 at ad g4 g24 ⊢
    have s4 := s2.keep g24
    have sI : Stt K H4 pd f fl dr pl wd (c + 1) l ps (nm ++ [(x, 0)]) free := ⟨s4.p, ad, s4.f.app, fr2, by rw [List.length_append]; have := st.z; simp; omega⟩
    have hxn := lookup_new hx
    have kA : KT [dr, pd] H H4 := k1.trans ((g2.trans g24).kp)
    -- one
    refine ⟨_, rfl, sz2, fun t1 n1 => ?_⟩
    obtain ⟨g5, r5⟩ := mk_tup (K := K) sI.p.d n1 (.cons (.str "var") (.cons (.str x) .nil))
    generalize upd _ t1 _ = H5 at g5 r5 ⊢
    refine ⟨sz2, fun t2 n2 => ?_⟩
    obtain ⟨g6, r6⟩ := mk_tup (K := K) g5.d n2 (.cons (.str "int") (.cons (.int 1) .nil))
    generalize upd _ t2 _ = H6 at g6 r6 ⊢
    refine ⟨sz3, fun t0 n0 => ?_⟩
    obtain ⟨g7, r7⟩ := mk_tup (K := K) g6.d n0 (.cons (.str "plus") (.cons (r5.keep g6.k) (.cons r6 .nil)))
    generalize upd _ t0 _ = H7 at g7 r7 ⊢
    have r7 : Rp K H7 (.ref t0) (Sm.chg "plus" (.var x) (.int 1)).d := r7
    have g57 := (g5.trans g6).trans g7
    have s7 := sI.keep g57
    have harg : [V.ref pd, V.ref f, V.ref fl, V.int ((d : Int) - 1)] = [V.ref pd, V.ref f, V.ref fl, V.int ((d - 1 : Nat) : Int)] := by rw [hd1]
    -- the first body
    refine ⟨fun v H' => ∃ ba c8 l8, KT [dr, pd] H7 H' ∧ PSt K H' pd dr wd c8 l8 pl ps ∧ c + 1 ≤ c8 ∧ c8 + l8 ≤ c + 1 + l ∧ Rp K H' v (.tuple (bd (ba ++ [Sm.chg "plus" (.var x) (.int 1)]))) ∧ BOk ps wd (nm ++ [(x, 0)]) ba ∧ bdp ba ≤ 2 * (d - 1) + 1, ?_, ?_⟩
    · refine ⟨_, rfl, _, rfl, _, rfl, _, rfl, _, _, rfl, rfl, pd, f, fl, dr, pl, wd, c + 1, l, d - 1, ps, nm ++ [(x, 0)], free, harg, by omega, by omega, s7, ?_⟩
      intro va ba H8 c8 l8 k8 p8 c8' b8 ra oa ma la
      refine ⟨_, rfl, sz1, fun t4 n4 => ?_⟩
      obtain ⟨g9, r9⟩ := mk_tup (K := K) p8.d n4 (.cons (r7.keep k8) .nil)
      generalize upd _ t4 _ = H9 at g9 r9 ⊢
      refine cat_j g9.d (ra.keep g9.k) r9 (by rw [bd_len]; show ba.length + 1 ≤ 1000; omega) (fun v H10 g10 r10 => ⟨ba, c8, l8, k8.trans ((g9.trans g10).kp), p8.keep (g9.trans g10), c8', b8, ?_, oa, ma⟩)
      rw [bd_app]
      exact r10
    rintro v1 H8 ⟨ba, c8, l8, k8, p8, c8', b8, r8, oa, ma⟩
    have s8 := s7.keepP k8 p8 c8'
    -- the second body
    refine ⟨_, rfl, _, rfl, _, rfl, _, rfl, _, _, rfl, rfl, pd, f, fl, dr, pl, wd, c8, l8, d - 1, ps, nm ++ [(x, 0)], free, harg, by omega, by omega, s8, ?_⟩
    intro v2 bb H9 c9 l9 k9 p9 c9' b9 r9 ob mb lb
    have s9 := s8.keepP k9 p9 c9'
    -- the last test
    refine ⟨_, rfl, sz2, fun t1 n1 => ?_⟩
    obtain ⟨g10, r10⟩ := mk_tup (K := K) p9.d n1 (.cons (.str "var") (.cons (.str x) .nil))
    generalize upd _ t1 _ = H10 at g10 r10 ⊢
    refine ⟨_, rfl, sz2, fun t2 n2 => ?_⟩
    obtain ⟨g11, r11⟩ := mk_tup (K := K) g10.d n2 (.cons (.str "int") (.cons (.int m) .nil))
    generalize upd _ t2 _ = H11 at g11 r11 ⊢
    refine ⟨sz3, fun t3 n3 => ?_⟩
    obtain ⟨g12, r12⟩ := mk_tup (K := K) g11.d n3 (.cons (.str "equal") (.cons (r10.keep g11.k) (.cons r11 .nil)))
    generalize upd _ t3 _ = H12 at g12 r12 ⊢
    have r12 : Rp K H12 (.ref t3) (Ex.op "equal" (.var x) (.int m)).d := r12
    have g912 := (g10.trans g11).trans g12
    have s12 := s9.keep g912
    have eo : EO wd (nm ++ [(x, 0)]) (Ex.op "equal" (.var x) (.int m)) := ⟨⟨by decide +kernel, hxn, m0, m1⟩, (show 2 ≤ 4 by decide)⟩
    refine ⟨fun σ H' => ∃ v3 e3, σ = [some (.ref pd), some (.ref nd), some (.ref fl), some (.int d), some (.ref dr), some (.str x), some (.int m), some (.ref f), some (.ref t0), some v1, some v2, some v3, none] ∧ GS dr H12 H' ∧ Rp K H' v3 e3.d ∧ EO wd (nm ++ [(x, 0)]) e3, ?_, ?_⟩
    · refine ⟨_, rfl, dr, 8, rfl, s12.p.d, by decide, by decide, fun r H13 r0 r1' g13 => ?_⟩
      have s13 := s12.keep g13
      refine ⟨rfl, _, rfl, ite2 (fun e => ?_) (fun e => ?_)⟩
      · refine ⟨_, rfl, _, rfl, pd, f, dr, 1, wd, nm ++ [(x, 0)], rfl, by decide, s13.p.at_, s13.n, fun v3 e3 H14 g14 r3 o3 m3 => ?_⟩
        exact ⟨v3, e3, rfl, g13.trans g14, r3, o3, by omega⟩
      · exact ⟨_, _, rfl, g13, r12.keep g13.k, eo⟩
    rintro σ H13 ⟨v3, e3, rfl, g13, r3, o3⟩
    have s13 := s12.keep g13
    -- the loop
    refine ⟨_, rfl, sz2, fun t4 n4 => ?_⟩
    obtain ⟨g14, r14⟩ := mk_tup (K := K) s13.p.d n4 (.cons (.str "var") (.cons (.str x) .nil))
    generalize upd _ t4 _ = H14 at g14 r14 ⊢
    refine ⟨sz2, fun t5 n5 => ?_⟩
    obtain ⟨g15, r15⟩ := mk_tup (K := K) g14.d n5 (.cons (.str "int") (.cons (.int 0) .nil))
    generalize upd _ t5 _ = H15 at g15 r15 ⊢
    refine ⟨sz3, fun t6 n6 => ?_⟩
    obtain ⟨g16, r16⟩ := mk_tup (K := K) g15.d n6 (.cons (.str "equal") (.cons (r14.keep g15.k) (.cons r15 .nil)))
    generalize upd _ t6 _ = H16 at g16 r16 ⊢
    have r16 : Rp K H16 (.ref t6) (Ex.op "equal" (.var x) (.int 0)).d := r16
    have gg := (g14.trans g15).trans g16
    refine ⟨_, rfl, _, rfl, _, rfl, sz5, fun t7 n7 => ?_⟩
    have k816 : KT [dr, pd] H8 H16 := k9.trans (((g912.trans g13).trans gg).kp)
    have k916 : KT [dr, pd] H9 H16 := (((g912.trans g13).trans gg).kp)
    obtain ⟨g17, r17⟩ := mk_tup (K := K) g16.d n7 (.cons (.str "loop") (.cons r16 (.cons (r8.keep k816) (.cons (r9.keep k916) (.cons (r3.keep gg.k) .nil)))))
    generalize upd _ t7 _ = H17 at g17 r17 ⊢
    have r17 : Rp K H17 (.ref t7) (Sm.loop (.op "equal" (.var x) (.int 0)) (ba ++ [Sm.chg "plus" (.var x) (.int 1)]) bb e3).d := r17
    -- the local
    refine ⟨_, rfl, sz2, fun t8 n8 => ?_⟩
    obtain ⟨g18, r18⟩ := mk_tup (K := K) g17.d n8 (.cons (.str "int") (.cons (.int 0) .nil))
    generalize upd _ t8 _ = H18 at g18 r18 ⊢
    refine ⟨_, rfl, sz1, fun t9 n9 => ?_⟩
    obtain ⟨g19, r19⟩ := mk_tup (K := K) g18.d n9 (.cons (r17.keep g18.k) .nil)
    generalize upd _ t9 _ = H19 at g19 r19 ⊢
    refine ⟨_, rfl, sz2, fun ta na => ?_⟩
    obtain ⟨g20, r20⟩ := mk_tup (K := K) g19.d na (.cons (.str "int") (.cons (.int m) .nil))
    generalize upd _ ta _ = H20 at g20 r20 ⊢
    refine ⟨sz5, fun tb nb => ?_⟩
    have r18 : Rp K H18 (.ref t8) (Ex.int 0).d := r18
    have r20 : Rp K H20 (.ref ta) (Ex.int m).d := r20
    obtain ⟨g21, r21⟩ := mk_tup (K := K) g20.d nb (.cons (.str "local") (.cons (.str x) (.cons ((r18.keep g19.k).keep g20.k) (.cons (r19.keep g20.k) (.cons r20 .nil)))))
    generalize upd _ tb _ = H21 at g21 r21 ⊢
    have gz := ((((g912.trans g13).trans gg).trans g17).trans ((g18.trans g19).trans (g20.trans g21)))
    have kz : KT [dr, pd] H H21 := (kA.trans (g57.kp)).trans ((k8.trans k9).trans gz.kp)
    have r22 : Rp K H21 (.ref tb) (Sm.loc x (.int 0) [.loop (.op "equal" (.var x) (.int 0)) (ba ++ [.chg "plus" (.var x) (.int 1)]) bb e3] (.int m)).d := by
      rw [Sm.d, bd, bd]
      exact r21
    refine q _ (.loc x (.int 0) [.loop (.op "equal" (.var x) (.int 0)) (ba ++ [.chg "plus" (.var x) (.int 1)]) bb e3] (.int m)) _ c9 l9 kz (p9.keep gz) (by omega) (by omega) r22 ?_ ?_
    · have p2' : (0 : Int) < 2 ^ wd := pow2_pos wd
      refine ⟨hx, loc, ⟨⟨Int.le_refl 0, p2'⟩, (show 1 ≤ 4 by decide)⟩, ⟨⟨m0, m1⟩, (show 1 ≤ 4 by decide)⟩, ⟨⟨⟨by decide +kernel, hxn, Int.le_refl 0, p2'⟩, (show 2 ≤ 4 by decide)⟩, o3, bok_app oa ⟨⟨by decide +kernel, hxn, (show 1 ≤ 4 by decide), ⟨by decide, p2⟩, (show 1 ≤ 4 by decide)⟩, trivial⟩, ob⟩, trivial⟩
    · show max (max (bdp (ba ++ [Sm.chg "plus" (.var x) (.int 1)])) (bdp bb) + 1) 0 + 1 ≤ 2 * d + 1
      rw [bdp_app]
      show max (max (max (bdp ba) (max 1 0)) (bdp bb) + 1) 0 + 1 ≤ 2 * d + 1
      omega
end

end My

set_option Elab.async false
set_option linter.all false
set_option maxRecDepth 100000
set_option maxHeartbeats 4000000
namespace My
open PySem PySem.Spec PyProof.Rows L2
local macro_rules | `(tactic| walk_at "asm") => `(tactic| (refine' of_eq_true (eq_true ?_); assumption))
local macro_rules | `(tactic| walk_at "go1") => `(tactic| first
  | (with_reducible rfl) | walk_at "asm" | (apply And.intro) | (apply Exists.intro)
  | (refine' ite_f (by decide +kernel) ?_) | (refine' ite_t (by decide +kernel) ?_) | (refine' ite_f (dstr_ne (by assumption)) ?_) | (refine' ite_t (dstr_eq (by assumption)) ?_)
  | (exact SqT.of upd_same) | (exact SqL.of upd_same) | (exact SqL.of (by assumption)) | (exact SqT.of (by assumption)) | (exact dget_s (by assumption) (by assumption)) | (exact dget_f (by assumption) (by assumption))
  | (exact Or.inl (by assumption)) | (exact Or.inr (by assumption)) | (exact Or.inl (SqL.of (by assumption))) | (exact Or.inr (SqT.of (by assumption))) | rfl)
local macro_rules | `(tactic| walk_at "go") => `(tactic| repeat' walk_at "go1")

section
variable {P : Program} {w : World} {K : PySem.W.Frag} {mg : Str → Option Value} {base : Heap}
/-! ### procedures to call -/
theorem rows_lay : ∀ (nm : Nm), (∀ r ∈ nm, (PyData.str r.1).canLay0 = true) → PyData.canLayAll0 (nm.map fun r => .tuple [.str r.1, .int r.2]) = true ∧ PyData.depthAll (nm.map fun r => .tuple [.str r.1, .int r.2]) ≤ 1
  | [], _ => ⟨rfl, Nat.zero_le _⟩
  | r :: rs, h => by
    obtain ⟨h1, h2⟩ := rows_lay rs fun x hx => h x (List.mem_cons_of_mem _ hx)
    refine ⟨?_, ?_⟩
    · show (((PyData.str r.1).canLay0 && true) && PyData.canLayAll0 (rs.map fun r => .tuple [.str r.1, .int r.2])) = true
      rw [h1, h r List.mem_cons_self]
      rfl
    · show max (PyData.depth (.tuple [.str r.1, .int r.2])) (PyData.depthAll (rs.map fun r => .tuple [.str r.1, .int r.2])) ≤ 1
      exact Nat.max_le.mpr ⟨Nat.le_refl 1, h2⟩
theorem procs_dp {H : Hp} : ∀ {vs : List V} {ps : List (Str × Nm)}, Paired (ProcOk K H) vs ps → (∀ p ∈ ps, (PyData.str p.1).canLay0 = true ∧ ∀ r ∈ p.2, (PyData.str r.1).canLay0 = true) → ∃ ds, DpAll K H vs ds ∧ ds.length = ps.length ∧ PyData.canLayAll0 ds = true ∧ PyData.depthAll ds ≤ 3
  | _, _, .nil, _ => ⟨[], .nil, rfl, rfl, Nat.zero_le _⟩
  | _, _, .cons (b := p) r t, h => by
    obtain ⟨ds, h1, h2, h3, h4⟩ := procs_dp t fun q hq => h q (List.mem_cons_of_mem _ hq)
    obtain ⟨t, q, rows, rfl, e2, e3, e4⟩ := r
    obtain ⟨l1, l2⟩ := h p List.mem_cons_self
    obtain ⟨r1, r2⟩ := rows_lay p.2 l2
    have key : ∃ d, Dp K H (.ref q) d ∧ d.canLay0 = true ∧ d.depth ≤ 2 := by
      rcases e3 with e3 | e3
      · exact ⟨.list (p.2.map fun (r : Str × Int) => .tuple [.str r.1, .int r.2]), .lst (SqL.of e3) e4.dp, r1, Nat.succ_le_succ r2⟩
      · exact ⟨.tuple (p.2.map fun (r : Str × Int) => .tuple [.str r.1, .int r.2]), .tup (SqT.of e3) e4.dp, r1, Nat.succ_le_succ r2⟩
    obtain ⟨d, d1, d2, d3⟩ := key
    refine ⟨.tuple [.str p.1, d] :: ds, .cons (.tup (SqT.of e2) (.cons (.str _) (.cons d1 .nil))) h1, by rw [List.length_cons, List.length_cons, h2], ?_, ?_⟩
    · show (((PyData.str p.1).canLay0 && (d.canLay0 && true)) && PyData.canLayAll0 ds) = true
      rw [h3, l1, d2]
      rfl
    · show max (max (PyData.depth (.str p.1)) (max d.depth 0) + 1) (PyData.depthAll ds) ≤ 3
      have : PyData.depth (.str p.1) = 0 := rfl
      omega
theorem ProcsAt.dp {H : Hp} {pl : Addr} {ps : List (Str × Nm)} (h : ProcsAt K H pl ps) : ∃ ds, Dp K H (.ref pl) (.list ds) ∧ SeqAt.shaped (.list ds) = true ∧ ds.length = ps.length := by
  obtain ⟨vs, h1, h2⟩ := h.h
  obtain ⟨ds, e1, e2, e3, e4⟩ := procs_dp h2 h.lay
  refine ⟨ds, .lst (SqL.of h1) e1, ?_, e2⟩
  unfold SeqAt.shaped
  rw [Bool.and_eq_true]
  exact ⟨e3, decide_eq_true (by show _ + 1 ≤ 64; omega)⟩
theorem Paired.getQ {α β : Type} {F : α → β → Prop} : ∀ {xs : List α} {ys : List β} {i : Nat} {x : α}, Paired F xs ys → xs[i]? = some x → ∃ y, ys[i]? = some y ∧ F x y
  | _, _, _, _, .nil, e => by simp at e
  | _, _, 0, _, .cons r _, e => by simp at e; subst e; exact ⟨_, rfl, r⟩
  | _, _, i + 1, x, .cons _ t, e => by
    obtain ⟨y, h1, h2⟩ := Paired.getQ (i := i) (x := x) t (by simpa using e)
    exact ⟨y, by simpa using h1, h2⟩
/-- fits the row and is not taken yet -/
def pzf (nm : Nm) (rs : Int) (as : List Str) (y : Str) : Bool := (match nm.lookup y with | some s => decide (V.int s = V.int rs) | none => false) && !decide (y ∈ as)
theorem pzf_true {nm : Nm} {rs : Int} {as : List Str} {y : Str} (h : pzf nm rs as y = true) : nm.lookup y = some rs ∧ y ∉ as := by
  unfold pzf at h
  rw [Bool.and_eq_true] at h
  obtain ⟨h1, h2⟩ := h
  refine ⟨?_, by simpa using h2⟩
  cases e : nm.lookup y with
  | none => rw [e] at h1; cases h1
  | some s => rw [e] at h1; rw [int_eq h1]
/-- the args that fit so far -/
structure ArgsAt (H0 H : Hp) (dr al : Addr) (nm : Nm) (prm : Nm) (i : Nat) (as : List Str) : Prop where
  g : GS dr H0 H
  h : H al = some (.lst (as.map V.str))
  l : as.length = i
  nd : as.Nodup
  e : as.map (fun a => nm.lookup a) = (prm.take i).map fun p => some p.2
theorem ArgsAt.ne {H0 H : Hp} {dr al : Addr} {nm prm : Nm} {i : Nat} {as : List Str} (h : ArgsAt H0 H dr al nm prm i as) : al ≠ dr := by
  obtain ⟨c, cells, pos, rest, seed, d⟩ := h.g.d
  intro z
  have e := h.h
  rw [z, d.hp] at e
  have e := HO.lst.inj (Option.some.inj e)
  cases as with
  | nil => cases e
  | cons x r => cases e
theorem ArgsAt.keep {H0 H H' : Hp} {dr al : Addr} {nm prm : Nm} {i : Nat} {as : List Str} (h : ArgsAt H0 H dr al nm prm i as) (k : GS dr H H') : ArgsAt H0 H' dr al nm prm i as := ⟨h.g.trans k, k.k.kp _ _ (by simpa using h.ne) h.h, h.l, h.nd, h.e⟩
/-- an arg more -/
theorem ArgsAt.add {H0 H : Hp} {dr al : Addr} {nm prm : Nm} {i : Nat} {as : List Str} {y rx : Str} {rs : Int} (D : DrawAt H0 dr) (n0 : H0 al = none) (h : ArgsAt H0 H dr al nm prm i as) (hy : pzf nm rs as y = true) (hp : prm[i]? = some (rx, rs)) :
    ArgsAt H0 (upd H al (.lst ((as ++ [y]).map V.str))) dr al nm prm (i + 1) (as ++ [y]) := by
  obtain ⟨e1, e2⟩ := pzf_true hy
  refine ⟨⟨h.g.k.late n0, ?_, fun c t e => ?_⟩, upd_same, by rw [List.length_append, h.l]; rfl, ?_, ?_⟩
  · obtain ⟨c, cells, pos, rest, seed, d⟩ := h.g.d
    refine ⟨c, cells, pos, rest, seed, ⟨by rw [upd_ne (Ne.symm h.ne)]; exact d.hp, ?_, d.nn, d.po, d.re, d.s0, d.s1⟩⟩
    -- the cells' list is not the args' list
    obtain ⟨c0, cells0, pos0, rest0, seed0, d0⟩ := D
    obtain ⟨t', e'⟩ := h.g.c c0 _ d0.hp
    have key : c0 ≠ al := ne_of_none d0.hc n0
    rw [d.hp] at e'
    cases e'
    rw [upd_ne key]
    exact d.hc
  · obtain ⟨t', e'⟩ := h.g.c c t e
    exact ⟨t', by rw [upd_ne (Ne.symm h.ne)]; exact e'⟩
  · rw [List.nodup_append]
    exact ⟨h.nd, by simp, fun a ha b hb z => by
      have hb : b = y := by simpa using hb
      rw [z, hb] at ha
      exact e2 ha⟩
  · rw [List.take_succ, hp, List.map_append, List.map_append, h.e]
    show _ ++ [nm.lookup y] = _ ++ [some rs]
    rw [e1]
/-- nothing, or a call and its uncall -/
def spLent (K : PySem.W.Frag) : Sp := fun vs H Q _ => ∃ (pd nd fl dr pl : Addr) (wd c l : Nat) (ps : List (Str × Nm)) (nm : Nm) (free : List Str) (x : Str), vs = [.ref pd, .ref nd, .ref fl, .str x] ∧ Stt K H pd nd fl dr pl wd c l ps nm free ∧ nm.lookup x = some 0 ∧
  ∀ (v : V) (b : List Sm) (H' : Hp), GS dr H H' → Rp K H' v (.tuple (bd b)) → BOk ps wd nm b → bdp b ≤ 1 → b.length ≤ 2 → Q v H'
theorem ok_z_lent (T : Txt K mg) : FnOk P w K mg base CX0 2 T.f_z_lent T.d_z_lent ["p", "names", "free", "local"] (spLent K) := by
  have G_z_take := okG_z_take (P := P) (w := w) (base := base) T
  refine T.F_z_lent.ok sc_z_lent (fun vs H Q E h => ?_) (fun cdv A outer s H vs Q E hr h => ?_)
  · obtain ⟨pd, nd, fl, dr, pl, wd, c, l, ps, nm, free, x, rfl, _⟩ := h
    rfl
  · obtain ⟨pd, nd, fl, dr, pl, wd, c, l, ps, nm, free, x, rfl, st, hx, q⟩ := h
    have none_ : ∀ {H' : Hp} {t : Addr}, GS dr H H' → H' t = none → Q (.ref t) (upd H' t (.tup [])) := fun {H' t} g nt =>
      q _ [] _ (g.trans (.new g.d nt)) (.made nt .nil) trivial (Nat.zero_le _) (Nat.zero_le _)
    refine ⟨_, (pss_cons (ps_set (i := 4) sc_z_lent.nd rfl (Or.inl rfl) (pe_dget (hu_of hr) (pv 0) pe_str (fun _ _ => rfl)))
      (pss_cons (ps_if (pt_cut (PW.pt (pw_or (pt_cmpR (op_eqD hr.units) (pe_dget (hu_of hr) (pv 0) pe_str (fun _ _ => rfl)) (pe_lst pa_nil) (nomark _)) (pw_or1 (pt_cmpR op_gt (pe_call G_z_take (hr.mono (by omega)) (by rfl) T.g_z_take T.F_z_take.kp T.b_z_take .nil pass0 (pa_cons (pv 4) (pa_cons pe_int pa_nil))) pe_int (nomark _))))))
        (pss_one (ps_ret (pe_tup pa_nil)))
        pss_nil)
      (pss_cons (ps_asg (pe_ix ix_list (pe_dget (hu_of hr) (pv 0) pe_str (fun _ _ => rfl)) (pe_call G_z_take (hr.mono (by omega)) (by rfl) T.g_z_take T.F_z_take.kp T.b_z_take .nil pass0 (pa_cons (pv 4) (pa_cons (pe_callB call_len_seq (by rfl) T.m_len (by decide +kernel) (pa_cons (pe_dget (hu_of hr) (pv 0) pe_str (fun _ _ => rfl)) pa_nil)) pa_nil))) (fun _ _ => rfl)) (pg_tup (by rfl) (pgs_cons (pg_name (i := 5) sc_z_lent.nd rfl (Or.inl rfl)) (pgs_cons (pg_name (i := 6) sc_z_lent.nd rfl (Or.inl rfl)) pgs_nil))))
      (pss_cons (ps_set (i := 7) sc_z_lent.nd rfl (Or.inr rfl) (pe_lst pa_nil))
      (pss_cons (ps_for PassesOwn.never rfl (pi_seq (pv 6)) (pg_name (i := 8) sc_z_lent.nd rfl (Or.inr rfl))
        (pss_cons (ps_setLc (i := 9) (own := [("other", 10)]) (g := gName 10) rfl sc_z_lent.nd rfl rfl (sw_true rfl rfl rfl (by decide +kernel)) (pi_list (pe_op op_cat (pe_lst (pa_cons (pv 3) pa_nil)) (pv 2))) (blkOk_by (own := [("other", 10)]) (N := N_z_lent) (sc := defScope s_z_lent) (by decide +kernel)) (fun _ _ _ _ _ => (pg_name (i := 10) sc_z_lent.nd rfl (Or.inl rfl))) (fun _ _ _ _ _ => (pts_one (PW.pt (pw_and (pt_cmpR op_eq (pe_dget (hu_of hr) (pv 1) (pv 10) (fun _ _ => rfl)) (pe_ix (ixT (K := K) rfl) (pv 8) pe_int (fun _ _ => rfl)) (nomark _)) (pw_and1 (pt_cmpR (opNI (K := K) rfl) (pv 10) (pv 7) (by rfl))))))) (fun _ _ _ _ _ => (pv 10)))
        (pss_cons (ps_if (pt_cmpR (op_eqD hr.units) (pv 9) (pe_lst pa_nil) (nomark _))
          (pss_one (ps_ret (pe_tup pa_nil)))
          pss_nil)
        (pss_one (ps_expr (pe_bm PySem.F.plainAttrs_list PySem.F.slot_list_append PySem.F.type_list_append mt_append (pv 7) (pa_cons (pe_ix ix_list (pv 9) pe_int (fun _ _ => rfl)) pa_nil)))))))
      (pss_one (ps_ret (pe_tup (pa_cons (pe_tup (pa_cons pe_str (pa_cons (pv 5) (pa_cons (pe_callTy call_tuple_of (by rfl) T.m_tuple (by decide +kernel) (pa_cons (pv 7) pa_nil)) pa_nil)))) (pa_cons (pe_tup (pa_cons pe_str (pa_cons (pv 5) (pa_cons (pe_callTy call_tuple_of (by rfl) T.m_tuple (by decide +kernel) (pa_cons (pv 7) pa_nil)) pa_nil)))) pa_nil)))))))))), ?_⟩
    refine ⟨_, rfl, _, _, rfl, dget_s st.p.h (pd_get_draw ..), ?_⟩
    refine ⟨fun b H' => GS dr H H' ∧ (b = false → ps ≠ []), ?_, ?_⟩
    · refine ⟨_, rfl, _, _, rfl, dget_s st.p.h (pd_get_procs ..), Nat.zero_le _, fun l1 nl1 => ?_⟩
      have g1 : GS dr H (upd H l1 (.lst [])) := .new st.p.d nl1
      obtain ⟨ds, dp, sh, dl⟩ := (st.p.keep g1).pr.dp
      refine ⟨_, _, dp, .lst (SqL.of upd_same) .nil, sh, rfl, _, rfl, ?_⟩
      rw [eqv_nil]
      refine ite2 (fun e => ⟨g1, fun z => by cases z⟩) (fun e => ?_)
      refine ⟨_, rfl, dr, 3, rfl, g1.d, by decide, by decide, fun r H2 _ _ g2 => ?_⟩
      refine ⟨_, _, rfl, rfl, _, rfl, g1.trans g2, fun _ z => e ?_⟩
      rw [z] at dl
      rw [List.eq_nil_of_length_eq_zero dl]
      rfl
    rintro b H1 ⟨g1, hb⟩
    have s1 := st.keep g1
    refine ite2 (fun e => ⟨Nat.zero_le _, fun t nt => none_ g1 nt⟩) (fun e => ?_)
    have hne := hb (by cases b with | true => exact absurd rfl e | false => rfl)
    have hpos : 0 < ps.length := List.length_pos_iff.mpr hne
    have hz := st.p.pr.z
    obtain ⟨vs, hvs, pv⟩ := s1.p.pr.h
    have lvs : vs.length = ps.length := Paired.length pv
    refine ⟨_, rfl, _, _, rfl, dget_s s1.p.h (pd_get_procs ..), _, rfl, _, rfl, _, _, rfl, dget_s s1.p.h (pd_get_procs ..), _, _, rfl, .inl (SqL.of hvs), dr, _, rfl, s1.p.d, (by omega), (by exact Int.le_trans (by omega : (vs.length : Int) ≤ 20) (by decide)), fun r H2 r0 r1 g2 => ?_⟩
    have s2 := s1.keep g2
    obtain ⟨vs2, hvs2, pv2⟩ := s2.p.pr.h
    have lvs2 : vs2.length = ps.length := Paired.length pv2
    obtain ⟨j, hj⟩ := int_nat r0
    have hj2 : j < vs2.length := by omega
    obtain ⟨⟨pn, prm⟩, hp1, t0, q0, rows, e0, e1, e2, e3⟩ := Paired.getQ pv2 (List.getElem?_eq_getElem hj2)
    have hpm := List.mem_of_getElem? hp1
    have hlk := lookup_memG st.p.pr.nd hpm
    refine ⟨pl, vs2, r, vs2[j], rfl, rfl, SqL.of hvs2, by rw [hj]; exact atI_nat (List.getElem?_eq_getElem hj2), ?_⟩
    rw [e0]
    refine ⟨t0, _, rfl, SqT.of e1, rfl, _, _, rfl, _, _, rfl, rfl, ?_⟩
    -- args = []
    refine ⟨Nat.zero_le _, fun al nal => ?_⟩
    have prl : prm.length ≤ 3 := st.p.pr.y _ hpm
    have nq : q0 ∉ [dr] := fun z => by
      rcases e2 with e2 | e2
      · exact not_dr s2.p.d e2 (rpa_refs e3) (List.mem_singleton.mp z)
      · obtain ⟨xs, e⟩ := drawAt_isl s2.p.d
        rw [List.mem_singleton.mp z, e] at e2
        cases e2
    have a0 : ArgsAt H2 (upd H2 al (.lst [])) dr al nm prm 0 [] := ⟨.new s2.p.d nal, upd_same, rfl, List.nodup_nil, rfl⟩
    have rlen : rows.length = prm.length := by rw [e3.length, List.length_map]
    have gH2 := g1.trans g2
    obtain ⟨G, hG, hk⟩ : ∃ G : Hp → Prop, ((G = fun H => SqL K H q0 rows) ∨ (G = fun H => SqT K H q0 rows)) ∧ ∀ H3 i as, ArgsAt H2 H3 dr al nm prm i as → G H3 := by
      rcases e2 with e2 | e2
      · exact ⟨_, .inl rfl, fun H3 i as a => SqL.of (a.g.k.kp _ _ nq e2)⟩
      · exact ⟨_, .inr rfl, fun H3 i as a => SqT.of (a.g.k.tp _ _ e2)⟩
    refine ⟨_, rfl, q0, rows, G, rfl, hG, hk _ _ _ a0, fun J wJ => ?_⟩
    refine for_it wJ (fun i σ H3 => ∃ as u1 u2, σ = [some (.ref pd), some (.ref nd), some (.ref fl), some (.str x), some (.ref dr), some (.str pn), some (.ref q0), some (.ref al), u1, u2, none] ∧ ArgsAt H2 H3 dr al nm prm i as)
      ⟨[], _, _, rfl, a0⟩ (fun i σ H3 _ ⟨as, _, _, _, a⟩ => hk _ _ _ a) (fun i rw_ σ H3 H4 hi ⟨as, u1, u2, e0, a⟩ y => ?_) (fun σ H3 ⟨as, u1, u2, e0, a⟩ => ?_)
    · obtain ⟨rfl, hx1⟩ := y
      subst e0
      obtain ⟨dd, hd1, hr1⟩ := e3.get hx1
      rw [List.getElem?_map] at hd1
      cases hpi : prm[i]? with
      | none => rw [hpi] at hd1; cases hd1
      | some pr =>
        obtain ⟨rx, rs⟩ := pr
        rw [hpi] at hd1
        obtain rfl := Option.some.inj hd1
        have hr2 := hr1.keep a.g.k
        obtain ⟨tr, xs2, rfl, hs2, hxs2⟩ := Rp.inv (ds := [.str rx, .int rs]) hr2
        obtain ⟨v1, r1, rfl, h1, hxs2⟩ := hxs2.inv
        obtain ⟨v2, r2, rfl, h2, hxs2⟩ := hxs2.inv
        rw [hxs2.inv0, h1.sInv, h2.iInv] at hs2
        have s3 := s2.keep a.g
        -- [local] + free
        refine ⟨_, rfl, sz1, fun l1 nl1 => ?_⟩
        have g4 : GS dr H4 (upd H4 l1 (.lst [V.str x])) := .new a.g.d nl1
        have s4 := s3.keep g4
        refine ⟨_, rfl, l1, fl, [V.str x], _, rfl, rfl, upd_same, s4.f.h, ?_, fun l2 nl2 => ?_⟩
        · rw [List.length_map]
          exact Nat.le_trans (by have := s4.f.z; show 1 + free.length ≤ 1001; omega) (by decide)
        have e12 : ([V.str x] ++ free.map V.str) = (x :: free).map V.str := rfl
        rw [e12]
        have g5 : GS dr H4 (upd (upd H4 l1 (.lst [V.str x])) l2 (.lst ((x :: free).map V.str))) := g4.trans (.new g4.d nl2)
        have hl2 : (upd (upd H4 l1 (.lst [V.str x])) l2 (.lst ((x :: free).map V.str))) l2 = some (.lst ((x :: free).map V.str)) := upd_same
        generalize upd (upd H4 l1 (.lst [V.str x])) l2 (.lst ((x :: free).map V.str)) = H5 at g5 hl2 ⊢
        have a5 := a.keep g5
        have s5 := s3.keep g5
        refine ⟨l2, rfl, ⟨_, SqL.of hl2⟩, fun l3 nl3 => ?_⟩
        refine filt_in (pzf nm rs as) hl2 (by show free.length + 1 ≤ 1001; have := st.f.z; omega) (by rfl) nl3 (fun H6 y hy k6 Q q => ?_) (fun H6 k6 hl6 => ?_)
        · have g6 := GS.of0 s5.p.d k6
          have a6 := a5.keep g6
          have s6 := s5.keep g6
          have hy2 : ∃ s, nm.lookup y = some s := by
            rcases List.mem_cons.mp hy with e | e
            · exact ⟨0, by rw [e]; exact hx⟩
            · exact st.f.i y e
          obtain ⟨sy, hsy⟩ := hy2
          have vy : valV (nmK nm) (.inr y) = some (.int sy) := by rw [valV_nm, hsy]; rfl
          have pz1 : pzf nm rs as y = (decide (V.int sy = V.int rs) && !decide (y ∈ as)) := by unfold pzf; rw [hsy]
          refine ⟨_, rfl, _, rfl, _, _, rfl, dget_s s6.n.h vy, _, rfl, tr, _, 1, _, rfl, rfl, (g5.trans g6).k.sqT hs2, atI_1, rfl, _, rfl, ite2 (fun e => ?_) (fun e => ?_)⟩
          · refine ⟨_, rfl, _, rfl, al, _, rfl, .inl (SqL.of a6.h), rfl, flat_strs _, _, rfl, ?_⟩
            rw [if_pos rfl, inV_strs]
            have q := q H6 (.refl _ _)
            rw [pz1, e, Bool.true_and] at q
            exact q
          · have q := q H6 (.refl _ _)
            rw [pz1, show decide (V.int sy = V.int rs) = false from by simpa using e, Bool.false_and] at q
            exact q
        have g6 := GS.of0 s5.p.d k6
        have a6 := a5.keep g6
        have lay : SeqAt.shaped (.list (((x :: free).filter (pzf nm rs as)).map PyData.str)) = true := shaped_strs _ fun z hz => by
          obtain ⟨h1, h2⟩ := List.mem_filter.mp hz
          exact st.n.l _ (mem_of_lookup' (pzf_true h2).1)
        refine ⟨_, rfl, Nat.zero_le _, fun l7 nl7 => ⟨_, _, .lst (SqL.of ((KT.new [] nl7).kp _ _ (by simp) hl6)) (dp_strL _), .lst (SqL.of upd_same) .nil, lay, rfl, _, rfl, ?_⟩⟩
        rw [eqv_nil]
        have g7 : GS dr H6 (upd H6 l7 (.lst [])) := .new a6.g.d nl7
        refine ite2 (fun e => ⟨Nat.zero_le _, fun t nt => none_ (gH2.trans ((a6.g).trans g7)) nt⟩) (fun e => ?_)
        have a7 := a6.keep g7
        have hl7 := (KT.new [] nl7 (o := .lst [])).kp _ _ (by simp) hl6
        generalize hft : (x :: free).filter (pzf nm rs as) = ft at hl7 e hl6
        cases ft with
        | nil => exact absurd rfl e
        | cons y r =>
          have hy : pzf nm rs as y = true := (List.mem_filter.mp (by rw [hft]; exact List.mem_cons_self : y ∈ (x :: free).filter (pzf nm rs as))).2
          refine ⟨_, rfl, .inl ⟨rfl, _, SqL.of a7.h⟩, _, rfl, l3, _, 0, V.str y, rfl, rfl, SqL.of hl7, atI_0, al, _, _, rfl, rfl, a7.h, ?_, ?_⟩
          · rw [List.length_map, a7.l]
            have : i < rows.length := hi
            exact small1000 (by omega)
          · have e9 : as.map V.str ++ [V.str y] = (as ++ [y]).map V.str := by rw [List.map_append]; rfl
            rw [e9]
            exact ⟨as ++ [y], _, _, rfl, a7.add s2.p.d nal hy hpi⟩
    · subst e0
      have hlen : as.length = prm.length := by rw [a.l, rlen]
      have hall : as.map (fun a => nm.lookup a) = prm.map fun p => some p.2 := by rw [a.e, rlen, List.take_length]
      have ra : ∀ Hx, RpA K Hx (as.map V.str) (as.map PyData.str) := fun Hx => by
        have key : ∀ zs : List Str, RpA K Hx (zs.map V.str) (zs.map PyData.str) := fun zs => by
          induction zs with
          | nil => exact .nil
          | cons z r ih => exact .cons (.str z) ih
        exact key as
      have D3 := a.g.d
      refine ⟨_, rfl, _, rfl, al, _, rfl, .inl ⟨SqL.of a.h, fun l4 nl4 => ?_⟩⟩
      obtain ⟨g4, r4⟩ := mk_tup (K := K) D3 nl4 (ra H3)
      have a4 := a.keep g4
      generalize upd _ l4 _ = H4 at g4 r4 a4 ⊢
      refine ⟨sz3, fun t1 n1 => ?_⟩
      obtain ⟨g5, r5⟩ := mk_tup (K := K) g4.d n1 (.cons (.str "call") (.cons (.str pn) (.cons r4 .nil)))
      have a5 := a4.keep g5
      generalize upd _ t1 _ = H5 at g5 r5 a5 ⊢
      refine ⟨_, rfl, _, rfl, al, _, rfl, .inl ⟨SqL.of a5.h, fun l6 nl6 => ?_⟩⟩
      obtain ⟨g6, r6⟩ := mk_tup (K := K) g5.d nl6 (ra H5)
      generalize upd _ l6 _ = H6 at g6 r6 ⊢
      refine ⟨sz3, fun t2 n2 => ?_⟩
      obtain ⟨g7, r7⟩ := mk_tup (K := K) g6.d n2 (.cons (.str "uncall") (.cons (.str pn) (.cons r6 .nil)))
      generalize upd _ t2 _ = H7 at g7 r7 ⊢
      refine ⟨sz2, fun t3 n3 => ?_⟩
      have r5 : Rp K H5 (.ref t1) (Sm.call "call" pn as).d := r5
      have r7 : Rp K H7 (.ref t2) (Sm.call "uncall" pn as).d := r7
      obtain ⟨g8, r8⟩ := mk_tup (K := K) g7.d n3 (.cons ((r5.keep g6.k).keep g7.k) (.cons r7 .nil))
      generalize upd _ t3 _ = H8 at g8 r8 ⊢
      have gz := (gH2.trans a.g).trans (((g4.trans g5).trans g6).trans (g7.trans g8))
      have r9 : Rp K H8 (.ref t3) (.tuple (bd [Sm.call "call" pn as, Sm.call "uncall" pn as])) := by
        rw [bd, bd, bd]
        exact r8
      exact q _ _ _ gz r9 ⟨⟨.inl rfl, a.nd, prm, hlk, hall⟩, ⟨.inr rfl, a.nd, prm, hlk, hall⟩, trivial⟩ (by show max 1 (max 1 0) ≤ 1; decide) (Nat.le_refl 2)
end

end My

set_option Elab.async false
set_option linter.all false
set_option maxRecDepth 100000
set_option maxHeartbeats 4000000
namespace My
open PySem PySem.Spec PyProof.Rows L2
local macro_rules | `(tactic| walk_at "asm") => `(tactic| (refine' of_eq_true (eq_true ?_); assumption))
local macro_rules | `(tactic| walk_at "go1") => `(tactic| first
  | (with_reducible rfl) | walk_at "asm" | (apply And.intro) | (apply Exists.intro)
  | (refine' ite_f (by decide +kernel) ?_) | (refine' ite_t (by decide +kernel) ?_) | (refine' ite_f (dstr_ne (by assumption)) ?_) | (refine' ite_t (dstr_eq (by assumption)) ?_)
  | (exact SqT.of upd_same) | (exact SqL.of upd_same) | (exact SqL.of (by assumption)) | (exact SqT.of (by assumption)) | (exact dget_s (by assumption) (by assumption)) | (exact dget_f (by assumption) (by assumption))
  | (exact Or.inl (by assumption)) | (exact Or.inr (by assumption)) | (exact Or.inl (SqL.of (by assumption))) | (exact Or.inr (SqT.of (by assumption))) | rfl)
local macro_rules | `(tactic| walk_at "go") => `(tactic| repeat' walk_at "go1")

section
variable {P : Program} {w : World} {K : PySem.W.Frag} {mg : Str → Option Value} {base : Heap}
/-- a call, an uncall, or a change -/
def spCall (K : PySem.W.Frag) : Sp := fun vs H Q _ => ∃ (pd nd fl dr pl : Addr) (wd c l : Nat) (ps : List (Str × Nm)) (nm : Nm) (free : List Str), vs = [.ref pd, .ref nd, .ref fl] ∧ Stt K H pd nd fl dr pl wd c l ps nm free ∧ free ≠ [] ∧
  ∀ (v : V) (s : Sm) (H' : Hp), GS dr H H' → Rp K H' v s.d → SOk ps wd nm s → s.dp ≤ 1 → Q v H'
theorem ok_z_call (T : Txt K mg) : FnOk P w K mg base CX0 8 T.f_z_call T.d_z_call ["p", "names", "free"] (spCall K) := by
  have G_z_take := okG_z_take (P := P) (w := w) (base := base) T
  have G_z_change := ok_z_change (P := P) (w := w) (base := base) T
  refine T.F_z_call.ok sc_z_call (fun vs H Q E h => ?_) (fun cdv A outer s H vs Q E hr h => ?_)
  · obtain ⟨pd, nd, fl, dr, pl, wd, c, l, ps, nm, free, rfl, _⟩ := h
    rfl
  · obtain ⟨pd, nd, fl, dr, pl, wd, c, l, ps, nm, free, rfl, st, hfne, q⟩ := h
    have hr : Room 7 _ := hr
    have chg : ∀ {H' : Hp} {D : VK}, GS dr H H' → (∀ v H2, Q v H2 → D v H2) → spChange K [.ref pd, .ref nd, .ref fl] H' D E0 := fun {H' D} g hD =>
      ⟨pd, nd, fl, dr, wd, nm, free, rfl, (st.keep g).p.at_, (st.keep g).n, (st.keep g).f, hfne, fun v s H2 g2 r2 o2 d2 => hD _ _ (q v s H2 (g.trans g2) r2 (o2 ps) d2)⟩
    refine ⟨_, (pss_cons (ps_set (i := 3) sc_z_call.nd rfl (Or.inl rfl) (pe_dget (hu_of hr) (pv 0) pe_str (fun _ _ => rfl)))
      (pss_cons (ps_if (pt_cmpR (op_eqD hr.units) (pe_dget (hu_of hr) (pv 0) pe_str (fun _ _ => rfl)) (pe_lst pa_nil) (nomark _))
        (pss_one (ps_ret (pe_call G_z_change (hr.mono (by omega)) (by rfl) T.g_z_change T.F_z_change.kp T.b_z_change .nil pass0 (pa_cons (pv 0) (pa_cons (pv 1) (pa_cons (pv 2) pa_nil))))))
        pss_nil)
      (pss_cons (ps_asg (pe_ix ix_list (pe_dget (hu_of hr) (pv 0) pe_str (fun _ _ => rfl)) (pe_call G_z_take (hr.mono (by omega)) (by rfl) T.g_z_take T.F_z_take.kp T.b_z_take .nil pass0 (pa_cons (pv 3) (pa_cons (pe_callB call_len_seq (by rfl) T.m_len (by decide +kernel) (pa_cons (pe_dget (hu_of hr) (pv 0) pe_str (fun _ _ => rfl)) pa_nil)) pa_nil))) (fun _ _ => rfl)) (pg_tup (by rfl) (pgs_cons (pg_name (i := 4) sc_z_call.nd rfl (Or.inl rfl)) (pgs_cons (pg_name (i := 5) sc_z_call.nd rfl (Or.inl rfl)) pgs_nil))))
      (pss_cons (ps_set (i := 6) sc_z_call.nd rfl (Or.inr rfl) (pe_lst pa_nil))
      (pss_cons (ps_for PassesOwn.never rfl (pi_seq (pv 5)) (pg_name (i := 7) sc_z_call.nd rfl (Or.inr rfl))
        (pss_cons (ps_setLc (i := 8) (own := [("other", 9)]) (g := gName 9) rfl sc_z_call.nd rfl rfl (sw_true rfl rfl rfl (by decide +kernel)) (pi_list (pv 2)) (blkOk_by (own := [("other", 9)]) (N := N_z_call) (sc := defScope s_z_call) (by decide +kernel)) (fun _ _ _ _ _ => (pg_name (i := 9) sc_z_call.nd rfl (Or.inl rfl))) (fun _ _ _ _ _ => (pts_one (PW.pt (pw_and (pt_cmpR op_eq (pe_dget (hu_of hr) (pv 1) (pv 9) (fun _ _ => rfl)) (pe_ix (ixT (K := K) rfl) (pv 7) pe_int (fun _ _ => rfl)) (nomark _)) (pw_and1 (pt_cmpR (opNI (K := K) rfl) (pv 9) (pv 6) (by rfl))))))) (fun _ _ _ _ _ => (pv 9)))
        (pss_cons (ps_if (pt_cmpR (op_eqD hr.units) (pv 8) (pe_lst pa_nil) (nomark _))
          (pss_one (ps_ret (pe_call G_z_change (hr.mono (by omega)) (by rfl) T.g_z_change T.F_z_change.kp T.b_z_change .nil pass0 (pa_cons (pv 0) (pa_cons (pv 1) (pa_cons (pv 2) pa_nil))))))
          pss_nil)
        (pss_one (ps_expr (pe_bm PySem.F.plainAttrs_list PySem.F.slot_list_append PySem.F.type_list_append mt_append (pv 6) (pa_cons (pe_ix ix_list (pv 8) (pe_call G_z_take (hr.mono (by omega)) (by rfl) T.g_z_take T.F_z_take.kp T.b_z_take .nil pass0 (pa_cons (pv 3) (pa_cons (pe_callB call_len_seq (by rfl) T.m_len (by decide +kernel) (pa_cons (pv 8) pa_nil)) pa_nil))) (fun _ _ => rfl)) pa_nil)))))))
      (pss_one (ps_ret (pe_tup (pa_cons (pe_ix ix_list (pe_lst (pa_cons pe_str (pa_cons pe_str pa_nil))) (pe_call G_z_take (hr.mono (by omega)) (by rfl) T.g_z_take T.F_z_take.kp T.b_z_take .nil pass0 (pa_cons (pv 3) (pa_cons pe_int pa_nil))) (fun _ _ => rfl)) (pa_cons (pv 4) (pa_cons (pe_callTy call_tuple_of (by rfl) T.m_tuple (by decide +kernel) (pa_cons (pv 6) pa_nil)) pa_nil))))))))))), ?_⟩
    refine ⟨_, rfl, _, _, rfl, dget_s st.p.h (pd_get_draw ..), ?_⟩
    refine ⟨_, rfl, _, _, rfl, dget_s st.p.h (pd_get_procs ..), Nat.zero_le _, fun l1 nl1 => ?_⟩
    have g1 : GS dr H (upd H l1 (.lst [])) := .new st.p.d nl1
    have s1 := st.keep g1
    obtain ⟨ds, dp, sh, dl⟩ := s1.p.pr.dp
    refine ⟨_, _, dp, .lst (SqL.of upd_same) .nil, sh, rfl, _, rfl, ?_⟩
    rw [eqv_nil]
    generalize upd H l1 (.lst []) = H1 at g1 s1 dp ⊢
    refine ite2 (fun e => ⟨_, rfl, _, rfl, _, rfl, chg g1 fun _ _ z => z⟩) (fun e => ?_)
    have hne : ps ≠ [] := fun z => e (by rw [z] at dl; rw [List.eq_nil_of_length_eq_zero dl]; rfl)
    have hpos : 0 < ps.length := List.length_pos_iff.mpr hne
    have hz := st.p.pr.z
    obtain ⟨vs, hvs, pv⟩ := s1.p.pr.h
    have lvs : vs.length = ps.length := Paired.length pv
    refine ⟨_, rfl, _, _, rfl, dget_s s1.p.h (pd_get_procs ..), _, rfl, _, rfl, _, _, rfl, dget_s s1.p.h (pd_get_procs ..), _, _, rfl, .inl (SqL.of hvs), dr, _, rfl, s1.p.d, (by omega), (by exact Int.le_trans (by omega : (vs.length : Int) ≤ 20) (by decide)), fun r H2 r0 r1 g2 => ?_⟩
    have s2 := s1.keep g2
    obtain ⟨vs2, hvs2, pv2⟩ := s2.p.pr.h
    have lvs2 : vs2.length = ps.length := Paired.length pv2
    obtain ⟨j, hj⟩ := int_nat r0
    have hj2 : j < vs2.length := by omega
    obtain ⟨⟨pn, prm⟩, hp1, t0, q0, rows, e0, e1, e2, e3⟩ := Paired.getQ pv2 (List.getElem?_eq_getElem hj2)
    have hpm := List.mem_of_getElem? hp1
    have hlk := lookup_memG st.p.pr.nd hpm
    refine ⟨pl, vs2, r, vs2[j], rfl, rfl, SqL.of hvs2, by rw [hj]; exact atI_nat (List.getElem?_eq_getElem hj2), ?_⟩
    rw [e0]
    refine ⟨t0, _, rfl, SqT.of e1, rfl, _, _, rfl, _, _, rfl, rfl, ?_⟩
    -- args = []
    refine ⟨Nat.zero_le _, fun al nal => ?_⟩
    have prl : prm.length ≤ 3 := st.p.pr.y _ hpm
    have nq : q0 ∉ [dr] := fun z => by
      rcases e2 with e2 | e2
      · exact not_dr s2.p.d e2 (rpa_refs e3) (List.mem_singleton.mp z)
      · obtain ⟨xs, e⟩ := drawAt_isl s2.p.d
        rw [List.mem_singleton.mp z, e] at e2
        cases e2
    have a0 : ArgsAt H2 (upd H2 al (.lst [])) dr al nm prm 0 [] := ⟨.new s2.p.d nal, upd_same, rfl, List.nodup_nil, rfl⟩
    have rlen : rows.length = prm.length := by rw [e3.length, List.length_map]
    have gH2 := g1.trans g2
    obtain ⟨G, hG, hk⟩ : ∃ G : Hp → Prop, ((G = fun H => SqL K H q0 rows) ∨ (G = fun H => SqT K H q0 rows)) ∧ ∀ H3 i as, ArgsAt H2 H3 dr al nm prm i as → G H3 := by
      rcases e2 with e2 | e2
      · exact ⟨_, .inl rfl, fun H3 i as a => SqL.of (a.g.k.kp _ _ nq e2)⟩
      · exact ⟨_, .inr rfl, fun H3 i as a => SqT.of (a.g.k.tp _ _ e2)⟩
    refine ⟨_, rfl, q0, rows, G, rfl, hG, hk _ _ _ a0, fun J wJ => ?_⟩
    refine for_it wJ (fun i σ H3 => ∃ as u1 u2, σ = [some (.ref pd), some (.ref nd), some (.ref fl), some (.ref dr), some (.str pn), some (.ref q0), some (.ref al), u1, u2, none] ∧ ArgsAt H2 H3 dr al nm prm i as)
      ⟨[], _, _, rfl, a0⟩ (fun i σ H3 _ ⟨as, _, _, _, a⟩ => hk _ _ _ a) (fun i rw_ σ H3 H4 hi ⟨as, u1, u2, e0, a⟩ y => ?_) (fun σ H3 ⟨as, u1, u2, e0, a⟩ => ?_)
    · obtain ⟨rfl, hx1⟩ := y
      subst e0
      obtain ⟨dd, hd1, hr1⟩ := e3.get hx1
      rw [List.getElem?_map] at hd1
      cases hpi : prm[i]? with
      | none => rw [hpi] at hd1; cases hd1
      | some pr =>
        obtain ⟨rx, rs⟩ := pr
        rw [hpi] at hd1
        obtain rfl := Option.some.inj hd1
        have hr2 := hr1.keep a.g.k
        obtain ⟨tr, xs2, rfl, hs2, hxs2⟩ := Rp.inv (ds := [.str rx, .int rs]) hr2
        obtain ⟨v1, r1, rfl, h1, hxs2⟩ := hxs2.inv
        obtain ⟨v2, r2, rfl, h2, hxs2⟩ := hxs2.inv
        rw [hxs2.inv0, h1.sInv, h2.iInv] at hs2
        have s3 := s2.keep a.g
        refine ⟨_, rfl, fl, rfl, ⟨_, SqL.of s3.f.h⟩, fun l3 nl3 => ?_⟩
        refine filt_in (pzf nm rs as) s3.f.h (Nat.le_succ_of_le s3.f.z) (by rfl) nl3 (fun H6 y hy k6 Q q => ?_) (fun H6 k6 hl6 => ?_)
        · have g6 := GS.of0 s3.p.d k6
          have a6 := a.keep g6
          have s6 := s3.keep g6
          obtain ⟨sy, hsy⟩ := st.f.i y hy
          have vy : valV (nmK nm) (.inr y) = some (.int sy) := by rw [valV_nm, hsy]; rfl
          have pz1 : pzf nm rs as y = (decide (V.int sy = V.int rs) && !decide (y ∈ as)) := by unfold pzf; rw [hsy]
          refine ⟨_, rfl, _, rfl, _, _, rfl, dget_s s6.n.h vy, _, rfl, tr, _, 1, _, rfl, rfl, g6.k.sqT hs2, atI_1, rfl, _, rfl, ite2 (fun e => ?_) (fun e => ?_)⟩
          · refine ⟨_, rfl, _, rfl, al, _, rfl, .inl (SqL.of a6.h), rfl, flat_strs _, _, rfl, ?_⟩
            rw [if_pos rfl, inV_strs]
            have q := q H6 (.refl _ _)
            rw [pz1, e, Bool.true_and] at q
            exact q
          · have q := q H6 (.refl _ _)
            rw [pz1, show decide (V.int sy = V.int rs) = false from by simpa using e, Bool.false_and] at q
            exact q
        have g6 := GS.of0 s3.p.d k6
        have a6 := a.keep g6
        have lay : SeqAt.shaped (.list ((free.filter (pzf nm rs as)).map PyData.str)) = true := shaped_strs _ fun z hz => by
          obtain ⟨h1, h2⟩ := List.mem_filter.mp hz
          exact st.n.l _ (mem_of_lookup' (pzf_true h2).1)
        refine ⟨_, rfl, Nat.zero_le _, fun l7 nl7 => ⟨_, _, .lst (SqL.of ((KT.new [] nl7).kp _ _ (by simp) hl6)) (dp_strL _), .lst (SqL.of upd_same) .nil, lay, rfl, _, rfl, ?_⟩⟩
        rw [eqv_nil]
        have g7 : GS dr H6 (upd H6 l7 (.lst [])) := .new a6.g.d nl7
        refine ite2 (fun e => ⟨_, rfl, _, rfl, _, rfl, chg (gH2.trans ((a6.g).trans g7)) fun _ _ z => z⟩) (fun e => ?_)
        have a7 := a6.keep g7
        have hl7 := (KT.new [] nl7 (o := .lst [])).kp _ _ (by simp) hl6
        have ftl : (free.filter (pzf nm rs as)).length ≤ 1000 := Nat.le_trans (List.length_filter_le ..) st.f.z
        have ftp : ∀ y ∈ free.filter (pzf nm rs as), pzf nm rs as y = true := fun y hy => (List.mem_filter.mp hy).2
        have fte : 0 < (free.filter (pzf nm rs as)).length := by
          cases hh : free.filter (pzf nm rs as) with
          | nil => rw [hh] at e; exact absurd rfl e
          | cons y r => exact Nat.succ_pos _
        generalize free.filter (pzf nm rs as) = ft at hl7 ftl ftp fte
        generalize upd H6 l7 (.lst []) = H7 at g7 a7 hl7 ⊢
        have n3 : l3 ∉ [dr] := fun z => by
          obtain ⟨xs, e⟩ := drawAt_isl s3.p.d
          rw [List.mem_singleton.mp z, e] at nl3
          cases nl3
        refine ⟨_, rfl, .inl ⟨rfl, _, SqL.of a7.h⟩, _, rfl, _, rfl, _, rfl, _, _, rfl, .inl (SqL.of hl7), dr, _, rfl, a7.g.d, (by rw [List.length_map]; omega), (by rw [List.length_map]; exact Int.le_trans (by omega : (ft.length : Int) ≤ 1000) (by decide)), fun r8 H8 r80 r81 g8 => ?_⟩
        rw [List.length_map] at r81
        obtain ⟨y, hy8, hm8⟩ := atI_in (xs := ft) r80 r81
        have a8 := a7.keep g8
        refine ⟨l3, _, _, _, rfl, rfl, SqL.of (g8.k.kp _ _ n3 hl7), atI_map hy8, al, _, _, rfl, rfl, a8.h, ?_, ?_⟩
        · rw [List.length_map, a8.l]
          have : i < rows.length := hi
          exact small1000 (by omega)
        · have e9 : as.map V.str ++ [V.str y] = (as ++ [y]).map V.str := by rw [List.map_append]; rfl
          rw [e9]
          exact ⟨as ++ [y], _, _, rfl, a8.add s2.p.d nal (ftp y hm8) hpi⟩
    · subst e0
      have hlen : as.length = prm.length := by rw [a.l, rlen]
      have hall : as.map (fun a => nm.lookup a) = prm.map fun p => some p.2 := by rw [a.e, rlen, List.take_length]
      have ra : ∀ Hx, RpA K Hx (as.map V.str) (as.map PyData.str) := fun Hx => by
        have key : ∀ zs : List Str, RpA K Hx (zs.map V.str) (zs.map PyData.str) := fun zs => by
          induction zs with
          | nil => exact .nil
          | cons z r ih => exact .cons (.str z) ih
        exact key as
      have D3 := a.g.d
      refine ⟨sz2, fun l4 nl4 => ⟨_, rfl, dr, 2, rfl, (GS.new D3 nl4).d, by decide, by decide, fun r5 H5 r50 r51 g5 => ?_⟩⟩
      have g4 : GS dr H3 (upd H3 l4 (.lst [V.str "call", V.str "uncall"])) := .new D3 nl4
      have n4 : l4 ∉ [dr] := fun z => by
        obtain ⟨xs, e⟩ := drawAt_isl D3
        rw [List.mem_singleton.mp z, e] at nl4
        cases nl4
      obtain ⟨wd', hy, hmw⟩ := atI_in (xs := (["call", "uncall"] : List Str)) r50 r51
      refine ⟨_, _, _, _, rfl, rfl, SqL.of (g5.k.kp _ _ n4 (upd_same (H := H3) (a := l4) (o := .lst [V.str "call", V.str "uncall"]))), atI_map hy, ?_⟩
      have a5 := (a.keep g4).keep g5
      refine ⟨_, rfl, _, rfl, al, _, rfl, .inl ⟨SqL.of a5.h, fun l6 nl6 => ?_⟩⟩
      obtain ⟨g6, r6⟩ := mk_tup (K := K) g5.d nl6 (ra H5)
      generalize upd _ l6 _ = H6 at g6 r6 ⊢
      refine ⟨sz3, fun t2 n2 => ?_⟩
      obtain ⟨g7, r7⟩ := mk_tup (K := K) g6.d n2 (.cons (.str wd') (.cons (.str pn) (.cons r6 .nil)))
      generalize upd _ t2 _ = H7 at g7 r7 ⊢
      have gz := (gH2.trans a.g).trans (((g4.trans g5).trans g6).trans g7)
      have r8 : Rp K H7 (.ref t2) (Sm.call wd' pn as).d := r7
      exact q _ _ _ gz r8 ⟨by simpa using hmw, a.nd, prm, hlk, hall⟩ (show 1 ≤ 1 by decide)
end

end My

set_option Elab.async false
set_option linter.all false
set_option maxRecDepth 100000
set_option maxHeartbeats 4000000
namespace My
open PySem PySem.Spec PyProof.Rows L2
local macro_rules | `(tactic| walk_at "asm") => `(tactic| (refine' of_eq_true (eq_true ?_); assumption))
local macro_rules | `(tactic| walk_at "go1") => `(tactic| first
  | (with_reducible rfl) | walk_at "asm" | (apply And.intro) | (apply Exists.intro)
  | (refine' ite_f (by decide +kernel) ?_) | (refine' ite_t (by decide +kernel) ?_) | (refine' ite_f (dstr_ne (by assumption)) ?_) | (refine' ite_t (dstr_eq (by assumption)) ?_)
  | (exact SqT.of upd_same) | (exact SqL.of upd_same) | (exact SqL.of (by assumption)) | (exact SqT.of (by assumption)) | (exact dget_s (by assumption) (by assumption)) | (exact dget_f (by assumption) (by assumption))
  | (exact Or.inl (by assumption)) | (exact Or.inr (by assumption)) | (exact Or.inl (SqL.of (by assumption))) | (exact Or.inr (SqT.of (by assumption))) | rfl)
local macro_rules | `(tactic| walk_at "go") => `(tactic| repeat' walk_at "go1")

section
variable {P : Program} {w : World} {K : PySem.W.Frag} {mg : Str → Option Value} {base : Heap}
theorem ok_z_local (T : Txt K mg) (n : Nat) (G_z_body : FnOk P w K mg base CX0 (4 * n + 20) T.f_z_body T.d_z_body ["p", "names", "free", "depth"] (spBody K n)) : FnOk P w K mg base CX0 (4 * n + 22) T.f_z_local T.d_z_local ["p", "names", "free", "depth"] (spStm K n) := by
  have G_z_take := okG_z_take (P := P) (w := w) (base := base) T
  have G_z_word := okG_z_word (P := P) (w := w) (base := base) T
  have G_z_expression := (ok_z_expression (P := P) (w := w) (base := base) T 3)
  have G_z_fresh := ok_z_fresh (P := P) (w := w) (base := base) T
  have G_z_names_of := (ok_z_names_of (P := P) (w := w) (base := base) T 4)
  have G_z_without := ok_z_without (P := P) (w := w) (base := base) T
  have G_z_lent := ok_z_lent (P := P) (w := w) (base := base) T
  refine T.F_z_local.ok sc_z_local (fun vs H Q E h => ?_) (fun cdv A outer s H vs Q E hr h => ?_)
  · obtain ⟨pd, nd, fl, dr, pl, wd, c, l, d, ps, nm, free, rfl, _⟩ := h
    rfl
  · obtain ⟨pd, nd, fl, dr, pl, wd, c, l, d, ps, nm, free, rfl, d1, dn, d3, st, cl, q⟩ := h
    have hr : Room (4 * n + 21) _ := hr
    have hd1 : ((d : Int) - 1) = ((d - 1 : Nat) : Int) := by omega
    have p2 := pow2_two st.p.w1
    refine ⟨_, (pss_cons (ps_set (i := 4) sc_z_local.nd rfl (Or.inl rfl) (pe_dget (hu_of hr) (pv 0) pe_str (fun _ _ => rfl)))
      (pss_cons (ps_set (i := 5) sc_z_local.nd rfl (Or.inl rfl) (pe_call G_z_fresh (hr.mono (by omega)) (by rfl) T.g_z_fresh T.F_z_fresh.kp T.b_z_fresh .nil pass0 (pa_cons (pv 0) pa_nil)))
      (pss_cons (ps_set (i := 6) sc_z_local.nd rfl (Or.inr rfl) (pe_call G_z_expression (hr.mono (by omega)) (by rfl) T.g_z_expression T.F_z_expression.kp T.b_z_expression .nil pass0 (pa_cons (pv 0) (pa_cons (pv 1) (pa_cons pe_int pa_nil)))))
      (pss_cons (ps_set (i := 7) sc_z_local.nd rfl (Or.inl rfl) (pv 6))
      (pss_cons (ps_setLc (i := 8) (own := [("row", 12)]) (g := gName 12) rfl sc_z_local.nd rfl rfl (sw_true rfl rfl rfl (by decide +kernel)) (pi_list (pv 2)) (blkOk_by (own := [("row", 12)]) (N := N_z_local) (sc := defScope s_z_local) (by decide +kernel)) (fun _ _ _ _ _ => (pg_name (i := 12) sc_z_local.nd rfl (Or.inl rfl))) (fun _ _ _ _ _ => (pts_one (pt_cmpR (opNI (K := K) rfl) (pv 12) (pe_call G_z_names_of (hr.mono (by omega)) (by rfl) T.g_z_names_of T.F_z_names_of.kp T.b_z_names_of .nil pass0 (pa_cons (pv 6) pa_nil)) (by rfl)))) (fun _ _ _ _ _ => (pv 12)))
      (pss_cons (ps_set (i := 9) sc_z_local.nd rfl (Or.inl rfl) (pe_call G_z_without (hr.mono (by omega)) (by rfl) T.g_z_without T.F_z_without.kp T.b_z_without .nil pass0 (pa_cons (pv 1) (pa_cons (pe_lst pa_nil) pa_nil))))
      (pss_cons (ps_dput (hu_of hr) (pv 9) (pv 5) pe_int rfl)
      (pss_cons (ps_set (i := 10) sc_z_local.nd rfl (Or.inl rfl) (pe_call G_z_body (hr.mono (by omega)) (by rfl) T.g_z_body T.F_z_body.kp T.b_z_body .nil pass0 (pa_cons (pv 0) (pa_cons (pv 9) (pa_cons (pv 8) (pa_cons (pe_op op_sub (pv 3) pe_int) pa_nil))))))
      (pss_cons (ps_cut (ps_if (pt_cmpR op_eq (pe_call G_z_take (hr.mono (by omega)) (by rfl) T.g_z_take T.F_z_take.kp T.b_z_take .nil pass0 (pa_cons (pv 4) (pa_cons pe_int pa_nil))) pe_int (nomark _))
        (pss_cons (ps_set (i := 11) sc_z_local.nd rfl (Or.inl rfl) (pe_call G_z_word (hr.mono (by omega)) (by rfl) T.g_z_word T.F_z_word.kp T.b_z_word .nil pass0 (pa_cons (pv 4) (pa_cons (pe_dget (hu_of hr) (pv 0) pe_str (fun _ _ => rfl)) pa_nil))))
        (pss_one (ps_set (i := 10) sc_z_local.nd rfl (Or.inl rfl) (pe_cut (pe_op op_catA (pe_cut (pe_op op_catA (pe_tup (pa_cons (pe_tup (pa_cons pe_str (pa_cons (pe_tup (pa_cons pe_str (pa_cons (pv 5) pa_nil))) (pa_cons (pe_tup (pa_cons pe_str (pa_cons (pv 11) pa_nil))) pa_nil)))) pa_nil)) (pv 10))) (pe_tup (pa_cons (pe_tup (pa_cons pe_str (pa_cons (pe_tup (pa_cons pe_str (pa_cons (pv 5) pa_nil))) (pa_cons (pe_tup (pa_cons pe_str (pa_cons (pv 11) pa_nil))) pa_nil)))) pa_nil)))))))
        pss_nil))
      (pss_cons (ps_set (i := 10) sc_z_local.nd rfl (Or.inl rfl) (pe_cut (pe_op op_catA (pv 10) (pe_call G_z_lent (hr.mono (by omega)) (by rfl) T.g_z_lent T.F_z_lent.kp T.b_z_lent .nil pass0 (pa_cons (pv 0) (pa_cons (pv 9) (pa_cons (pv 8) (pa_cons (pv 5) pa_nil))))))))
      (pss_cons (ps_cut (ps_if (pt_cmpR op_eq (pe_call G_z_take (hr.mono (by omega)) (by rfl) T.g_z_take T.F_z_take.kp T.b_z_take .nil pass0 (pa_cons (pv 4) (pa_cons pe_int pa_nil))) pe_int (nomark _))
        (pss_one (ps_set (i := 7) sc_z_local.nd rfl (Or.inl rfl) (pe_call G_z_expression (hr.mono (by omega)) (by rfl) T.g_z_expression T.F_z_expression.kp T.b_z_expression .nil pass0 (pa_cons (pv 0) (pa_cons (pv 1) (pa_cons pe_int pa_nil))))))
        pss_nil))
      (pss_one (ps_ret (pe_tup (pa_cons pe_str (pa_cons (pv 5) (pa_cons (pv 6) (pa_cons (pv 10) (pa_cons (pv 7) pa_nil))))))))))))))))))), ?_⟩
    refine ⟨_, rfl, _, _, rfl, dget_s st.p.h (pd_get_draw ..), ?_⟩
    refine ⟨_, rfl, pd, dr, pl, wd, c, l, ps, rfl, st.p, cl, fun H1 k1 p1 => ?_⟩
    have s1 := st.keepP k1 p1 (Nat.le_succ c)
    have hx : nm.lookup (tn (c + 1)) = none := st.r.fresh (by omega)
    have hxl := tn_lay (c + 1)
    have fr2 : Frs (nm ++ [(tn (c + 1), 0)]) (c + 1) := (st.r.mono (Nat.le_succ c)).add
    have loc : LocN (tn (c + 1)) := .inr ⟨c + 1, by omega, rfl⟩
    generalize tn (c + 1) = x at hx hxl fr2 loc ⊢
    refine ⟨_, rfl, _, rfl, pd, nd, dr, 1, wd, nm, rfl, by decide, s1.p.at_, s1.n, fun v1 e1 H2 g2 r1 o1 m1 => ?_⟩
    have s2 := s1.keep g2
    refine ⟨_, rfl, ?_⟩
    refine ⟨_, rfl, fl, rfl, ⟨_, SqL.of s2.f.h⟩, fun kl nk => ?_⟩
    refine filt_in (fun y => !decide (y ∈ e1.ns)) s2.f.h (Nat.le_succ_of_le s2.f.z) (by rfl) nk (fun H3 y hy k3 Q q => ?_) (fun H3 k3 hk3 => ?_)
    · refine ⟨_, rfl, _, rfl, v1, e1, wd, nm, rfl, r1.keep k3, o1, by omega, by omega, fun l3 H4 nl3 k4 hl3 => ?_⟩
      refine ⟨l3, _, rfl, .inl (SqL.of hl3), rfl, flat_strs _, _, rfl, ?_⟩
      rw [if_pos rfl, inV_strs]
      exact q _ k4
    have g3 : GS dr H2 H3 := .of0 s2.p.d k3
    have s3 := s2.keep g3
    have f3 := s2.f.sub hk3
    generalize free.filter (fun y => !decide (y ∈ e1.ns)) = kept at f3 hk3
    -- inner
    refine ⟨_, rfl, Nat.zero_le _, fun l1 nl1 => ?_⟩
    have g4 : GS dr H3 (upd H3 l1 (.lst [])) := .new s3.p.d nl1
    have s4 := s3.keep g4
    have hnd := s3.n.h
    refine ⟨nd, l1, nm, [], rfl, s4.n, SqL.of upd_same, (fun z => by rw [z, hnd] at nl1; cases nl1), fun f nf hfA => ?_⟩
    rw [wo_nil] at hfA ⊢
    have ad := NmAt.add hx hfA (by have := st.z; omega) hxl
    refine ⟨_, rfl, _, rfl, f, _, rfl, DPut.k (k := Sum.inr x) upd_same (by rw [nmK_length]; exact small1000 s4.n.z), ?_⟩
    rw [upd_upd, nm_add hx]
    have g5 : GS dr H3 (upd (upd H3 l1 (.lst [])) f (.dK (nmK (nm ++ [(x, 0)])))) := g4.trans (.new s4.p.d nf)
    generalize upd (upd H3 l1 (.lst [])) f (.dK (nmK (nm ++ [(x, 0)]))) = H5 at ad g5 ⊢
    have s5 := s3.keep g5
    have f5 := f3.keep s3.p.d g5
    have sI : Stt K H5 pd f kl dr pl wd (c + 1) l ps (nm ++ [(x, 0)]) kept := ⟨s5.p, ad, f5.app, fr2, by rw [List.length_append]; have := st.z; simp; omega⟩
    have hxn := lookup_new hx
    have kA : KT [dr, pd] H H5 := k1.trans (((g2.trans g3).trans g5).kp)
    have harg : [V.ref pd, V.ref f, V.ref kl, V.int ((d : Int) - 1)] = [V.ref pd, V.ref f, V.ref kl, V.int ((d - 1 : Nat) : Int)] := by rw [hd1]
    refine ⟨_, rfl, _, rfl, _, rfl, _, rfl, _, _, rfl, rfl, pd, f, kl, dr, pl, wd, c + 1, l, d - 1, ps, nm ++ [(x, 0)], kept, harg, by omega, by omega, sI, ?_⟩
    intro va ba H6 c6 l6 k6 p6 c6' b6 ra oa ma la
    have s6 := sI.keepP k6 p6 c6'
    -- a plus ahead and its minus behind
    refine ⟨fun σ H' => ∃ v bb u, σ = [some (.ref pd), some (.ref nd), some (.ref fl), some (.int d), some (.ref dr), some (.str x), some v1, some v1, some (.ref kl), some (.ref f), some v, u, none] ∧ GS dr H6 H' ∧ Rp K H' v (.tuple (bd bb)) ∧ BOk ps wd (nm ++ [(x, 0)]) bb ∧ bdp bb ≤ 2 * (d - 1) + 1 ∧ bb.length ≤ 5, ?_, ?_⟩
    · refine ⟨_, rfl, dr, 3, rfl, s6.p.d, by decide, by decide, fun r H7 _ _ g7 => ?_⟩
      have s7 := s6.keep g7
      refine ⟨rfl, _, rfl, ite2 (fun e => ?_) (fun e => ⟨va, ba, _, rfl, g7, ra.keep g7.k, oa, ma, by omega⟩)⟩
      refine ⟨_, rfl, _, rfl, _, _, rfl, dget_s s7.p.h (pd_get_width ..), dr, wd, rfl, s7.p.d, s7.p.w1, s7.p.w2, fun wv H8 w0 w1 g8 => ?_⟩
      -- (plus,) + body
      have chgD : ∀ (wo_ : Str) (Hs : Hp), DrawAt Hs dr → ∀ (σ : L2.St) (C : V → Hp → Prop), σ[5]? = some (some (.str x)) → σ[11]? = some (some (.int wv)) → (∀ v H', GS dr Hs H' → Rp K H' v (.tuple (bd [Sm.chg wo_ (.var x) (.int wv)])) → C v H') →
          (tTup (tCons (tTup (tCons (tC (.str wo_)) (tCons (tTup (tCons (tC (.str "var")) (tCons (tVar 5) tNil))) (tCons (tTup (tCons (tC (.str "int")) (tCons (tVar 11) tNil))) tNil)))) tNil)) σ Hs C := by
        intro wo_ Hs D σ C h5 h11 hC
        refine ⟨_, h5, sz2, fun t1 n1 => ?_⟩
        obtain ⟨gg1, rr1⟩ := mk_tup (K := K) D n1 (.cons (.str "var") (.cons (.str x) .nil))
        generalize upd _ t1 _ = Ha at gg1 rr1 ⊢
        refine ⟨_, h11, sz2, fun t2 n2 => ?_⟩
        obtain ⟨gg2, rr2⟩ := mk_tup (K := K) gg1.d n2 (.cons (.str "int") (.cons (.int wv) .nil))
        generalize upd _ t2 _ = Hb at gg2 rr2 ⊢
        refine ⟨sz3, fun t3 n3 => ?_⟩
        obtain ⟨gg3, rr3⟩ := mk_tup (K := K) gg2.d n3 (.cons (.str wo_) (.cons (rr1.keep gg2.k) (.cons rr2 .nil)))
        generalize upd _ t3 _ = Hc at gg3 rr3 ⊢
        have rr3 : Rp K Hc (.ref t3) (Sm.chg wo_ (.var x) (.int wv)).d := rr3
        refine ⟨sz1, fun t4 n4 => ?_⟩
        obtain ⟨gg4, rr4⟩ := mk_tup (K := K) gg3.d n4 (.cons rr3 .nil)
        refine hC _ _ (((gg1.trans gg2).trans gg3).trans gg4) ?_
        rw [bd, bd]
        exact rr4
      have g78 := g7.trans g8
      refine ⟨fun v H' => GS dr H8 H' ∧ Rp K H' v (.tuple (bd ([Sm.chg "plus" (.var x) (.int wv)] ++ ba ++ [Sm.chg "minus" (.var x) (.int wv)]))), ?_, ?_⟩
      · refine ⟨fun v H' => GS dr H8 H' ∧ Rp K H' v (.tuple (bd ([Sm.chg "plus" (.var x) (.int wv)] ++ ba))), ?_, ?_⟩
        · refine chgD "plus" H8 g8.d _ _ rfl rfl fun v9 H9 g9 r9 => ?_
          refine ⟨_, rfl, ?_⟩
          refine cat_j g9.d r9 ((ra.keep g78.k).keep g9.k) (by rw [bd_len, bd_len]; show 1 + ba.length ≤ 1000; omega) (fun v H10 g10 r10 => ⟨g9.trans g10, ?_⟩)
          rw [bd_app]
          exact r10
        · rintro v9 H9 ⟨g9, r9⟩
          refine chgD "minus" H9 g9.d _ _ rfl rfl fun v10 H10 g10 r10 => ?_
          refine cat_j g10.d (r9.keep g10.k) r10 (by rw [bd_len, bd_len, List.length_append]; show 1 + ba.length + 1 ≤ 1000; omega) (fun v H11 g11 r11 => ⟨(g9.trans g10).trans g11, ?_⟩)
          rw [bd_app]
          exact r11
      · rintro v9 H9 ⟨g9, r9⟩
        refine ⟨v9, _, _, rfl, g78.trans g9, r9, ?_, ?_, ?_⟩
        · have ch : ∀ u, u ∈ (["plus", "minus", "xor"] : List Str) → SOk ps wd (nm ++ [(x, 0)]) (Sm.chg u (.var x) (.int wv)) := fun u hu => ⟨hu, hxn, (show 1 ≤ 4 by decide), ⟨w0, w1⟩, (show 1 ≤ 4 by decide)⟩
          exact bok_app (bok_app ⟨ch _ (by decide +kernel), trivial⟩ oa) ⟨ch _ (by decide +kernel), trivial⟩
        · rw [bdp_app, bdp_app]
          show max (max (max 1 0) (bdp ba)) (max 1 0) ≤ 2 * (d - 1) + 1
          omega
        · rw [List.length_append, List.length_append]
          show 1 + ba.length + 1 ≤ 5
          omega
    rintro σ H7 ⟨v7, bb, u7, rfl, g7, r7, o7, m7, l7⟩
    have s7 := s6.keep g7
    -- body + lent
    refine ⟨fun v H' => ∃ b2, GS dr H7 H' ∧ Rp K H' v (.tuple (bd (bb ++ b2))) ∧ BOk ps wd (nm ++ [(x, 0)]) b2 ∧ bdp b2 ≤ 1, ?_, ?_⟩
    · refine ⟨_, rfl, _, rfl, _, rfl, _, rfl, _, rfl, pd, f, kl, dr, pl, wd, c6, l6, ps, nm ++ [(x, 0)], kept, x, rfl, s7, hxn, fun v b2 H8 g8 r8 o8 m8 l8 => ?_⟩
      refine cat_j g8.d (r7.keep g8.k) r8 (by rw [bd_len, bd_len]; omega) (fun v H9 g9 r9 => ⟨b2, g8.trans g9, ?_, o8, m8⟩)
      rw [bd_app]
      exact r9
    rintro v8 H8 ⟨b2, g8, r8, o8, m8⟩
    have n8 := ((s2.n.keep s2.p.d (g3.trans g5)).keepP s5.p k6)
    have n9 := n8.keep p6.d (g7.trans g8)
    have s8 := s7.keep g8
    -- the later expression
    refine ⟨fun σ H' => ∃ v e u, σ = [some (.ref pd), some (.ref nd), some (.ref fl), some (.int d), some (.ref dr), some (.str x), some v1, some v, some (.ref kl), some (.ref f), some v8, u, none] ∧ GS dr H8 H' ∧ Rp K H' v e.d ∧ EO wd nm e, ?_, ?_⟩
    · refine ⟨_, rfl, dr, 9, rfl, s8.p.d, by decide, by decide, fun r H9 _ _ g9 => ?_⟩
      have s9 := s8.keep g9
      have k29 : KT [dr, pd] H2 H9 := ((g3.trans g5).kp).trans (k6.trans (((g7.trans g8).trans g9).kp))
      refine ⟨rfl, _, rfl, ite2 (fun e => ?_) (fun e => ⟨v1, e1, _, rfl, g9, r1.keep k29, o1, by omega⟩)⟩
      refine ⟨_, rfl, _, rfl, pd, nd, dr, 1, wd, nm, rfl, by decide, s9.p.at_, n9.keep s8.p.d g9, fun v e H10 g10 r10 o10 m10 => ?_⟩
      exact ⟨v, e, _, rfl, g9.trans g10, r10, o10, by omega⟩
    rintro σ H9 ⟨v9, e9, u9, rfl, g9, r9, o9⟩
    refine ⟨_, rfl, _, rfl, _, rfl, _, rfl, sz5, fun t nt => ?_⟩
    have k29 : KT [dr, pd] H2 H9 := ((g3.trans g5).kp).trans (k6.trans (((g7.trans g8).trans g9).kp))
    have D9 := g9.d
    obtain ⟨gt, rt⟩ := mk_tup (K := K) D9 nt (.cons (.str "local") (.cons (.str x) (.cons (r1.keep k29) (.cons (r8.keep g9.k) (.cons r9 .nil)))))
    generalize upd _ t _ = H10 at gt rt ⊢
    have gz := ((g7.trans g8).trans g9).trans gt
    have rt : Rp K H10 (.ref t) (Sm.loc x e1 (bb ++ b2) e9).d := by rw [Sm.d]; exact rt
    refine q _ (.loc x e1 (bb ++ b2) e9) _ c6 l6 ((kA.trans k6).trans gz.kp) (p6.keep gz) (by omega) (by omega) rt ⟨hx, loc, ⟨o1, by omega⟩, o9, bok_app o7 o8⟩ ?_
    show bdp (bb ++ b2) + 1 ≤ 2 * d + 1
    rw [bdp_app]
    omega
end

end My

set_option Elab.async false
set_option linter.all false
set_option maxRecDepth 100000
set_option maxHeartbeats 4000000
namespace My
open PySem PySem.Spec PyProof.Rows L2
local macro_rules | `(tactic| walk_at "asm") => `(tactic| (refine' of_eq_true (eq_true ?_); assumption))
local macro_rules | `(tactic| walk_at "go1") => `(tactic| first
  | (with_reducible rfl) | walk_at "asm" | (apply And.intro) | (apply Exists.intro)
  | (refine' ite_f (by decide +kernel) ?_) | (refine' ite_t (by decide +kernel) ?_) | (refine' ite_f (dstr_ne (by assumption)) ?_) | (refine' ite_t (dstr_eq (by assumption)) ?_)
  | (exact SqT.of upd_same) | (exact SqL.of upd_same) | (exact SqL.of (by assumption)) | (exact SqT.of (by assumption)) | (exact dget_s (by assumption) (by assumption)) | (exact dget_f (by assumption) (by assumption))
  | (exact Or.inl (by assumption)) | (exact Or.inr (by assumption)) | (exact Or.inl (SqL.of (by assumption))) | (exact Or.inr (SqT.of (by assumption))) | rfl)
local macro_rules | `(tactic| walk_at "go") => `(tactic| repeat' walk_at "go1")

theorem drawAt_late {S : List Addr} {H H1 : Hp} {dr rl : Addr} {o : HO} (D : DrawAt H dr) (D1 : DrawAt H1 dr) (k : KT S H H1) (n : H rl = none) : DrawAt (upd H1 rl o) dr := by
  obtain ⟨c, cells, pos, rest, seed, d⟩ := D
  obtain ⟨c1, cells1, pos1, rest1, seed1, d1⟩ := D1
  obtain ⟨t', e⟩ := k.hd _ _ _ d.hp
  have ec : c1 = c := by
    rw [d1.hp] at e
    exact V.ref.inj (List.cons.inj (HO.lst.inj (Option.some.inj e))).1
  subst ec
  exact ⟨_, cells1, _, _, _, ⟨by rw [upd_ne (ne_of_none d.hp n)]; exact d1.hp, by rw [upd_ne (ne_of_none d.hc n)]; exact d1.hc, d1.nn, d1.po, d1.re, d1.s0, d1.s1⟩⟩
mutual
theorem rp_ofT {K : PySem.W.Frag} {H H' : Hp} (k : ∀ p xs, SqT K H p xs → SqT K H' p xs) : ∀ {d : PyData} {v : V}, Rp K H v d → Rp K H' v d
  | .none, _, h => by cases h; exact .non
  | .bool b, _, h => by cases h; exact .bl b
  | .int i, _, h => by cases h; exact .int i
  | .str x, _, h => by cases h; exact .str x
  | .list ds, _, h => by cases h
  | .dict ds, _, h => by cases h
  | .tuple ds, _, h => by
    cases h with
    | tup hs ha => exact .tup (k _ _ hs) (rpA_ofT k ha)
theorem rpA_ofT {K : PySem.W.Frag} {H H' : Hp} (k : ∀ p xs, SqT K H p xs → SqT K H' p xs) : ∀ {ds : List PyData} {vs : List V}, RpA K H vs ds → RpA K H' vs ds
  | [], _, h => by cases h; exact .nil
  | d :: ds, _, h => by
    cases h with
    | cons h1 h2 => exact .cons (rp_ofT k h1) (rpA_ofT k h2)
end
theorem sqT_putL {K : PySem.W.Frag} {H : Hp} {rl : Addr} {zs : List V} {o : HO} (e : H rl = some (.lst zs)) (p : Addr) (xs : List V) (h : SqT K H p xs) : SqT K (upd H rl o) p xs := by
  rcases h with (h | ⟨u, h⟩) | h
  · exact .inl (.inl (by rw [upd_ne (fun z => by rw [z, e] at h; cases h)]; exact h))
  · exact .inl (.inr ⟨u, by rw [upd_ne (fun z => by rw [z, e] at h; cases h)]; exact h⟩)
  · exact .inr h
theorem PSt.late {K : PySem.W.Frag} {H H1 : Hp} {pd dr pl rl : Addr} {wd c l c1 l1 : Nat} {ps : List (Str × Nm)} {o : HO} (st : PSt K H pd dr wd c l pl ps) (s1 : PSt K H1 pd dr wd c1 l1 pl ps) (k : KT [dr, pd] H H1) (n : H rl = none) :
    PSt K (upd H1 rl o) pd dr wd c1 l1 pl ps :=
  ⟨by rw [upd_ne (ne_of_none st.h n)]; exact s1.h, drawAt_late st.d s1.d k n, st.w1, st.w2, st.pr.keep st.d st.h (k.late n), s1.cb⟩
section
variable {P : Program} {w : World} {K : PySem.W.Frag} {mg : Str → Option Value} {base : Heap}
theorem ok_z_body (T : Txt K mg) : ∀ n, FnOk P w K mg base CX0 (4 * n + 20) T.f_z_body T.d_z_body ["p", "names", "free", "depth"] (spBody K n) := by
  intro n
  induction n with
  | zero => exact T.F_z_body.ok sc_z_body (fun vs H Q E ⟨pd, nd, fl, dr, pl, wd, c, l, d, ps, nm, free, h, _⟩ => by rw [h]; rfl) (fun cdv A outer s H vs Q E hr ⟨pd, nd, fl, dr, pl, wd, c, l, d, ps, nm, free, _, h, _⟩ => absurd h (Nat.not_lt_zero _))
  | succ n ih =>
    have G_z_take := okG_z_take (P := P) (w := w) (base := base) T
    have G_z_change := ok_z_change (P := P) (w := w) (base := base) T
    have G_z_if := ok_z_if (P := P) (w := w) (base := base) T n ih
    have G_z_loop := ok_z_loop (P := P) (w := w) (base := base) T n ih
    have G_z_local := ok_z_local (P := P) (w := w) (base := base) T n ih
    have G_z_call := ok_z_call (P := P) (w := w) (base := base) T
    refine T.F_z_body.ok sc_z_body (fun vs H Q E h => ?_) (fun cdv A outer s H vs Q E hr h => ?_)
    · obtain ⟨pd, nd, fl, dr, pl, wd, c, l, d, ps, nm, free, rfl, _⟩ := h
      rfl
    · obtain ⟨pd, nd, fl, dr, pl, wd, c, l, d, ps, nm, free, rfl, hd, d3, st, q⟩ := h
      have hr : Room (4 * n + 23) _ := hr
      refine ⟨_, (pss_cons (ps_set (i := 4) sc_z_body.nd rfl (Or.inl rfl) (pe_dget (hu_of hr) (pv 0) pe_str (fun _ _ => rfl)))
      (pss_cons (ps_set (i := 5) sc_z_body.nd rfl (Or.inl rfl) (pe_lst pa_nil))
      (pss_cons (ps_for PassesOwn.never rfl (pi_range1 (by rfl) T.m_range (pa_cons (pe_call G_z_take (hr.mono (by omega)) (by rfl) T.g_z_take T.F_z_take.kp T.b_z_take .nil pass0 (pa_cons (pv 4) (pa_cons pe_int pa_nil))) pa_nil)) (pg_name (i := 6) sc_z_body.nd rfl (Or.inl rfl))
        (pss_one (ps_if (pt_cmpR op_gt (pe_dget (hu_of hr) (pv 0) pe_str (fun _ _ => rfl)) pe_int (nomark _))
          (pss_cons (ps_dput (hu_of hr) (pv 0) pe_str (pe_op op_sub (pe_dget (hu_of hr) (pv 0) pe_str (fun _ _ => rfl)) pe_int) rfl)
          (pss_cons (ps_set (i := 7) sc_z_body.nd rfl (Or.inl rfl) (pe_call G_z_take (hr.mono (by omega)) (by rfl) T.g_z_take T.F_z_take.kp T.b_z_take .nil pass0 (pa_cons (pv 4) (pa_cons pe_int pa_nil))))
          (pss_one (ps_if (pt_cmpR (op_eqD hr.units) (pv 2) (pe_lst pa_nil) (nomark _))
            (pss_one (ps_expr (pe_bm PySem.F.plainAttrs_list PySem.F.slot_list_append PySem.F.type_list_append mt_append (pv 5) (pa_cons (pe_tup (pa_cons pe_str pa_nil)) pa_nil))))
            (pss_one (ps_if (PW.pt (pw_or (pt_cmpR op_lt (pv 7) pe_int (nomark _)) (pw_or1 (pt_cmpR op_eq (pv 3) pe_int (nomark _)))))
              (pss_one (ps_expr (pe_bm PySem.F.plainAttrs_list PySem.F.slot_list_append PySem.F.type_list_append mt_append (pv 5) (pa_cons (pe_call G_z_change (hr.mono (by omega)) (by rfl) T.g_z_change T.F_z_change.kp T.b_z_change .nil pass0 (pa_cons (pv 0) (pa_cons (pv 1) (pa_cons (pv 2) pa_nil)))) pa_nil))))
              (pss_one (ps_if (pt_cmpR op_eq (pv 7) pe_int (nomark _))
                (pss_one (ps_expr (pe_bm PySem.F.plainAttrs_list PySem.F.slot_list_append PySem.F.type_list_append mt_append (pv 5) (pa_cons (pe_call G_z_if (hr.mono (by omega)) (by rfl) T.g_z_if T.F_z_if.kp T.b_z_if .nil pass0 (pa_cons (pv 0) (pa_cons (pv 1) (pa_cons (pv 2) (pa_cons (pv 3) pa_nil))))) pa_nil))))
                (pss_one (ps_if (pt_cmpR op_eq (pv 7) pe_int (nomark _))
                  (pss_one (ps_expr (pe_bm PySem.F.plainAttrs_list PySem.F.slot_list_append PySem.F.type_list_append mt_append (pv 5) (pa_cons (pe_call G_z_loop (hr.mono (by omega)) (by rfl) T.g_z_loop T.F_z_loop.kp T.b_z_loop .nil pass0 (pa_cons (pv 0) (pa_cons (pv 1) (pa_cons (pv 2) (pa_cons (pv 3) pa_nil))))) pa_nil))))
                  (pss_one (ps_if (pt_cmpR op_eq (pv 7) pe_int (nomark _))
                    (pss_one (ps_expr (pe_bm PySem.F.plainAttrs_list PySem.F.slot_list_append PySem.F.type_list_append mt_append (pv 5) (pa_cons (pe_call G_z_local (hr.mono (by omega)) (by rfl) T.g_z_local T.F_z_local.kp T.b_z_local .nil pass0 (pa_cons (pv 0) (pa_cons (pv 1) (pa_cons (pv 2) (pa_cons (pv 3) pa_nil))))) pa_nil))))
                    (pss_one (ps_if (pt_cmpR op_eq (pv 7) pe_int (nomark _))
                      (pss_one (ps_expr (pe_bm PySem.F.plainAttrs_list PySem.F.slot_list_append PySem.F.type_list_append mt_append (pv 5) (pa_cons (pe_call G_z_call (hr.mono (by omega)) (by rfl) T.g_z_call T.F_z_call.kp T.b_z_call .nil pass0 (pa_cons (pv 0) (pa_cons (pv 1) (pa_cons (pv 2) pa_nil)))) pa_nil))))
                      (pss_one (ps_expr (pe_bm PySem.F.plainAttrs_list PySem.F.slot_list_append PySem.F.type_list_append mt_append (pv 5) (pa_cons (pe_tup (pa_cons pe_str pa_nil)) pa_nil))))))))))))))))))
          pss_nil)))
      (pss_one (ps_ret (pe_callTy call_tuple_of (by rfl) T.m_tuple (by decide +kernel) (pa_cons (pv 5) pa_nil))))))), ?_⟩
      refine ⟨_, rfl, _, _, rfl, dget_s st.p.h (pd_get_draw ..), ?_⟩
      refine ⟨Nat.zero_le _, fun rl nrl => ?_⟩
      refine ⟨_, rfl, dr, 4, rfl, (GS.new st.p.d nrl).d, by decide, by decide, fun r H1 r0 r1 g1 => ?_⟩
      obtain ⟨m, rfl⟩ := int_nat r0
      have k0 : KT [dr, pd] H (upd H rl (.lst [])) := KT.new _ nrl
      have k01 : KT [dr, pd] H H1 := k0.trans g1.kp
      have s1 := (st.p.keep (GS.new st.p.d nrl)).keep g1
      have nrd : rl ∉ [dr] := fun z => by
        obtain ⟨xs, e⟩ := drawAt_isl st.p.d
        rw [List.mem_singleton.mp z, e] at nrl
        cases nrl
      refine ⟨_, rfl, by omega, by omega, for_range (n := m) (fun i σ Hs => ∃ x6 x7 vs bs c1 l1, σ = [some (.ref pd), some (.ref nd), some (.ref fl), some (.int d), some (.ref dr), some (.ref rl), x6, x7] ∧ KT [dr, pd] H Hs ∧ PSt K Hs pd dr wd c1 l1 pl ps ∧ c ≤ c1 ∧ c1 + l1 ≤ c + l ∧
        Hs rl = some (.lst vs) ∧ RpA K Hs vs (bd bs) ∧ BOk ps wd nm bs ∧ bdp bs ≤ 2 * d + 1 ∧ bs.length ≤ i) ?_ ?_ ?_⟩
      · exact ⟨_, _, [], [], c, l, rfl, k01, s1, Nat.le_refl _, Nat.le_refl _, g1.k.kp _ _ nrd upd_same, .nil, trivial, Nat.zero_le _, Nat.le_refl _⟩
      · rintro i σ Hs hi ⟨x6, x7, vs, bs, c1, l1, rfl, ks, ss, hc1, hb1, hrl, hv, ob, mb, lb⟩
        have nrp : rl ∉ [dr, pd] := fun z => by
          simp only [List.mem_cons, List.not_mem_nil, or_false] at z
          rcases z with z | z
          · exact nrd (by simp [z])
          · have e := st.p.h
            rw [← z, nrl] at e
            cases e
        have vl : vs.length ≤ 4 := by rw [hv.length, bd_len]; omega
        have fin : ∀ {Hs' : Hp} {v : V} {s : Sm} {c2 l2 : Nat} {y6 y7 : Option V}, KT [dr, pd] Hs Hs' → PSt K Hs' pd dr wd c2 l2 pl ps → c1 ≤ c2 → c2 + l2 ≤ c1 + l1 → Rp K Hs' v s.d → SOk ps wd nm s → s.dp ≤ 2 * d + 1 →
            ∃ x6 x7 vs' bs c1 l1, [some (V.ref pd), some (V.ref nd), some (V.ref fl), some (V.int d), some (V.ref dr), some (V.ref rl), y6, y7] = [some (V.ref pd), some (V.ref nd), some (V.ref fl), some (V.int d), some (V.ref dr), some (V.ref rl), x6, x7] ∧ KT [dr, pd] H (upd Hs' rl (.lst (vs ++ [v]))) ∧
              PSt K (upd Hs' rl (.lst (vs ++ [v]))) pd dr wd c1 l1 pl ps ∧ c ≤ c1 ∧ c1 + l1 ≤ c + l ∧ (upd Hs' rl (.lst (vs ++ [v]))) rl = some (.lst vs') ∧ RpA K (upd Hs' rl (.lst (vs ++ [v]))) vs' (bd bs) ∧ BOk ps wd nm bs ∧ bdp bs ≤ 2 * d + 1 ∧ bs.length ≤ i + 1 := by
          intro Hs' v s c2 l2 y6 y7 kk pp hc hb rr oo mm
          refine ⟨y6, y7, vs ++ [v], bs ++ [s], c2, l2, rfl, (ks.trans kk).late nrl, st.p.late pp (ks.trans kk) nrl, by omega, by omega, upd_same, ?_, bok_app ob ⟨oo, trivial⟩, ?_, ?_⟩
          · rw [bd_app]
            refine RpA.app ?_ (.cons ?_ .nil)
            · exact rpA_ofT (sqT_putL (kk.kp _ _ nrp hrl)) (hv.keep kk)
            · exact rp_ofT (sqT_putL (kk.kp _ _ nrp hrl)) rr
          · rw [bdp_app]
            show max (bdp bs) (max s.dp 0) ≤ 2 * d + 1
            omega
          · rw [List.length_append]
            exact Nat.succ_le_succ lb
        have ak : ∀ {Hs' : Hp}, KT [dr, pd] Hs Hs' → Hs' rl = some (.lst vs) := fun kk => kk.kp _ _ nrp hrl
        have sm : vs.length < sizeLine := Nat.lt_of_le_of_lt vl (by decide)
        refine ⟨_, rfl, _, _, rfl, dget_s ss.h (pd_get_left ..), _, _, rfl, rfl, _, rfl, ite2 (fun e0 => ?_) (fun e0 => ?_)⟩
        rotate_left
        · exact ⟨_, _, vs, bs, c1, l1, rfl, ks, ss, hc1, hb1, hrl, hv, ob, mb, Nat.le_succ_of_le lb⟩
        have l0 : 0 < l1 := by
          have : (0 : Int) < (l1 : Int) := of_decide_eq_true e0
          omega
        obtain ⟨p2, k2⟩ := ss.put (c' := c1) (l' := l1 - 1) (by have := ss.cb; omega)
        have hl1 : ((l1 : Int) - 1) = ((l1 - 1 : Nat) : Int) := by omega
        refine ⟨_, rfl, _, _, rfl, dget_s ss.h (pd_get_left ..), _, _, rfl, rfl, _, rfl, pd, _, rfl, DPut.k (k := Sum.inr "left") ss.h (show 5 < sizeLine by decide), ?_⟩
        have e5 : putK (pdK dr wd c1 l1 pl) (.inr "left") ((fun i j => V.int (i - j)) (l1 : Int) 1) = pdK dr wd c1 (l1 - 1) pl := by
          show putK _ _ (.int ((l1 : Int) - 1)) = _
          rw [hl1]
          exact pd_left ..
        rw [e5]
        generalize upd Hs pd (.dK (pdK dr wd c1 (l1 - 1) pl)) = H2 at p2 k2 ⊢
        have s2 : Stt K H2 pd nd fl dr pl wd c1 (l1 - 1) ps nm free := ⟨p2, (st.n.keepP st.p (ks.trans k2)), (st.f.keepP st.p (ks.trans k2)), st.r.mono hc1, Nat.le_trans st.z (by omega)⟩
        refine ⟨_, rfl, dr, 10, rfl, p2.d, by decide, by decide, fun r H3 r0 r1 g3 => ?_⟩
        have s3 := s2.keep g3
        have lay : SeqAt.shaped (.list (free.map PyData.str)) = true := shaped_strs _ fun z hz => by
          obtain ⟨sz, hs⟩ := st.f.i z hz
          exact st.n.l _ (mem_of_lookup' hs)
        refine ⟨_, rfl, Nat.zero_le _, fun l7 nl7 => ⟨_, _, .lst (SqL.of ((KT.new [] nl7).kp _ _ (by simp) s3.f.h)) (dp_strL _), .lst (SqL.of upd_same) .nil, lay, rfl, _, rfl, ?_⟩⟩
        rw [eqv_nil]
        have g4 : GS dr H3 (upd H3 l7 (.lst [])) := .new s3.p.d nl7
        generalize upd H3 l7 (.lst []) = H4 at g4 ⊢
        have s4 := s3.keep g4
        have k4 : KT [dr, pd] Hs H4 := k2.trans ((g3.trans g4).kp)
        have hr4 := k4.kp _ _ nrp hrl
        have skp : ∀ (v6 v7 : Option V) (tt : TS), True := fun _ _ _ => trivial
        refine ite2 (fun e1 => ?_) (fun e1 => ?_)
        · refine ⟨_, rfl, .inl ⟨rfl, _, SqL.of hr4⟩, sz1, fun t nt => ?_⟩
          obtain ⟨g5, r5⟩ := mk_tup (K := K) s4.p.d nt (.cons (.str "skip") .nil)
          generalize upd _ t _ = H5 at g5 r5 ⊢
          refine ⟨rl, vs, _, rfl, rfl, ak (k4.trans g5.kp), sm, ?_⟩
          exact fin (s := .skip) (k4.trans g5.kp) (s4.p.keep g5) (Nat.le_refl _) (by omega) r5 trivial (by show 1 ≤ 2 * d + 1; omega)
        have hne : free ≠ [] := fun z => e1 (by rw [z]; rfl)
        refine ⟨_, rfl, _, _, rfl, rfl, _, rfl, ite2 (fun e2 => ?_) (fun e2 => ?_)⟩
        · refine ⟨_, rfl, .inl ⟨rfl, _, SqL.of hr4⟩, _, rfl, _, rfl, _, rfl, pd, nd, fl, dr, wd, nm, free, rfl, s4.p.at_, s4.n, s4.f, hne, fun v s H5 g5 r5 o5 m5 => ⟨rl, vs, _, rfl, rfl, ak (k4.trans g5.kp), sm, ?_⟩⟩
          exact fin (k4.trans g5.kp) (s4.p.keep g5) (Nat.le_refl _) (by omega) r5 (o5 ps) (by omega)
        refine ⟨_, rfl, rfl, _, rfl, ite2 (fun e3 => ?_) (fun e3 => ?_)⟩
        · refine ⟨_, rfl, .inl ⟨rfl, _, SqL.of hr4⟩, _, rfl, _, rfl, _, rfl, pd, nd, fl, dr, wd, nm, free, rfl, s4.p.at_, s4.n, s4.f, hne, fun v s H5 g5 r5 o5 m5 => ⟨rl, vs, _, rfl, rfl, ak (k4.trans g5.kp), sm, ?_⟩⟩
          exact fin (k4.trans g5.kp) (s4.p.keep g5) (Nat.le_refl _) (by omega) r5 (o5 ps) (by omega)
        have d1 : 1 ≤ d := by
          have := int_ne e3
          omega
        refine ⟨_, rfl, rfl, _, rfl, ?_⟩
        refine ite2 (fun e4 => ?_) (fun e4 => ?_)
        · refine ⟨_, rfl, .inl ⟨rfl, _, SqL.of hr4⟩, _, rfl, _, rfl, _, rfl, _, rfl, pd, nd, fl, dr, pl, wd, c1, l1 - 1, d, ps, nm, free, rfl, d1, by omega, d3, s4, by have := ss.cb; omega, fun v s H5 c5 l5 k5 p5 h1 h2 r5 o5 m5 => ⟨rl, vs, _, rfl, rfl, ak (k4.trans k5), sm, ?_⟩⟩
          exact fin (k4.trans k5) p5 h1 (by omega) r5 o5 m5
        refine ⟨_, rfl, rfl, _, rfl, ?_⟩
        refine ite2 (fun e5 => ?_) (fun e5 => ?_)
        · refine ⟨_, rfl, .inl ⟨rfl, _, SqL.of hr4⟩, _, rfl, _, rfl, _, rfl, _, rfl, pd, nd, fl, dr, pl, wd, c1, l1 - 1, d, ps, nm, free, rfl, d1, by omega, d3, s4, by have := ss.cb; omega, fun v s H5 c5 l5 k5 p5 h1 h2 r5 o5 m5 => ⟨rl, vs, _, rfl, rfl, ak (k4.trans k5), sm, ?_⟩⟩
          exact fin (k4.trans k5) p5 h1 (by omega) r5 o5 m5
        refine ⟨_, rfl, rfl, _, rfl, ?_⟩
        refine ite2 (fun e6 => ?_) (fun e6 => ?_)
        · refine ⟨_, rfl, .inl ⟨rfl, _, SqL.of hr4⟩, _, rfl, _, rfl, _, rfl, _, rfl, pd, nd, fl, dr, pl, wd, c1, l1 - 1, d, ps, nm, free, rfl, d1, by omega, d3, s4, by have := ss.cb; omega, fun v s H5 c5 l5 k5 p5 h1 h2 r5 o5 m5 => ⟨rl, vs, _, rfl, rfl, ak (k4.trans k5), sm, ?_⟩⟩
          exact fin (k4.trans k5) p5 h1 (by omega) r5 o5 m5
        refine ⟨_, rfl, rfl, _, rfl, ?_⟩
        refine ite2 (fun e7 => ?_) (fun e7 => ?_)
        · refine ⟨_, rfl, .inl ⟨rfl, _, SqL.of hr4⟩, _, rfl, _, rfl, _, rfl, pd, nd, fl, dr, pl, wd, c1, l1 - 1, ps, nm, free, rfl, s4, hne, fun v s H5 g5 r5 o5 m5 => ⟨rl, vs, _, rfl, rfl, ak (k4.trans g5.kp), sm, ?_⟩⟩
          exact fin (k4.trans g5.kp) (s4.p.keep g5) (Nat.le_refl _) (by omega) r5 o5 (by omega)
        · refine ⟨_, rfl, .inl ⟨rfl, _, SqL.of hr4⟩, sz1, fun t nt => ?_⟩
          obtain ⟨g5, r5⟩ := mk_tup (K := K) s4.p.d nt (.cons (.str "skip") .nil)
          generalize upd _ t _ = H5 at g5 r5 ⊢
          refine ⟨rl, vs, _, rfl, rfl, ak (k4.trans g5.kp), sm, ?_⟩
          exact fin (s := .skip) (k4.trans g5.kp) (s4.p.keep g5) (Nat.le_refl _) (by omega) r5 trivial (by show 1 ≤ 2 * d + 1; omega)
      · rintro σ Hs ⟨x6, x7, vs, bs, c1, l1, rfl, ks, ss, hc1, hb1, hrl, hv, ob, mb, lb⟩
        refine ⟨_, rfl, rl, vs, rfl, .inl ⟨SqL.of hrl, fun t nt => ?_⟩⟩
        obtain ⟨g5, r5⟩ := mk_tup (K := K) ss.d nt hv
        generalize upd _ t _ = H5 at g5 r5 ⊢
        exact q _ bs _ c1 l1 (ks.trans g5.kp) (ss.keep g5) hc1 hb1 r5 ob mb (by omega)
end

end My

set_option Elab.async false
set_option linter.all false
set_option maxRecDepth 100000
set_option maxHeartbeats 4000000
namespace My
open PySem PySem.Spec PyProof.Rows L2
local macro_rules | `(tactic| walk_at "asm") => `(tactic| (refine' of_eq_true (eq_true ?_); assumption))
local macro_rules | `(tactic| walk_at "go1") => `(tactic| first
  | (with_reducible rfl) | walk_at "asm" | (apply And.intro) | (apply Exists.intro)
  | (refine' ite_f (by decide +kernel) ?_) | (refine' ite_t (by decide +kernel) ?_) | (refine' ite_f (dstr_ne (by assumption)) ?_) | (refine' ite_t (dstr_eq (by assumption)) ?_)
  | (exact SqT.of upd_same) | (exact SqL.of upd_same) | (exact SqL.of (by assumption)) | (exact SqT.of (by assumption)) | (exact dget_s (by assumption) (by assumption)) | (exact dget_f (by assumption) (by assumption))
  | (exact Or.inl (by assumption)) | (exact Or.inr (by assumption)) | (exact Or.inl (SqL.of (by assumption))) | (exact Or.inr (SqT.of (by assumption))) | rfl)
local macro_rules | `(tactic| walk_at "go") => `(tactic| repeat' walk_at "go1")

/-! ### data that is written down -/
/-- an expression of the text gives data, from a heap on -/
def TD (K : PySem.W.Frag) (dr : Addr) (H0 : Hp) (σ : L2.St) (t : TE) (d : PyData) : Prop := ∀ H, GS dr H0 H → ∀ C : VK, (∀ v H', GS dr H H' → Rp K H' v d → C v H') → t σ H C
def TDs (K : PySem.W.Frag) (dr : Addr) (H0 : Hp) (σ : L2.St) (t : TA) (ds : List PyData) : Prop := ∀ H, GS dr H0 H → ∀ C : List V → Hp → Prop, (∀ vs H', GS dr H H' → RpA K H' vs ds → C vs H') → t σ H C
section
variable {K : PySem.W.Frag} {dr : Addr} {H0 : Hp} {σ : L2.St} {t : TE} {ts : TA} {d : PyData} {ds : List PyData}
theorem TD.str (x : Str) : TD K dr H0 σ (tC (.str x)) (.str x) := fun H g C h => h _ H (.refl g.d) (.str x)
theorem TD.int (x : Int) : TD K dr H0 σ (tC (.int x)) (.int x) := fun H g C h => h _ H (.refl g.d) (.int x)
theorem TD.var (i : Nat) {v : V} (e : σ[i]? = some (some v)) (r : Rp K H0 v d) : TD K dr H0 σ (tVar i) d := fun H g C h => ⟨v, e, h _ H (.refl g.d) (r.keep g.k)⟩
theorem TDs.nil : TDs K dr H0 σ tNil [] := fun H g C h => h _ H (.refl g.d) .nil
theorem TDs.cons (a : TD K dr H0 σ t d) (b : TDs K dr H0 σ ts ds) : TDs K dr H0 σ (tCons t ts) (d :: ds) := fun H g C h =>
  a H g _ fun v H1 g1 r1 => b H1 (g.trans g1) _ fun vs H2 g2 r2 => h _ H2 (g1.trans g2) (.cons (r1.keep g2.k) r2)
theorem TD.tup (a : TDs K dr H0 σ ts ds) (z : ds.length ≤ 1000 := by exact Nat.le_of_ble_eq_true rfl) : TD K dr H0 σ (tTup ts) (.tuple ds) := fun H g C h =>
  a H g _ fun vs H1 g1 r1 => ⟨Nat.le_trans (by rw [r1.length]; exact z) (by decide), fun p np => h _ _ (g1.trans (.new g1.d np)) (.made np r1)⟩
theorem TD.catC {t2 : TE} {es : List PyData} (a : TD K dr H0 σ t (.tuple ds)) (b : TD K dr H0 σ t2 (.tuple es)) (z : ds.length + es.length ≤ 1000 := by exact Nat.le_of_ble_eq_true rfl) : TD K dr H0 σ (fun σ H Q => ∃ J : V → Hp → Prop, tOp (rCatA K) t t2 σ H J ∧ ∀ v H', J v H' → Q v H') (.tuple (ds ++ es)) := fun H g C h =>
  ⟨C, a H g _ fun v H1 g1 r1 => b H1 (g.trans g1) _ fun v2 H2 g2 r2 => cat_j g2.d (r1.keep g2.k) r2 z fun v3 H3 g3 r3 => h _ _ ((g1.trans g2).trans g3) r3, fun _ _ z => z⟩
theorem TD.run {C : VK} (a : TD K dr H0 σ t d) (D : DrawAt H0 dr) (h : ∀ v H', GS dr H0 H' → Rp K H' v d → C v H') : t σ H0 C := a H0 (.refl D) C h
theorem TDs.run {C : List V → Hp → Prop} (a : TDs K dr H0 σ ts ds) (D : DrawAt H0 dr) (h : ∀ v H', GS dr H0 H' → RpA K H' v ds → C v H') : ts σ H0 C := a H0 (.refl D) C h
end
/-! ### procedures -/
structure Pc where
  nm : Str
  prm : Nm
  b : List Sm
def rowD (p : Str × Int) : PyData := .tuple [.str p.1, .int p.2]
def Pc.d (p : Pc) : PyData := .tuple [.str p.nm, .tuple (p.prm.map rowD), .tuple (bd p.b)]
def twoN : Nm := [("n", 0), ("x", 0)]
def cntT : Ex := .op "less" (.int 0) (.var "n")
def cntR (other word : Str) : List Sm := [.chg "minus" (.var "n") (.int 1), .chg word (.var "x") (.var "n"), .call "call" other ["n", "x"], .chg "plus" (.var "n") (.int 1)]
def cnt (name other word : Str) : Pc := ⟨name, twoN, [.ite cntT [.loc "t" (.var "n") (cntR other word ++ [.chg word (.var "x") (.var "t")]) (.var "n")] [.skip] cntT]⟩
theorem cnt_ok {ps : List (Str × Nm)} {wd : Nat} {name other word : Str} (w1 : 1 ≤ wd) (h : ps.lookup other = some twoN) (hw : word ∈ (["plus", "minus", "xor"] : List Str)) : BOk ps wd twoN (cnt name other word).b := by
  have p2 := pow2_two w1
  have p1 := pow2_pos wd
  have e1 : twoN.lookup ("n" : Str) = some 0 := by rfl
  have e2 : twoN.lookup ("x" : Str) = some 0 := by rfl
  have e3 : (twoN ++ [(("t" : Str), (0 : Int))]).lookup ("n" : Str) = some 0 := by rfl
  have e4 : (twoN ++ [(("t" : Str), (0 : Int))]).lookup ("x" : Str) = some 0 := by rfl
  have e5 : (twoN ++ [(("t" : Str), (0 : Int))]).lookup ("t" : Str) = some 0 := by rfl
  have e6 : (wo ["x"] (twoN ++ [(("t" : Str), (0 : Int))])).lookup ("n" : Str) = some 0 := by rfl
  have e7 : (wo ["x"] (twoN ++ [(("t" : Str), (0 : Int))])).lookup ("t" : Str) = some 0 := by rfl
  have o1 : EO wd twoN (.var "n") := ⟨e1, (show 1 ≤ 4 by decide)⟩
  have oi : ∀ {nm : Nm} {i : Int}, 0 ≤ i → i ≤ 1 → EO wd nm (.int i) := fun h0 h1 => ⟨⟨h0, by omega⟩, (show 1 ≤ 4 by decide)⟩
  have oT : EO wd twoN cntT := ⟨⟨by decide +kernel, ⟨Int.le_refl 0, p1⟩, e1⟩, (show 2 ≤ 4 by decide)⟩
  refine ⟨⟨oT, oT, ⟨⟨by rfl, .inl rfl, o1, o1, bok_app ⟨⟨by decide +kernel, e3, (show 1 ≤ 4 by decide), oi (by decide) (by decide)⟩, ⟨hw, e4, (show 1 ≤ 4 by decide), ⟨e6, (show 1 ≤ 4 by decide)⟩⟩, ⟨.inl rfl, by decide +kernel, _, h, by rfl⟩, ⟨by decide +kernel, e3, (show 1 ≤ 4 by decide), oi (by decide) (by decide)⟩, trivial⟩
    ⟨⟨hw, e4, (show 1 ≤ 4 by decide), ⟨e7, (show 1 ≤ 4 by decide)⟩⟩, trivial⟩⟩, trivial⟩, ⟨trivial, trivial⟩⟩, trivial⟩
def spCount (K : PySem.W.Frag) : Sp := fun vs H Q _ => ∃ (dr : Addr) (name other word : Str), vs = [.str name, .str other, .str word] ∧ DrawAt H dr ∧ ∀ v H', GS dr H H' → Rp K H' v (cnt name other word).d → Q v H'
section
variable {P : Program} {w : World} {K : PySem.W.Frag} {mg : Str → Option Value} {base : Heap}
theorem ok_z_counting (T : Txt K mg) : FnOk P w K mg base CX0 1 T.f_z_counting T.d_z_counting ["name", "other", "word"] (spCount K) := by
  refine T.F_z_counting.ok sc_z_counting (fun vs H Q E h => ?_) (fun cdv A outer s H vs Q E hr h => ?_)
  · obtain ⟨dr, name, other, word, rfl, _⟩ := h
    rfl
  · obtain ⟨dr, name, other, word, rfl, D, q⟩ := h
    refine ⟨_, (pss_cons (ps_set (i := 3) sc_z_counting.nd rfl (Or.inl rfl) (pe_tup (pa_cons pe_str (pa_cons pe_str pa_nil))))
      (pss_cons (ps_set (i := 4) sc_z_counting.nd rfl (Or.inl rfl) (pe_tup (pa_cons pe_str (pa_cons (pe_tup (pa_cons pe_str (pa_cons pe_int pa_nil))) (pa_cons (pv 3) pa_nil)))))
      (pss_cons (ps_set (i := 5) sc_z_counting.nd rfl (Or.inl rfl) (pe_tup (pa_cons (pe_tup (pa_cons pe_str (pa_cons (pv 3) (pa_cons (pe_tup (pa_cons pe_str (pa_cons pe_int pa_nil))) pa_nil)))) (pa_cons (pe_tup (pa_cons (pv 2) (pa_cons (pe_tup (pa_cons pe_str (pa_cons pe_str pa_nil))) (pa_cons (pv 3) pa_nil)))) (pa_cons (pe_tup (pa_cons pe_str (pa_cons (pv 1) (pa_cons (pe_tup (pa_cons pe_str (pa_cons pe_str pa_nil))) pa_nil)))) (pa_cons (pe_tup (pa_cons pe_str (pa_cons (pv 3) (pa_cons (pe_tup (pa_cons pe_str (pa_cons pe_int pa_nil))) pa_nil)))) pa_nil))))))
      (pss_cons (ps_set (i := 6) sc_z_counting.nd rfl (Or.inl rfl) (pe_tup (pa_cons pe_str (pa_cons pe_str (pa_cons (pv 3) (pa_cons (pe_cut (pe_op op_catA (pv 5) (pe_tup (pa_cons (pe_tup (pa_cons (pv 2) (pa_cons (pe_tup (pa_cons pe_str (pa_cons pe_str pa_nil))) (pa_cons (pe_tup (pa_cons pe_str (pa_cons pe_str pa_nil))) pa_nil)))) pa_nil)))) (pa_cons (pv 3) pa_nil)))))))
      (pss_one (ps_ret (pe_tup (pa_cons (pv 0) (pa_cons (pe_tup (pa_cons (pe_tup (pa_cons pe_str (pa_cons pe_int pa_nil))) (pa_cons (pe_tup (pa_cons pe_str (pa_cons pe_int pa_nil))) pa_nil))) (pa_cons (pe_tup (pa_cons (pe_tup (pa_cons pe_str (pa_cons (pv 4) (pa_cons (pe_tup (pa_cons (pv 6) pa_nil)) (pa_cons (pe_tup (pa_cons (pe_tup (pa_cons pe_str pa_nil)) pa_nil)) (pa_cons (pv 4) pa_nil)))))) pa_nil)) pa_nil)))))))))), ?_⟩
    refine TD.run (K := K) (σ := [some (.str name), some (.str other), some (.str word), none, none, none, none]) (TD.tup (.cons (.str "var") (.cons (.str "n") .nil))) D fun v3 H1 g1 r3 => ?_
    dsimp only [gName]
    change tSeq (tAsg _ _) _ _ [some (.str name), some (.str other), some (.str word), some v3, none, none, none] _
    refine TD.run (K := K) (σ := [some (.str name), some (.str other), some (.str word), some v3, none, none, none]) (TD.tup (.cons (.str "less") (.cons (TD.tup (.cons (.str "int") (.cons (.int 0) .nil))) (.cons (.var 3 (by rfl) r3) .nil)))) g1.d fun v4 H2 g2 r4 => ?_
    have r3 := r3.keep g2.k
    dsimp only [gName]
    change tSeq (tAsg _ _) _ _ [some (.str name), some (.str other), some (.str word), some v3, some v4, none, none] _
    refine TD.run (K := K) (σ := [some (.str name), some (.str other), some (.str word), some v3, some v4, none, none]) (TD.tup (.cons (TD.tup (.cons (.str "minus") (.cons (.var 3 (by rfl) r3) (.cons (TD.tup (.cons (.str "int") (.cons (.int 1) .nil))) .nil))))
      (.cons (TD.tup (.cons (.var 2 (by rfl) (.str word)) (.cons (TD.tup (.cons (.str "var") (.cons (.str "x") .nil))) (.cons (.var 3 (by rfl) r3) .nil))))
      (.cons (TD.tup (.cons (.str "call") (.cons (.var 1 (by rfl) (.str other)) (.cons (TD.tup (.cons (.str "n") (.cons (.str "x") .nil))) .nil))))
      (.cons (TD.tup (.cons (.str "plus") (.cons (.var 3 (by rfl) r3) (.cons (TD.tup (.cons (.str "int") (.cons (.int 1) .nil))) .nil)))) .nil))))) g2.d fun v5 H3 g3 r5 => ?_
    have r3 := r3.keep g3.k
    have r4 := r4.keep g3.k
    dsimp only [gName]
    change tSeq (tAsg _ _) _ _ [some (.str name), some (.str other), some (.str word), some v3, some v4, some v5, none] _
    refine TD.run (K := K) (σ := [some (.str name), some (.str other), some (.str word), some v3, some v4, some v5, none]) (TD.tup (.cons (.str "local") (.cons (.str "t") (.cons (.var 3 (by rfl) r3) (.cons (TD.catC (.var 5 (by rfl) r5) (TD.tup (.cons (TD.tup (.cons (.var 2 (by rfl) (.str word)) (.cons (TD.tup (.cons (.str "var") (.cons (.str "x") .nil))) (.cons (TD.tup (.cons (.str "var") (.cons (.str "t") .nil))) .nil)))) .nil))) (.cons (.var 3 (by rfl) r3) .nil)))))) g3.d fun v6 H4 g4 r6 => ?_
    have r4 := r4.keep g4.k
    dsimp only [gName]
    change tRet _ _ [some (.str name), some (.str other), some (.str word), some v3, some v4, some v5, some v6] _
    refine TD.run (K := K) (σ := [some (.str name), some (.str other), some (.str word), some v3, some v4, some v5, some v6]) (TD.tup (.cons (.var 0 (by rfl) (.str name)) (.cons (TD.tup (.cons (TD.tup (.cons (.str "n") (.cons (.int 0) .nil))) (.cons (TD.tup (.cons (.str "x") (.cons (.int 0) .nil))) .nil))) (.cons (TD.tup (.cons (TD.tup (.cons (.str "if") (.cons (.var 4 (by rfl) r4) (.cons (TD.tup (.cons (.var 6 (by rfl) r6) .nil)) (.cons (TD.tup (.cons (TD.tup (.cons (.str "skip") .nil)) .nil)) (.cons (.var 4 (by rfl) r4) .nil)))))) .nil)) .nil)))) g4.d fun v7 H5 g5 r7 => ?_
    refine q _ _ ((((g1.trans g2).trans g3).trans g4).trans g5) ?_
    exact r7
end

end My

set_option Elab.async false
set_option linter.all false
set_option maxRecDepth 100000
set_option maxHeartbeats 4000000
namespace My
open PySem PySem.Spec PyProof.Rows L2
/-! ### drawn programs -/
mutual
theorem SOk.mono {ps ps' : List (Str × Nm)} {w : Nat} (h : ∀ x prm, ps.lookup x = some prm → ps'.lookup x = some prm) : ∀ {s : Sm} {nm : Nm}, SOk ps w nm s → SOk ps' w nm s
  | .chg .., _, q => q
  | .swap .., _, q => q
  | .ite .., _, ⟨a, b, c, d⟩ => ⟨a, b, BOk.mono h c, BOk.mono h d⟩
  | .loop .., _, ⟨a, b, c, d⟩ => ⟨a, b, BOk.mono h c, BOk.mono h d⟩
  | .call .., _, ⟨a, b, prm, c, d⟩ => ⟨a, b, prm, h _ _ c, d⟩
  | .loc .., _, ⟨a, b, c, d, e⟩ => ⟨a, b, c, d, BOk.mono h e⟩
  | .skip, _, q => q
theorem BOk.mono {ps ps' : List (Str × Nm)} {w : Nat} (h : ∀ x prm, ps.lookup x = some prm → ps'.lookup x = some prm) : ∀ {b : List Sm} {nm : Nm}, BOk ps w nm b → BOk ps' w nm b
  | [], _, q => q
  | _ :: _, _, ⟨a, b⟩ => ⟨SOk.mono h a, BOk.mono h b⟩
end
structure Prg where
  w : Nat
  gl : Nm
  pcs : List Pc
def Prg.d (p : Prg) : PyData := .tuple [.int p.w, .tuple (p.gl.map rowD), .tuple (p.pcs.map Pc.d)]
def sig (pcs : List Pc) : List (Str × Nm) := pcs.map fun p => (p.nm, p.prm)
def gl0 : Nm := [("a", 0), ("b", 0), ("c_1", 0)]
def arr : List Str := ["list", "row"]
def glb (ss : List Int) : Nm := gl0 ++ arr.zip ss
def prms : List Nm := [twoN, [], [("u", 0)], [("u", 0), ("v", 0)], [("u", 0), ("v", 0), ("cells", 4)]]
def SsOk (ss : List Int) : Prop := ss.length ≤ 2 ∧ ∀ s ∈ ss, 1 ≤ s ∧ s ≤ 9
/-- a procedure other than main -/
def PcOk (ps : List (Str × Nm)) (wd : Nat) (p : Pc) : Prop := p.prm ∈ prms ∧ BOk ps wd p.prm p.b ∧ bdp p.b ≤ 9
def pnames : List Str := ["again", "even", "odd", "alone", "do_it", "more"]
/-- ps: the procedures but main -/
structure PrgOk (p : Prg) : Prop where
  w1 : 1 ≤ p.w
  w2 : p.w ≤ 32
  gl : ∃ ss, p.gl = glb ss ∧ SsOk ss
  ps : ∃ (qs : List Pc) (b : List Sm), (p.pcs = qs ++ [⟨"main", [], b⟩] ∨ p.pcs = ⟨"main", [], b⟩ :: qs.reverse) ∧ (qs.map (·.nm)).Nodup ∧ (∀ q ∈ qs, q.nm ∈ pnames ∧ PcOk (sig qs) p.w q) ∧ BOk (sig qs) p.w p.gl b ∧ bdp b ≤ 9
def Sep (H : Hp) (pl al : Addr) : Prop := pl ≠ al ∧ ∀ vs, H pl = some (.lst vs) → ∀ t x q, V.ref t ∈ vs → H t = some (.tup [x, .ref q]) → q ≠ al
theorem Paired.mapM {α β : Type} {F G : α → β → Prop} : ∀ {l₁ : List α} {l₂ : List β}, Paired F l₁ l₂ → (∀ a ∈ l₁, ∀ b, F a b → G a b) → Paired G l₁ l₂
  | _, _, .nil, _ => .nil
  | _, _, .cons r t, f => .cons (f _ List.mem_cons_self _ r) (Paired.mapM t fun a ha => f a (List.mem_cons_of_mem _ ha))
theorem Paired.app {α β : Type} {F : α → β → Prop} : ∀ {l₁ : List α} {l₂ : List β} {m₁ : List α} {m₂ : List β}, Paired F l₁ l₂ → Paired F m₁ m₂ → Paired F (l₁ ++ m₁) (l₂ ++ m₂)
  | _, _, _, _, .nil, q => q
  | _, _, _, _, .cons r t, q => .cons r (Paired.app t q)
theorem Paired.memL {α β : Type} {F : α → β → Prop} : ∀ {l₁ : List α} {l₂ : List β} {a : α}, Paired F l₁ l₂ → a ∈ l₁ → ∃ b ∈ l₂, F a b
  | _, _, a, .nil, h => by cases h
  | _, _, a, .cons r t, h => by
    rcases List.mem_cons.mp h with e | h
    · subst e; exact ⟨_, List.mem_cons_self, r⟩
    · obtain ⟨b, hb, q⟩ := Paired.memL t h
      exact ⟨b, List.mem_cons_of_mem _ hb, q⟩
section
variable {K : PySem.W.Frag} {Hb H H' : Hp} {dr pd nd rl al pl pl' l1 : Addr} {wd c l c' l' : Nat} {ps ps' : List (Str × Nm)} {ss : List Int} {pcs : List Pc} {S : List Addr}
theorem ProcOk.putL {zs zs' : List V} {v : V} {p : Str × Nm} (ha : H al = some (.lst zs)) (h : ProcOk K H v p) (sp : ∀ t x q, v = .ref t → H t = some (.tup [x, .ref q]) → q ≠ al) : ProcOk K (upd H al (.lst zs')) v p := by
  obtain ⟨t, q, rows, rfl, e1, e2, e3⟩ := h
  have n1 : t ≠ al := ne_of e1 ha (by intro z; cases z)
  have n2 : q ≠ al := sp _ _ _ rfl e1
  exact ⟨t, q, rows, rfl, by rw [upd_ne n1]; exact e1, by rw [upd_ne n2]; exact e2, rpA_ofT (sqT_putL ha) e3⟩
theorem PSt.putL {zs zs' : List V} (s1 : PSt K H pd dr wd c l pl ps) (Db : DrawAt Hb dr) (k : KT S Hb H) (n : Hb al = none) (ha : H al = some (.lst zs)) (sp : Sep H pl al) : PSt K (upd H al (.lst zs')) pd dr wd c l pl ps := by
  obtain ⟨vs, hvs, pv⟩ := s1.pr.h
  have n1 : pd ≠ al := ne_of s1.h ha (by intro z; cases z)
  refine ⟨by rw [upd_ne n1]; exact s1.h, drawAt_late Db s1.d k n, s1.w1, s1.w2, ⟨⟨vs, by rw [upd_ne sp.1]; exact hvs, Paired.mapM pv fun v hv p hp => hp.putL ha fun t x q e1 e2 => sp.2 vs hvs t x q (by rw [← e1]; exact hv) e2⟩, s1.pr.nd, s1.pr.z, s1.pr.y, s1.pr.lay⟩, s1.cb⟩
theorem plNe (s : PSt K H pd dr wd c l pl ps) : pl ∉ [dr, pd] := by
  obtain ⟨vs, hvs, pv⟩ := s.pr.h
  have n1 : pl ≠ pd := ne_of hvs s.h (by intro z; cases z)
  have n2 : pl ≠ dr := not_dr s.d hvs fun v hv => by
    obtain ⟨p, _, t, q, rows, e, _⟩ := Paired.memL pv hv
    exact ⟨t, e⟩
  simp [n1, n2]
theorem Sep.keep (h : Sep H pl al) (s : PSt K H pd dr wd c l pl ps) (k : KT [dr, pd] H H') : Sep H' pl al := by
  obtain ⟨vs, hvs, pv⟩ := s.pr.h
  refine ⟨h.1, fun vs' e t x q m e' => ?_⟩
  rw [k.kp _ _ (plNe s) hvs] at e
  cases e
  obtain ⟨p, _, t', q', rows, e1, e2, _⟩ := Paired.memL pv m
  cases e1
  have := k.tp _ _ e2
  rw [e'] at this
  cases this
  exact h.2 vs hvs _ _ _ m e2
theorem PSt.addPs {ws : List V} (s : PSt K H pd dr wd c l pl ps) (e : H l1 = some (.lst ws)) (pv : Paired (ProcOk K H) ws ps') (hnd : (ps'.map (·.1)).Nodup) (hz : ps'.length ≤ 20) (hy : ∀ p ∈ ps', p.2.length ≤ 3)
    (hlay : ∀ p ∈ ps', (PyData.str p.1).canLay0 = true ∧ ∀ r ∈ p.2, (PyData.str r.1).canLay0 = true) : PSt K (upd H pd (.dK (pdK dr wd c l l1))) pd dr wd c l l1 ps' ∧ KT [dr, pd] H (upd H pd (.dK (pdK dr wd c l l1))) := by
  have k : KT [dr, pd] H (upd H pd (.dK (pdK dr wd c l l1))) := KT.put (by simp) s.h (by intro xs z; cases z) (by intro o v z; cases z) (by intro xs z; cases z)
  have n1 : l1 ≠ pd := ne_of e s.h (by intro z; cases z)
  obtain ⟨cc, cells, pos, rest, seed, d⟩ := s.d
  have n2 : dr ≠ pd := ne_of d.hp s.h (by intro z; cases z)
  have n3 : cc ≠ pd := ne_of d.hc s.h (by intro z; cases z)
  exact ⟨⟨upd_same, ⟨cc, cells, pos, rest, seed, ⟨by rw [upd_ne n2]; exact d.hp, by rw [upd_ne n3]; exact d.hc, d.nn, d.po, d.re, d.s0, d.s1⟩⟩, s.w1, s.w2, ⟨⟨ws, by rw [upd_ne n1]; exact e, Paired.mapQ pv fun v p h => h.keep s.d s.h k⟩, hnd, hz, hy, hlay⟩, s.cb⟩, k⟩
/-- while the globals are drawn -/
structure PgA (K : PySem.W.Frag) (Hb H : Hp) (dr pd nd rl pl : Addr) (wd c l : Nat) (ps : List (Str × Nm)) (ss : List Int) : Prop where
  k : KT [dr, pd] Hb H
  sb : ∃ cb lb plb, PSt K Hb pd dr wd cb lb plb []
  st : PSt K H pd dr wd c l pl ps
  n : NmAt H nd (glb ss)
  r : ∃ vs, H rl = some (.lst vs) ∧ RpA K H vs ((glb ss).map rowD)
  nb : Hb nd = none
  rb : Hb rl = none
  sz : SsOk ss
theorem PgA.nin (h : PgA K Hb H dr pd nd rl pl wd c l ps ss) {a : Addr} (n : Hb a = none) : a ∉ [dr, pd] := by
  obtain ⟨cb, lb, plb, s⟩ := h.sb
  obtain ⟨o, e⟩ := s.d.some
  intro z
  simp only [List.mem_cons, List.not_mem_nil, or_false] at z
  rcases z with z | z
  · rw [z, e] at n; cases n
  · rw [z, s.h] at n; cases n
theorem PgA.keepP (h : PgA K Hb H dr pd nd rl pl wd c l ps ss) (k : KT [dr, pd] H H') (s : PSt K H' pd dr wd c' l' pl' ps') : PgA K Hb H' dr pd nd rl pl' wd c' l' ps' ss := by
  obtain ⟨vs, h1, h2⟩ := h.r
  exact ⟨h.k.trans k, h.sb, s, h.n.keepP h.st k, ⟨vs, k.kp _ _ (h.nin h.rb) h1, h2.keep k⟩, h.nb, h.rb, h.sz⟩
theorem PgA.keep (h : PgA K Hb H dr pd nd rl pl wd c l ps ss) (g : GS dr H H') : PgA K Hb H' dr pd nd rl pl wd c l ps ss := h.keepP g.kp (h.st.keep g)
/-- and the procedures -/
structure PgB (K : PySem.W.Frag) (Hb H : Hp) (dr pd nd rl al pl : Addr) (wd c l : Nat) (ps : List (Str × Nm)) (ss : List Int) (pcs : List Pc) : Prop where
  a : PgA K Hb H dr pd nd rl pl wd c l ps ss
  ab : Hb al = none
  ar : rl ≠ al
  pc : ∃ vs, H al = some (.lst vs) ∧ RpA K H vs (pcs.map Pc.d)
  sp : Sep H pl al
theorem PgB.keepP (h : PgB K Hb H dr pd nd rl al pl wd c l ps ss pcs) (k : KT [dr, pd] H H') (s : PSt K H' pd dr wd c' l' pl ps) : PgB K Hb H' dr pd nd rl al pl wd c' l' ps ss pcs := by
  obtain ⟨vs, h1, h2⟩ := h.pc
  exact ⟨h.a.keepP k s, h.ab, h.ar, ⟨vs, k.kp _ _ (h.a.nin h.ab) h1, h2.keep k⟩, h.sp.keep h.a.st k⟩
theorem PgB.keep (h : PgB K Hb H dr pd nd rl al pl wd c l ps ss pcs) (g : GS dr H H') : PgB K Hb H' dr pd nd rl al pl wd c l ps ss pcs := h.keepP g.kp (h.a.st.keep g)
/-- a procedure more -/
theorem PgB.add (h : PgB K Hb H dr pd nd rl al pl wd c l ps ss pcs) {vs : List V} {v : V} {p : Pc} (e : H al = some (.lst vs)) (r : Rp K H v p.d) : PgB K Hb (upd H al (.lst (vs ++ [v]))) dr pd nd rl al pl wd c l ps ss (pcs ++ [p]) := by
  obtain ⟨vs', h1, h2⟩ := h.pc
  rw [e] at h1
  cases h1
  obtain ⟨cb, lb, plb, sb⟩ := h.a.sb
  obtain ⟨rvs, r1, r2⟩ := h.a.r
  have n1 : nd ≠ al := ne_of h.a.n.h e (by intro z; cases z)
  refine ⟨⟨h.a.k.late h.ab, h.a.sb, h.a.st.putL sb.d h.a.k h.ab e h.sp, ⟨by rw [upd_ne n1]; exact h.a.n.h, h.a.n.nd, h.a.n.z, h.a.n.s, h.a.n.l⟩, ⟨rvs, by rw [upd_ne h.ar]; exact r1, rpA_ofT (sqT_putL e) r2⟩, h.a.nb, h.a.rb, h.a.sz⟩, h.ab, h.ar, ⟨_, upd_same, ?_⟩, h.sp.1, fun ws e1 t x q m e2 => ?_⟩
  · rw [List.map_append]
    exact (rpA_ofT (sqT_putL e) h2).app (.cons (rp_ofT (sqT_putL e) r) .nil)
  · rw [upd_ne h.sp.1] at e1
    by_cases z : t = al
    · rw [z, upd_same] at e2; cases e2
    · rw [upd_ne z] at e2
      exact h.sp.2 ws e1 t x q m e2
/-- .. and it may be called -/
theorem PgB.call (h : PgB K Hb H dr pd nd rl al pl wd c l ps ss pcs) {ws ns : List V} {new : List (Str × Nm)} (hw : H pl = some (.lst ws)) (e : H l1 = some (.lst (ws ++ ns))) (pv : Paired (ProcOk K H) ns new) (hnd : ((ps ++ new).map (·.1)).Nodup) (hz : (ps ++ new).length ≤ 20)
    (hy : ∀ p ∈ new, p.2.length ≤ 3 ∧ (PyData.str p.1).canLay0 = true ∧ ∀ r ∈ p.2, (PyData.str r.1).canLay0 = true) (hl : l1 ≠ al) (hq : ∀ t x q, V.ref t ∈ ns → H t = some (.tup [x, .ref q]) → q ≠ al) :
    PgB K Hb (upd H pd (.dK (pdK dr wd c l l1))) dr pd nd rl al l1 wd c l (ps ++ new) ss pcs := by
  obtain ⟨ws', hvs, pvs⟩ := h.a.st.pr.h
  rw [hw] at hvs
  cases hvs
  obtain ⟨s, k⟩ := h.a.st.addPs e (Paired.app pvs pv) hnd hz (fun p hp => (List.mem_append.mp hp).elim (h.a.st.pr.y p) fun z => (hy p z).1) (fun p hp => (List.mem_append.mp hp).elim (h.a.st.pr.lay p) fun z => (hy p z).2)
  obtain ⟨vs, h1, h2⟩ := h.pc
  refine ⟨h.a.keepP k s, h.ab, h.ar, ⟨vs, k.kp _ _ (h.a.nin h.ab) h1, h2.keep k⟩, hl, fun vs' e1 t x q m e2 => ?_⟩
  have n1 : l1 ≠ pd := ne_of e h.a.st.h (by intro z; cases z)
  rw [upd_ne n1, e] at e1
  cases e1
  have n2 : t ≠ pd := fun z => by rw [z, upd_same] at e2; cases e2
  rw [upd_ne n2] at e2
  rcases List.mem_append.mp m with m | m
  · exact h.sp.2 ws hw t x q m e2
  · exact hq t x q m e2
theorem nm_addS {nm : Nm} {x : Str} {s : Int} (h : nm.lookup x = none) : putK (nmK nm) (.inr x) (.int s) = nmK (nm ++ [(x, s)]) := by
  rw [putK_new _ (by rw [valV_nm, h]; rfl)]
  unfold nmK
  rw [List.map_append]
  rfl
theorem glb_at : ∀ {i : Nat} {ss : List Int}, i < 2 → ss.length = i → ∃ x, (["list", "row"] : List Str)[i]? = some x ∧ (glb ss).lookup x = none ∧ x ∈ bases ∧ ∀ s, glb ss ++ [(x, s)] = glb (ss ++ [s])
  | 0, [], _, _ => ⟨"list", rfl, by rfl, by decide +kernel, fun s => rfl⟩
  | 1, [s0], _, _ => ⟨"row", rfl, by rfl, by decide +kernel, fun s => rfl⟩
theorem glb_len (ss : List Int) : (glb ss).length ≤ 5 := by
  unfold glb
  rw [List.length_append, List.length_zip]
  have : gl0.length = 3 := rfl
  have : arr.length = 2 := rfl
  omega
theorem glb_frs (ss : List Int) (c : Nat) : Frs (glb ss) c := fun p hp => by
  refine .inl ?_
  rcases List.mem_append.mp hp with z | z
  · have key : ∀ p ∈ gl0, p.1 ∈ bases := by decide +kernel
    exact key p z
  · have key : ∀ x ∈ arr, x ∈ bases := by decide +kernel
    exact key _ (List.of_mem_zip (a := p.1) (b := p.2) z).1
/-- a name more: the dict, then the rows -/
theorem PgA.name (h : PgA K Hb H dr pd nd rl pl wd c l [] ss) {x : Str} {s : Int} (hx : (glb ss).lookup x = none) (hb : x ∈ bases) (hg : glb ss ++ [(x, s)] = glb (ss ++ [s])) (h2 : ss.length < 2) (h1 : 1 ≤ s) (h9 : s ≤ 9) (hpl : ∃ cb lb, PSt K Hb pd dr wd cb lb pl [])
    {t : Addr} {vs : List V} {H2 : Hp} (e : H rl = some (.lst vs)) (ht : (upd H nd (.dK (nmK (glb (ss ++ [s]))))) t = none) (e2 : H2 = upd (upd H nd (.dK (nmK (glb (ss ++ [s]))))) t (.tup [.str x, .int s])) :
    PgA K Hb (upd H2 rl (.lst (vs ++ [.ref t]))) dr pd nd rl pl wd c l [] (ss ++ [s]) := by
  obtain ⟨cb, lb, sb⟩ := hpl
  obtain ⟨vs', r1, r2⟩ := h.r
  rw [e] at r1
  cases r1
  have nr : rl ≠ nd := ne_of e h.n.h (by intro z; cases z)
  have s1 : PSt K (upd H nd (.dK (nmK (glb (ss ++ [s]))))) pd dr wd c l pl [] := sb.late h.st h.k h.nb
  have k1 := h.k.late (o := .dK (nmK (glb (ss ++ [s])))) h.nb
  have rt : RpA K (upd H nd (.dK (nmK (glb (ss ++ [s]))))) vs ((glb ss).map rowD) := rpA_ofT (fun p xs q => by
    rcases q with (q | ⟨u, q⟩) | q
    · exact .inl (.inl (by rw [upd_ne (fun z => by rw [z, h.n.h] at q; cases q)]; exact q))
    · exact .inl (.inr ⟨u, by rw [upd_ne (fun z => by rw [z, h.n.h] at q; cases q)]; exact q⟩)
    · exact .inr q) r2
  have g2 : GS dr (upd H nd (.dK (nmK (glb (ss ++ [s]))))) H2 := by rw [e2]; exact .new s1.d ht
  have rr : Rp K H2 (.ref t) (rowD (x, s)) := by rw [e2]; exact .made ht (.cons (.str x) (.cons (.int s) .nil))
  have s2 := s1.keep g2
  have k2 := k1.trans g2.kp
  have hrl : H2 rl = some (.lst vs) := by
    rw [e2, upd_ne (ne_of_none (show (upd H nd _) rl = some (.lst vs) by rw [upd_ne nr]; exact e) ht), upd_ne nr]
    exact e
  have ndt : nd ≠ t := fun z => by rw [← z, upd_same] at ht; cases ht
  have nmn : NmAt (upd H nd (.dK (nmK (glb (ss ++ [s]))))) nd (glb (ss ++ [s])) := by
    rw [← hg]
    have h0 := h.n
    have hxl : (PyData.str x).canLay0 = true := base_lay _ hb
    refine ⟨upd_same, ?_, by rw [List.length_append]; have := glb_len ss; simp; omega, fun p hp => ?_, fun p hp => ?_⟩
    · rw [List.map_append, List.nodup_append]
      refine ⟨h0.nd, by simp, fun a ha b hb e => ?_⟩
      have hb : b = x := by simpa using hb
      obtain ⟨p, hp, rfl⟩ := List.mem_map.mp ha
      have := lookup_mem h0.nd (x := p.1) (s := p.2) hp
      rw [e, hb, hx] at this
      cases this
    · rcases List.mem_append.mp hp with z | z
      · exact h0.s p z
      · rw [List.mem_singleton.mp z]
        show 0 ≤ s
        omega
    · rcases List.mem_append.mp hp with z | z
      · exact h0.l p z
      · rw [List.mem_singleton.mp z]
        exact hxl
  refine ⟨k2.late h.rb, h.sb, sb.late s2 k2 h.rb, ⟨?_, nmn.nd, nmn.z, nmn.s, nmn.l⟩, ⟨_, upd_same, ?_⟩, h.nb, h.rb, ⟨by rw [List.length_append]; show ss.length + 1 ≤ 2; omega, fun u hu => ?_⟩⟩
  · rw [upd_ne (Ne.symm nr), e2, upd_ne ndt, upd_same]
  · rw [← hg, List.map_append]
    exact (rpA_ofT (sqT_putL hrl) (rt.keep g2.k)).app (.cons (rp_ofT (sqT_putL hrl) rr) .nil)
  · rcases List.mem_append.mp hu with z | z
    · exact h.sz.2 u z
    · rw [List.mem_singleton.mp z]
      exact ⟨h1, h9⟩
end

end My

set_option Elab.async false
set_option linter.all false
set_option maxRecDepth 100000
set_option maxHeartbeats 4000000
namespace My
open PySem PySem.Spec PyProof.Rows L2
theorem KT.drop {dr pd : Addr} {H0 Hb H : Hp} (a : KT [dr] H0 Hb) (b : KT [dr, pd] Hb H) (n : H0 pd = none) : KT [dr] H0 H := by
  have t : KT [dr, pd] H0 H := (a.mono (fun x hx => by simp at hx; simp [hx])).trans b
  refine ⟨fun x o nx e => ?_, t.tp, t.fz, t.th, t.hd⟩
  have : x ≠ pd := ne_of_none e n
  exact t.kp x o (by simp at nx; simp [nx, this]) e
theorem sqT_put {K : PySem.W.Frag} {H : Hp} {q : Addr} {u o : HO} (e : H q = some u) (h1 : ∀ xs, u ≠ .tup xs) (h2 : ∀ o v, u ≠ .frz o v) (p : Addr) (xs : List V) (h : SqT K H p xs) : SqT K (upd H q o) p xs := by
  rcases h with (h | ⟨w, h⟩) | h
  · exact .inl (.inl (by rw [upd_ne (fun z => by rw [z, e] at h; exact h1 _ (Option.some.inj h))]; exact h))
  · exact .inl (.inr ⟨w, by rw [upd_ne (fun z => by rw [z, e] at h; exact h2 _ _ (Option.some.inj h))]; exact h⟩)
  · exact .inr h
theorem pd_procs (dr : Addr) (wd c l : Nat) (pl p2 : Addr) : putK (pdK dr wd c l pl) (.inr "procedures") (.ref p2) = pdK dr wd c l p2 := by kernel_rfl
theorem pd_new (dr : Addr) (wd c l : Nat) (pl : Addr) : mergeK [] (pdK dr wd c l pl) = pdK dr wd c l pl := by kernel_rfl
theorem nm_new : mergeK [] (nmK gl0) = nmK gl0 := by kernel_rfl
theorem glb_nil : glb [] = gl0 := by rfl
theorem sig_names (pcs : List Pc) : (sig pcs).map (·.1) = pcs.map (·.nm) := by
  unfold sig
  rw [List.map_map]
  rfl
theorem sig_app (a b : List Pc) : sig (a ++ b) = sig a ++ sig b := List.map_append
theorem sig_mono {a b : List Pc} (x : Str) (prm : Nm) (h : (sig a).lookup x = some prm) : (sig (a ++ b)).lookup x = some prm := by
  rw [sig_app, List.lookup_append, h]
  rfl
theorem PcOk.mono {a b : List Pc} {wd : Nat} {p : Pc} (h : PcOk (sig a) wd p) : PcOk (sig (a ++ b)) wd p := ⟨h.1, h.2.1.mono sig_mono, h.2.2⟩
def prmLay (prm : Nm) : Prop := prm.length ≤ 3 ∧ ∀ r ∈ prm, (PyData.str r.1).canLay0 = true
theorem prms_lay : ∀ p ∈ prms, p.length ≤ 3 ∧ ∀ r ∈ p, (PyData.str r.1).canLay0 = true := by decide +kernel
theorem pnames_lay : ∀ x ∈ pnames, (PyData.str x).canLay0 = true := by decide +kernel
/-- the tuple two -/
def Two (K : PySem.W.Frag) (H : Hp) (tw : Addr) : Prop := ∃ rows, H tw = some (.tup rows) ∧ RpA K H rows (twoN.map rowD)
theorem Two.keep {K : PySem.W.Frag} {S : List Addr} {H H' : Hp} {tw : Addr} (h : Two K H tw) (k : KT S H H') : Two K H' tw := by
  obtain ⟨rows, h1, h2⟩ := h
  exact ⟨rows, k.tp _ _ h1, h2.keep k⟩
/-- a stage: all procedures so far may be called -/
structure Stg (K : PySem.W.Frag) (Hb H : Hp) (dr pd nd rl al tw : Addr) (wd c l : Nat) (ss : List Int) (L : List Str) : Prop where
  h : ∃ pl pcs, PgB K Hb H dr pd nd rl al pl wd c l (sig pcs) ss pcs ∧ (∀ p ∈ pcs, PcOk (sig pcs) wd p ∧ p.nm ∈ L) ∧ (pcs.map (·.nm)).Nodup ∧ pcs.length ≤ L.length
  two : Two K H tw
section
variable {K : PySem.W.Frag} {Hb H H' : Hp} {dr pd nd rl al pl tw l1 : Addr} {wd c l c' l' : Nat} {ss : List Int} {pcs new : List Pc} {L L' : List Str}
theorem PgB.nodup (h : PgB K Hb H dr pd nd rl al pl wd c l (sig pcs) ss (pcs ++ new)) (ok : ∀ p ∈ pcs, PcOk (sig pcs) wd p ∧ p.nm ∈ L) (nd' : (pcs.map (·.nm)).Nodup) (hn : ∀ p ∈ new, p.nm ∈ L' ∧ p.nm ∉ L) (nn : (new.map (·.nm)).Nodup) : ((pcs ++ new).map (·.nm)).Nodup := by
  rw [List.map_append, List.nodup_append]
  refine ⟨nd', nn, fun a ha b hb e => ?_⟩
  obtain ⟨p, hp, rfl⟩ := List.mem_map.mp ha
  obtain ⟨q, hq, rfl⟩ := List.mem_map.mp hb
  have := (hn q hq).2
  rw [← e] at this
  exact this (ok p hp).2
/-- new procedures stand in the list, and now they may be called -/
theorem Stg.mk' (h : PgB K Hb H dr pd nd rl al pl wd c l (sig pcs) ss (pcs ++ new)) (two : Two K H tw) (ok : ∀ p ∈ pcs, PcOk (sig pcs) wd p ∧ p.nm ∈ L) (nd' : (pcs.map (·.nm)).Nodup) (len : pcs.length ≤ L.length) (hn : ∀ p ∈ new, p.nm ∈ L' ∧ p.nm ∉ L) (nn : (new.map (·.nm)).Nodup) (ln : new.length ≤ L'.length)
    (hL : (L ++ L').length ≤ 20) (ho : ((pcs ++ new).map (·.nm)).Nodup → ∀ p ∈ new, PcOk (sig (pcs ++ new)) wd p) (hlay : ∀ x ∈ L', (PyData.str x).canLay0 = true) {ws ns : List V} (hw : H pl = some (.lst ws)) (e : H l1 = some (.lst (ws ++ ns))) (pv : Paired (ProcOk K H) ns (sig new)) (hl : l1 ≠ al)
    (hq : ∀ t x q, V.ref t ∈ ns → H t = some (.tup [x, .ref q]) → q ≠ al) : Stg K Hb (upd H pd (.dK (putK (pdK dr wd c l pl) (.inr "procedures") (.ref l1)))) dr pd nd rl al tw wd c l ss (L ++ L') := by
  have nda := h.nodup ok nd' hn nn
  have on := ho nda
  rw [List.length_append] at hL
  refine ⟨⟨l1, pcs ++ new, ?_, fun p hp => ?_, nda, by rw [List.length_append, List.length_append]; omega⟩, ?_⟩
  · rw [pd_procs, sig_app]
    refine h.call hw e pv (by rw [← sig_app, sig_names]; exact nda) (by rw [← sig_app]; unfold sig; rw [List.length_map, List.length_append]; omega) (fun p hp => ?_) hl hq
    obtain ⟨q, hq, rfl⟩ := List.mem_map.mp hp
    have := prms_lay _ (on q hq).1
    exact ⟨this.1, hlay _ (hn q hq).1, this.2⟩
  · rcases List.mem_append.mp hp with z | z
    · exact ⟨(ok p z).1.mono, List.mem_append_left _ (ok p z).2⟩
    · exact ⟨on p z, List.mem_append_right _ (hn p z).1⟩
  · exact two.keep (KT.put (S := [pd]) (by simp) h.a.st.h (by intro xs z; cases z) (by intro o v z; cases z) (by intro xs z; cases z))
theorem Stg.mono (h : Stg K Hb H dr pd nd rl al tw wd c l ss L) (hs : ∀ x ∈ L, x ∈ L') (hl : L.length ≤ L'.length) : Stg K Hb H dr pd nd rl al tw wd c l ss L' := by
  obtain ⟨⟨pl, pcs, h1, h2, h3, h4⟩, two⟩ := h
  exact ⟨⟨pl, pcs, h1, fun p hp => ⟨(h2 p hp).1, hs _ (h2 p hp).2⟩, h3, Nat.le_trans h4 hl⟩, two⟩
theorem Stg.keep (h : Stg K Hb H dr pd nd rl al tw wd c l ss L) (g : GS dr H H') : Stg K Hb H' dr pd nd rl al tw wd c l ss L := by
  obtain ⟨⟨pl, pcs, h1, h2⟩, two⟩ := h
  exact ⟨⟨pl, pcs, h1.keep g, h2⟩, two.keep g.k⟩
end
theorem cnt_dp (name other word : Str) : bdp (cnt name other word).b ≤ 9 := by
  show bdp (cnt name other word).b ≤ 9
  simp only [cnt, cntR, bdp, Sm.dp, List.cons_append, List.nil_append]
  omega
def alone : Pc := ⟨"alone", [], [.loc "t" (.int 1) [.skip, .chg "xor" (.var "t") (.int 0)] (.int 1)]⟩
theorem alone_ok {ps : List (Str × Nm)} {wd : Nat} (w1 : 1 ≤ wd) : PcOk ps wd alone := by
  have p2 := pow2_two w1
  have p1 := pow2_pos wd
  have e1 : (([] : Nm) ++ [(("t" : Str), (0 : Int))]).lookup ("t" : Str) = some 0 := by rfl
  have oi : ∀ {nm : Nm} {i : Int}, 0 ≤ i → i ≤ 1 → EO wd nm (.int i) := fun h0 h1 => ⟨⟨h0, by omega⟩, (show 1 ≤ 4 by decide)⟩
  refine ⟨by decide +kernel, ⟨⟨rfl, .inl rfl, oi (by decide) (by decide), oi (by decide) (by decide), trivial, ⟨by decide +kernel, e1, (show 1 ≤ 4 by decide), oi (by decide) (by decide)⟩, trivial⟩, trivial⟩, ?_⟩
  simp only [alone, bdp, Sm.dp]
  omega

end My

set_option Elab.async false
set_option linter.all false
set_option maxRecDepth 100000
set_option maxHeartbeats 4000000
namespace My
open PySem PySem.Spec PyProof.Rows L2
theorem RpA.rev {K : PySem.W.Frag} {H : Hp} : ∀ {ds : List PyData} {vs : List V}, RpA K H vs ds → RpA K H vs.reverse ds.reverse
  | [], _, h => by cases h; exact .nil
  | d :: ds, _, h => by
    cases h with
    | cons h1 h2 => rw [List.reverse_cons, List.reverse_cons]; exact (RpA.rev h2).app (.cons h1 .nil)
theorem nin1 {dr pd a : Addr} (h : a ∉ [dr, pd]) : a ∉ [dr] := fun z => h (by simp at z; simp [z])
theorem Two.proc {K : PySem.W.Frag} {H : Hp} {tw t : Addr} {x : Str} (h : Two K H tw) (e : H t = some (.tup [.str x, .ref tw])) : ProcOk K H (.ref t) (x, twoN) := by
  obtain ⟨rows, h1, h2⟩ := h
  exact ⟨t, tw, rows, rfl, e, .inr h1, h2⟩
/-- [row[0] for row in rows], rows pairs of names and sizes -/
theorem names_lc {K : PySem.W.Frag} {σ : L2.St} {H : Hp} {a : Addr} {nm : Nm} {rvs : List V} {Q : VK} {i5 own : Nat} (h5 : σ[i5]? = some (some (.ref a))) (hx : H a = some (.lst rvs)) (rr : RpA K H rvs (nm.map rowD)) (hz : nm.length ≤ 1000) (ho : decide (own < σ.length) = true)
    (hQ : ∀ fl, H fl = none → Q (.ref fl) (upd H fl (.lst ((nm.map (·.1)).map V.str)))) : tLc (iList K (tVar i5)) (gName own) tYes (tOp (rIxT K) (tVar own) (tC (.int 0))) [own] σ H Q := by
  refine ⟨_, h5, a, rfl, ⟨_, SqL.of hx⟩, fun fl nfl => ?_⟩
  have ne : a ≠ fl := ne_of_none hx nfl
  have hlen : rvs.length = nm.length := by rw [rr.length, List.length_map]
  refine lc_list (K := K) (xs := rvs) (fun i H' => H' = upd H fl (.lst (((nm.take i).map (·.1)).map V.str))) rfl (fun i H' _ e => ?_) (fun i x H' hi e => ?_) (fun H' e => ?_)
  · rw [e]
    exact SqL.of (by rw [upd_ne ne]; exact hx)
  · subst e
    obtain ⟨d, hd, rd⟩ := rr.get hi
    rw [List.getElem?_map] at hd
    cases hp : nm[i]? with
    | none => rw [hp] at hd; cases hd
    | some p =>
      obtain ⟨y, s⟩ := p
      rw [hp] at hd
      cases hd
      obtain ⟨t, xs, rfl, hs, ha⟩ := Rp.inv (ds := [.str y, .int s]) rd
      obtain ⟨v1, r1, rfl, h1, ha⟩ := ha.inv
      obtain ⟨v2, r2, rfl, h2, ha⟩ := ha.inv
      rw [ha.inv0, h1.sInv, h2.iInv] at hs
      have hwl : own < (wipe σ [own]).length := by rw [wipe_length]; exact of_decide_eq_true ho
      refine ⟨by simp [wipe, List.set_set], ?_⟩
      refine ⟨_, List.getElem?_set_self hwl, t, _, _, _, rfl, rfl, (KT.new [] nfl).sqT hs, atI_0, _, upd_same, ?_, ?_⟩
      · have := List.length_take_le i nm
        have h2 := List.length_take_le' i nm
        rw [List.length_map, List.length_map]
        exact small1000 (by omega)
      · show upd _ fl _ = _
        rw [upd_upd, List.take_succ, hp, List.map_append, List.map_append]
        rfl
  · subst e
    rw [hlen, List.take_length]
    exact hQ fl nfl
def Lk (i : Nat) : List Str := (["again", "even", "odd", "alone"] : List Str) ++ (["do_it", "more"] : List Str).take i
theorem dm_at : ∀ {i : Nat}, i < 2 → ∃ x, (["do_it", "more"] : List Str)[i]? = some x ∧ x ∉ Lk i ∧ Lk (i + 1) = Lk i ++ [x] ∧ x ∈ pnames ∧ (Lk i ++ [x]).length ≤ 20
  | 0, _ => ⟨"do_it", rfl, by decide +kernel, rfl, by decide +kernel, by decide⟩
  | 1, _ => ⟨"more", rfl, by decide +kernel, rfl, by decide +kernel, by decide⟩
theorem Lk_in : ∀ {i : Nat}, i ≤ 2 → ∀ x ∈ Lk i, x ∈ pnames
  | 0, _ => by decide +kernel
  | 1, _ => by decide +kernel
  | 2, _ => by decide +kernel
def prm3 : List Nm := [[("u", 0)], [("u", 0), ("v", 0)], [("u", 0), ("v", 0), ("cells", 4)]]
theorem prm3_ok : ∀ p ∈ prm3, p ∈ prms ∧ (p.map (·.1)).Nodup ∧ (∀ r ∈ p, 0 ≤ r.2) ∧ (∀ r ∈ p, r.1 ∈ bases) ∧ p.length ≤ 3 := by decide +kernel
theorem cut3 {K : PySem.W.Frag} {H : Hp} {a b c : Addr} {r : Int} (ha : Rp K H (.ref a) (rowD ("u", 0))) (hb : Rp K H (.ref b) (rowD ("v", 0))) (hc : Rp K H (.ref c) (rowD ("cells", 4))) (r0 : 0 ≤ r) (r1 : r < 3) :
    ∃ (prm : Nm) (rows : List V), cutV [.ref a, .ref b, .ref c] none (some (1 + r)) = rows ∧ RpA K H rows (prm.map rowD) ∧ prm ∈ prm3 := by
  have : r = 0 ∨ r = 1 ∨ r = 2 := by omega
  rcases this with rfl | rfl | rfl
  · exact ⟨[("u", 0)], [.ref a], rfl, .cons ha .nil, by decide +kernel⟩
  · exact ⟨[("u", 0), ("v", 0)], [.ref a, .ref b], rfl, .cons ha (.cons hb .nil), by decide +kernel⟩
  · exact ⟨[("u", 0), ("v", 0), ("cells", 4)], [.ref a, .ref b, .ref c], rfl, .cons ha (.cons hb (.cons hc .nil)), by decide +kernel⟩
theorem row_inv {K : PySem.W.Frag} {H : Hp} {x : V} {y : Str} {s : Int} (rd : Rp K H x (rowD (y, s))) : ∃ t, x = .ref t ∧ SqT K H t [.str y, .int s] := by
  obtain ⟨t, xs, rfl, hs, ha⟩ := Rp.inv (ds := [.str y, .int s]) rd
  obtain ⟨v1, r1, rfl, h1, ha⟩ := ha.inv
  obtain ⟨v2, r2, rfl, h2, ha⟩ := ha.inv
  rw [ha.inv0, h1.sInv, h2.iInv] at hs
  exact ⟨t, rfl, hs⟩
theorem nm_nd_none {prm : Nm} (nd : (prm.map (·.1)).Nodup) {j : Nat} {y : Str} {s : Int} (h : prm[j]? = some (y, s)) : (prm.take j).lookup y = none := by
  refine lookup_none fun p hp e => ?_
  obtain ⟨i, hi, rfl⟩ := List.getElem_of_mem hp
  rw [List.length_take] at hi
  have hj : j < prm.length := by
    rcases Nat.lt_or_ge j prm.length with z | z
    · exact z
    · rw [List.getElem?_eq_none z] at h; cases h
  rw [List.getElem?_eq_getElem hj] at h
  have h := Option.some.inj h
  rw [List.getElem_take] at e
  have hi2 : i < prm.length := by omega
  have key := List.pairwise_iff_getElem.mp nd i j (by rw [List.length_map]; exact hi2) (by rw [List.length_map]; exact hj) (by omega)
  refine key ?_
  rw [List.getElem_map, List.getElem_map, h]
  exact e
def spProgram (K : PySem.W.Frag) : Sp := fun vs H Q _ => ∃ (dr : Addr) (left : Nat), vs = [.ref dr, .int left] ∧ DrawAt H dr ∧ left ≤ 60 ∧ ∀ (v : V) (H' : Hp) (p : Prg), GS dr H H' → Rp K H' v p.d → PrgOk p → Q v H'
section
variable {P : Program} {w : World} {K : PySem.W.Frag} {mg : Str → Option Value} {base : Heap}
theorem ok_z_program (T : Txt K mg) : FnOk P w K mg base CX0 33 T.f_z_program T.d_z_program ["draw", "left"] (spProgram K) := by
  have G_z_take := okG_z_take (P := P) (w := w) (base := base) T
  have G_z_counting := ok_z_counting (P := P) (w := w) (base := base) T
  have G_z_body := ok_z_body (P := P) (w := w) (base := base) T 3
  refine T.F_z_program.ok sc_z_program (fun vs H Q E h => ?_) (fun cdv A outer s H vs Q E hr h => ?_)
  · obtain ⟨dr, left, rfl, _⟩ := h
    rfl
  · obtain ⟨dr, left, rfl, D, hleft, q⟩ := h
    have hr : Room 32 _ := hr
    refine ⟨_, (pss_cons (ps_set (i := 2) sc_z_program.nd rfl (Or.inl rfl) (pe_ix ix_list (pe_lst (pa_cons pe_int (pa_cons pe_int (pa_cons pe_int (pa_cons pe_int (pa_cons pe_int (pa_cons pe_int (pa_cons (pe_op op_add pe_int (pe_call G_z_take (hr.mono (by omega)) (by rfl) T.g_z_take T.F_z_take.kp T.b_z_take .nil pass0 (pa_cons (pv 0) (pa_cons pe_int pa_nil)))) pa_nil)))))))) (pe_call G_z_take (hr.mono (by omega)) (by rfl) T.g_z_take T.F_z_take.kp T.b_z_take .nil pass0 (pa_cons (pv 0) (pa_cons pe_int pa_nil))) (fun _ _ => rfl)))
      (pss_cons (ps_set (i := 3) sc_z_program.nd rfl (Or.inl rfl) (pe_disp (pps_cons pe_str (pv 0) (pps_cons pe_str (pv 2) (pps_cons pe_str pe_int (pps_cons pe_str (pv 1) (pps_cons pe_str (pe_lst pa_nil) pps_nil))))) (by rfl) (by rfl) (fun z => by cases z) (by decide)))
      (pss_cons (ps_set (i := 4) sc_z_program.nd rfl (Or.inl rfl) (pe_disp (pps_cons pe_str pe_int (pps_cons pe_str pe_int (pps_cons pe_str pe_int pps_nil))) (by rfl) (by rfl) (fun z => by cases z) (by decide)))
      (pss_cons (ps_set (i := 5) sc_z_program.nd rfl (Or.inl rfl) (pe_lst (pa_cons (pe_tup (pa_cons pe_str (pa_cons pe_int pa_nil))) (pa_cons (pe_tup (pa_cons pe_str (pa_cons pe_int pa_nil))) (pa_cons (pe_tup (pa_cons pe_str (pa_cons pe_int pa_nil))) pa_nil)))))
      (pss_cons (ps_for PassesOwn.never rfl (pi_range1 (by rfl) T.m_range (pa_cons (pe_call G_z_take (hr.mono (by omega)) (by rfl) T.g_z_take T.F_z_take.kp T.b_z_take .nil pass0 (pa_cons (pv 0) (pa_cons pe_int pa_nil))) pa_nil)) (pg_name (i := 6) sc_z_program.nd rfl (Or.inl rfl))
        (pss_cons (ps_set (i := 7) sc_z_program.nd rfl (Or.inl rfl) (pe_ix ix_list (pe_lst (pa_cons pe_str (pa_cons pe_str pa_nil))) (pv 6) (fun _ _ => rfl)))
        (pss_cons (ps_dput (hu_of hr) (pv 4) (pv 7) (pe_ix ix_list (pe_lst (pa_cons pe_int (pa_cons pe_int (pa_cons pe_int (pa_cons pe_int (pa_cons pe_int (pa_cons pe_int pa_nil))))))) (pe_call G_z_take (hr.mono (by omega)) (by rfl) T.g_z_take T.F_z_take.kp T.b_z_take .nil pass0 (pa_cons (pv 0) (pa_cons pe_int pa_nil))) (fun _ _ => rfl)) rfl)
        (pss_one (ps_expr (pe_bm PySem.F.plainAttrs_list PySem.F.slot_list_append PySem.F.type_list_append mt_append (pv 5) (pa_cons (pe_tup (pa_cons (pv 7) (pa_cons (pe_dget (hu_of hr) (pv 4) (pv 7) (fun _ _ => rfl)) pa_nil))) pa_nil)))))))
      (pss_cons (ps_set (i := 8) sc_z_program.nd rfl (Or.inr rfl) (pe_lst pa_nil))
      (pss_cons (ps_set (i := 9) sc_z_program.nd rfl (Or.inl rfl) (pe_tup (pa_cons (pe_tup (pa_cons pe_str (pa_cons pe_int pa_nil))) (pa_cons (pe_tup (pa_cons pe_str (pa_cons pe_int pa_nil))) pa_nil))))
      (pss_cons (ps_cut (ps_if (pt_cut (PW.pt (pw_and (pt_cmpR op_eq (pe_call G_z_take (hr.mono (by omega)) (by rfl) T.g_z_take T.F_z_take.kp T.b_z_take .nil pass0 (pa_cons (pv 0) (pa_cons pe_int pa_nil))) pe_int (nomark _)) (pw_and1 (pt_cmpR op_lt (pv 2) pe_int (nomark _))))))
        (pss_cons (ps_expr (pe_bm PySem.F.plainAttrs_list PySem.F.slot_list_append PySem.F.type_list_append mt_append (pv 8) (pa_cons (pe_call G_z_counting (hr.mono (by omega)) (by rfl) T.g_z_counting T.F_z_counting.kp T.b_z_counting .nil pass0 (pa_cons pe_str (pa_cons pe_str (pa_cons pe_str pa_nil)))) pa_nil)))
        (pss_one (ps_dput (hu_of hr) (pv 3) pe_str (pe_lst (pa_cons (pe_tup (pa_cons pe_str (pa_cons (pv 9) pa_nil))) pa_nil)) rfl)))
        pss_nil))
      (pss_cons (ps_cut (ps_if (pt_cut (PW.pt (pw_and (pt_cmpR op_eq (pe_call G_z_take (hr.mono (by omega)) (by rfl) T.g_z_take T.F_z_take.kp T.b_z_take .nil pass0 (pa_cons (pv 0) (pa_cons pe_int pa_nil))) pe_int (nomark _)) (pw_and1 (pt_cmpR op_lt (pv 2) pe_int (nomark _))))))
        (pss_cons (ps_expr (pe_bm PySem.F.plainAttrs_list PySem.F.slot_list_append PySem.F.type_list_append mt_append (pv 8) (pa_cons (pe_call G_z_counting (hr.mono (by omega)) (by rfl) T.g_z_counting T.F_z_counting.kp T.b_z_counting .nil pass0 (pa_cons pe_str (pa_cons pe_str (pa_cons pe_str pa_nil)))) pa_nil)))
        (pss_cons (ps_expr (pe_bm PySem.F.plainAttrs_list PySem.F.slot_list_append PySem.F.type_list_append mt_append (pv 8) (pa_cons (pe_call G_z_counting (hr.mono (by omega)) (by rfl) T.g_z_counting T.F_z_counting.kp T.b_z_counting .nil pass0 (pa_cons pe_str (pa_cons pe_str (pa_cons pe_str pa_nil)))) pa_nil)))
        (pss_one (ps_dput (hu_of hr) (pv 3) pe_str (pe_op op_cat (pe_dget (hu_of hr) (pv 3) pe_str (fun _ _ => rfl)) (pe_lst (pa_cons (pe_tup (pa_cons pe_str (pa_cons (pv 9) pa_nil))) (pa_cons (pe_tup (pa_cons pe_str (pa_cons (pv 9) pa_nil))) pa_nil)))) rfl))))
        pss_nil))
      (pss_cons (ps_cut (ps_if (pt_cmpR op_eq (pe_call G_z_take (hr.mono (by omega)) (by rfl) T.g_z_take T.F_z_take.kp T.b_z_take .nil pass0 (pa_cons (pv 0) (pa_cons pe_int pa_nil))) pe_int (nomark _))
        (pss_cons (ps_set (i := 10) sc_z_program.nd rfl (Or.inl rfl) (pe_tup (pa_cons pe_str (pa_cons pe_int pa_nil))))
        (pss_cons (ps_expr (pe_bm PySem.F.plainAttrs_list PySem.F.slot_list_append PySem.F.type_list_append mt_append (pv 8) (pa_cons (pe_tup (pa_cons pe_str (pa_cons (pe_tup pa_nil) (pa_cons (pe_tup (pa_cons (pe_tup (pa_cons pe_str (pa_cons pe_str (pa_cons (pv 10) (pa_cons (pe_tup (pa_cons (pe_tup (pa_cons pe_str pa_nil)) (pa_cons (pe_tup (pa_cons pe_str (pa_cons (pe_tup (pa_cons pe_str (pa_cons pe_str pa_nil))) (pa_cons (pe_tup (pa_cons pe_str (pa_cons pe_int pa_nil))) pa_nil)))) pa_nil))) (pa_cons (pv 10) pa_nil)))))) pa_nil)) pa_nil)))) pa_nil)))
        (pss_one (ps_dput (hu_of hr) (pv 3) pe_str (pe_op op_cat (pe_dget (hu_of hr) (pv 3) pe_str (fun _ _ => rfl)) (pe_lst (pa_cons (pe_tup (pa_cons pe_str (pa_cons (pe_tup pa_nil) pa_nil))) pa_nil))) rfl))))
        pss_nil))
      (pss_cons (ps_for PassesOwn.never rfl (pi_range1 (by rfl) T.m_range (pa_cons (pe_call G_z_take (hr.mono (by omega)) (by rfl) T.g_z_take T.F_z_take.kp T.b_z_take .nil pass0 (pa_cons (pv 0) (pa_cons pe_int pa_nil))) pa_nil)) (pg_name (i := 6) sc_z_program.nd rfl (Or.inl rfl))
        (pss_cons (ps_set (i := 11) sc_z_program.nd rfl (Or.inl rfl) (pe_slice sl_list (pe_lst (pa_cons (pe_tup (pa_cons pe_str (pa_cons pe_int pa_nil))) (pa_cons (pe_tup (pa_cons pe_str (pa_cons pe_int pa_nil))) (pa_cons (pe_tup (pa_cons pe_str (pa_cons pe_int pa_nil))) pa_nil)))) po_none (po_some (pe_op op_add pe_int (pe_call G_z_take (hr.mono (by omega)) (by rfl) T.g_z_take T.F_z_take.kp T.b_z_take .nil pass0 (pa_cons (pv 0) (pa_cons pe_int pa_nil)))))))
        (pss_cons (ps_set (i := 12) sc_z_program.nd rfl (Or.inl rfl) pe_dnewK)
        (pss_cons (ps_for PassesOwn.never rfl (pi_list (pv 11)) (pg_name (i := 13) sc_z_program.nd rfl (Or.inl rfl))
          (pss_one (ps_dput (hu_of hr) (pv 12) (pe_ix ix_tup (pv 13) pe_int (fun _ _ => rfl)) (pe_ix ix_tup (pv 13) pe_int (fun _ _ => rfl)) rfl)))
        (pss_cons (ps_dput (hu_of hr) (pv 3) pe_str (pe_op op_add pe_int (pe_op op_fdivW (pv 1) pe_int)) rfl)
        (pss_cons (ps_set (i := 14) sc_z_program.nd rfl (Or.inl rfl) (pe_call G_z_body (hr.mono (by omega)) (by rfl) T.g_z_body T.F_z_body.kp T.b_z_body .nil pass0 (pa_cons (pv 3) (pa_cons (pv 12) (pa_cons (pe_lc (own := [("row", 13)]) (g := gName 13) (by rfl) sc_z_program.nd (pi_list (pv 11)) (blkOk_by (own := [("row", 13)]) (N := N_z_program) (sc := defScope s_z_program) (by decide +kernel)) (fun _ _ _ _ _ => (pg_name (i := 13) sc_z_program.nd rfl (Or.inl rfl))) (fun _ _ _ _ _ => pts_nil) (fun _ _ _ _ _ => (pe_ix (ixT (K := K) rfl) (pv 13) pe_int (fun _ _ => rfl)))) (pa_cons pe_int pa_nil))))))
        (pss_cons (ps_expr (pe_bm PySem.F.plainAttrs_list PySem.F.slot_list_append PySem.F.type_list_append mt_append (pv 8) (pa_cons (pe_tup (pa_cons (pe_ix ix_list (pe_lst (pa_cons pe_str (pa_cons pe_str pa_nil))) (pv 6) (fun _ _ => rfl)) (pa_cons (pe_callTy call_tuple_of (by rfl) T.m_tuple (by decide +kernel) (pa_cons (pv 11) pa_nil)) (pa_cons (pv 14) pa_nil)))) pa_nil)))
        (pss_one (ps_dput (hu_of hr) (pv 3) pe_str (pe_op op_cat (pe_dget (hu_of hr) (pv 3) pe_str (fun _ _ => rfl)) (pe_lst (pa_cons (pe_tup (pa_cons (pe_ix ix_list (pe_lst (pa_cons pe_str (pa_cons pe_str pa_nil))) (pv 6) (fun _ _ => rfl)) (pa_cons (pv 11) pa_nil))) pa_nil))) rfl)))))))))
      (pss_cons (ps_dput (hu_of hr) (pv 3) pe_str (pv 1) rfl)
      (pss_cons (ps_set (i := 14) sc_z_program.nd rfl (Or.inl rfl) (pe_cut (pe_op op_catA (pe_call G_z_body (hr.mono (by omega)) (by rfl) T.g_z_body T.F_z_body.kp T.b_z_body .nil pass0 (pa_cons (pv 3) (pa_cons (pv 4) (pa_cons (pe_lc (own := [("row", 13)]) (g := gName 13) (by rfl) sc_z_program.nd (pi_list (pv 5)) (blkOk_by (own := [("row", 13)]) (N := N_z_program) (sc := defScope s_z_program) (by decide +kernel)) (fun _ _ _ _ _ => (pg_name (i := 13) sc_z_program.nd rfl (Or.inl rfl))) (fun _ _ _ _ _ => pts_nil) (fun _ _ _ _ _ => (pe_ix (ixT (K := K) rfl) (pv 13) pe_int (fun _ _ => rfl)))) (pa_cons pe_int pa_nil))))) (pe_call G_z_body (hr.mono (by omega)) (by rfl) T.g_z_body T.F_z_body.kp T.b_z_body .nil pass0 (pa_cons (pv 3) (pa_cons (pv 4) (pa_cons (pe_lc (own := [("row", 13)]) (g := gName 13) (by rfl) sc_z_program.nd (pi_list (pv 5)) (blkOk_by (own := [("row", 13)]) (N := N_z_program) (sc := defScope s_z_program) (by decide +kernel)) (fun _ _ _ _ _ => (pg_name (i := 13) sc_z_program.nd rfl (Or.inl rfl))) (fun _ _ _ _ _ => pts_nil) (fun _ _ _ _ _ => (pe_ix (ixT (K := K) rfl) (pv 13) pe_int (fun _ _ => rfl)))) (pa_cons pe_int pa_nil))))))))
      (pss_cons (ps_expr (pe_bm PySem.F.plainAttrs_list PySem.F.slot_list_append PySem.F.type_list_append mt_append (pv 8) (pa_cons (pe_tup (pa_cons pe_str (pa_cons (pe_tup pa_nil) (pa_cons (pv 14) pa_nil)))) pa_nil)))
      (pss_cons (ps_cut (ps_if (pt_cmpR op_eq (pe_call G_z_take (hr.mono (by omega)) (by rfl) T.g_z_take T.F_z_take.kp T.b_z_take .nil pass0 (pa_cons (pv 0) (pa_cons pe_int pa_nil))) pe_int (nomark _))
        (pss_one (ps_set (i := 8) sc_z_program.nd rfl (Or.inr rfl) (pe_lc (own := [("k", 6)]) (g := gName 6) (by rfl) sc_z_program.nd (pi_range1 (by rfl) T.m_range (pa_cons (pe_callB call_len_seq (by rfl) T.m_len (by decide +kernel) (pa_cons (pv 8) pa_nil)) pa_nil)) (blkOk_by (own := [("k", 6)]) (N := N_z_program) (sc := defScope s_z_program) (by decide +kernel)) (fun _ _ _ _ _ => (pg_name (i := 6) sc_z_program.nd rfl (Or.inl rfl))) (fun _ _ _ _ _ => pts_nil) (fun _ _ _ _ _ => (pe_ix (ixL (K := K) rfl) (pv 8) (pe_op op_sub (pe_op op_sub (pe_callB (lnQ (K := K) rfl) (by rfl) T.m_len (by decide +kernel) (pa_cons (pv 8) pa_nil)) pe_int) (pv 6)) (fun _ _ => rfl))))))
        pss_nil))
      (pss_one (ps_ret (pe_tup (pa_cons (pv 2) (pa_cons (pe_callTy call_tuple_of (by rfl) T.m_tuple (by decide +kernel) (pa_cons (pv 5) pa_nil)) (pa_cons (pe_callTy call_tuple_of (by rfl) T.m_tuple (by decide +kernel) (pa_cons (pv 8) pa_nil)) pa_nil))))))))))))))))))))), ?_⟩
    -- width
    refine ⟨_, rfl, dr, 32, rfl, D, by decide, by decide, fun r H1 r0 r1 g1 => ?_⟩
    refine ⟨_, _, rfl, rfl, (show 7 ≤ sizeLine by decide), fun l nl => ?_⟩
    have g2 : GS dr H1 (upd H1 l (.lst [.int 1, .int 2, .int 3, .int 4, .int 8, .int 32, .int (1 + r)])) := .new g1.d nl
    refine ⟨_, rfl, dr, 7, rfl, g2.d, by decide, by decide, fun r2 H2 q0 q1 g3 => ?_⟩
    obtain ⟨wv, hw1, hw2⟩ := atI_in (xs := [V.int 1, .int 2, .int 3, .int 4, .int 8, .int 32, .int (1 + r)]) q0 q1
    have nld : l ∉ [dr] := fun z => by
      obtain ⟨o, e⟩ := g1.d.some
      rw [List.mem_singleton.mp z, e] at nl
      cases nl
    refine ⟨l, _, r2, _, rfl, rfl, SqL.of (g3.k.kp _ _ nld upd_same), hw1, ?_⟩
    obtain ⟨wd, rfl, w1, w2⟩ : ∃ n : Nat, wv = .int n ∧ 1 ≤ n ∧ n ≤ 32 := by
      obtain ⟨m, rfl⟩ := int_nat r0
      simp only [List.mem_cons, List.not_mem_nil, or_false] at hw2
      rcases hw2 with rfl | rfl | rfl | rfl | rfl | rfl | rfl
      · exact ⟨1, rfl, by decide, by decide⟩
      · exact ⟨2, rfl, by decide, by decide⟩
      · exact ⟨3, rfl, by decide, by decide⟩
      · exact ⟨4, rfl, by decide, by decide⟩
      · exact ⟨8, rfl, by decide, by decide⟩
      · exact ⟨32, rfl, by decide, by decide⟩
      · exact ⟨1 + m, congrArg V.int (by omega), by omega, by omega⟩
    have g0 := (g1.trans g2).trans g3
    clear hw1 hw2 g1 g2 g3 nl nld
    -- p
    refine fun pd npd => ⟨_, rfl, _, rfl, _, rfl, Nat.zero_le _, fun pl npl => ?_⟩
    have nppl : pd ≠ pl := fun z => by rw [← z, upd_same] at npl; cases npl
    refine ⟨by rw [upd_ne nppl]; exact upd_same, pdK dr wd 0 left pl, rfl, (show 5 ≤ 15 by decide), ?_⟩
    rw [pd_new]
    have npd0 : H pd = none := g0.k.free npd
    have npl0 : H2 pl = none := by rw [upd_ne (Ne.symm nppl)] at npl; exact npl
    have D2 := g0.d
    have sb : PSt K (upd (upd (upd H2 pd (.dK [])) pl (.lst [])) pd (.dK (pdK dr wd 0 left pl))) pd dr wd 0 left pl [] := by
      refine ⟨upd_same, ?_, w1, w2, ⟨⟨[], by rw [upd_ne (Ne.symm nppl)]; exact upd_same, .nil⟩, List.nodup_nil, Nat.zero_le _, (fun p hp => by cases hp), (fun p hp => by cases hp)⟩, by omega⟩
      have k : Same H2 (upd (upd (upd H2 pd (.dK [])) pl (.lst [])) pd (.dK (pdK dr wd 0 left pl))) := fun b o e => by
        have e1 : b ≠ pd := ne_of_none e npd
        have e2 : b ≠ pl := ne_of_none e npl0
        rw [upd_ne e1, upd_ne e2, upd_ne e1]
        exact e
      exact D2.keep k
    have kb : KT [dr] H (upd (upd (upd H2 pd (.dK [])) pl (.lst [])) pd (.dK (pdK dr wd 0 left pl))) := g0.k.trans (KT.late (KT.late (KT.new [dr] npd) npl0) npd)
    generalize upd (upd (upd H2 pd (.dK [])) pl (.lst [])) pd (.dK (pdK dr wd 0 left pl)) = Hb at sb kb ⊢
    -- names
    refine fun nd nnd => ⟨upd_same, nmK gl0, rfl, (show 3 ≤ 15 by decide), ?_⟩
    rw [nm_new, upd_upd]
    have gn : GS dr Hb (upd Hb nd (.dK (nmK gl0))) := .new sb.d nnd
    have nm0 : NmAt (upd Hb nd (.dK (nmK gl0))) nd (glb []) := ⟨upd_same, by decide +kernel, by decide +kernel, by decide +kernel, by decide +kernel⟩
    generalize upd Hb nd (.dK (nmK gl0)) = H3 at gn nm0 ⊢
    -- rows
    refine ⟨sz2, fun t1 n1 => ?_⟩
    obtain ⟨h1, ra⟩ := mk_tup (K := K) gn.d n1 (.cons (.str "a") (.cons (.int 0) .nil))
    generalize upd _ t1 _ = H4 at h1 ra ⊢
    refine ⟨sz2, fun t2 n2 => ?_⟩
    obtain ⟨h2, rb⟩ := mk_tup (K := K) h1.d n2 (.cons (.str "b") (.cons (.int 0) .nil))
    generalize upd _ t2 _ = H5 at h2 rb ⊢
    refine ⟨sz2, fun t3 n3 => ?_⟩
    obtain ⟨h3, rc⟩ := mk_tup (K := K) h2.d n3 (.cons (.str "c_1") (.cons (.int 0) .nil))
    generalize upd _ t3 _ = H6 at h3 rc ⊢
    refine ⟨sz3, fun rl nrl => ?_⟩
    have gr := ((h1.trans h2).trans h3).trans (.new (o := .lst [.ref t1, .ref t2, .ref t3]) h3.d nrl)
    have gb := gn.trans gr
    have A0 : PgA K Hb (upd H6 rl (.lst [.ref t1, .ref t2, .ref t3])) dr pd nd rl pl wd 0 left [] [] :=
      ⟨gb.kp, ⟨_, _, _, sb⟩, sb.keep gb, nm0.keep gn.d gr, ⟨_, upd_same, .cons (((ra.keep h2.k).keep h3.k).keep (KT.new [] nrl)) (.cons ((rb.keep h3.k).keep (KT.new [] nrl)) (.cons (rc.keep (KT.new [] nrl)) .nil))⟩, nnd, gn.k.free (h1.k.free (h2.k.free (h3.k.free nrl))), ⟨Nat.zero_le _, fun s hs => by cases hs⟩⟩
    generalize upd H6 rl (.lst [.ref t1, .ref t2, .ref t3]) = H7 at A0 ⊢
    -- the arrays
    refine ⟨_, rfl, dr, 3, rfl, A0.st.d, by decide, by decide, fun r H8 r0 r1 g8 => ?_⟩
    obtain ⟨m, rfl⟩ := int_nat r0
    refine ⟨_, rfl, by omega, by omega, for_range (n := m) (fun i σ Hs => ∃ x6 x7 ss, σ = [some (.ref dr), some (.int left), some (.int wd), some (.ref pd), some (.ref nd), some (.ref rl), x6, x7, none, none, none, none, none, none, none] ∧ PgA K Hb Hs dr pd nd rl pl wd 0 left [] ss ∧ ss.length = i) ?_ ?_ ?_⟩
    · exact ⟨_, _, [], rfl, A0.keep g8, rfl⟩
    · rintro i σ Hs hi ⟨x6, x7, ss, rfl, A, ls⟩
      obtain ⟨x, hx, hlk, hbs, happ⟩ := glb_at (by omega) ls
      have hx' : atI ([V.str "list", V.str "row"]) (0 + (i : Int)) = some (.str x) := by
        rw [Int.zero_add]
        exact atI_nat (by rw [show [V.str "list", V.str "row"] = (["list", "row"] : List Str).map V.str from rfl, List.getElem?_map, hx]; rfl)
      refine ⟨sz2, fun l2 nl2 => ⟨_, rfl, l2, _, _, _, rfl, rfl, SqL.of upd_same, hx', ?_⟩⟩
      have A1 := A.keep (.new (o := .lst [.str "list", .str "row"]) A.st.d nl2)
      generalize upd Hs l2 (.lst [.str "list", .str "row"]) = H9 at A1 ⊢
      refine ⟨(show 6 ≤ sizeLine by decide), fun l3 nl3 => ?_⟩
      have g10 : GS dr H9 (upd H9 l3 (.lst [.int 4, .int 3, .int 1, .int 2, .int 5, .int 9])) := .new A1.st.d nl3
      refine ⟨_, rfl, dr, 6, rfl, g10.d, by decide, by decide, fun r3 H11 q0 q1 g11 => ?_⟩
      obtain ⟨sv, hs1, hs2⟩ := atI_in (xs := [V.int 4, .int 3, .int 1, .int 2, .int 5, .int 9]) q0 q1
      have nl3d : l3 ∉ [dr] := fun z => by
        obtain ⟨o, e⟩ := A1.st.d.some
        rw [List.mem_singleton.mp z, e] at nl3
        cases nl3
      have A2 := A1.keep (g10.trans g11)
      refine ⟨l3, _, r3, _, rfl, rfl, SqL.of (g11.k.kp _ _ nl3d upd_same), hs1, ?_⟩
      obtain ⟨s, rfl, s1, s9⟩ : ∃ n : Int, sv = .int n ∧ 1 ≤ n ∧ n ≤ 9 := by
        simp only [List.mem_cons, List.not_mem_nil, or_false] at hs2
        rcases hs2 with rfl | rfl | rfl | rfl | rfl | rfl
        · exact ⟨_, rfl, by decide, by decide⟩
        · exact ⟨_, rfl, by decide, by decide⟩
        · exact ⟨_, rfl, by decide, by decide⟩
        · exact ⟨_, rfl, by decide, by decide⟩
        · exact ⟨_, rfl, by decide, by decide⟩
        · exact ⟨_, rfl, by decide, by decide⟩
      refine ⟨_, rfl, _, rfl, nd, _, rfl, DPut.k (k := Sum.inr x) A2.n.h (by rw [nmK_length]; exact small1000 A2.n.z), ?_⟩
      rw [nm_addS hlk, happ]
      obtain ⟨vs, hv1, hv2⟩ := A2.r
      have nr : rl ≠ nd := ne_of hv1 A2.n.h (by intro z; cases z)
      have hget : valV (nmK (glb (ss ++ [s]))) (.inr x) = some (.int s) := by
        rw [valV_nm, ← happ, List.lookup_append, hlk]
        simp
      have hrl : (upd H11 nd (.dK (nmK (glb (ss ++ [s]))))) rl = some (.lst vs) := by rw [upd_ne nr]; exact hv1
      refine ⟨_, rfl, .inl ⟨rfl, _, SqL.of hrl⟩, _, rfl, _, rfl, _, rfl, nd, _, rfl, dget_s upd_same hget, sz2, fun t nt => ?_⟩
      refine ⟨rl, vs, _, rfl, rfl, by rw [upd_ne (ne_of_none hrl nt)]; exact hrl, ?_, ?_⟩
      · rw [hv2.length, List.length_map]
        have := glb_len ss
        exact Nat.lt_of_le_of_lt this (by decide)
      · exact ⟨_, _, ss ++ [s], rfl, A2.name hlk hbs (happ s) (by omega) s1 s9 ⟨_, _, sb⟩ hv1 nt rfl, by rw [List.length_append, ls]; rfl⟩
    rintro σ H9 ⟨x6, x7, ss, rfl, A, ls⟩
    -- procedures, two
    refine ⟨Nat.zero_le _, fun al nal => ?_⟩
    have ga : GS dr H9 (upd H9 al (.lst [])) := .new A.st.d nal
    refine ⟨sz2, fun t4 n4 => ?_⟩
    obtain ⟨h4, rn⟩ := mk_tup (K := K) ga.d n4 (.cons (.str "n") (.cons (.int 0) .nil))
    have al4 : upd (upd H9 al (.lst [])) t4 (.tup [.str "n", .int 0]) al = some (.lst []) := by rw [upd_ne (ne_of_none upd_same n4)]; exact upd_same
    generalize upd _ t4 _ = H10 at h4 rn al4 ⊢
    refine ⟨sz2, fun t5 n5 => ?_⟩
    obtain ⟨h5, rx⟩ := mk_tup (K := K) h4.d n5 (.cons (.str "x") (.cons (.int 0) .nil))
    have al5 : upd H10 t5 (.tup [.str "x", .int 0]) al = some (.lst []) := by rw [upd_ne (ne_of_none al4 n5)]; exact al4
    generalize upd _ t5 _ = H11 at h5 rx al5 ⊢
    refine ⟨sz2, fun tw ntw => ?_⟩
    have h6 : GS dr H11 (upd H11 tw (.tup [.ref t4, .ref t5])) := .new h5.d ntw
    have two : Two K (upd H11 tw (.tup [.ref t4, .ref t5])) tw := ⟨_, upd_same, .cons ((rn.keep h5.k).keep h6.k) (.cons (rx.keep h6.k) .nil)⟩
    have al6 : upd H11 tw (.tup [.ref t4, .ref t5]) al = some (.lst []) := by rw [upd_ne (ne_of_none al5 ntw)]; exact al5
    have S0 : Stg K Hb (upd H11 tw (.tup [.ref t4, .ref t5])) dr pd nd rl al tw wd 0 left ss [] := by
      refine ⟨⟨pl, [], ⟨A.keep (((ga.trans h4).trans h5).trans h6), A.k.free nal, ?_, ⟨[], al6, .nil⟩, ?_, ?_⟩, (fun p hp => by cases hp), List.nodup_nil, Nat.le_refl _⟩, two⟩
      · obtain ⟨vs, e, _⟩ := A.r
        exact ne_of_none e nal
      · obtain ⟨vs, e, _⟩ := A.st.pr.h
        exact ne_of_none e nal
      · intro vs e t x q' m e'
        have S := A.st.keep (((ga.trans h4).trans h5).trans h6)
        obtain ⟨vs', e2, pv⟩ := S.pr.h
        rw [e] at e2
        cases e2
        cases pv
        cases m
    generalize upd H11 tw (.tup [.ref t4, .ref t5]) = H12 at S0 ⊢
    clear two al6 al5 al4 h6 h5 h4 rn rx ntw n5 n4 ga nal A
    -- again
    refine ⟨fun σ H' => σ = [some (.ref dr), some (.int left), some (.int wd), some (.ref pd), some (.ref nd), some (.ref rl), x6, x7, some (.ref al), some (.ref tw), none, none, none, none, none] ∧ Stg K Hb H' dr pd nd rl al tw wd 0 left ss ["again"], ?_, ?_⟩
    · refine ⟨fun b H' => GS dr H12 H', ?_, ?_⟩
      · obtain ⟨⟨pl, pcs, B, _⟩, _⟩ := S0
        refine ⟨_, rfl, dr, 3, rfl, B.a.st.d, by decide, by decide, fun r H13 _ _ g13 => ?_⟩
        refine ⟨rfl, _, rfl, ite2 (fun e => ?_) (fun e => g13)⟩
        exact ⟨_, rfl, _, _, rfl, rfl, _, rfl, g13⟩
      rintro b H13 g13
      refine ite2 (fun e => ?_) (fun e => ⟨rfl, (S0.keep g13).mono (fun x hx => by cases hx) (Nat.zero_le _)⟩)
      obtain ⟨⟨pl1, pcs, B, ok, nd', len⟩, two⟩ := S0.keep g13
      have hpcs : pcs = [] := List.eq_nil_of_length_eq_zero (Nat.le_zero.mp len)
      subst hpcs
      obtain ⟨vs, hal, hvs⟩ := B.pc
      refine ⟨_, rfl, .inl ⟨rfl, _, SqL.of hal⟩, dr, "again", "again", "plus", rfl, B.a.st.d, fun v H14 g14 r14 => ?_⟩
      have hal1 := g14.k.kp _ _ (nin1 (B.a.nin B.ab)) hal
      refine ⟨al, vs, _, rfl, rfl, hal1, (by rw [hvs.length]; decide), ?_⟩
      have B2 := (B.keep g14).add hal1 r14
      have two2 : Two K (upd H14 al (.lst (vs ++ [v]))) tw := by
        obtain ⟨rows, h1, h2⟩ := two.keep g14.k
        exact ⟨rows, by rw [upd_ne (ne_of h1 hal1 (by intro z; cases z))]; exact h1, rpA_ofT (sqT_putL hal1) h2⟩
      generalize upd H14 al (.lst (vs ++ [v])) = H15 at B2 two2 ⊢
      refine ⟨_, rfl, sz2, fun t nt => ⟨sz1, fun l1 nl1 => ?_⟩⟩
      have g15 : GS dr H15 (upd (upd H15 t (.tup [.str "again", .ref tw])) l1 (.lst [.ref t])) := (GS.new B2.a.st.d nt).trans (.new (B2.a.st.d.upd nt) nl1)
      have B3 := B2.keep g15
      have two3 := two2.keep g15.k
      refine ⟨_, rfl, pd, _, rfl, DPut.k (k := Sum.inr "procedures") B3.a.st.h (show 5 < sizeLine by decide), rfl, ?_⟩
      obtain ⟨ws, hws, pvs⟩ := B3.a.st.pr.h
      have ews : ws = [] := by cases pvs; rfl
      subst ews
      obtain ⟨vs3, hal3, _⟩ := B3.pc
      have ht : (upd (upd H15 t (.tup [.str "again", .ref tw])) l1 (.lst [.ref t])) t = some (.tup [.str "again", .ref tw]) := by
        rw [upd_ne (ne_of_none upd_same nl1)]; exact upd_same
      have hl1 : (upd (upd H15 t (.tup [.str "again", .ref tw])) l1 (.lst [.ref t])) l1 = some (.lst [.ref t]) := upd_same
      have nl1a : l1 ≠ al := by
        obtain ⟨vs2, hal2, _⟩ := B2.pc
        exact Ne.symm (ne_of_none (show (upd H15 t (.tup [.str "again", .ref tw])) al = some (.lst vs2) by rw [upd_ne (ne_of_none hal2 nt)]; exact hal2) nl1)
      refine Stg.mk' (L := []) (L' := ["again"]) (new := [cnt "again" "again" "plus"]) (ns := [.ref t]) B3 two3 (fun p hp => by cases hp) List.nodup_nil (Nat.le_refl _) (by decide +kernel) (by decide +kernel) (by decide) (by decide) ?_ (by decide +kernel) hws hl1 (.cons (two3.proc ht) .nil) nl1a ?_
      · intro _ p hp
        rw [List.mem_singleton.mp hp]
        exact ⟨by decide +kernel, cnt_ok w1 (by rfl) (by decide +kernel), cnt_dp ..⟩
      · intro t' x q' m e'
        obtain rfl : t' = t := V.ref.inj (List.mem_singleton.mp m)
        rw [ht] at e'
        cases e'
        obtain ⟨rows, e1, _⟩ := two3
        exact ne_of e1 hal3 (by intro z; cases z)
    rintro σ H13 ⟨rfl, S1⟩
    clear S0
    -- even, odd
    refine ⟨fun σ H' => σ = [some (.ref dr), some (.int left), some (.int wd), some (.ref pd), some (.ref nd), some (.ref rl), x6, x7, some (.ref al), some (.ref tw), none, none, none, none, none] ∧ Stg K Hb H' dr pd nd rl al tw wd 0 left ss ["again", "even", "odd"], ?_, ?_⟩
    · refine ⟨fun b H' => GS dr H13 H', ?_, ?_⟩
      · obtain ⟨⟨pl, pcs, B, _⟩, _⟩ := S1
        refine ⟨_, rfl, dr, 6, rfl, B.a.st.d, by decide, by decide, fun r H14 _ _ g14 => ?_⟩
        refine ⟨rfl, _, rfl, ite2 (fun e => ?_) (fun e => g14)⟩
        exact ⟨_, rfl, _, _, rfl, rfl, _, rfl, g14⟩
      rintro b H14 g14
      refine ite2 (fun e => ?_) (fun e => ⟨rfl, (S1.keep g14).mono (by decide +kernel) (by decide)⟩)
      obtain ⟨⟨pl1, pcs, B, ok, nd', len⟩, two⟩ := S1.keep g14
      have len : pcs.length ≤ 1 := len
      obtain ⟨vs, hal, hvs⟩ := B.pc
      have lvs : vs.length = pcs.length := by rw [hvs.length, List.length_map]
      refine ⟨_, rfl, .inl ⟨rfl, _, SqL.of hal⟩, dr, "even", "odd", "xor", rfl, B.a.st.d, fun v H15 g15 r15 => ?_⟩
      have hal1 := g15.k.kp _ _ (nin1 (B.a.nin B.ab)) hal
      refine ⟨al, vs, _, rfl, rfl, hal1, Nat.lt_of_le_of_lt (by omega : _ ≤ 1) (by decide), ?_⟩
      have B2 := (B.keep g15).add hal1 r15
      have two2 : Two K (upd H15 al (.lst (vs ++ [v]))) tw := by
        obtain ⟨rows, h1, h2⟩ := two.keep g15.k
        exact ⟨rows, by rw [upd_ne (ne_of h1 hal1 (by intro z; cases z))]; exact h1, rpA_ofT (sqT_putL hal1) h2⟩
      have hal2 : (upd H15 al (.lst (vs ++ [v]))) al = some (.lst (vs ++ [v])) := upd_same
      generalize upd H15 al (.lst (vs ++ [v])) = H16 at B2 two2 hal2 ⊢
      refine ⟨_, rfl, .inl ⟨rfl, _, SqL.of hal2⟩, dr, "odd", "even", "minus", rfl, B2.a.st.d, fun v2 H17 g17 r17 => ?_⟩
      have hal3 := g17.k.kp _ _ (nin1 (B2.a.nin B2.ab)) hal2
      refine ⟨al, vs ++ [v], _, rfl, rfl, hal3, Nat.lt_of_le_of_lt (by rw [List.length_append]; show vs.length + 1 ≤ 2; omega : _ ≤ 2) (by decide), ?_⟩
      have B3 := (B2.keep g17).add hal3 r17
      rw [show pcs ++ [cnt "even" "odd" "xor"] ++ [cnt "odd" "even" "minus"] = pcs ++ [cnt "even" "odd" "xor", cnt "odd" "even" "minus"] from List.append_assoc ..] at B3
      have two3 : Two K (upd H17 al (.lst (vs ++ [v] ++ [v2]))) tw := by
        obtain ⟨rows, h1, h2⟩ := two2.keep g17.k
        exact ⟨rows, by rw [upd_ne (ne_of h1 hal3 (by intro z; cases z))]; exact h1, rpA_ofT (sqT_putL hal3) h2⟩
      generalize upd H17 al (.lst (vs ++ [v] ++ [v2])) = H18 at B3 two3 ⊢
      obtain ⟨ws, hws, pvs⟩ := B3.a.st.pr.h
      have lws : ws.length ≤ 1 := by rw [Paired.length pvs]; unfold sig; rw [List.length_map]; exact len
      obtain ⟨vs3, hal4, _⟩ := B3.pc
      refine ⟨_, rfl, _, _, rfl, dget_s B3.a.st.h (pd_get_procs ..), _, rfl, sz2, fun t1 n1 => ⟨_, rfl, sz2, fun t2 n2 => ⟨sz2, fun l0 nl0 => ?_⟩⟩⟩
      have h1 : GS dr H18 (upd H18 t1 (.tup [.str "even", .ref tw])) := .new B3.a.st.d n1
      have h2 : GS dr (upd H18 t1 (.tup [.str "even", .ref tw])) (upd (upd H18 t1 (.tup [.str "even", .ref tw])) t2 (.tup [.str "odd", .ref tw])) := .new h1.d n2
      have e1 : (upd (upd H18 t1 (.tup [.str "even", .ref tw])) t2 (.tup [.str "odd", .ref tw])) t1 = some (.tup [.str "even", .ref tw]) := h2.k.tp _ _ upd_same
      have e2 : (upd (upd H18 t1 (.tup [.str "even", .ref tw])) t2 (.tup [.str "odd", .ref tw])) t2 = some (.tup [.str "odd", .ref tw]) := upd_same
      have h12 := h1.trans h2
      generalize upd (upd H18 t1 (.tup [.str "even", .ref tw])) t2 (.tup [.str "odd", .ref tw]) = H19 at e1 e2 h12 nl0 ⊢
      have h3 : GS dr H19 (upd H19 l0 (.lst [.ref t1, .ref t2])) := .new h12.d nl0
      have hws1 := (h12.trans h3).k.kp _ _ (nin1 (plNe B3.a.st)) hws
      refine ⟨pl1, l0, ws, _, rfl, rfl, hws1, upd_same, Nat.le_trans (show ws.length + 2 ≤ 3 by omega) (by decide), fun l1 nl1 => ?_⟩
      have h4 : GS dr (upd H19 l0 (.lst [.ref t1, .ref t2])) (upd (upd H19 l0 (.lst [.ref t1, .ref t2])) l1 (.lst (ws ++ [.ref t1, .ref t2]))) := .new h3.d nl1
      have g18 := (h12.trans h3).trans h4
      have B4 := B3.keep g18
      have two4 := two3.keep g18.k
      have e1 := (h3.trans h4).k.tp _ _ e1
      have e2 := (h3.trans h4).k.tp _ _ e2
      have hws2 := g18.k.kp _ _ (nin1 (plNe B3.a.st)) hws
      have hl1 : (upd (upd H19 l0 (.lst [.ref t1, .ref t2])) l1 (.lst (ws ++ [.ref t1, .ref t2]))) l1 = some (.lst (ws ++ [.ref t1, .ref t2])) := upd_same
      have hal5 := (h12.trans h3).k.kp _ _ (nin1 (B3.a.nin B3.ab)) hal4
      have nl1a : l1 ≠ al := Ne.symm (ne_of_none hal5 nl1)
      have hal6 := g18.k.kp _ _ (nin1 (B3.a.nin B3.ab)) hal4
      generalize upd (upd H19 l0 (.lst [.ref t1, .ref t2])) l1 (.lst (ws ++ [.ref t1, .ref t2])) = H20 at B4 two4 e1 e2 hws2 hl1 hal6 ⊢
      refine ⟨_, rfl, pd, _, rfl, DPut.k (k := Sum.inr "procedures") B4.a.st.h (show 5 < sizeLine by decide), rfl, ?_⟩
      refine Stg.mk' (L := ["again"]) (L' := ["even", "odd"]) (new := [cnt "even" "odd" "xor", cnt "odd" "even" "minus"]) (ns := [.ref t1, .ref t2]) B4 two4 ok nd' len (by decide +kernel) (by decide +kernel) (by decide) (by decide) ?_ (by decide +kernel) hws2 hl1 (.cons (two4.proc e1) (.cons (two4.proc e2) .nil)) nl1a ?_
      · intro nda p hp
        have lk : ∀ x : Str, x = "even" ∨ x = "odd" → (sig (pcs ++ [cnt "even" "odd" "xor", cnt "odd" "even" "minus"])).lookup x = some twoN := fun x hx => by
          refine lookup_memG (by rw [sig_names]; exact nda) ?_
          rw [sig_app]
          refine List.mem_append_right _ ?_
          rcases hx with rfl | rfl
          · exact List.mem_cons_self
          · exact List.mem_cons_of_mem _ List.mem_cons_self
        simp only [List.mem_cons, List.not_mem_nil, or_false] at hp
        rcases hp with rfl | rfl
        · exact ⟨by decide +kernel, cnt_ok w1 (lk _ (.inr rfl)) (by decide +kernel), cnt_dp ..⟩
        · exact ⟨by decide +kernel, cnt_ok w1 (lk _ (.inl rfl)) (by decide +kernel), cnt_dp ..⟩
      · intro t' x q' m e'
        have : q' = tw := by
          simp only [List.mem_cons, List.not_mem_nil, or_false] at m
          rcases m with m | m
          · obtain rfl := V.ref.inj m
            rw [e1] at e'; cases e'; rfl
          · obtain rfl := V.ref.inj m
            rw [e2] at e'; cases e'; rfl
        rw [this]
        obtain ⟨rows, e, _⟩ := two4
        exact ne_of e hal6 (by intro z; cases z)
    rintro σ H14 ⟨rfl, S2⟩
    clear S1
    -- alone
    refine ⟨fun σ H' => ∃ x10, σ = [some (.ref dr), some (.int left), some (.int wd), some (.ref pd), some (.ref nd), some (.ref rl), x6, x7, some (.ref al), some (.ref tw), x10, none, none, none, none] ∧ Stg K Hb H' dr pd nd rl al tw wd 0 left ss (Lk 0), ?_, ?_⟩
    · have D14 : DrawAt H14 dr := by
        obtain ⟨⟨pl, pcs, B, _⟩, _⟩ := S2
        exact B.a.st.d
      refine ⟨_, rfl, dr, 4, rfl, D14, by decide, by decide, fun r H15 _ _ g15 => ?_⟩
      refine ⟨rfl, _, rfl, ite2 (fun e => ?_) (fun e => ⟨_, rfl, (S2.keep g15).mono (by decide +kernel) (by decide)⟩)⟩
      obtain ⟨⟨pl1, pcs, B, ok, nd', len⟩, two⟩ := S2.keep g15
      have len : pcs.length ≤ 3 := len
      refine ⟨sz2, fun t0 n0 => ?_⟩
      obtain ⟨h0, r0'⟩ := mk_tup (K := K) B.a.st.d n0 (.cons (.str "int") (.cons (.int 1) .nil))
      generalize upd _ t0 _ = H16 at h0 r0' ⊢
      have B := B.keep h0
      have two := two.keep h0.k
      obtain ⟨vs, hal, hvs⟩ := B.pc
      have lvs : vs.length = pcs.length := by rw [hvs.length, List.length_map]
      refine ⟨_, rfl, .inl ⟨rfl, _, SqL.of hal⟩, ?_⟩
      refine TDs.run (K := K) (.cons (TD.tup (.cons (.str "alone") (.cons (TD.tup .nil) (.cons (TD.tup (.cons (TD.tup (.cons (.str "local") (.cons (.str "t") (.cons (.var 10 (by rfl) r0') (.cons (TD.tup (.cons (TD.tup (.cons (.str "skip") .nil)) (.cons (TD.tup (.cons (.str "xor") (.cons (TD.tup (.cons (.str "var") (.cons (.str "t") .nil))) (.cons (TD.tup (.cons (.str "int") (.cons (.int 0) .nil))) .nil)))) .nil))) (.cons (.var 10 (by rfl) r0') .nil)))))) .nil)) .nil)))) .nil) B.a.st.d fun v' H17 g17 r17 => ?_
      obtain ⟨v, rest, rfl, r17, rnil⟩ := r17.inv
      rw [rnil.inv0]
      have r17 : Rp K H17 v alone.d := r17
      have hal1 := g17.k.kp _ _ (nin1 (B.a.nin B.ab)) hal
      refine ⟨al, vs, _, rfl, rfl, hal1, Nat.lt_of_le_of_lt (by omega : _ ≤ 3) (by decide), ?_⟩
      have B3 := (B.keep g17).add hal1 r17
      have two3 : Two K (upd H17 al (.lst (vs ++ [v]))) tw := by
        obtain ⟨rows, h1, h2⟩ := two.keep g17.k
        exact ⟨rows, by rw [upd_ne (ne_of h1 hal1 (by intro z; cases z))]; exact h1, rpA_ofT (sqT_putL hal1) h2⟩
      generalize upd H17 al (.lst (vs ++ [v])) = H18 at B3 two3 ⊢
      obtain ⟨ws, hws, pvs⟩ := B3.a.st.pr.h
      have lws : ws.length ≤ 3 := by rw [Paired.length pvs]; unfold sig; rw [List.length_map]; exact len
      obtain ⟨vs3, hal4, _⟩ := B3.pc
      refine ⟨_, rfl, _, _, rfl, dget_s B3.a.st.h (pd_get_procs ..), Nat.zero_le _, fun t1 n1 => ⟨sz2, fun t2 n2 => ⟨sz1, fun l0 nl0 => ?_⟩⟩⟩
      have h1 : GS dr H18 (upd H18 t1 (.tup [])) := .new B3.a.st.d n1
      have h2 : GS dr (upd H18 t1 (.tup [])) (upd (upd H18 t1 (.tup [])) t2 (.tup [.str "alone", .ref t1])) := .new h1.d n2
      have e1 : (upd (upd H18 t1 (.tup [])) t2 (.tup [.str "alone", .ref t1])) t1 = some (.tup []) := h2.k.tp _ _ upd_same
      have e2 : (upd (upd H18 t1 (.tup [])) t2 (.tup [.str "alone", .ref t1])) t2 = some (.tup [.str "alone", .ref t1]) := upd_same
      have h12 := h1.trans h2
      generalize upd (upd H18 t1 (.tup [])) t2 (.tup [.str "alone", .ref t1]) = H19 at e1 e2 h12 nl0 ⊢
      have h3 : GS dr H19 (upd H19 l0 (.lst [.ref t2])) := .new h12.d nl0
      have hws1 := (h12.trans h3).k.kp _ _ (nin1 (plNe B3.a.st)) hws
      refine ⟨pl1, l0, ws, _, rfl, rfl, hws1, upd_same, Nat.le_trans (show ws.length + 1 ≤ 4 by omega) (by decide), fun l1 nl1 => ?_⟩
      have h4 : GS dr (upd H19 l0 (.lst [.ref t2])) (upd (upd H19 l0 (.lst [.ref t2])) l1 (.lst (ws ++ [.ref t2]))) := .new h3.d nl1
      have g18 := (h12.trans h3).trans h4
      have B4 := B3.keep g18
      have two4 := two3.keep g18.k
      have e1 := (h3.trans h4).k.tp _ _ e1
      have e2 := (h3.trans h4).k.tp _ _ e2
      have hws2 := g18.k.kp _ _ (nin1 (plNe B3.a.st)) hws
      have hl1 : (upd (upd H19 l0 (.lst [.ref t2])) l1 (.lst (ws ++ [.ref t2]))) l1 = some (.lst (ws ++ [.ref t2])) := upd_same
      have hal5 := (h12.trans h3).k.kp _ _ (nin1 (B3.a.nin B3.ab)) hal4
      have nl1a : l1 ≠ al := Ne.symm (ne_of_none hal5 nl1)
      have hal6 := g18.k.kp _ _ (nin1 (B3.a.nin B3.ab)) hal4
      generalize upd (upd H19 l0 (.lst [.ref t2])) l1 (.lst (ws ++ [.ref t2])) = H20 at B4 two4 e1 e2 hws2 hl1 hal6 ⊢
      refine ⟨_, rfl, pd, _, rfl, DPut.k (k := Sum.inr "procedures") B4.a.st.h (show 5 < sizeLine by decide), _, rfl, ?_⟩
      refine Stg.mk' (L := ["again", "even", "odd"]) (L' := ["alone"]) (new := [alone]) (ns := [.ref t2]) B4 two4 ok nd' len (by decide +kernel) (by decide +kernel) (by decide) (by decide) ?_ (by decide +kernel) hws2 hl1 (.cons ⟨t2, t1, [], rfl, e2, .inr e1, .nil⟩ .nil) nl1a ?_
      · intro nda p hp
        rw [List.mem_singleton.mp hp]
        exact alone_ok w1
      · intro t' x q' m e'
        obtain rfl := V.ref.inj (List.mem_singleton.mp m)
        rw [e2] at e'
        cases e'
        exact ne_of e1 hal6 (by intro z; cases z)
    rintro σ H15 ⟨x10, rfl, S3⟩
    clear S2
    have D15 : DrawAt H15 dr := by
      obtain ⟨⟨pl, pcs, B, _⟩, _⟩ := S3
      exact B.a.st.d
    refine ⟨_, rfl, dr, 3, rfl, D15, by decide, by decide, fun r H16 r0 r1 g16 => ?_⟩
    obtain ⟨m2, rfl⟩ := int_nat r0
    refine ⟨_, rfl, by omega, by omega, for_range (n := m2) (fun i σ Hs => ∃ y6 x11 x12 x13 x14 c l, σ = [some (.ref dr), some (.int left), some (.int wd), some (.ref pd), some (.ref nd), some (.ref rl), y6, x7, some (.ref al), some (.ref tw), x10, x11, x12, x13, x14] ∧ Stg K Hb Hs dr pd nd rl al tw wd c l ss (Lk i) ∧ c ≤ 31 * i) ?_ ?_ ?_⟩
    · exact ⟨_, _, _, _, _, 0, left, rfl, S3.keep g16, Nat.zero_le _⟩
    · rintro i σ Hs hi ⟨y6, x11, x12, x13, x14, c, l, rfl, S, hc⟩
      have hi2 : i < 2 := by omega
      obtain ⟨x, hx, hxn, hLk, hxp, hL20⟩ := dm_at hi2
      have hx' : atI ([V.str "do_it", V.str "more"]) (0 + (i : Int)) = some (.str x) := by
        rw [Int.zero_add]
        exact atI_nat (by rw [show [V.str "do_it", V.str "more"] = (["do_it", "more"] : List Str).map V.str from rfl, List.getElem?_map, hx]; rfl)
      obtain ⟨⟨pl1, pcs, B, ok, nd', len⟩, two⟩ := S
      have len0 := len
      have len : pcs.length ≤ 6 := Nat.le_trans len (by
        have e : (Lk i).length ≤ 6 := by unfold Lk; rw [List.length_append, List.length_take]; show 4 + min i 2 ≤ 6; omega
        exact e)
      -- params
      refine ⟨sz2, fun t1 n1 => ?_⟩
      obtain ⟨h1, ru⟩ := mk_tup (K := K) B.a.st.d n1 (.cons (.str "u") (.cons (.int 0) .nil))
      generalize upd _ t1 _ = Ha at h1 ru ⊢
      refine ⟨sz2, fun t2 n2 => ?_⟩
      obtain ⟨h2, rv⟩ := mk_tup (K := K) h1.d n2 (.cons (.str "v") (.cons (.int 0) .nil))
      generalize upd _ t2 _ = Hc at h2 rv ⊢
      refine ⟨sz2, fun t3 n3 => ?_⟩
      obtain ⟨h3, rw_⟩ := mk_tup (K := K) h2.d n3 (.cons (.str "cells") (.cons (.int 4) .nil))
      generalize upd _ t3 _ = Hd at h3 rw_ ⊢
      refine ⟨sz3, fun l0 nl0 => ?_⟩
      have g4 : GS dr Hd (upd Hd l0 (.lst [.ref t1, .ref t2, .ref t3])) := .new h3.d nl0
      refine ⟨_, rfl, dr, 3, rfl, g4.d, by decide, by decide, fun r He r0 r1 g5 => ?_⟩
      have nl0d : l0 ∉ [dr] := fun z => by
        obtain ⟨o, e⟩ := h3.d.some
        rw [List.mem_singleton.mp z, e] at nl0
        cases nl0
      have g45 := g4.trans g5
      obtain ⟨prm, rows, ecut, rrows, hprm⟩ := cut3 (((ru.keep h2.k).keep h3.k).keep g45.k) ((rv.keep h3.k).keep g45.k) (rw_.keep g45.k) r0 r1
      obtain ⟨p1, p2, p3, p4, p5⟩ := prm3_ok prm hprm
      have play := prms_lay prm p1
      refine ⟨_, _, rfl, rfl, _, rfl, l0, _, rfl, SqL.of (g5.k.kp _ _ nl0d upd_same), fun prl nprl => ?_⟩
      rw [ecut]
      have g14 := ((h1.trans h2).trans h3).trans g45
      have gp : GS dr He (upd He prl (.lst rows)) := .new g14.d nprl
      have B1 := B.keep (g14.trans gp)
      have two1 := two.keep (g14.trans gp).k
      have rrows := rrows.keep gp.k
      have hprl : (upd He prl (.lst rows)) prl = some (.lst rows) := upd_same
      have prla : prl ≠ al := by
        obtain ⟨vs0, e, _⟩ := (B.keep g14).pc
        exact Ne.symm (ne_of_none e nprl)
      have prlpd : prl ≠ pd := Ne.symm (ne_of_none (B.keep g14).a.st.h nprl)
      have prldr : prl ≠ dr := by
        obtain ⟨o, e⟩ := g14.d.some
        exact Ne.symm (ne_of_none e nprl)
      generalize upd He prl (.lst rows) = Hf at B1 two1 rrows hprl ⊢
      clear gp g14 g45 g5 nl0d r1 r0 g4 nl0 h3 rw_ n3 h2 rv n2 h1 ru n1 nprl ecut
      have lrows : rows.length = prm.length := by rw [rrows.length, List.length_map]
      -- seen
      refine fun sd nsd => ?_
      have rows_at : ∀ {j : Nat} {v : V} (o : HO), rows[j]? = some v → ∃ y s t, prm[j]? = some (y, s) ∧ v = .ref t ∧ SqT K (upd Hf sd o) t [.str y, .int s] := fun {j v} o hj => by
        obtain ⟨d, hd, rd⟩ := rrows.get hj
        rw [List.getElem?_map] at hd
        cases hp : prm[j]? with
        | none => rw [hp] at hd; cases hd
        | some p =>
          obtain ⟨y, s⟩ := p
          rw [hp] at hd
          cases hd
          obtain ⟨t, rfl, hs⟩ := row_inv rd
          exact ⟨y, s, t, rfl, rfl, (KT.new [] nsd).sqT hs⟩
      have nprs : prl ≠ sd := ne_of_none hprl nsd
      refine ⟨_, rfl, prl, rfl, ⟨_, SqL.of (by rw [upd_ne nprs]; exact hprl)⟩, for_list (K := K) (xs := rows) (fun j σ Hs => ∃ x13, σ = [some (.ref dr), some (.int left), some (.int wd), some (.ref pd), some (.ref nd), some (.ref rl), some (.int (0 + (i : Int))), x7, some (.ref al), some (.ref tw), x10, some (.ref prl), some (.ref sd), x13, x14] ∧ Hs = upd Hf sd (.dK (nmK (prm.take j)))) ⟨_, rfl, rfl⟩ ?_ ?_ ?_⟩
      · rintro j σ Hs _ ⟨y13, rfl, rfl⟩
        exact SqL.of (by rw [upd_ne nprs]; exact hprl)
      · rintro j v σ Hs hj ⟨y13, rfl, rfl⟩
        obtain ⟨y, s, t, hp, rfl, hs⟩ := rows_at _ hj
        refine ⟨_, rfl, t, _, _, _, rfl, rfl, hs, atI_1, _, rfl, _, rfl, t, _, _, _, rfl, rfl, hs, atI_0, sd, _, rfl, DPut.k (k := Sum.inr y) upd_same (by rw [nmK_length]; have := List.length_take_le' j prm; exact small1000 (by omega)), ?_⟩
        refine ⟨_, rfl, ?_⟩
        rw [upd_upd, nm_addS (nm_nd_none p2 hp), List.take_succ, hp]
        rfl
      rintro σ Hs ⟨y13, rfl, rfl⟩
      rw [lrows, List.take_length]
      have gs : GS dr Hf (upd Hf sd (.dK (nmK prm))) := .new B1.a.st.d nsd
      have B2 := B1.keep gs
      have two2 := two1.keep gs.k
      have rrows2 := rrows.keep gs.k
      have hprl2 : (upd Hf sd (.dK (nmK prm))) prl = some (.lst rows) := by rw [upd_ne nprs]; exact hprl
      have sdn : NmAt (upd Hf sd (.dK (nmK prm))) sd prm := ⟨upd_same, p2, by omega, p3, play.2⟩
      generalize upd Hf sd (.dK (nmK prm)) = Hg at B2 two2 rrows2 hprl2 sdn ⊢
      clear rows_at gs B1 two1 rrows hprl
      -- left
      have eleft : (1 : Int) + (left : Int) / 2 = ((1 + left / 2 : Nat) : Int) := by omega
      refine ⟨_, rfl, _, _, rfl, rfl, wide_div (b := 2) (by decide) (by decide) (by decide) (by decide), _, _, rfl, rfl, _, rfl, pd, _, rfl, DPut.k (k := Sum.inr "left") B2.a.st.h (show 5 < sizeLine by decide), ?_⟩
      have eput : putK (pdK dr wd c l pl1) (.inr "left") ((fun i j => V.int (i + j)) (1 : Int) ((left : Int) / 2)) = pdK dr wd c (1 + left / 2) pl1 := by
        show putK _ _ (.int ((1 : Int) + (left : Int) / 2)) = _
        rw [eleft]
        exact pd_left ..
      rw [eput]
      obtain ⟨sp, kp⟩ := B2.a.st.put (c' := c) (l' := 1 + left / 2) (by omega)
      have B3 := B2.keepP kp sp
      have two3 := two2.keep kp
      have rrows3 := rrows2.keep kp
      have hprl3 : (upd Hg pd (.dK (pdK dr wd c (1 + left / 2) pl1))) prl = some (.lst rows) := kp.kp _ _ (by simp [prlpd, prldr]) hprl2
      have sdn3 := sdn.keepP B2.a.st kp
      generalize upd Hg pd (.dK (pdK dr wd c (1 + left / 2) pl1)) = Hh at B3 two3 rrows3 hprl3 sdn3 ⊢
      clear eput sp kp B2 two2 rrows2 hprl2 sdn
      -- body
      refine ⟨_, rfl, _, rfl, ?_⟩
      refine names_lc (i5 := 11) (by rfl) hprl3 rrows3 (by omega) (by rfl) fun fl nfl => ?_
      have gf : GS dr Hh (upd Hh fl (.lst ((prm.map (·.1)).map V.str))) := .new B3.a.st.d nfl
      have B4 := B3.keep gf
      have two4 := two3.keep gf.k
      have rrows4 := rrows3.keep gf.k
      have hprl4 := gf.k.kp _ _ (by simp [prldr]) hprl3
      have sdn4 := sdn3.keep B3.a.st.d gf
      have fr4 : FrAt (upd Hh fl (.lst ((prm.map (·.1)).map V.str))) fl (prm.map (·.1)) prm := ⟨upd_same, p2, by rw [List.length_map]; omega, fun y hy => by
        obtain ⟨p, hp, rfl⟩ := List.mem_map.mp hy
        exact ⟨p.2, lookup_mem p2 hp⟩⟩
      generalize upd Hh fl (.lst ((prm.map (·.1)).map V.str)) = Hi at B4 two4 rrows4 hprl4 sdn4 fr4 ⊢
      clear gf B3 two3 rrows3 hprl3 sdn3
      have st4 : Stt K Hi pd sd fl dr pl1 wd c (1 + left / 2) (sig pcs) prm (prm.map (·.1)) := ⟨B4.a.st, sdn4, fr4, fun p hp => .inl (p4 p hp), by omega⟩
      refine ⟨pd, sd, fl, dr, pl1, wd, c, 1 + left / 2, 1, sig pcs, prm, prm.map (·.1), rfl, by decide, by decide, st4, ?_⟩
      intro v bb Hj c' l' kj pj hc1 hc2 rj oj mj lj
      have B5 := B4.keepP kj pj
      have two5 := two4.keep kj
      have rrows5 := rrows4.keep kj
      have hprl5 := kj.kp _ _ (by simp [prlpd, prldr]) hprl4
      clear st4 fr4 sdn4 hprl4 rrows4 two4 B4
      -- procedures.append
      obtain ⟨vs, hal, hvs⟩ := B5.pc
      have lvs : vs.length = pcs.length := by rw [hvs.length, List.length_map]
      refine ⟨_, rfl, .inl ⟨rfl, _, SqL.of hal⟩, sz2, fun l2 nl2 => ⟨_, rfl, l2, _, _, _, rfl, rfl, SqL.of upd_same, hx', ?_⟩⟩
      have g6 : GS dr Hj (upd Hj l2 (.lst [.str "do_it", .str "more"])) := .new B5.a.st.d nl2
      refine ⟨_, rfl, prl, rows, rfl, .inl ⟨SqL.of (g6.k.kp _ _ (by simp [prldr]) hprl5), fun t nt => ?_⟩⟩
      obtain ⟨g7, rt⟩ := mk_tup (K := K) g6.d nt (rrows5.keep g6.k)
      have g67 := g6.trans g7
      generalize upd _ t _ = Hk at g67 g7 rt ⊢
      refine ⟨_, rfl, sz3, fun t6 nt6 => ?_⟩
      obtain ⟨g8, rt6⟩ := mk_tup (K := K) g67.d nt6 (.cons (.str x) (.cons rt (.cons (rj.keep g67.k) .nil)))
      have g678 := g67.trans g8
      generalize upd _ t6 _ = Hl at g678 g8 rt6 ⊢
      have rt6 : Rp K Hl (.ref t6) (Pc.d ⟨x, prm, bb⟩) := rt6
      have hal1 := g678.k.kp _ _ (nin1 (B5.a.nin B5.ab)) hal
      refine ⟨al, vs, _, rfl, rfl, hal1, Nat.lt_of_le_of_lt (by omega : _ ≤ 6) (by decide), ?_⟩
      have B6 := (B5.keep g678).add hal1 rt6
      have two6 : Two K (upd Hl al (.lst (vs ++ [.ref t6]))) tw := by
        obtain ⟨rows, h1, h2⟩ := two5.keep g678.k
        exact ⟨rows, by rw [upd_ne (ne_of h1 hal1 (by intro z; cases z))]; exact h1, rpA_ofT (sqT_putL hal1) h2⟩
      have rrows6 : RpA K (upd Hl al (.lst (vs ++ [.ref t6]))) rows (prm.map rowD) := rpA_ofT (sqT_putL hal1) (rrows5.keep g678.k)
      have hprl6 : (upd Hl al (.lst (vs ++ [.ref t6]))) prl = some (.lst rows) := by
        rw [upd_ne prla]
        exact g678.k.kp _ _ (by simp [prldr]) hprl5
      generalize upd Hl al (.lst (vs ++ [.ref t6])) = Hm at B6 two6 rrows6 hprl6 ⊢
      clear rt6 g678 g8 nt6 g67 rt g7 nt g6 nl2 hal1 hal hvs rrows5 hprl5 two5 B5
      -- it may be called
      obtain ⟨ws, hws, pvs⟩ := B6.a.st.pr.h
      have lws : ws.length ≤ 6 := by rw [Paired.length pvs]; unfold sig; rw [List.length_map]; exact len
      obtain ⟨vs3, hal4, _⟩ := B6.pc
      refine ⟨_, rfl, _, _, rfl, dget_s B6.a.st.h (pd_get_procs ..), sz2, fun l4 nl4 => ⟨_, rfl, l4, _, _, _, rfl, rfl, SqL.of upd_same, hx', _, rfl, sz2, fun t5 nt5 => ⟨sz1, fun l5 nl5 => ?_⟩⟩⟩
      have g9 : GS dr Hm (upd Hm l4 (.lst [.str "do_it", .str "more"])) := .new B6.a.st.d nl4
      generalize upd Hm l4 (.lst [.str "do_it", .str "more"]) = Hn at g9 nt5 nl5 ⊢
      have g10 : GS dr Hn (upd Hn t5 (.tup [.str x, .ref prl])) := .new g9.d nt5
      have e5 : (upd Hn t5 (.tup [.str x, .ref prl])) t5 = some (.tup [.str x, .ref prl]) := upd_same
      have g910 := g9.trans g10
      generalize upd Hn t5 (.tup [.str x, .ref prl]) = Ho at g910 e5 nl5 ⊢
      have g11 : GS dr Ho (upd Ho l5 (.lst [.ref t5])) := .new g910.d nl5
      have hws1 := (g910.trans g11).k.kp _ _ (nin1 (plNe B6.a.st)) hws
      refine ⟨pl1, l5, ws, _, rfl, rfl, hws1, upd_same, Nat.le_trans (show ws.length + 1 ≤ 7 by omega) (by decide), fun l1 nl1 => ?_⟩
      have g12 : GS dr (upd Ho l5 (.lst [.ref t5])) (upd (upd Ho l5 (.lst [.ref t5])) l1 (.lst (ws ++ [.ref t5]))) := .new g11.d nl1
      have gz := (g910.trans g11).trans g12
      have B7 := B6.keep gz
      have two7 := two6.keep gz.k
      have e5 := (g11.trans g12).k.tp _ _ e5
      have rrows7 := rrows6.keep gz.k
      have hprl7 := gz.k.kp _ _ (by simp [prldr]) hprl6
      have hws2 := gz.k.kp _ _ (nin1 (plNe B6.a.st)) hws
      have hl1 : (upd (upd Ho l5 (.lst [.ref t5])) l1 (.lst (ws ++ [.ref t5]))) l1 = some (.lst (ws ++ [.ref t5])) := upd_same
      have nl1a : l1 ≠ al := Ne.symm (ne_of_none ((g910.trans g11).k.kp _ _ (nin1 (B6.a.nin B6.ab)) hal4) nl1)
      generalize upd (upd Ho l5 (.lst [.ref t5])) l1 (.lst (ws ++ [.ref t5])) = Hp_ at B7 two7 e5 rrows7 hprl7 hws2 hl1 ⊢
      refine ⟨_, rfl, pd, _, rfl, DPut.k (k := Sum.inr "procedures") B7.a.st.h (show 5 < sizeLine by decide), _, _, _, _, _, c', l', rfl, ?_, by omega⟩
      rw [hLk]
      refine Stg.mk' (L := Lk i) (L' := [x]) (new := [⟨x, prm, bb⟩]) (ns := [.ref t5]) B7 two7 ok nd' len0 (fun p hp => by rw [List.mem_singleton.mp hp]; exact ⟨List.mem_cons_self, hxn⟩) (by simp) (by simp) hL20 ?_ (fun y hy => by rw [List.mem_singleton.mp hy]; exact pnames_lay _ hxp) hws2 hl1 (.cons ⟨t5, prl, rows, rfl, e5, .inl hprl7, rrows7⟩ .nil) nl1a ?_
      · intro nda p hp
        rw [List.mem_singleton.mp hp]
        exact ⟨p1, oj.mono sig_mono, by show bdp bb ≤ 9; omega⟩
      · intro t' x' q' m e'
        obtain rfl := V.ref.inj (List.mem_singleton.mp m)
        rw [e5] at e'
        cases e'
        exact prla
    rintro σ H17 ⟨y6, x11, x12, x13, x14, c, l, rfl, S, hc⟩
    clear S3 D15
    have m2le : m2 ≤ 2 := by omega
    obtain ⟨⟨pl1, pcs, B, ok, nd', len⟩, two⟩ := S
    have len : pcs.length ≤ 6 := Nat.le_trans len (by
        have e : (Lk m2).length ≤ 6 := by unfold Lk; rw [List.length_append, List.length_take]; show 4 + min m2 2 ≤ 6; omega
        exact e)
    -- left
    refine ⟨_, rfl, _, rfl, pd, _, rfl, DPut.k (k := Sum.inr "left") B.a.st.h (show 5 < sizeLine by decide), ?_⟩
    rw [pd_left]
    obtain ⟨sp, kp⟩ := B.a.st.put (c' := c) (l' := left) (by omega)
    have B1 := B.keepP kp sp
    generalize upd H17 pd (.dK (pdK dr wd c left pl1)) = H18 at B1 ⊢
    clear sp kp B two
    have ndg : ((glb ss).map (·.1)).Nodup := B1.a.n.nd
    have frA : ∀ {Hx : Hp} {fl : Addr}, FrAt (upd Hx fl (.lst (((glb ss).map (·.1)).map V.str))) fl ((glb ss).map (·.1)) (glb ss) := fun {Hx fl} => ⟨upd_same, ndg, by rw [List.length_map]; have := glb_len ss; omega, fun y hy => by
      obtain ⟨p, hp, rfl⟩ := List.mem_map.mp hy
      exact ⟨p.2, lookup_mem ndg hp⟩⟩
    have gz := glb_len ss
    -- body
    refine ⟨fun v H' => ∃ b c' l', KT [dr, pd] H18 H' ∧ PSt K H' pd dr wd c' l' pl1 (sig pcs) ∧ Rp K H' v (.tuple (bd b)) ∧ BOk (sig pcs) wd (glb ss) b ∧ bdp b ≤ 9, ?_, ?_⟩
    · obtain ⟨rvs, hr1, hr2⟩ := B1.a.r
      have nrl := B1.a.nin B1.a.rb
      refine ⟨_, rfl, _, rfl, ?_⟩
      refine names_lc (i5 := 5) (by rfl) hr1 hr2 (by omega) (by rfl) fun f1 nf1 => ?_
      have gf : GS dr H18 (upd H18 f1 (.lst (((glb ss).map (·.1)).map V.str))) := .new B1.a.st.d nf1
      have B2 := B1.keep gf
      have st2 : Stt K (upd H18 f1 (.lst (((glb ss).map (·.1)).map V.str))) pd nd f1 dr pl1 wd c left (sig pcs) (glb ss) ((glb ss).map (·.1)) := ⟨B2.a.st, B2.a.n, frA, glb_frs _ _, by omega⟩
      refine ⟨pd, nd, f1, dr, pl1, wd, c, left, 2, sig pcs, glb ss, (glb ss).map (·.1), rfl, by decide, by decide, st2, ?_⟩
      intro v1 b1 Ha c1 l1 k1 p1 hc1 hl1 r1 o1 m1 z1
      have B3 := B2.keepP k1 p1
      have kk := gf.kp.trans k1
      refine ⟨_, rfl, _, rfl, ?_⟩
      refine names_lc (i5 := 5) (by rfl) (kk.kp _ _ nrl hr1) (hr2.keep kk) (by omega) (by rfl) fun f2 nf2 => ?_
      have gf2 : GS dr Ha (upd Ha f2 (.lst (((glb ss).map (·.1)).map V.str))) := .new B3.a.st.d nf2
      have B4 := B3.keep gf2
      have st4 : Stt K (upd Ha f2 (.lst (((glb ss).map (·.1)).map V.str))) pd nd f2 dr pl1 wd c1 l1 (sig pcs) (glb ss) ((glb ss).map (·.1)) := ⟨B4.a.st, B4.a.n, frA, glb_frs _ _, by omega⟩
      refine ⟨pd, nd, f2, dr, pl1, wd, c1, l1, 2, sig pcs, glb ss, (glb ss).map (·.1), rfl, by decide, by decide, st4, ?_⟩
      intro v2 b2 Hb' c2 l2 k2 p2 hc2 hl2 r2 o2 m2' z2
      refine cat_j p2.d ((r1.keep gf2.k).keep k2) r2 (by rw [bd_len, bd_len]; omega) (fun v H' g r => ⟨b1 ++ b2, c2, l2, ((kk.trans gf2.kp).trans k2).trans g.kp, p2.keep g, by rw [bd_app]; exact r, bok_app o1 o2, by rw [bdp_app]; omega⟩)
    rintro v Hb' ⟨b, c', l', kb', pb, rb', ob, mb⟩
    have B2 := B1.keepP kb' pb
    clear B1
    -- main
    obtain ⟨vs, hal, hvs⟩ := B2.pc
    have lvs : vs.length = pcs.length := by rw [hvs.length, List.length_map]
    refine ⟨_, rfl, .inl ⟨rfl, _, SqL.of hal⟩, Nat.zero_le _, fun t1 n1 => ?_⟩
    obtain ⟨g1, e1⟩ := mk_tup (K := K) B2.a.st.d n1 .nil
    generalize upd _ t1 _ = H19 at g1 e1 ⊢
    refine ⟨_, rfl, sz3, fun t2 n2 => ?_⟩
    obtain ⟨g2, e2⟩ := mk_tup (K := K) g1.d n2 (.cons (.str "main") (.cons e1 (.cons (rb'.keep g1.k) .nil)))
    generalize upd _ t2 _ = H20 at g2 e2 ⊢
    have e2 : Rp K H20 (.ref t2) (Pc.d ⟨"main", [], b⟩) := e2
    have g12 := g1.trans g2
    have hal1 := g12.k.kp _ _ (nin1 (B2.a.nin B2.ab)) hal
    refine ⟨al, vs, _, rfl, rfl, hal1, Nat.lt_of_le_of_lt (by omega : _ ≤ 6) (by decide), ?_⟩
    have B3 := (B2.keep g12).add hal1 e2
    have hal2 : (upd H20 al (.lst (vs ++ [.ref t2]))) al = some (.lst (vs ++ [.ref t2])) := upd_same
    generalize upd H20 al (.lst (vs ++ [.ref t2])) = H21 at B3 hal2 ⊢
    clear hal1 g12 e2 g2 n2 e1 g1 n1 B2 hal hvs
    have lv1 : (vs ++ [V.ref t2]).length ≤ 7 := by rw [List.length_append]; show vs.length + 1 ≤ 7; omega
    generalize vs ++ [V.ref t2] = vs at hal2 lv1 ⊢
    -- turned round
    refine ⟨fun σ H' => ∃ al' vs' pcs', σ = [some (.ref dr), some (.int left), some (.int wd), some (.ref pd), some (.ref nd), some (.ref rl), y6, x7, some (.ref al'), some (.ref tw), x10, x11, x12, x13, some v] ∧ GS dr H21 H' ∧ H' al' = some (.lst vs') ∧ RpA K H' vs' (pcs'.map Pc.d) ∧ (pcs' = pcs ++ [⟨"main", [], b⟩] ∨ pcs' = ⟨"main", [], b⟩ :: pcs.reverse), ?_, ?_⟩
    · obtain ⟨vs0, h0, hvs⟩ := B3.pc
      rw [hal2] at h0
      cases h0
      refine ⟨_, rfl, dr, 2, rfl, B3.a.st.d, by decide, by decide, fun r H22 _ _ g22 => ?_⟩
      have hal3 := g22.k.kp _ _ (nin1 (B3.a.nin B3.ab)) hal2
      refine ⟨rfl, _, rfl, ite2 (fun e => ?_) (fun e => ⟨al, vs, _, rfl, g22, hal3, hvs.keep g22.k, .inl rfl⟩)⟩
      refine ⟨_, rfl, al, vs, rfl, .inl (SqL.of hal3), ?_⟩
      refine ⟨_, rfl, by omega, by omega, fun D nD => ?_⟩
      have nal : al ≠ D := ne_of_none hal3 nD
      refine lc_range (n := vs.length) (fun i H' => H' = upd H22 D (.lst (vs.reverse.take i))) rfl (fun i H' hi e => ?_) (fun H' e => ?_)
      · subst e
        have hx : (upd H22 D (.lst (vs.reverse.take i))) al = some (.lst vs) := by rw [upd_ne nal]; exact hal3
        have hk : ((vs.length : Int) - 1 - (0 + (i : Int))) = ((vs.length - 1 - i : Nat) : Int) := by omega
        have hv : vs[vs.length - 1 - i]? = some (vs[vs.length - 1 - i]'(by omega)) := List.getElem?_eq_getElem _
        refine ⟨by simp [wipe, List.set_set], ?_⟩
        refine ⟨_, rfl, _, rfl, al, vs, rfl, .inl (SqL.of hx), _, _, rfl, rfl, _, rfl, _, _, rfl, rfl, al, vs, _, _, rfl, rfl, SqL.of hx, (by rw [hk]; exact atI_nat hv), _, upd_same, ?_, ?_⟩
        · rw [List.length_take]
          exact Nat.lt_of_le_of_lt (by rw [List.length_reverse]; omega : _ ≤ 7) (by decide)
        · show upd _ D _ = _
          rw [upd_upd, List.take_succ, List.getElem?_reverse hi, hv]
          rfl
      · subst e
        have et : vs.reverse.take vs.length = vs.reverse := by rw [← List.length_reverse, List.take_length]
        rw [et]
        have gD : GS dr H22 (upd H22 D (.lst vs.reverse)) := .new g22.d nD
        refine ⟨D, vs.reverse, ⟨"main", [], b⟩ :: pcs.reverse, rfl, g22.trans gD, upd_same, ?_, .inr rfl⟩
        have := hvs.rev.keep (g22.trans gD).k
        rw [← List.map_reverse, List.reverse_append] at this
        exact this
    rintro σ H22 ⟨al', vs', pcs', rfl, g22, hal', hvs', hpcs⟩
    obtain ⟨rvs, hr1, hr2⟩ := B3.a.r
    have nrl := nin1 (B3.a.nin B3.a.rb)
    refine ⟨_, rfl, _, rfl, rl, rvs, rfl, .inl ⟨SqL.of (g22.k.kp _ _ nrl hr1), fun t1 n1 => ?_⟩⟩
    obtain ⟨g1, e1⟩ := mk_tup (K := K) g22.d n1 (hr2.keep g22.k)
    have hal1 : (upd H22 t1 (.tup rvs)) al' = some (.lst vs') := by rw [upd_ne (ne_of_none hal' n1)]; exact hal'
    generalize upd _ t1 _ = H23 at g1 e1 hal1 ⊢
    refine ⟨_, rfl, al', vs', rfl, .inl ⟨SqL.of hal1, fun t2 n2 => ?_⟩⟩
    obtain ⟨g2, e2⟩ := mk_tup (K := K) g1.d n2 (hvs'.keep g1.k)
    generalize upd _ t2 _ = H24 at g2 e2 ⊢
    refine ⟨sz3, fun t3 n3 => ?_⟩
    obtain ⟨g3, e3⟩ := mk_tup (K := K) g2.d n3 (.cons (.int wd) (.cons (e1.keep g2.k) (.cons e2 .nil)))
    generalize upd _ t3 _ = H25 at g3 e3 ⊢
    have gA := ((g22.trans g1).trans g2).trans g3
    have kz : KT [dr] H H25 := kb.drop (B3.a.k.trans gA.kp) npd0
    refine q _ _ ⟨wd, glb ss, pcs'⟩ ⟨kz, gA.d, fun c' t e => kz.hd _ _ _ e⟩ e3 ⟨w1, w2, ⟨ss, rfl, B3.a.sz⟩, pcs, b, hpcs, nd', fun p hp => ⟨Lk_in m2le _ (ok p hp).2, (ok p hp).1⟩, ob, mb⟩
end

end My

set_option Elab.async false
set_option linter.all false
set_option maxRecDepth 100000
set_option maxHeartbeats 4000000
namespace My
open PySem PySem.Spec PyProof.Rows L2
/-! ### stores -/
def cellD (s : Int) (xs : List Int) : PyData := if s = 0 then .int (xs.getD 0 0) else .tuple (xs.map PyData.int)
def entD (p : Str × Int) (xs : List Int) : PyData := .tuple [.str p.1, cellD p.2 xs]
def stD (nm : Nm) (st : List (List Int)) : List PyData := List.zipWith entD nm st
def CellOk (w : Nat) (p : Str × Int) (xs : List Int) : Prop := (∀ i ∈ xs, 0 ≤ i ∧ i < 2 ^ w) ∧ (p.2 = 0 → xs.length = 1) ∧ (0 < p.2 → (xs.length : Int) = p.2)
def StOk (w : Nat) (nm : Nm) (st : List (List Int)) : Prop := Paired (CellOk w) nm st
theorem stD_snoc {w : Nat} {nm : Nm} {st : List (List Int)} {p : Str × Int} {xs : List Int} (h : StOk w nm st) : stD (nm ++ [p]) (st ++ [xs]) = stD nm st ++ [entD p xs] := by
  have l : nm.length = st.length := Paired.length h
  unfold stD
  rw [List.zipWith_append l]
  rfl
theorem GS.late {dr p : Addr} {H H1 : Hp} {o : HO} (D : DrawAt H dr) (g : GS dr H H1) (n : H p = none) : GS dr H (upd H1 p o) :=
  have k := g.k.late (o := o) n
  ⟨k, drawAt_late D g.d g.k n, fun c t e => k.hd _ _ _ e⟩
theorem PrgOk.sizes {p : Prg} (h : PrgOk p) : (∀ r ∈ p.gl, 0 ≤ r.2 ∧ r.2 ≤ 9) ∧ p.gl.length ≤ 5 ∧ ∃ t : Nm, p.gl = (("a" : Str), (0 : Int)) :: t ∧ 2 ≤ t.length := by
  obtain ⟨ss, e, hs⟩ := h.gl
  rw [e]
  refine ⟨fun r hr => ?_, glb_len ss, _, rfl, ?_⟩
  · rcases List.mem_append.mp hr with z | z
    · have key : ∀ p ∈ gl0, 0 ≤ p.2 ∧ p.2 ≤ 9 := by decide +kernel
      exact key r z
    · have := hs.2 r.2 (List.of_mem_zip (a := r.1) (b := r.2) z).2
      omega
  · show 2 ≤ (List.length _ + 1 + 1)
    omega
theorem Prg.inv {K : PySem.W.Frag} {H : Hp} {v : V} {p : Prg} (h : Rp K H v p.d) : ∃ a b c rows, v = .ref a ∧ SqT K H a [.int p.w, .ref b, .ref c] ∧ SqT K H b rows ∧ RpA K H rows (p.gl.map rowD) := by
  obtain ⟨a, xs, rfl, hs, ha⟩ := Rp.inv (ds := [.int p.w, .tuple (p.gl.map rowD), .tuple (p.pcs.map Pc.d)]) h
  obtain ⟨v1, r1, rfl, h1, ha1⟩ := ha.inv
  obtain ⟨v2, r2, rfl, h2, ha2⟩ := ha1.inv
  obtain ⟨v3, r3, rfl, h3, ha3⟩ := ha2.inv
  obtain rfl := ha3.inv0
  obtain ⟨b, rows, rfl, hb, hb2⟩ := Rp.inv h2
  obtain ⟨c, _, rfl, _, _⟩ := Rp.inv h3
  rw [h1.iInv] at hs
  exact ⟨a, b, c, rows, rfl, hs, hb, hb2⟩
def spStore (K : PySem.W.Frag) : Sp := fun vs H Q _ => ∃ (dr : Addr) (v : V) (p : Prg), vs = [.ref dr, v] ∧ DrawAt H dr ∧ Rp K H v p.d ∧ PrgOk p ∧ ∀ (u : V) (H' : Hp) (st : List (List Int)), GS dr H H' → Rp K H' u (.tuple (stD p.gl st)) → StOk p.w p.gl st → Q u H'
section
variable {P : Program} {w : World} {K : PySem.W.Frag} {mg : Str → Option Value} {base : Heap}
theorem rpa_ints {H : Hp} : ∀ xs : List Int, RpA K H (xs.map V.int) (xs.map PyData.int)
  | [] => .nil
  | x :: r => .cons (.int x) (rpa_ints r)
theorem ok_z_store (T : Txt K mg) : FnOk P w K mg base CX0 3 T.f_z_store T.d_z_store ["draw", "program"] (spStore K) := by
  have G_z_word := okG_z_word (P := P) (w := w) (base := base) T
  refine T.F_z_store.ok sc_z_store (fun vs H Q E h => ?_) (fun cdv A outer s H vs Q E hr h => ?_)
  · obtain ⟨dr, v, p, rfl, _⟩ := h
    rfl
  · obtain ⟨dr, v, p, rfl, D, hv, hp, q⟩ := h
    obtain ⟨a, b, c, rows, rfl, hs, hb, hrows⟩ := Prg.inv hv
    obtain ⟨hsz, hln, _⟩ := hp.sizes
    have lrows : rows.length = p.gl.length := by rw [hrows.length, List.length_map]
    refine ⟨_, (pss_cons (ps_set (i := 2) sc_z_store.nd rfl (Or.inl rfl) (pe_lst pa_nil))
      (pss_cons (ps_for PassesOwn.never rfl (pi_tup (pe_ix ix_tup (pv 1) pe_int (fun _ _ => rfl))) (pg_tup (by rfl) (pgs_cons (pg_name (i := 3) sc_z_store.nd rfl (Or.inl rfl)) (pgs_cons (pg_name (i := 4) sc_z_store.nd rfl (Or.inl rfl)) pgs_nil)))
        (pss_one (ps_if (pt_cmpR op_eq (pv 4) pe_int (nomark _))
          (pss_one (ps_expr (pe_bm PySem.F.plainAttrs_list PySem.F.slot_list_append PySem.F.type_list_append mt_append (pv 2) (pa_cons (pe_tup (pa_cons (pv 3) (pa_cons (pe_call G_z_word (hr.mono (by omega)) (by rfl) T.g_z_word T.F_z_word.kp T.b_z_word .nil pass0 (pa_cons (pv 0) (pa_cons (pe_ix ix_tup (pv 1) pe_int (fun _ _ => rfl)) pa_nil))) pa_nil))) pa_nil))))
          (pss_one (ps_expr (pe_bm PySem.F.plainAttrs_list PySem.F.slot_list_append PySem.F.type_list_append mt_append (pv 2) (pa_cons (pe_tup (pa_cons (pv 3) (pa_cons (pe_callTy call_tuple_of (by rfl) T.m_tuple (by decide +kernel) (pa_cons (pe_lc (own := [("k", 5)]) (g := gName 5) (by rfl) sc_z_store.nd (pi_range1 (by rfl) T.m_range (pa_cons (pv 4) pa_nil)) (blkOk_by (own := [("k", 5)]) (N := N_z_store) (sc := defScope s_z_store) (by decide +kernel)) (fun _ _ _ _ _ => (pg_name (i := 5) sc_z_store.nd rfl (Or.inl rfl))) (fun _ _ _ _ _ => pts_nil) (fun _ _ _ _ _ => (pe_call G_z_word (hr.mono (by omega)) (by rfl) T.g_z_word T.F_z_word.kp T.b_z_word .nil pass0 (pa_cons (pv 0) (pa_cons (pe_ix (ixT (K := K) rfl) (pv 1) pe_int (fun _ _ => rfl)) pa_nil))))) pa_nil)) pa_nil))) pa_nil)))))))
      (pss_one (ps_ret (pe_callTy call_tuple_of (by rfl) T.m_tuple (by decide +kernel) (pa_cons (pv 2) pa_nil)))))), ?_⟩
    refine ⟨Nat.zero_le _, fun rl nrl => ?_⟩
    have g0 : GS dr H (upd H rl (.lst [])) := .new D nrl
    refine ⟨_, rfl, a, _, _, _, rfl, rfl, g0.k.sqT hs, atI_1, b, rfl, ⟨_, g0.k.sqT hb⟩, for_tup (K := K) (xs := rows) (fun i σ Hs => ∃ x3 x4 vs st, σ = [some (.ref dr), some (.ref a), some (.ref rl), x3, x4, none] ∧ GS dr H Hs ∧ Hs rl = some (.lst vs) ∧ RpA K Hs vs (stD (p.gl.take i) st) ∧ StOk p.w (p.gl.take i) st) ?_ ?_ ?_ ?_⟩
    · exact ⟨_, _, [], [], rfl, g0, upd_same, .nil, .nil⟩
    · rintro i σ Hs _ ⟨x3, x4, vs, st, rfl, g, _⟩
      exact g.k.sqT hb
    · rintro i v σ Hs hi ⟨x3, x4, vs, st, rfl, g, hrl, hvs, hst⟩
      obtain ⟨d, hd, rd⟩ := hrows.get hi
      rw [List.getElem?_map] at hd
      cases hpi : p.gl[i]? with
      | none => rw [hpi] at hd; cases hd
      | some ys =>
        obtain ⟨y, sz⟩ := ys
        rw [hpi] at hd
        cases hd
        obtain ⟨t, rfl, ht⟩ := row_inv rd
        have hm := hsz _ (List.mem_of_getElem? hpi)
        have hm1 : 0 ≤ sz := hm.1
        have hm2 : sz ≤ 9 := hm.2
        have tk : p.gl.take (i + 1) = p.gl.take i ++ [(y, sz)] := by rw [List.take_succ, hpi]; rfl
        have hil : i < p.gl.length := by
          rcases Nat.lt_or_ge i p.gl.length with z | z
          · exact z
          · rw [List.getElem?_eq_none z] at hpi; cases hpi
        have lst : (p.gl.take i).length = st.length := Paired.length hst
        rw [List.length_take] at lst
        have lvs : vs.length < sizeLine := by
          rw [hvs.length]
          unfold stD
          rw [List.length_zipWith]
          exact Nat.lt_of_le_of_lt (by omega : _ ≤ 5) (by decide)
        have nrd : rl ∉ [dr] := fun z => by
          obtain ⟨o, e⟩ := D.some
          rw [List.mem_singleton.mp z, e] at nrl
          cases nrl
        have fin : ∀ {Hx : Hp} {u : V} {xs : List Int} {z3 z4 z5 : Option V}, GS dr Hs Hx → Rp K Hx u (entD (y, sz) xs) → CellOk p.w (y, sz) xs → z5 = none →
            ∃ x3 x4 vs' st, [some (V.ref dr), some (.ref a), some (.ref rl), z3, z4, z5] = [some (.ref dr), some (.ref a), some (.ref rl), x3, x4, none] ∧ GS dr H (upd Hx rl (.lst (vs ++ [u]))) ∧ (upd Hx rl (.lst (vs ++ [u]))) rl = some (.lst vs') ∧ RpA K (upd Hx rl (.lst (vs ++ [u]))) vs' (stD (p.gl.take (i + 1)) st) ∧ StOk p.w (p.gl.take (i + 1)) st := by
          intro Hx u xs z3 z4 z5 gx ru cx ez
          have hx := gx.k.kp _ _ nrd hrl
          refine ⟨z3, z4, vs ++ [u], st ++ [xs], by rw [ez], (g.trans gx).late D nrl, upd_same, ?_, ?_⟩
          · rw [tk, stD_snoc hst]
            exact (rpA_ofT (sqT_putL hx) (hvs.keep gx.k)).app (.cons (rp_ofT (sqT_putL hx) ru) .nil)
          · rw [tk]
            exact Paired.app hst (.cons cx .nil)
        refine ⟨t, _, rfl, g.k.sqT ht, rfl, _, _, rfl, _, _, rfl, rfl, ?_⟩
        refine ⟨_, rfl, rfl, _, rfl, ite2 (fun e => ?_) (fun e => ?_)⟩
        · obtain rfl := int_eq e
          refine ⟨_, rfl, .inl ⟨rfl, _, SqL.of hrl⟩, _, rfl, _, rfl, _, rfl, a, _, _, _, rfl, rfl, g.k.sqT hs, atI_0, dr, p.w, rfl, g.d, hp.w1, hp.w2, fun r H1 r0 r1 g1 => ⟨sz2, fun t2 n2 => ?_⟩⟩
          obtain ⟨g2, r2⟩ := mk_tup (K := K) g1.d n2 (.cons (.str y) (.cons (.int r) .nil))
          refine ⟨rl, vs, _, rfl, rfl, (g1.trans g2).k.kp _ _ nrd hrl, lvs, ?_⟩
          exact fin (xs := [r]) (g1.trans g2) r2 ⟨fun j hj => by rw [List.mem_singleton.mp hj]; exact ⟨r0, r1⟩, fun _ => rfl, fun z => absurd z (by show ¬ (0 : Int) < 0; omega)⟩ rfl
        · have e := int_ne e
          obtain ⟨m, rfl⟩ := int_nat hm1
          have m1 : 1 ≤ m := by omega
          refine ⟨_, rfl, .inl ⟨rfl, _, SqL.of hrl⟩, _, rfl, _, rfl, _, rfl, by omega, by omega, fun dl ndl => ?_⟩
          have gd : GS dr Hs (upd Hs dl (.lst [])) := .new g.d ndl
          have ndd : dl ∉ [dr] := fun z => by
            obtain ⟨o, e⟩ := g.d.some
            rw [List.mem_singleton.mp z, e] at ndl
            cases ndl
          refine lc_range (n := m) (fun j H1 => ∃ xs : List Int, GS dr Hs H1 ∧ H1 dl = some (.lst (xs.map V.int)) ∧ xs.length = j ∧ ∀ x ∈ xs, 0 ≤ x ∧ x < 2 ^ p.w) ⟨[], gd, upd_same, rfl, fun x hx => by cases hx⟩ ?_ ?_
          · rintro j H1 hj ⟨xs, g1, hl, lx, hx⟩
            refine ⟨by simp [wipe, List.set_set], ?_⟩
            refine ⟨_, rfl, _, rfl, a, _, _, _, rfl, rfl, (g.trans g1).k.sqT hs, atI_0, dr, p.w, rfl, g1.d, hp.w1, hp.w2, fun r H2 r0 r1 g2 => ?_⟩
            refine ⟨_, g2.k.kp _ _ ndd hl, ?_, xs ++ [r], (g1.trans g2).late g.d ndl, ?_, by rw [List.length_append, lx]; rfl, fun x hm => ?_⟩
            · rw [List.length_map]
              exact Nat.lt_of_le_of_lt (by omega : _ ≤ 9) (by decide)
            · rw [upd_same, List.map_append]
              rfl
            · rcases List.mem_append.mp hm with z | z
              · exact hx x z
              · rw [List.mem_singleton.mp z]
                exact ⟨r0, r1⟩
          · rintro H1 ⟨xs, g1, hl, lx, hx⟩
            refine ⟨dl, _, rfl, .inl ⟨SqL.of hl, fun t2 n2 => ?_⟩⟩
            obtain ⟨g2, r2⟩ := mk_tup (K := K) g1.d n2 (rpa_ints xs)
            generalize upd _ t2 _ = H2 at g2 r2 ⊢
            refine ⟨sz2, fun t3 n3 => ?_⟩
            obtain ⟨g3, r3⟩ := mk_tup (K := K) g2.d n3 (.cons (.str y) (.cons r2 .nil))
            generalize upd _ t3 _ = H3 at g3 r3 ⊢
            have gz := (g1.trans g2).trans g3
            refine ⟨rl, vs, _, rfl, rfl, gz.k.kp _ _ nrd hrl, lvs, ?_⟩
            refine fin (xs := xs) gz ?_ ⟨hx, fun z => absurd z (by show ¬ ((m : Int) = 0); omega), fun _ => by show ((xs.length : Nat) : Int) = (m : Int); rw [lx]⟩ rfl
            have ec : entD (y, (m : Int)) xs = .tuple [.str y, .tuple (xs.map PyData.int)] := by
              unfold entD cellD
              rw [if_neg (show ¬ ((m : Int) = 0) by omega)]
            rw [ec]
            exact r3
    · rintro σ Hs ⟨x3, x4, vs, st, rfl, g, hrl, hvs, hst⟩
      rw [lrows, List.take_length] at hvs hst
      refine ⟨_, rfl, rl, vs, rfl, .inl ⟨SqL.of hrl, fun t nt => ?_⟩⟩
      obtain ⟨g2, r2⟩ := mk_tup (K := K) g.d nt hvs
      exact q _ _ st (g.trans g2) r2 hst
end

end My

set_option Elab.async false
set_option linter.all false
set_option maxRecDepth 100000
set_option maxHeartbeats 4000000
namespace My
open PySem PySem.Spec PyProof.Rows L2
/-! ### what is a store -/
def isIr (lo hi : Int) : PyData → Bool
  | .int i => decide (lo ≤ i) && decide (i ≤ hi)
  | _ => false
def isW (w : Nat) (d : PyData) : Bool := isIr 0 (2 ^ w - 1) d
def isTupD : PyData → Bool
  | .tuple _ => true
  | _ => false
def isIntD : PyData → Bool
  | .int _ => true
  | .bool _ => true
  | _ => false
def isBoolD : PyData → Bool
  | .bool _ => true
  | _ => false
def isArr (w : Nat) (s : Int) : PyData → Bool
  | .tuple ds => decide ((ds.length : Int) = s) && ds.all (isW w)
  | _ => false
def isCell (w : Nat) (s : Int) (b : PyData) : Bool := if s = 0 then isW w b else isArr w s b
def isEnt (w : Nat) (x : Str) (s : Int) : PyData → Bool
  | .tuple [.str y, b] => decide (y = x) && isCell w s b
  | _ => false
def Nice : PyData → Prop
  | .tuple [a, _] => ∃ x, a = .str x
  | _ => True
def isSto (w : Nat) (nm : Nm) : PyData → Bool
  | .tuple ds => decide (ds.length = nm.length) && (List.zipWith (fun (p : Str × Int) d => isEnt w p.1 p.2 d) nm ds).all _root_.id
  | _ => false
section
variable {K : PySem.W.Frag} {H : Hp} {v : V} {d : PyData} {Q : VK}
theorem isi_tup (h : Rp K H v d) : ∃ t, TyX K H v t ∧ PySem.W.kitOne K t (.type "tuple") = some (isTupD d) := by
  cases d with
  | none => cases h; exact ⟨_, .base .non, kit_ty (r := false) (by decide +kernel)⟩
  | bool b => cases h; exact ⟨_, .base (.bl b), kit_ty (r := false) (by decide +kernel)⟩
  | int b => cases h; exact ⟨_, .base (.int b), kit_ty (r := false) (by decide +kernel)⟩
  | str b => cases h; exact ⟨_, .base (.str b), kit_ty (r := false) (by decide +kernel)⟩
  | list ds => cases h
  | dict ds => cases h
  | tuple ds =>
    obtain ⟨a, xs, rfl, hs, _⟩ := h.inv
    exact ⟨_, tyx_tup hs, kit_ty (r := true) (by decide +kernel)⟩
theorem isi_int (h : Rp K H v d) : ∃ t, TyX K H v t ∧ PySem.W.kitOne K t (.type "int") = some (isIntD d) := by
  cases d with
  | none => cases h; exact ⟨_, .base .non, kit_ty (r := false) (by decide +kernel)⟩
  | bool b => cases h; exact ⟨_, .base (.bl b), kit_ty (r := true) (by decide +kernel)⟩
  | int b => cases h; exact ⟨_, .base (.int b), kit_ty (r := true) (by decide +kernel)⟩
  | str b => cases h; exact ⟨_, .base (.str b), kit_ty (r := false) (by decide +kernel)⟩
  | list ds => cases h
  | dict ds => cases h
  | tuple ds =>
    obtain ⟨a, xs, rfl, hs, _⟩ := h.inv
    exact ⟨_, tyx_tup hs, kit_ty (r := false) (by decide +kernel)⟩
theorem isi_bool (h : Rp K H v d) : ∃ t, TyX K H v t ∧ PySem.W.kitOne K t (.type "bool") = some (isBoolD d) := by
  cases d with
  | none => cases h; exact ⟨_, .base .non, kit_ty (r := false) (by decide +kernel)⟩
  | bool b => cases h; exact ⟨_, .base (.bl b), kit_ty (r := true) (by decide +kernel)⟩
  | int b => cases h; exact ⟨_, .base (.int b), kit_ty (r := false) (by decide +kernel)⟩
  | str b => cases h; exact ⟨_, .base (.str b), kit_ty (r := false) (by decide +kernel)⟩
  | list ds => cases h
  | dict ds => cases h
  | tuple ds =>
    obtain ⟨a, xs, rfl, hs, _⟩ := h.inv
    exact ⟨_, tyx_tup hs, kit_ty (r := false) (by decide +kernel)⟩
/-- all(.. for x in t), t a tuple; each answer leaves the heap -/
theorem tall_tup {σ : L2.St} {own : List (Str × Nat)} {te : TE} {a : Addr} {xs : List V} {QF : V → Hp → Prop} (bs : List Bool) (hs : SqT K H a xs) (hl : bs.length = xs.length) (ht : ∀ (i : Nat) x b, xs[i]? = some x → bs[i]? = some b → ∀ Q : VK, Q (.bl b) H → te (gσ σ own (some x)) H Q)
    (q : QF (.bl (bs.all _root_.id)) H) : ∃ W : Nat → Nat → Hp → Prop, (∃ m, W 0 m H) ∧ TAll σ own te true (Itt K a) W QF := by
  refine ⟨fun i m H' => m = xs.length - i ∧ i ≤ xs.length ∧ H' = H ∧ (bs.take i).all _root_.id = true, ⟨_, rfl, Nat.zero_le _, rfl, rfl⟩, ?_⟩
  rintro i m H' ⟨rfl, hi, rfl, ha⟩
  by_cases hlt : i < xs.length
  · obtain ⟨b, hb⟩ : ∃ b, bs[i]? = some b := ⟨bs[i], List.getElem?_eq_getElem (by omega)⟩
    refine .inr ⟨⟨xs, xs[i], hs, by simp [hlt]⟩, fun H'' => H'' = H' ∧ (bs.take (i + 1)).all _root_.id = true, fun H'' ⟨e, a2⟩ => ⟨_, by omega, rfl, by omega, e, a2⟩, fun v H2 y => ?_⟩
    obtain ⟨e, y⟩ := y
    subst e
    refine ht i v b (y xs hs) hb _ ⟨b, rfl, ?_⟩
    cases b with
    | true =>
      refine ite_t rfl ⟨rfl, ?_⟩
      rw [List.take_succ, hb, List.all_append, ha]
      rfl
    | false =>
      refine ite_f (by decide) ?_
      have e : bs.all _root_.id = false := by
        rw [List.all_eq_false]
        exact ⟨false, List.mem_of_getElem? hb, by decide⟩
      rw [e] at q
      exact q
  · have e : i = xs.length := by omega
    subst e
    rw [← hl, List.take_length] at ha
    rw [ha] at q
    exact .inl ⟨⟨xs, hs, Nat.le_refl _⟩, q⟩
theorem walk_zipT {a b : Addr} {xs ys : List V} {n : Nat} (hn : n = min xs.length ys.length) : Walk (RZ.ItzT K a b) n (fun H => SqT K H a xs ∧ SqT K H b ys) (YPair (fun i => xs[i]?) (fun i => ys[i]?)) := by
  subst hn
  refine ⟨fun i _ hi q => ?_, fun _ q => ⟨xs, ys, q.1, q.2, by omega⟩, fun i H v H' _ q y => ?_⟩
  · have h1 : i < xs.length := by omega
    have h2 : i < ys.length := by omega
    exact ⟨xs, ys, xs[i], ys[i], q.1, q.2, by simp [h1], by simp [h2]⟩
  · obtain ⟨T, x, z, h1, h2, h3, h4, h5⟩ := y
    exact ⟨T, x, z, h1, h2, h3, h4 xs q.1, h5 ys q.2⟩
end
def spWhK (K : PySem.W.Frag) : Sp := fun vs H Q _ => ∃ (v : V) (d : PyData), vs = [v] ∧ Rp K H v d ∧ Q (.bl (isIntD d && !isBoolD d)) H
def spIsI (K : PySem.W.Frag) : Sp := fun vs H Q _ => ∃ (v : V) (lo hi : Int) (d : PyData), vs = [v, .int lo, .int hi] ∧ Rp K H v d ∧ Q (.bl (isIr lo hi d)) H
def spIsW (K : PySem.W.Frag) : Sp := fun vs H Q _ => ∃ (v : V) (wd : Nat) (d : PyData), vs = [v, .int wd] ∧ wd ≤ 32 ∧ Rp K H v d ∧ Q (.bl (isW wd d)) H
def spEnt (K : PySem.W.Frag) (Pt : Addr) : Sp := fun vs H Q _ => ∃ (wd : Nat) (x : Str) (s : Int) (v : V) (d : PyData), vs = [.int wd, .str x, .int s, v] ∧ wd ≤ 32 ∧ Rp K H v d ∧ Nice d ∧ GxR.TabG H Pt ∧ ∀ H', KT [Pt] H H' → GxR.TabG H' Pt → Q (.bl (isEnt wd x s d)) H'
def spIsS (K : PySem.W.Frag) (Pt : Addr) : Sp := fun vs H Q _ => ∃ (pv v : V) (p : Prg) (d : PyData), vs = [pv, v] ∧ Rp K H pv p.d ∧ p.w ≤ 32 ∧ p.gl.length ≤ 1000 ∧ Rp K H v d ∧ (∀ ds, d = .tuple ds → ds.length = p.gl.length → ∀ e ∈ ds, Nice e) ∧ GxR.TabG H Pt ∧ ∀ H', KT [Pt] H H' → GxR.TabG H' Pt → Q (.bl (isSto p.w p.gl d)) H'
section
variable {P : Program} {w : World} {K : PySem.W.Frag} {mg : Str → Option Value} {base : Heap}
theorem ok_is_whole (T : Txt K mg) : FnOk P w K mg base CX0 1 T.f_is_whole T.d_is_whole ["value"] (spWhK K) := by
  refine T.F_is_whole.ok sc_is_whole (fun vs H Q E h => ?_) (fun cdv A outer s H vs Q E hr h => ?_)
  · obtain ⟨v, d, rfl, _⟩ := h
    rfl
  · obtain ⟨v, d, rfl, hv, q⟩ := h
    refine ⟨_, (pss_one (ps_ret (pe_and (pe_callB call_isi (by rfl) T.m_isinstance (by decide +kernel) (pa_cons (pv 0) (pa_cons (pe_bltn (v := .ty "int") (by rfl) T.m_int (by decide +kernel) rfl) pa_nil))) (pe_one (pe_not (pe_callB call_isi (by rfl) T.m_isinstance (by decide +kernel) (pa_cons (pv 0) (pa_cons (pe_bltn (v := .ty "bool") (by rfl) T.m_bool (by decide +kernel) rfl) pa_nil)))))))), ?_⟩
    obtain ⟨t1, y1, k1⟩ := isi_int hv
    obtain ⟨t2, y2, k2⟩ := isi_bool hv
    refine ⟨_, rfl, _, _, _, _, _, rfl, .ty "int", y1, k1, _, rfl, ?_⟩
    cases d with
    | none => exact ite_f (fun z => by cases z) q
    | str b => exact ite_f (fun z => by cases z) q
    | list ds => cases hv
    | dict ds => cases hv
    | tuple ds => exact ite_f (fun z => by cases z) q
    | bool b => exact ite_t rfl ⟨_, rfl, _, _, _, _, _, rfl, .ty "bool", y2, k2, _, rfl, q⟩
    | int b => exact ite_t rfl ⟨_, rfl, _, _, _, _, _, rfl, .ty "bool", y2, k2, _, rfl, q⟩
theorem ok_is_integer (T : Txt K mg) : FnOk P w K mg base CX0 2 T.f_is_integer T.d_is_integer ["value", "low", "high"] (spIsI K) := by
  have G_is_whole := ok_is_whole (P := P) (w := w) (base := base) T
  refine T.F_is_integer.ok sc_is_integer (fun vs H Q E h => ?_) (fun cdv A outer s H vs Q E hr h => ?_)
  · obtain ⟨v, lo, hi, d, rfl, _⟩ := h
    rfl
  · obtain ⟨v, lo, hi, d, rfl, hv, q⟩ := h
    refine ⟨_, (pss_one (ps_ret (pe_and (pe_call G_is_whole (hr.mono (by omega)) (by rfl) T.g_is_whole T.F_is_whole.kp T.b_is_whole .nil pass0 (pa_cons (pv 0) pa_nil)) (pe_one (pe_chain op_le op_le (pv 1) (pv 0) (pv 2)))))), ?_⟩
    refine ⟨_, rfl, v, d, rfl, hv, _, rfl, ?_⟩
    cases d with
    | none => exact ite_f (fun z => by cases z) q
    | str b => exact ite_f (fun z => by cases z) q
    | list ds => cases hv
    | dict ds => cases hv
    | tuple ds => exact ite_f (fun z => by cases z) q
    | bool b => exact ite_f (fun z => by cases z) q
    | int b =>
      cases hv
      refine ite_t rfl ?_
      refine ⟨_, rfl, _, rfl, _, _, rfl, rfl, _, rfl, ?_⟩
      have q : Q (.bl (decide (lo ≤ b) && decide (b ≤ hi))) H := q
      by_cases h : lo ≤ b
      · rw [decide_eq_true h, Bool.true_and] at q
        exact ite_t (decide_eq_true h) ⟨_, rfl, _, _, rfl, rfl, q⟩
      · rw [decide_eq_false h, Bool.false_and] at q
        exact ite_f (by rw [decide_eq_false h]; decide) q
theorem ok_is_word (T : Txt K mg) : FnOk P w K mg base CX0 3 T.f_is_word T.d_is_word ["value", "w"] (spIsW K) := by
  have G_top := ok_top (P := P) (w := w) (base := base) T
  have G_is_integer := ok_is_integer (P := P) (w := w) (base := base) T
  refine T.F_is_word.ok sc_is_word (fun vs H Q E h => ?_) (fun cdv A outer s H vs Q E hr h => ?_)
  · obtain ⟨v, wd, d, rfl, _⟩ := h
    rfl
  · obtain ⟨v, wd, d, rfl, w2, hv, q⟩ := h
    refine ⟨_, (pss_one (ps_ret (pe_call G_is_integer (hr.mono (by omega)) (by rfl) T.g_is_integer T.F_is_integer.kp T.b_is_integer .nil pass0 (pa_cons (pv 0) (pa_cons pe_int (pa_cons (pe_call G_top (hr.mono (by omega)) (by rfl) T.g_top T.F_top.kp T.b_top .nil pass0 (pa_cons (pv 1) pa_nil)) pa_nil)))))), ?_⟩
    exact ⟨_, rfl, _, rfl, wd, rfl, w2, v, _, _, d, rfl, hv, q⟩
theorem ok_is_entry (T : Txt K mg) (TB : TBs T base) : FnOk P w K mg base CX0 5 T.f_is_entry T.d_is_entry ["width", "name", "size", "item"] (spEnt K T.P_is_entry) := by
  have G_is_word := ok_is_word (P := P) (w := w) (base := base) T
  refine T.F_is_entry.ok sc_is_entry (fun vs H Q E h => ?_) (fun A outer s H vs Q E hr h => ?_)
  · obtain ⟨wd, x, s, v, d, rfl, _⟩ := h
    rfl
  · obtain ⟨wd, x, sz, v, d, rfl, w2, hv, hn, tg, q⟩ := h
    refine ⟨_, (pss_cons (ps_if (PW.pt (pw_or (pt_not (pt_val (pe_callB call_isi (by rfl) T.m_isinstance (by decide +kernel) (pa_cons (pv 3) (pa_cons (pe_bltn (v := .ty "tuple") (by rfl) T.m_tuple (by decide +kernel) rfl) pa_nil))))) (pw_or (pt_cmpR op_ne (pe_callB call_len_seq (by rfl) T.m_len (by decide +kernel) (pa_cons (pv 3) pa_nil)) pe_int (nomark _)) (pw_or1 (pt_cmpR op_ne (pe_ix ix_tup (pv 3) pe_int (fun _ _ => rfl)) (pv 1) (nomark _))))))
        (pss_one (ps_ret pe_bl))
        pss_nil)
      (pss_cons (ps_set (i := 4) sc_is_entry.nd rfl (Or.inl rfl) (pe_ix ix_tup (pv 3) pe_int (fun _ _ => rfl)))
      (pss_cons (ps_if (pt_cmpR op_eq (pv 2) pe_int (nomark _))
        (pss_one (ps_ret (pe_call G_is_word (hr.mono (by omega)) (by rfl) T.g_is_word T.F_is_word.kp T.b_is_word .nil pass0 (pa_cons (pv 4) (pa_cons (pv 0) pa_nil)))))
        pss_nil)
      (pss_cons (ps_if (PW.pt (pw_or (pt_not (pt_val (pe_callB call_isi (by rfl) T.m_isinstance (by decide +kernel) (pa_cons (pv 4) (pa_cons (pe_bltn (v := .ty "tuple") (by rfl) T.m_tuple (by decide +kernel) rfl) pa_nil))))) (pw_or1 (pt_cmpR op_ne (pe_callB call_len_seq (by rfl) T.m_len (by decide +kernel) (pa_cons (pv 4) pa_nil)) (pv 2) (nomark _)))))
        (pss_one (ps_ret pe_bl))
        pss_nil)
      (pss_one (ps_ret (pe_allG [("width", 0)] hr (by rfl) T.m_all TB.B_is_entry rfl (by rfl) (by rfl) ⟨⟨rfl, rfl, Or.inl rfl⟩, trivial⟩ (by decide) rfl (pi_tup (pv 4)) (fun _ _ _ _ _ _ _ _ hr => (pe_call G_is_word (hr.mono (by omega)) (by rfl) T.g_is_word T.F_is_word.kp T.b_is_word .nil pass0 (pa_cons (pv 0) (pa_cons (pv 1) pa_nil))))))))))), ?_⟩
    have q0 := q H (.refl _ _) tg
    obtain ⟨t1, y1, k1⟩ := isi_tup hv
    refine ⟨_, rfl, _, _, _, _, _, rfl, .ty "tuple", y1, k1, _, rfl, ?_⟩
    cases d with
    | none => exact ite_t rfl q0
    | str b => exact ite_t rfl q0
    | list ds => cases hv
    | dict ds => cases hv
    | bool b => exact ite_t rfl q0
    | int b => exact ite_t rfl q0
    | tuple ds =>
      refine ite_f (fun z => by cases z) ?_
      obtain ⟨a, xs, rfl, hs, ha⟩ := hv.inv
      have hlen := ha.length
      refine ⟨_, rfl, a, xs, rfl, .inr hs, rfl, _, rfl, ?_⟩
      refine ite2 (fun e => ?_) (fun e => ?_)
      · have hne : ds.length ≠ 2 := fun z => by
          rw [hlen, z] at e
          exact absurd e (by decide)
        have e0 : isEnt wd x sz (.tuple ds) = false := by
          unfold isEnt
          split
          · rename_i y b heq
            have := PyData.tuple.inj heq
            rw [this] at hne
            exact absurd rfl hne
          · rfl
        rw [e0] at q0
        exact q0
      · have h2 : ds.length = 2 := by
          have e : ¬ (!decide (V.int (xs.length : Int) = V.int 2)) = true := e
          rw [Bool.not_eq_true, Bool.not_eq_false'] at e
          have := V.int.inj (of_decide_eq_true e)
          omega
        obtain ⟨da, db, rfl⟩ : ∃ da db, ds = [da, db] := by
          match ds, h2 with
          | [da, db], _ => exact ⟨da, db, rfl⟩
        obtain ⟨y, rfl⟩ := hn
        obtain ⟨v1, r1, rfl, h1, ha1⟩ := ha.inv
        obtain ⟨v2, r2, rfl, h2', ha2⟩ := ha1.inv
        obtain rfl := ha2.inv0
        obtain rfl := h1.sInv
        refine ⟨_, rfl, a, _, _, _, rfl, rfl, hs, atI_0, _, rfl, rfl, _, rfl, ?_⟩
        refine ite2 (fun e => ?_) (fun e => ?_)
        · have hne : ¬ y = x := fun z => by
            rw [z] at e
            simp at e
          have e0 : isEnt wd x sz (.tuple [.str y, db]) = false := by
            show (decide (y = x) && _) = false
            rw [decide_eq_false hne]
            rfl
          rw [e0] at q0
          exact q0
        have hyx : y = x := by
          by_cases z : y = x
          · exact z
          · refine absurd ?_ e
            show (!decide (V.str y = V.str x)) = true
            rw [decide_eq_false (fun z' => z (V.str.inj z'))]
            rfl
        have eE : isEnt wd x sz (.tuple [.str y, db]) = isCell wd sz db := by
          show (decide (y = x) && _) = _
          rw [decide_eq_true hyx, Bool.true_and]
        rw [eE] at q q0
        refine ⟨_, rfl, a, _, _, _, rfl, rfl, hs, atI_1, ?_⟩
        refine ⟨_, rfl, rfl, _, rfl, ite2 (fun e => ?_) (fun e => ?_)⟩
        · have e := int_eq e
          have e0 : isCell wd sz db = isW wd db := by
            unfold isCell
            rw [if_pos e]
          rw [e0] at q0
          exact ⟨_, rfl, _, rfl, v2, wd, db, rfl, w2, h2', q0⟩
        have e := int_ne e
        have eC : isCell wd sz db = isArr wd sz db := by
          unfold isCell
          rw [if_neg e]
        rw [eC] at q q0
        obtain ⟨t2, y2, k2⟩ := isi_tup h2'
        refine ⟨_, rfl, _, _, _, _, _, rfl, .ty "tuple", y2, k2, _, rfl, ?_⟩
        cases db with
        | none => exact ite_t rfl q0
        | str b => exact ite_t rfl q0
        | list ds => cases h2'
        | dict ds => cases h2'
        | bool b => exact ite_t rfl q0
        | int b => exact ite_t rfl q0
        | tuple es =>
          refine ite_f (fun z => by cases z) ?_
          obtain ⟨c, ys, rfl, hc, hys⟩ := h2'.inv
          have hyl := hys.length
          refine ⟨_, rfl, c, ys, rfl, .inr hc, _, rfl, rfl, _, rfl, ?_⟩
          refine ite2 (fun e1 => ?_) (fun e1 => ?_)
          · have hne : ¬ (es.length : Int) = sz := fun z => by
              rw [hyl, z] at e1
              simp at e1
            have q0 : Q (.bl (decide ((es.length : Int) = sz) && es.all (isW wd))) H := q0
            rw [decide_eq_false hne] at q0
            exact q0
          have hyz : (es.length : Int) = sz := by
            by_cases z : (es.length : Int) = sz
            · exact z
            · refine absurd ?_ e1
              show (!decide (V.int (ys.length : Int) = V.int sz)) = true
              rw [hyl, decide_eq_false (fun z' => z (V.int.inj z'))]
              rfl
          have q : ∀ H', KT [T.P_is_entry] H H' → GxR.TabG H' T.P_is_entry → Q (.bl (decide ((es.length : Int) = sz) && es.all (isW wd))) H' := q
          rw [decide_eq_true hyz, Bool.true_and] at q
          refine ⟨_, rfl, c, rfl, ⟨_, hc⟩, tg, fun H2 tb => ?_⟩
          have k := KT.tab tb tg (S := [T.P_is_entry]) (by simp)
          refine tall_tup (es.map (isW wd)) (k.sqT hc) (by rw [List.length_map, hyl]) (fun i u b hu hb Q' q' => ?_) ?_
          · obtain ⟨d', hd', rd'⟩ := hys.get hu
            rw [List.getElem?_map, hd'] at hb
            cases hb
            exact ⟨_, rfl, _, rfl, u, wd, d', rfl, w2, rd'.keep k, q'⟩
          · have e2 : (es.map (isW wd)).all _root_.id = es.all (isW wd) := by rw [List.all_map]; rfl
            rw [e2]
            exact q H2 k tb.1
theorem ok_is_store (T : Txt K mg) (TB : TBs T base) : FnOk P w K mg base CX0 6 T.f_is_store T.d_is_store ["program", "value"] (spIsS K T.P_is_entry) := by
  have G_is_entry := ok_is_entry (P := P) (w := w) (base := base) T TB
  refine T.F_is_store.ok sc_is_store (fun vs H Q E h => ?_) (fun cdv A outer s H vs Q E hr h => ?_)
  · obtain ⟨pv, v, p, d, rfl, _⟩ := h
    rfl
  · obtain ⟨pv, v, p, d, rfl, hp, w2, hz, hv, hn, tg, q⟩ := h
    obtain ⟨a, b, c, rows, rfl, hs, hb, hrows⟩ := Prg.inv hp
    refine ⟨_, (pss_cons (ps_asg (pv 0) (pg_tup (by rfl) (pgs_cons (pg_name (i := 2) sc_is_store.nd rfl (Or.inr rfl)) (pgs_cons (pg_name (i := 3) sc_is_store.nd rfl (Or.inl rfl)) (pgs_cons (pg_name (i := 4) sc_is_store.nd rfl (Or.inl rfl)) pgs_nil)))))
      (pss_cons (ps_if (PW.pt (pw_or (pt_not (pt_val (pe_callB call_isi (by rfl) T.m_isinstance (by decide +kernel) (pa_cons (pv 1) (pa_cons (pe_bltn (v := .ty "tuple") (by rfl) T.m_tuple (by decide +kernel) rfl) pa_nil))))) (pw_or1 (pt_cmpR op_ne (pe_callB call_len_seq (by rfl) T.m_len (by decide +kernel) (pa_cons (pv 1) pa_nil)) (pe_callB call_len_seq (by rfl) T.m_len (by decide +kernel) (pa_cons (pv 3) pa_nil)) (nomark _)))))
        (pss_one (ps_ret pe_bl))
        pss_nil)
      (pss_one (ps_ret (pe_callB (cr_all rfl) (by rfl) T.m_all (by decide +kernel) (pa_cons (pe_lc (own := [("item", 5), ("name", 6), ("size", 7)]) (g := gTup K 2 (gCons (gTup K 2 (gCons (gName 6) (gCons (gName 7) gNil))) (gCons (gName 5) gNil))) (by rfl) sc_is_store.nd (RZ.pi_zipA (by rfl) T.m_zip (pa_cons (pv 3) (pa_cons (pv 1) pa_nil))) (blkOk_by (own := [("item", 5), ("name", 6), ("size", 7)]) (N := N_is_store) (sc := defScope s_is_store) (by decide +kernel)) (fun _ _ _ _ _ => (pg_tup (by rfl) (pgs_cons (pg_tup (by rfl) (pgs_cons (pg_name (i := 6) sc_is_store.nd rfl (Or.inl rfl)) (pgs_cons (pg_name (i := 7) sc_is_store.nd rfl (Or.inl rfl)) pgs_nil))) (pgs_cons (pg_name (i := 5) sc_is_store.nd rfl (Or.inl rfl)) pgs_nil)))) (fun _ _ _ _ _ => pts_nil) (fun _ _ _ _ _ => (pe_call G_is_entry (hr.mono (by omega)) (by rfl) T.g_is_entry T.F_is_entry.kp T.b_is_entry .nil pass0 (pa_cons (pv 2) (pa_cons (pv 6) (pa_cons (pv 7) (pa_cons (pv 5) pa_nil))))))) pa_nil)))))), ?_⟩
    have q0 := q H (.refl _ _) tg
    refine ⟨_, rfl, a, _, rfl, hs, rfl, _, _, rfl, _, _, rfl, _, _, rfl, rfl, ?_⟩
    obtain ⟨t1, y1, k1⟩ := isi_tup hv
    refine ⟨_, rfl, _, _, _, _, _, rfl, .ty "tuple", y1, k1, _, rfl, ?_⟩
    cases d with
    | none => exact ite_t rfl q0
    | str b => exact ite_t rfl q0
    | list ds => cases hv
    | dict ds => cases hv
    | bool b => exact ite_t rfl q0
    | int b => exact ite_t rfl q0
    | tuple ds =>
      refine ite_f (fun z => by cases z) ?_
      obtain ⟨e, xs, rfl, he, hxs⟩ := hv.inv
      have hlen := hxs.length
      have rlen : rows.length = p.gl.length := by rw [hrows.length, List.length_map]
      refine ⟨_, rfl, e, xs, rfl, .inr he, _, rfl, b, rows, rfl, .inr hb, rfl, _, rfl, ?_⟩
      refine ite2 (fun e1 => ?_) (fun e1 => ?_)
      · have hne : ¬ ds.length = p.gl.length := fun z => by
          rw [hlen, rlen, z] at e1
          simp at e1
        have e0 : isSto p.w p.gl (.tuple ds) = false := by
          show (decide _ && _) = false
          rw [decide_eq_false hne]
          rfl
        rw [e0] at q0
        exact q0
      have hdl : ds.length = p.gl.length := by
        by_cases z : ds.length = p.gl.length
        · exact z
        · refine absurd ?_ e1
          show (!decide (V.int (xs.length : Int) = V.int (rows.length : Int))) = true
          rw [hlen, rlen, decide_eq_false (fun z' => z (by have := V.int.inj z'; omega))]
          rfl
      have eS : isSto p.w p.gl (.tuple ds) = (List.zipWith (fun (p_ : Str × Int) d => isEnt p.w p_.1 p_.2 d) p.gl ds).all _root_.id := by
        show (decide _ && _) = _
        rw [decide_eq_true hdl, Bool.true_and]
      rw [eS] at q
      have hn := hn ds rfl hdl
      refine ⟨_, rfl, _, rfl, b, e, rows, xs, rfl, .inr ⟨hb, he, fun D nD => ?_⟩⟩
      have hP : D ∉ [T.P_is_entry] := fun z => by
        obtain ⟨ps, e, _⟩ := tg
        rw [List.mem_singleton.mp z, e] at nD
        cases nD
      refine lc_it (walk_zipT (K := K) (a := b) (b := e) (xs := rows) (ys := xs) (n := ds.length) (by omega)) (fun i H1 => ∃ bs, KT [T.P_is_entry] H H1 ∧ GxR.TabG H1 T.P_is_entry ∧ H1 D = some (.lst (bs.map V.bl)) ∧ bs = (List.zipWith (fun (p_ : Str × Int) d => isEnt p.w p_.1 p_.2 d) p.gl ds).take i) ?_ ?_ ?_ ?_
      · refine ⟨[], KT.new _ nD, ?_, upd_same, rfl⟩
        obtain ⟨ps, e, h⟩ := tg
        exact ⟨ps, by rw [upd_ne (ne_of_none e nD)]; exact e, h⟩
      · rintro i H1 _ ⟨bs, k, _⟩
        exact ⟨k.sqT hb, k.sqT he⟩
      · rintro i x H1 H2 hi ⟨bs, k, tg1, hD, hbs⟩ ⟨tp, u1, u2, rfl, nt, rfl, hu1, hu2⟩
        obtain ⟨d1, hd1, rd1⟩ := hrows.get hu1
        rw [List.getElem?_map] at hd1
        cases hpi : p.gl[i]? with
        | none => rw [hpi] at hd1; cases hd1
        | some yz =>
          obtain ⟨y, z⟩ := yz
          rw [hpi] at hd1
          cases hd1
          obtain ⟨t, rfl, ht⟩ := row_inv rd1
          obtain ⟨d2, hd2, rd2⟩ := hxs.get hu2
          have kt : KT [T.P_is_entry] H (upd H1 tp (.tup [.ref t, u2])) := k.trans (KT.new _ nt)
          have hD2 : (upd H1 tp (.tup [.ref t, u2])) D = some (.lst (bs.map V.bl)) := by rw [upd_ne (ne_of_none hD nt)]; exact hD
          have tg2 : GxR.TabG (upd H1 tp (.tup [.ref t, u2])) T.P_is_entry := by
            obtain ⟨ps, e, h⟩ := tg1
            exact ⟨ps, by rw [upd_ne (ne_of_none e nt)]; exact e, h⟩
          refine ⟨tp, _, rfl, SqT.of upd_same, rfl, _, _, rfl, t, _, rfl, kt.sqT ht, rfl, _, _, rfl, _, _, rfl, rfl, _, _, rfl, rfl, ?_⟩
          refine ⟨by rfl, ?_⟩
          refine ⟨_, rfl, _, rfl, _, rfl, _, rfl, p.w, y, z, u2, d2, rfl, w2, rd2.keep kt, hn d2 (List.mem_of_getElem? hd2), tg2, fun H3 k3 tg3 => ?_⟩
          have hD3 := k3.kp _ _ hP hD2
          have lb : bs.length ≤ 1000 := by
            rw [hbs, List.length_take, List.length_zipWith]
            omega
          refine ⟨_, hD3, by rw [List.length_map]; exact small1000 lb, bs ++ [isEnt p.w y z d2], (kt.trans k3).late nD, ?_, by rw [upd_same, List.map_append]; rfl, ?_⟩
          · obtain ⟨ps, e, h⟩ := tg3
            exact ⟨ps, by rw [upd_ne (fun z => hP (by rw [z]; simp))]; exact e, h⟩
          · rw [List.take_succ, hbs, List.getElem?_zipWith, hpi, hd2]
            rfl
      · rintro H1 ⟨bs, k, tg1, hD, hbs⟩
        have lz : (List.zipWith (fun (p_ : Str × Int) d => isEnt p.w p_.1 p_.2 d) p.gl ds).length = ds.length := by rw [List.length_zipWith]; omega
        rw [← lz, List.take_length] at hbs
        subst hbs
        exact ⟨D, _, rfl, SqL.of hD, q H1 k tg1⟩
end

end My

set_option Elab.async false
set_option linter.all false
set_option maxRecDepth 100000
set_option maxHeartbeats 4000000
namespace My
open PySem PySem.Spec PyProof.Rows L2
/-! ### the empty store -/
def zc (p : Str × Int) : List Int := if p.2 = 0 then [0] else List.replicate p.2.toNat 0
def zst (nm : Nm) : List (List Int) := nm.map zc
theorem zst_snoc (nm : Nm) (p : Str × Int) : stD (nm ++ [p]) (zst (nm ++ [p])) = stD nm (zst nm) ++ [entD p (zc p)] := by
  unfold stD zst
  rw [List.map_append, List.zipWith_append (by rw [List.length_map])]
  rfl
theorem zst_ok {w : Nat} : ∀ {nm : Nm}, (∀ r ∈ nm, 0 ≤ r.2) → StOk w nm (zst nm)
  | [], _ => .nil
  | p :: r, h => .cons (by
      have h0 := h p List.mem_cons_self
      unfold zc
      split
      · rename_i e
        refine ⟨fun i hi => ?_, fun _ => rfl, fun z => by omega⟩
        rw [List.mem_singleton.mp hi]
        exact ⟨Int.le_refl 0, pow2_pos w⟩
      · rename_i e
        refine ⟨fun i hi => ?_, fun z => absurd z e, fun z => by rw [List.length_replicate]; omega⟩
        rw [(List.mem_replicate.mp hi).2]
        exact ⟨Int.le_refl 0, pow2_pos w⟩) (zst_ok fun q hq => h q (List.mem_cons_of_mem _ hq))
def spEmp (K : PySem.W.Frag) : Sp := fun vs H Q _ => ∃ (v : V) (p : Prg), vs = [v] ∧ Rp K H v p.d ∧ PrgOk p ∧ ∀ (u : V) (H' : Hp), KT [] H H' → Rp K H' u (.tuple (stD p.gl (zst p.gl))) → Q u H'
section
variable {P : Program} {w : World} {K : PySem.W.Frag} {mg : Str → Option Value} {base : Heap}
theorem ok_empty_store (T : Txt K mg) : FnOk P w K mg base CX0 1 T.f_empty_store T.d_empty_store ["program"] (spEmp K) := by
  refine T.F_empty_store.ok sc_empty_store (fun vs H Q E h => ?_) (fun cdv A outer s H vs Q E hr h => ?_)
  · obtain ⟨v, p, rfl, _⟩ := h
    rfl
  · obtain ⟨v, p, rfl, hv, hp, q⟩ := h
    obtain ⟨a, b, c, rows, rfl, hs, hb, hrows⟩ := Prg.inv hv
    obtain ⟨hsz, hln, _⟩ := hp.sizes
    have lrows : rows.length = p.gl.length := by rw [hrows.length, List.length_map]
    refine ⟨_, (pss_one (ps_ret (pe_callTy call_tuple_of (by rfl) T.m_tuple (by decide +kernel) (pa_cons (pe_lc (own := [("name", 1), ("size", 2)]) (g := gTup K 2 (gCons (gName 1) (gCons (gName 2) gNil))) (by rfl) sc_empty_store.nd (pi_tup (pe_ix ix_tup (pv 0) pe_int (fun _ _ => rfl))) (blkOk_by (own := [("name", 1), ("size", 2)]) (N := N_empty_store) (sc := defScope s_empty_store) (by decide +kernel)) (fun _ _ _ _ _ => (pg_tup (by rfl) (pgs_cons (pg_name (i := 1) sc_empty_store.nd rfl (Or.inl rfl)) (pgs_cons (pg_name (i := 2) sc_empty_store.nd rfl (Or.inl rfl)) pgs_nil)))) (fun _ _ _ _ _ => pts_nil) (fun _ _ _ _ _ => (pe_tup (pa_cons (pv 1) (pa_cons (pe_ifExp (pt_truthK (K := K) rfl 2) (pe_op (op_repZ (K := K) rfl) (pe_tup (pa_cons pe_int pa_nil)) (pv 2)) pe_int) pa_nil))))) pa_nil)))), ?_⟩
    refine ⟨_, rfl, a, _, _, _, rfl, rfl, hs, atI_1, b, rfl, ⟨_, hb⟩, fun D nD => ?_⟩
    refine lc_it (walk_tup (K := K) (a := b) (xs := rows)) (fun i H1 => ∃ vs, KT [] H H1 ∧ H1 D = some (.lst vs) ∧ RpA K H1 vs (stD (p.gl.take i) (zst (p.gl.take i)))) ?_ ?_ ?_ ?_
    · exact ⟨[], KT.new _ nD, upd_same, .nil⟩
    · rintro i H1 _ ⟨vs, k, _⟩
      exact k.sqT hb
    · rintro i x H1 H2 hi ⟨vs, k, hD, hvs⟩ ⟨rfl, hx⟩
      obtain ⟨d, hd, rd⟩ := hrows.get hx
      rw [List.getElem?_map] at hd
      cases hpi : p.gl[i]? with
      | none => rw [hpi] at hd; cases hd
      | some ys =>
        obtain ⟨y, sz⟩ := ys
        rw [hpi] at hd
        cases hd
        obtain ⟨t, rfl, ht⟩ := row_inv rd
        have hm := hsz _ (List.mem_of_getElem? hpi)
        have hm1 : 0 ≤ sz := hm.1
        have hm2 : sz ≤ 9 := hm.2
        have tk : p.gl.take (i + 1) = p.gl.take i ++ [(y, sz)] := by rw [List.take_succ, hpi]; rfl
        have lvs : vs.length < sizeLine := by
          rw [hvs.length]
          unfold stD zst
          rw [List.length_zipWith, List.length_map, List.length_take]
          exact Nat.lt_of_le_of_lt (by omega : _ ≤ 5) (by decide)
        have fin : ∀ {H3 : Hp} {u : V}, KT [] H2 H3 → Rp K H3 u (cellD sz (zc (y, sz))) → (2 ≤ sizeLine ∧ ∀ t2, H3 t2 = none → ∃ acc, (upd H3 t2 (.tup [.str y, u])) D = some (.lst acc) ∧ acc.length < sizeLine ∧ ∃ vs, KT [] H (upd (upd H3 t2 (.tup [.str y, u])) D (.lst (acc ++ [.ref t2]))) ∧ (upd (upd H3 t2 (.tup [.str y, u])) D (.lst (acc ++ [.ref t2]))) D = some (.lst vs) ∧
            RpA K (upd (upd H3 t2 (.tup [.str y, u])) D (.lst (acc ++ [.ref t2]))) vs (stD (p.gl.take (i + 1)) (zst (p.gl.take (i + 1))))) := by
          intro H3 u k3 ru
          refine ⟨sz2, fun t2 n2 => ?_⟩
          have k4 : KT [] H3 (upd H3 t2 (.tup [.str y, u])) := KT.new _ n2
          have rt : Rp K (upd H3 t2 (.tup [.str y, u])) (.ref t2) (entD (y, sz) (zc (y, sz))) := .made n2 (.cons (.str y) (.cons ru .nil))
          have hD4 := (k3.trans k4).kp _ _ (by simp) hD
          refine ⟨vs, hD4, lvs, vs ++ [.ref t2], (k.trans (k3.trans k4)).late nD, upd_same, ?_⟩
          rw [tk, zst_snoc]
          exact (rpA_ofT (sqT_putL hD4) (hvs.keep (k3.trans k4))).app (.cons (rp_ofT (sqT_putL hD4) rt) .nil)
        refine ⟨t, _, rfl, k.sqT ht, rfl, _, _, rfl, _, _, rfl, rfl, by rfl, ?_⟩
        refine ⟨_, rfl, _, rfl, (sz != 0), rfl, ?_⟩
        by_cases hz : sz = 0
        · subst hz
          exact fin (.refl _ _) (.int 0)
        · refine ite_t (by simpa using hz) ⟨sz1, fun t1 n1 => ⟨_, rfl, t1, sz, _, rfl, rfl, SqT.of upd_same, (by simp), by omega, by omega, Nat.le_of_ble_eq_true rfl, fun e1 => ?_, fun e2 t2 n2 => ?_⟩⟩
          · have k1 : KT [] H2 (upd H2 t1 (.tup [.int 0])) := KT.new _ n1
            refine fin k1 ?_
            have e : cellD sz (zc (y, sz)) = .tuple [.int 0] := by rw [e1]; rfl
            rw [e]
            exact .made n1 (.cons (.int 0) .nil)
          · have k1 : KT [] H2 (upd H2 t1 (.tup [.int 0])) := KT.new _ n1
            have k2 := k1.trans (KT.new [] n2 (o := .tup (List.replicate sz.toNat [.int 0]).flatten))
            refine fin k2 ?_
            have e : cellD sz (zc (y, sz)) = .tuple ((List.replicate sz.toNat (0 : Int)).map PyData.int) := by
              unfold cellD zc
              rw [if_neg hz, if_neg hz]
            have e3 : (List.replicate sz.toNat [V.int 0]).flatten = (List.replicate sz.toNat (0 : Int)).map V.int := by
              rw [List.map_replicate]
              have : ∀ n : Nat, (List.replicate n [V.int 0]).flatten = List.replicate n (V.int 0) := fun n => by
                induction n with
                | zero => rfl
                | succ n ih => rw [List.replicate_succ, List.flatten_cons, ih, List.replicate_succ]; rfl
              exact this _
            rw [e, e3]
            exact .made n2 (rpa_ints _)
    · rintro H1 ⟨vs, k, hD, hvs⟩
      rw [lrows, List.take_length] at hvs
      refine ⟨D, vs, rfl, .inl ⟨SqL.of hD, fun t nt => ?_⟩⟩
      exact q _ _ (k.trans (KT.new _ nt)) (.made nt hvs)
end
/-! ### written data, no draw in sight -/
def TK (K : PySem.W.Frag) (H0 : Hp) (σ : L2.St) (t : TE) (d : PyData) : Prop := ∀ H, KT [] H0 H → ∀ C : VK, (∀ v H', KT [] H H' → Rp K H' v d → C v H') → t σ H C
def TKs (K : PySem.W.Frag) (H0 : Hp) (σ : L2.St) (t : TA) (ds : List PyData) : Prop := ∀ H, KT [] H0 H → ∀ C : List V → Hp → Prop, (∀ vs H', KT [] H H' → RpA K H' vs ds → C vs H') → t σ H C
section
variable {K : PySem.W.Frag} {H0 : Hp} {σ : L2.St} {t : TE} {ts : TA} {d : PyData} {ds : List PyData}
theorem TK.str (x : Str) : TK K H0 σ (tC (.str x)) (.str x) := fun H g C h => h _ H (.refl _ _) (.str x)
theorem TK.int (x : Int) : TK K H0 σ (tC (.int x)) (.int x) := fun H g C h => h _ H (.refl _ _) (.int x)
theorem TK.bl (x : Bool) : TK K H0 σ (tC (.bl x)) (.bool x) := fun H g C h => h _ H (.refl _ _) (.bl x)
theorem TK.non : TK K H0 σ (tC .non) .none := fun H g C h => h _ H (.refl _ _) .non
theorem TK.var (i : Nat) {v : V} (e : σ[i]? = some (some v)) (r : Rp K H0 v d) : TK K H0 σ (tVar i) d := fun H g C h => ⟨v, e, h _ H (.refl _ _) (r.keep g)⟩
theorem TKs.nil : TKs K H0 σ tNil [] := fun H g C h => h _ H (.refl _ _) .nil
theorem TKs.cons (a : TK K H0 σ t d) (b : TKs K H0 σ ts ds) : TKs K H0 σ (tCons t ts) (d :: ds) := fun H g C h =>
  a H g _ fun v H1 g1 r1 => b H1 (g.trans g1) _ fun vs H2 g2 r2 => h _ H2 (g1.trans g2) (.cons (r1.keep g2) r2)
theorem TK.tup (a : TKs K H0 σ ts ds) (z : ds.length ≤ 1000 := by exact Nat.le_of_ble_eq_true rfl) : TK K H0 σ (tTup ts) (.tuple ds) := fun H g C h =>
  a H g _ fun vs H1 g1 r1 => ⟨Nat.le_trans (by rw [r1.length]; exact z) (by decide), fun p np => h _ _ (g1.trans (.new _ np)) (.made np r1)⟩
theorem cat_k {H : Hp} {x y : V} {ds es : List PyData} {J : V → Hp → Prop} (ha : Rp K H x (.tuple ds)) (hb : Rp K H y (.tuple es)) (hl : ds.length + es.length ≤ 1000)
    (hJ : ∀ v H', KT [] H H' → Rp K H' v (.tuple (ds ++ es)) → J v H') : rCatA K x y H J := by
  obtain ⟨a, xs, rfl, hs, hx⟩ := ha.inv
  obtain ⟨b, ys, rfl, ht, hy⟩ := hb.inv
  have l1 := hx.length
  have l2 := hy.length
  refine ⟨a, b, xs, ys, rfl, rfl, hs, ht, Nat.le_trans (by omega : _ ≤ 1000) (by decide), fun e => ?_, fun e1 e => ?_, fun e1 e2 p np => ?_⟩
  · subst e
    have : ds = [] := List.eq_nil_of_length_eq_zero l1.symm
    subst this
    exact hJ _ _ (.refl _ _) hb
  · subst e
    have : es = [] := List.eq_nil_of_length_eq_zero l2.symm
    subst this
    exact hJ _ _ (.refl _ _) (by rw [List.append_nil]; exact ha)
  · exact hJ _ _ (.new _ np) (.made np (hx.app hy))
theorem TK.catC {t2 : TE} {es : List PyData} (a : TK K H0 σ t (.tuple ds)) (b : TK K H0 σ t2 (.tuple es)) (z : ds.length + es.length ≤ 1000) : TK K H0 σ (fun σ H Q => ∃ J : V → Hp → Prop, tOp (rCatA K) t t2 σ H J ∧ ∀ v H', J v H' → Q v H') (.tuple (ds ++ es)) := fun H g C h =>
  ⟨C, a H g _ fun v H1 g1 r1 => b H1 (g.trans g1) _ fun v2 H2 g2 r2 => cat_k (r1.keep g2) r2 z fun v3 H3 g3 r3 => h _ _ ((g1.trans g2).trans g3) r3, fun _ _ z => z⟩
theorem TK.ix0 (a : TK K H0 σ t (.tuple (d :: ds))) : TK K H0 σ (tOp (rIxT K) t (tC (.int 0))) d := fun H g C h =>
  a H g _ fun v H1 g1 r1 => by
    obtain ⟨p, xs, rfl, hs, hx⟩ := r1.inv
    obtain ⟨u, r, rfl, hu, _⟩ := hx.inv
    exact ⟨p, _, 0, u, rfl, rfl, hs, atI_0, h _ _ g1 hu⟩
theorem TK.ix1 {d2 : PyData} (a : TK K H0 σ t (.tuple (d :: d2 :: ds))) : TK K H0 σ (tOp (rIxT K) t (tC (.int 1))) d2 := fun H g C h =>
  a H g _ fun v H1 g1 r1 => by
    obtain ⟨p, xs, rfl, hs, hx⟩ := r1.inv
    obtain ⟨u, r, rfl, hu, hx2⟩ := hx.inv
    obtain ⟨u2, r2, rfl, hu2, _⟩ := hx2.inv
    exact ⟨p, _, 1, u2, rfl, rfl, hs, atI_1, h _ _ g1 hu2⟩
def cutD (ds : List PyData) (lo hi : Option Int) : List PyData := (ds.drop (HT.sIx ds.length 0 lo)).take (HT.sIx ds.length ds.length hi - HT.sIx ds.length 0 lo)
theorem sl_data {H : Hp} {x : V} {lo hi : Option Int} {J : V → Hp → Prop} (r : Rp K H x (.tuple ds)) (hJ : ∀ v H', KT [] H H' → Rp K H' v (.tuple (cutD ds lo hi)) → J v H') : rSlA K x lo hi H J := by
  obtain ⟨p, xs, rfl, hs, hx⟩ := r.inv
  have l := hx.length
  refine ⟨p, xs, rfl, hs, fun w => hJ _ _ (.refl _ _) ?_, fun _ q nq => hJ _ _ (.new _ nq) ?_⟩
  · have e : cutD ds lo hi = ds := by
      unfold cutD
      rw [← l, w.1, w.2, l, List.drop_zero, Nat.sub_zero, List.take_length]
    rw [e]
    exact r
  · have e := (hx.drop (HT.sIx ds.length 0 lo)).take (HT.sIx ds.length ds.length hi - HT.sIx ds.length 0 lo)
    refine .made nq ?_
    unfold cutV
    rw [l]
    exact e
theorem sIx1 (n : Nat) : HT.sIx (n + 1) 0 (some 1) = 1 := by
  rw [show (some 1 : Option Int) = some ((1 : Nat) : Int) from rfl, HT.sIx_nat]
  omega
theorem sIx1' (n : Nat) : HT.sIx (n + 1) (n + 1) (some 1) = 1 := by
  rw [show (some 1 : Option Int) = some ((1 : Nat) : Int) from rfl, HT.sIx_nat]
  omega
theorem cut_from1 : cutD (d :: ds) (some 1) none = ds := by
  unfold cutD
  rw [List.length_cons, sIx1]
  show (List.drop 1 (d :: ds)).take (ds.length + 1 - 1) = ds
  simp
theorem cut_to1 : cutD (d :: ds) none (some 1) = [d] := by
  unfold cutD
  rw [List.length_cons, sIx1']
  show (List.drop 0 (d :: ds)).take (1 - 0) = [d]
  simp
theorem cut_one : cutD (d :: ds) (some 0) (some 1) = [d] := by
  unfold cutD
  rw [List.length_cons, sIx1']
  have : HT.sIx (ds.length + 1) 0 (some 0) = 0 := by
    rw [show (some 0 : Option Int) = some ((0 : Nat) : Int) from rfl, HT.sIx_nat]
    omega
  rw [this]
  simp
theorem TK.from1 (a : TK K H0 σ t (.tuple (d :: ds))) : TK K H0 σ (tSl (rSlA K) t (tPart (tC (.int 1))) tNoPart) (.tuple ds) := fun H g C h =>
  a H g _ fun v H1 g1 r1 => ⟨1, rfl, sl_data r1 fun v2 H2 g2 r2 => h _ _ (g1.trans g2) (by rw [cut_from1] at r2; exact r2)⟩
theorem TK.to1 (a : TK K H0 σ t (.tuple (d :: ds))) : TK K H0 σ (tSl (rSlA K) t tNoPart (tPart (tC (.int 1)))) (.tuple [d]) := fun H g C h =>
  a H g _ fun v H1 g1 r1 => ⟨1, rfl, sl_data r1 fun v2 H2 g2 r2 => h _ _ (g1.trans g2) (by rw [cut_to1] at r2; exact r2)⟩
theorem TK.one (a : TK K H0 σ t (.tuple (d :: ds))) : TK K H0 σ (tSl (rSlA K) t (tPart (tC (.int 0))) (tPart (tC (.int 1)))) (.tuple [d]) := fun H g C h =>
  a H g _ fun v H1 g1 r1 => ⟨0, rfl, 1, rfl, sl_data r1 fun v2 H2 g2 r2 => h _ _ (g1.trans g2) (by rw [cut_one] at r2; exact r2)⟩
theorem TKs.lst {C : VK} (a : TKs K H0 σ ts ds) (z : ds.length ≤ 1000) (h : ∀ vs H' p, KT [] H0 H' → RpA K H' vs ds → H' p = none → C (.ref p) (upd H' p (.lst vs))) : tLst ts σ H0 C :=
  a H0 (.refl _ _) _ fun vs H1 g1 r1 => ⟨Nat.le_trans (by rw [r1.length]; exact z) (by decide), fun p np => h _ _ _ g1 r1 np⟩
end
/-! ### stores and what is none -/
theorem cell_true {w : Nat} {p : Str × Int} {xs : List Int} (h : CellOk w p xs) (h0 : 0 ≤ p.2) : isCell w p.2 (cellD p.2 xs) = true := by
  obtain ⟨h1, h2, h3⟩ := h
  have wt : ∀ i ∈ xs, isW w (.int i) = true := fun i hi => by
    obtain ⟨a, b⟩ := h1 i hi
    show (decide (0 ≤ i) && decide (i ≤ 2 ^ w - 1)) = true
    rw [decide_eq_true a, decide_eq_true (by omega)]
    rfl
  unfold isCell cellD
  split
  · rename_i e
    have l := h2 e
    match xs, l with
    | [x], _ => exact wt x List.mem_cons_self
  · rename_i e
    show (decide (((xs.map PyData.int).length : Int) = p.2) && (xs.map PyData.int).all (isW w)) = true
    rw [List.length_map, decide_eq_true (h3 (by omega)), Bool.true_and, List.all_map, List.all_eq_true]
    exact wt
theorem ent_true {w : Nat} {p : Str × Int} {xs : List Int} (h : CellOk w p xs) (h0 : 0 ≤ p.2) : isEnt w p.1 p.2 (entD p xs) = true := by
  show (decide (p.1 = p.1) && isCell w p.2 (cellD p.2 xs)) = true
  rw [decide_eq_true rfl, cell_true h h0]
  rfl
theorem zip_true {w : Nat} : ∀ {nm : Nm} {st : List (List Int)}, StOk w nm st → (∀ r ∈ nm, 0 ≤ r.2) → (List.zipWith (fun (p : Str × Int) d => isEnt w p.1 p.2 d) nm (stD nm st)).all _root_.id = true ∧ (stD nm st).length = nm.length
  | _, _, .nil, _ => ⟨rfl, rfl⟩
  | p :: r, xs :: q, .cons h t, h0 => by
    obtain ⟨i1, i2⟩ := zip_true t fun x hx => h0 x (List.mem_cons_of_mem _ hx)
    refine ⟨?_, ?_⟩
    · show (isEnt w p.1 p.2 (entD p xs) && (List.zipWith (fun (p : Str × Int) d => isEnt w p.1 p.2 d) r (stD r q)).all _root_.id) = true
      rw [ent_true h (h0 _ List.mem_cons_self), i1]
      rfl
    · show (stD r q).length + 1 = r.length + 1
      rw [i2]
theorem sto_true {w : Nat} {nm : Nm} {st : List (List Int)} (h : StOk w nm st) (h0 : ∀ r ∈ nm, 0 ≤ r.2) : isSto w nm (.tuple (stD nm st)) = true := by
  obtain ⟨i1, i2⟩ := zip_true h h0
  show (decide ((stD nm st).length = nm.length) && _) = true
  rw [i2, decide_eq_true rfl, i1]
  rfl
theorem ent_nice (nm : Nm) (st : List (List Int)) : ∀ e ∈ stD nm st, Nice e := by
  intro e he
  unfold stD at he
  obtain ⟨i, hi, rfl⟩ := List.getElem_of_mem he
  rw [List.getElem_zipWith]
  exact ⟨_, rfl⟩
theorem sto_len {w : Nat} {nm : Nm} {ds : List PyData} (h : ds.length ≠ nm.length) : isSto w nm (.tuple ds) = false := by
  show (decide (ds.length = nm.length) && _) = false
  rw [decide_eq_false h]
  rfl
theorem sto_head {w : Nat} {p : Str × Int} {nm : Nm} {d : PyData} {ds : List PyData} (h : isEnt w p.1 p.2 d = false) : isSto w (p :: nm) (.tuple (d :: ds)) = false := by
  show (decide _ && (isEnt w p.1 p.2 d && _)) = false
  rw [h, Bool.false_and, Bool.and_false]

end My

set_option Elab.async false
set_option linter.all false
set_option maxRecDepth 100000
set_option maxHeartbeats 4000000
namespace My
open PySem PySem.Spec PyProof.Rows L2
local macro_rules | `(tactic| walk_at "asm") => `(tactic| (refine' of_eq_true (eq_true ?_); assumption))
local macro_rules | `(tactic| walk_at "go1") => `(tactic| first
  | (with_reducible rfl) | walk_at "asm" | (apply And.intro) | (apply Exists.intro)
  | (refine' ite_f (by decide +kernel) ?_) | (refine' ite_t (by decide +kernel) ?_) | (refine' ite_f (dstr_ne (by assumption)) ?_) | (refine' ite_t (dstr_eq (by assumption)) ?_)
  | (exact SqT.of upd_same) | (exact SqL.of upd_same) | (exact SqL.of (by assumption)) | (exact SqT.of (by assumption)) | (exact dget_s (by assumption) (by assumption)) | (exact dget_f (by assumption) (by assumption))
  | (exact Or.inl (by assumption)) | (exact Or.inr (by assumption)) | (exact Or.inl (SqL.of (by assumption))) | (exact Or.inr (SqT.of (by assumption))) | rfl)
local macro_rules | `(tactic| walk_at "go") => `(tactic| repeat' walk_at "go1")

def nm4 : Nm := [("a", 0), ("b", 0), ("row", 3), ("list", 1)]
theorem nm4_new : mergeK [] (nmK nm4) = nmK nm4 := by kernel_rfl
theorem nm4_at {H : Hp} {nd : Addr} (h : H nd = some (.dK (nmK nm4))) : NmAt H nd nm4 := ⟨h, by decide +kernel, by decide +kernel, by decide +kernel, by decide +kernel⟩
def lkK (x y : Int) (rl : Addr) : List (Key × V) := [(.inr "a", .int x), (.inr "b", .int y), (.inr "row", .ref rl)]
theorem lk_new (x y : Int) (rl : Addr) : mergeK [] (lkK x y rl) = lkK x y rl := by kernel_rfl
def lkL (x y : Int) (rl ll : Addr) : List (Key × V) := [(.inr "a", .int x), (.inr "b", .int y), (.inr "row", .ref rl), (.inr "list", .ref ll)]
theorem lk_put (x y : Int) (rl ll : Addr) : putK (lkK x y rl) (.inr "list") (.ref ll) = lkL x y rl ll := by kernel_rfl
def frK (a b rl ll : Addr) : List (Key × V) := [(.inr "a", .ref a), (.inr "b", .ref b), (.inr "row", .ref rl), (.inr "list", .ref ll)]
theorem fr_new (a b rl ll : Addr) : mergeK [] (frK a b rl ll) = frK a b rl ll := by kernel_rfl
def en4 (x y z : Int) (rs : List Int) (s : Str) : List Int := if s = "a" then [x] else if s = "b" then [y] else if s = "row" then rs else [z]
theorem en4_a (x y z : Int) (rs : List Int) : en4 x y z rs "a" = [x] := by unfold en4; rw [if_pos rfl]
theorem en4_b (x y z : Int) (rs : List Int) : en4 x y z rs "b" = [y] := by unfold en4; rw [if_neg (by decide +kernel), if_pos rfl]
theorem en4_r (x y z : Int) (rs : List Int) : en4 x y z rs "row" = rs := by unfold en4; rw [if_neg (by decide +kernel), if_neg (by decide +kernel), if_pos rfl]
theorem en4_l (x y z : Int) (rs : List Int) : en4 x y z rs "list" = [z] := by unfold en4; rw [if_neg (by decide +kernel), if_neg (by decide +kernel), if_neg (by decide +kernel)]
theorem nm4_mem {x : Str} {s : Int} (h : nm4.lookup x = some s) : (x = "a" ∧ s = 0) ∨ (x = "b" ∧ s = 0) ∨ (x = "row" ∧ s = 3) ∨ (x = "list" ∧ s = 1) := by
  have := mem_of_lookup' h
  unfold nm4 at this
  simp only [List.mem_cons, List.not_mem_nil, or_false, Prod.mk.injEq] at this
  exact this
theorem en4_ok {w : Nat} {x y z : Int} {rs : List Int} (hx : 0 ≤ x ∧ x < 2 ^ w) (hy : 0 ≤ y ∧ y < 2 ^ w) (hz : 0 ≤ z ∧ z < 2 ^ w) (hr : ∀ i ∈ rs, 0 ≤ i ∧ i < 2 ^ w) (hl : rs.length = 3) : EnOk w nm4 (en4 x y z rs) := by
  intro v s h
  rcases nm4_mem h with ⟨rfl, rfl⟩ | ⟨rfl, rfl⟩ | ⟨rfl, rfl⟩ | ⟨rfl, rfl⟩
  · rw [en4_a]; exact ⟨fun i hi => by rw [List.mem_singleton.mp hi]; exact hx, fun _ => rfl, fun z => by omega⟩
  · rw [en4_b]; exact ⟨fun i hi => by rw [List.mem_singleton.mp hi]; exact hy, fun _ => rfl, fun z => by omega⟩
  · rw [en4_r]; exact ⟨hr, fun z => by omega, fun _ => by rw [hl]; rfl⟩
  · rw [en4_l]; exact ⟨fun i hi => by rw [List.mem_singleton.mp hi]; exact hz, fun z => by omega, fun _ => rfl⟩
theorem look4 {K : PySem.W.Frag} {H : Hp} {lk rl ll : Addr} {x y z : Int} {rs : List Int} (h : H lk = some (.dK (lkL x y rl ll))) (h1 : H rl = some (.lst (rs.map V.int))) (h2 : H ll = some (.lst [.int z])) : LookV K H lk nm4 (en4 x y z rs) := by
  refine ⟨_, h, fun v s hv => ?_⟩
  rcases nm4_mem hv with ⟨rfl, rfl⟩ | ⟨rfl, rfl⟩ | ⟨rfl, rfl⟩ | ⟨rfl, rfl⟩
  · rw [en4_a]; exact ⟨fun _ => by kernel_rfl, fun z => by omega⟩
  · rw [en4_b]; exact ⟨fun _ => by kernel_rfl, fun z => by omega⟩
  · rw [en4_r]; exact ⟨fun z => by omega, fun _ => ⟨rl, by kernel_rfl, SqL.of h1⟩⟩
  · rw [en4_l]; exact ⟨fun z => by omega, fun _ => ⟨ll, by kernel_rfl, SqL.of h2⟩⟩
theorem lookF4 {K : PySem.W.Frag} {H : Hp} {fd a b rl ll : Addr} {x y z : Int} {rs : List Int} (h : H fd = some (.dK (frK a b rl ll))) (ha : H a = some (.lst [.int x])) (hb : H b = some (.lst [.int y])) (h1 : H rl = some (.lst (rs.map V.int))) (h2 : H ll = some (.lst [.int z])) : LookF K H fd nm4 (en4 x y z rs) := by
  refine ⟨_, h, fun v s hv => ?_⟩
  rcases nm4_mem hv with ⟨rfl, rfl⟩ | ⟨rfl, rfl⟩ | ⟨rfl, rfl⟩ | ⟨rfl, rfl⟩
  · rw [en4_a]; exact ⟨a, by kernel_rfl, SqL.of ha⟩
  · rw [en4_b]; exact ⟨b, by kernel_rfl, SqL.of hb⟩
  · rw [en4_r]; exact ⟨rl, by kernel_rfl, SqL.of h1⟩
  · rw [en4_l]; exact ⟨ll, by kernel_rfl, SqL.of h2⟩
theorem nin_dr {dr p : Addr} {H : Hp} (D : DrawAt H dr) (n : H p = none) : p ∉ [dr] := fun z => by
  obtain ⟨o, e⟩ := D.some
  rw [List.mem_singleton.mp z, e] at n
  cases n
theorem ent_cell {w : Nat} {x y : Str} {s : Int} {b : PyData} (h : isCell w s b = false) : isEnt w x s (.tuple [.str y, b]) = false := by
  show (decide (y = x) && isCell w s b) = false
  rw [h, Bool.and_false]
theorem ent_name {w : Nat} {x y : Str} {s : Int} {b : PyData} (h : ¬ y = x) : isEnt w x s (.tuple [.str y, b]) = false := by
  show (decide (y = x) && isCell w s b) = false
  rw [decide_eq_false h, Bool.false_and]
theorem cell_0 {w : Nat} {b : PyData} : isCell w 0 b = isW w b := by
  unfold isCell
  rw [if_pos rfl]
/-- what is no store -/
def e0D (a0 : Int) : PyData := .tuple [.str "a", .int a0]
def bads (w : Nat) (a0 : Int) (R : List PyData) : List PyData := [.tuple R, .tuple ((e0D a0 :: R) ++ [e0D a0]), .tuple ([.tuple [.str "zz", .int a0]] ++ R), .tuple ([.tuple [.str "a", .int (2 ^ w - 1 + 1)]] ++ R), .tuple ([.tuple [.str "a", .int (-1)]] ++ R),
  .tuple ([.tuple [.str "a", .tuple [.int 0]]] ++ R), .tuple ([.tuple [.str "a", .bool true]] ++ R), .none, .tuple [.str "a"], .int 5, .tuple ([.tuple [.str "a"]] ++ R), .tuple (R ++ [e0D a0])]
theorem bads_no {w : Nat} {t : Nm} {xb : List Int} {a0 : Int} {R2 : List PyData} (ht : 1 ≤ t.length) (hR : R2.length = t.length) (hn : ∀ e ∈ (entD ("b", 0) xb :: R2), Nice e) : ∀ d ∈ bads w a0 (entD ("b", 0) xb :: R2), isSto w (("a", 0) :: ("b", 0) :: t) d = false ∧ ∀ ds, d = .tuple ds → ds.length = (("a", 0) :: ("b", 0) :: t : Nm).length → ∀ e ∈ ds, Nice e := by
  have hl : (entD ("b", 0) xb :: R2).length = t.length + 1 := by rw [List.length_cons, hR]
  have n0 : Nice (e0D a0) := ⟨_, rfl⟩
  have nc : ∀ {x : PyData} {l : List PyData}, Nice x → (∀ e ∈ l, Nice e) → ∀ e ∈ [x] ++ l, Nice e := fun hx hl e he => by
    rcases List.mem_append.mp he with z | z
    · rw [List.mem_singleton.mp z]; exact hx
    · exact hl e z
  intro d hd
  unfold bads at hd
  simp only [List.mem_cons, List.not_mem_nil, or_false] at hd
  have tn : ∀ {l : List PyData}, (∀ e ∈ l, Nice e) → ∀ ds, PyData.tuple l = .tuple ds → ds.length = (("a", 0) :: ("b", 0) :: t : Nm).length → ∀ e ∈ ds, Nice e := fun h ds e _ => by cases e; exact h
  rcases hd with rfl | rfl | rfl | rfl | rfl | rfl | rfl | rfl | rfl | rfl | rfl | rfl
  · exact ⟨sto_len (by rw [hl]; simp), tn hn⟩
  · refine ⟨sto_len (by rw [List.length_append, List.length_cons, hl]; simp), tn fun e he => ?_⟩
    rcases List.mem_append.mp he with z | z
    · rcases List.mem_cons.mp z with z | z
      · rw [z]; exact n0
      · exact hn e z
    · rw [List.mem_singleton.mp z]; exact n0
  · exact ⟨sto_head (ent_name (by decide +kernel)), tn (nc ⟨_, rfl⟩ hn)⟩
  · refine ⟨sto_head (ent_cell ?_), tn (nc ⟨_, rfl⟩ hn)⟩
    rw [cell_0]
    show (decide (0 ≤ (2 : Int) ^ w - 1 + 1) && decide ((2 : Int) ^ w - 1 + 1 ≤ 2 ^ w - 1)) = false
    rw [decide_eq_false (show ¬ ((2 : Int) ^ w - 1 + 1 ≤ 2 ^ w - 1) by omega), Bool.and_false]
  · refine ⟨sto_head (ent_cell ?_), tn (nc ⟨_, rfl⟩ hn)⟩
    rw [cell_0]
    show (decide (0 ≤ (-1 : Int)) && decide ((-1 : Int) ≤ 2 ^ w - 1)) = false
    rw [decide_eq_false (show ¬ (0 ≤ (-1 : Int)) by omega), Bool.false_and]
  · exact ⟨sto_head (ent_cell (by rw [cell_0]; rfl)), tn (nc ⟨_, rfl⟩ hn)⟩
  · exact ⟨sto_head (ent_cell (by rw [cell_0]; rfl)), tn (nc ⟨_, rfl⟩ hn)⟩
  · exact ⟨rfl, fun ds e => by cases e⟩
  · exact ⟨sto_len (by simp), fun ds e h => by cases e; simp at h⟩
  · exact ⟨rfl, fun ds e => by cases e⟩
  · exact ⟨sto_head rfl, tn (nc trivial hn)⟩
  · refine ⟨sto_head ?_, tn fun e he => ?_⟩
    · exact ent_name (by decide +kernel)
    · rcases List.mem_append.mp he with z | z
      · exact hn e z
      · rw [List.mem_singleton.mp z]; exact n0
theorem PrgOk.two {p : Prg} (h : PrgOk p) : ∃ t : Nm, p.gl = (("a" : Str), (0 : Int)) :: (("b" : Str), (0 : Int)) :: t ∧ 1 ≤ t.length := by
  obtain ⟨ss, e, _⟩ := h.gl
  rw [e]
  exact ⟨_, rfl, by show 1 ≤ (List.length _ + 1); omega⟩
def spLaw {K : PySem.W.Frag} {mg : Str → Option Value} (T : Txt K mg) : Sp := fun vs H Q _ => ∃ (a : Addr) (ns : List Int), vs = [.ref a] ∧ SqL K H a (ns.map V.int) ∧ ns.length ≤ 63 ∧ (∀ z ∈ ns, Builtin.Int.intBits z ≤ 1048576) ∧ (∀ p ∈ T.tabs, H p.2 = some (.tbl #[])) ∧ ∀ H', Q (.bl true) H'
section
variable {P : Program} {w : World} {K : PySem.W.Frag} {mg : Str → Option Value} {base : Heap}
theorem ok_law (T : Txt K mg) (TB : TBs T base) : FnOk P w K mg base CX0 34 T.f_law T.d_law ["script"] (spLaw T) := by
  have G_z_draw := ok_z_draw (P := P) (w := w) (base := base) T
  have G_z_take := okG_z_take (P := P) (w := w) (base := base) T
  have G_z_word := okG_z_word (P := P) (w := w) (base := base) T
  have G_z_top := ok_z_top (P := P) (w := w) (base := base) T
  have G_z_expression := ok_z_expression (P := P) (w := w) (base := base) T 5
  have G_value_of := ok_value_of (P := P) (w := w) (base := base) T 5
  have G_z_value := ok_z_value (P := P) (w := w) (base := base) T 5
  have G_z_program := ok_z_program (P := P) (w := w) (base := base) T
  have G_z_store := ok_z_store (P := P) (w := w) (base := base) T
  have G_is_store := ok_is_store (P := P) (w := w) (base := base) T TB
  have G_empty_store := ok_empty_store (P := P) (w := w) (base := base) T
  refine T.F_law.ok sc_law (fun vs H Q E h => ?_) (fun cdv A outer s H vs Q E hr h => ?_)
  · obtain ⟨a, ns, rfl, _⟩ := h
    rfl
  · obtain ⟨a, ns, rfl, hS, hlen, _, htab, q⟩ := h
    have hr : Room 33 _ := hr
    refine ⟨_, (pss_cons (ps_set (i := 1) sc_law.nd rfl (Or.inr rfl) (pe_call G_z_draw (hr.mono (by omega)) (by rfl) T.g_z_draw T.F_z_draw.kp T.b_z_draw .nil pass0 (pa_cons (pv 0) pa_nil)))
      (pss_cons (ps_for PassesOwn.never rfl (pi_range1 (by rfl) T.m_range (pa_cons pe_int pa_nil)) (pg_name (i := 2) sc_law.nd rfl (Or.inl rfl))
        (pss_cons (ps_set (i := 3) sc_law.nd rfl (Or.inr rfl) (pe_ix ix_list (pe_lst (pa_cons pe_int (pa_cons pe_int (pa_cons pe_int (pa_cons pe_int pa_nil))))) (pe_call G_z_take (hr.mono (by omega)) (by rfl) T.g_z_take T.F_z_take.kp T.b_z_take .nil pass0 (pa_cons (pv 1) (pa_cons pe_int pa_nil))) (fun _ _ => rfl)))
        (pss_cons (ps_set (i := 4) sc_law.nd rfl (Or.inl rfl) (pe_disp (pps_cons pe_str pe_int (pps_cons pe_str pe_int (pps_cons pe_str pe_int (pps_cons pe_str pe_int pps_nil)))) (by rfl) (by rfl) (fun z => by cases z) (by decide)))
        (pss_cons (ps_set (i := 5) sc_law.nd rfl (Or.inl rfl) (pe_disp (pps_cons pe_str (pe_call G_z_word (hr.mono (by omega)) (by rfl) T.g_z_word T.F_z_word.kp T.b_z_word .nil pass0 (pa_cons (pv 1) (pa_cons (pv 3) pa_nil))) (pps_cons pe_str (pe_call G_z_word (hr.mono (by omega)) (by rfl) T.g_z_word T.F_z_word.kp T.b_z_word .nil pass0 (pa_cons (pv 1) (pa_cons (pv 3) pa_nil))) (pps_cons pe_str (pe_lc (own := [("k", 15)]) (g := gName 15) (by rfl) sc_law.nd (pi_range1 (by rfl) T.m_range (pa_cons pe_int pa_nil)) (blkOk_by (own := [("k", 15)]) (N := N_law) (sc := defScope s_law) (by decide +kernel)) (fun _ _ _ _ _ => (pg_name (i := 15) sc_law.nd rfl (Or.inl rfl))) (fun _ _ _ _ _ => pts_nil) (fun _ _ _ _ _ => (pe_call G_z_word (hr.mono (by omega)) (by rfl) T.g_z_word T.F_z_word.kp T.b_z_word .nil pass0 (pa_cons (pv 1) (pa_cons (pv 3) pa_nil))))) pps_nil))) (by rfl) (by rfl) (fun z => by cases z) (by decide)))
        (pss_cons (ps_dput (hu_of hr) (pv 5) pe_str (pe_lst (pa_cons (pe_call G_z_word (hr.mono (by omega)) (by rfl) T.g_z_word T.F_z_word.kp T.b_z_word .nil pass0 (pa_cons (pv 1) (pa_cons (pv 3) pa_nil))) pa_nil)) rfl)
        (pss_cons (ps_set (i := 6) sc_law.nd rfl (Or.inl rfl) (pe_disp (pps_cons pe_str (pe_lst (pa_cons (pe_dget (hu_of hr) (pv 5) pe_str (fun _ _ => rfl)) pa_nil)) (pps_cons pe_str (pe_lst (pa_cons (pe_dget (hu_of hr) (pv 5) pe_str (fun _ _ => rfl)) pa_nil)) (pps_cons pe_str (pe_dget (hu_of hr) (pv 5) pe_str (fun _ _ => rfl)) (pps_cons pe_str (pe_dget (hu_of hr) (pv 5) pe_str (fun _ _ => rfl)) pps_nil)))) (by rfl) (by rfl) (fun z => by cases z) (by decide)))
        (pss_cons (ps_set (i := 7) sc_law.nd rfl (Or.inl rfl) (pe_call G_z_expression (hr.mono (by omega)) (by rfl) T.g_z_expression T.F_z_expression.kp T.b_z_expression .nil pass0 (pa_cons (pe_disp (pps_cons pe_str (pv 1) (pps_cons pe_str (pv 3) pps_nil)) (by rfl) (by rfl) (fun z => by cases z) (by decide)) (pa_cons (pv 4) (pa_cons pe_int pa_nil)))))
        (pss_cons (ps_set (i := 8) sc_law.nd rfl (Or.inl rfl) (pe_call G_value_of (hr.mono (by omega)) (by rfl) T.g_value_of T.F_value_of.kp T.b_value_of .nil pass0 (pa_cons (pv 3) (pa_cons (pv 7) (pa_cons (pv 5) pa_nil)))))
        (pss_one (ps_if (pt_cut (PW.pt (pw_or (pt_val (pe_callB call_isi (by rfl) T.m_isinstance (by decide +kernel) (pa_cons (pv 8) (pa_cons (pe_bltn (v := .ty "bool") (by rfl) T.m_bool (by decide +kernel) rfl) pa_nil)))) (pw_or1 (pt_cmpR op_ne (pv 8) (pe_call G_z_value (hr.mono (by omega)) (by rfl) T.g_z_value T.F_z_value.kp T.b_z_value .nil pass0 (pa_cons (pv 3) (pa_cons (pv 7) (pa_cons (pv 6) pa_nil)))) (nomark _))))))
          (pss_one (ps_ret pe_bl))
          pss_nil))))))))))
      (pss_cons (ps_set (i := 9) sc_law.nd rfl (Or.inl rfl) (pe_call G_z_program (hr.mono (by omega)) (by rfl) T.g_z_program T.F_z_program.kp T.b_z_program .nil pass0 (pa_cons (pv 1) (pa_cons pe_int pa_nil))))
      (pss_cons (ps_set (i := 10) sc_law.nd rfl (Or.inl rfl) (pe_call G_z_store (hr.mono (by omega)) (by rfl) T.g_z_store T.F_z_store.kp T.b_z_store .nil pass0 (pa_cons (pv 1) (pa_cons (pv 9) pa_nil))))
      (pss_cons (ps_if (pt_cut (PW.pt (pw_or (pt_cmpR op_notBl (pe_call G_is_store (hr.mono (by omega)) (by rfl) T.g_is_store T.F_is_store.kp T.b_is_store .nil pass0 (pa_cons (pv 9) (pa_cons (pv 10) pa_nil))) pe_bl (nomark _)) (pw_or1 (pt_cmpR op_notBl (pe_call G_is_store (hr.mono (by omega)) (by rfl) T.g_is_store T.F_is_store.kp T.b_is_store .nil pass0 (pa_cons (pv 9) (pa_cons (pe_call G_empty_store (hr.mono (by omega)) (by rfl) T.g_empty_store T.F_empty_store.kp T.b_empty_store .nil pass0 (pa_cons (pv 9) pa_nil)) pa_nil))) pe_bl (nomark _))))))
        (pss_one (ps_ret pe_bl))
        pss_nil)
      (pss_cons (ps_for PassesOwn.never rfl (pi_tup (pe_call G_empty_store (hr.mono (by omega)) (by rfl) T.g_empty_store T.F_empty_store.kp T.b_empty_store .nil pass0 (pa_cons (pv 9) pa_nil))) (pg_tup (by rfl) (pgs_cons (pg_name (i := 11) sc_law.nd rfl (Or.inl rfl)) (pgs_cons (pg_name (i := 12) sc_law.nd rfl (Or.inl rfl)) pgs_nil)))
        (pss_one (ps_if (pt_cut (PW.pt (pw_and (pt_cmpR (op_neD hr.units) (pv 12) pe_int (nomark _)) (pw_and1 (pt_cmpR (op_neD hr.units) (pe_lc (own := [("word", 16)]) (g := gName 16) (by rfl) sc_law.nd (pi_tup (pv 12)) (blkOk_by (own := [("word", 16)]) (N := N_law) (sc := defScope s_law) (by decide +kernel)) (fun _ _ _ _ _ => (pg_name (i := 16) sc_law.nd rfl (Or.inl rfl))) (fun _ _ _ _ _ => (pts_one (pt_cmpR op_ne (pv 16) pe_int (nomark _)))) (fun _ _ _ _ _ => (pv 16))) (pe_lst pa_nil) (nomark _))))))
          (pss_one (ps_ret pe_bl))
          pss_nil)))
      (pss_cons (ps_set (i := 13) sc_law.nd rfl (Or.inl rfl) (pe_ix ix_tup (pv 10) pe_int (fun _ _ => rfl)))
      (pss_cons (ps_set (i := 14) sc_law.nd rfl (Or.inl rfl) (pe_lst (pa_cons (pe_slice sl_tupA (pv 10) (po_some pe_int) po_none) (pa_cons (pe_cut (pe_op op_catA (pv 10) (pe_slice sl_tupA (pv 10) po_none (po_some pe_int)))) (pa_cons (pe_cut (pe_op op_catA (pe_tup (pa_cons (pe_tup (pa_cons pe_str (pa_cons (pe_ix ix_tup (pv 13) pe_int (fun _ _ => rfl)) pa_nil))) pa_nil)) (pe_slice sl_tupA (pv 10) (po_some pe_int) po_none))) (pa_cons (pe_cut (pe_op op_catA (pe_tup (pa_cons (pe_tup (pa_cons (pe_ix ix_tup (pv 13) pe_int (fun _ _ => rfl)) (pa_cons (pe_op op_add (pe_call G_z_top (hr.mono (by omega)) (by rfl) T.g_z_top T.F_z_top.kp T.b_z_top .nil pass0 (pa_cons (pe_ix ix_tup (pv 9) pe_int (fun _ _ => rfl)) pa_nil)) pe_int) pa_nil))) pa_nil)) (pe_slice sl_tupA (pv 10) (po_some pe_int) po_none))) (pa_cons (pe_cut (pe_op op_catA (pe_tup (pa_cons (pe_tup (pa_cons (pe_ix ix_tup (pv 13) pe_int (fun _ _ => rfl)) (pa_cons (pe_un un_neg pe_int) pa_nil))) pa_nil)) (pe_slice sl_tupA (pv 10) (po_some pe_int) po_none))) (pa_cons (pe_cut (pe_op op_catA (pe_tup (pa_cons (pe_tup (pa_cons (pe_ix ix_tup (pv 13) pe_int (fun _ _ => rfl)) (pa_cons (pe_tup (pa_cons pe_int pa_nil)) pa_nil))) pa_nil)) (pe_slice sl_tupA (pv 10) (po_some pe_int) po_none))) (pa_cons (pe_cut (pe_op op_catA (pe_tup (pa_cons (pe_tup (pa_cons (pe_ix ix_tup (pv 13) pe_int (fun _ _ => rfl)) (pa_cons pe_bl pa_nil))) pa_nil)) (pe_slice sl_tupA (pv 10) (po_some pe_int) po_none))) (pa_cons pe_non (pa_cons (pe_tup (pa_cons (pe_ix ix_tup (pv 13) pe_int (fun _ _ => rfl)) pa_nil)) (pa_cons pe_int (pa_cons (pe_cut (pe_op op_catA (pe_tup (pa_cons (pe_slice sl_tupA (pv 13) (po_some pe_int) (po_some pe_int)) pa_nil)) (pe_slice sl_tupA (pv 10) (po_some pe_int) po_none))) (pa_cons (pe_cut (pe_op op_catA (pe_slice sl_tupA (pv 10) (po_some pe_int) po_none) (pe_slice sl_tupA (pv 10) po_none (po_some pe_int)))) pa_nil))))))))))))))
      (pss_cons (ps_for PassesOwn.never rfl (pi_list (pv 14)) (pg_name (i := 12) sc_law.nd rfl (Or.inl rfl))
        (pss_one (ps_if (pt_cmpR op_notBl (pe_call G_is_store (hr.mono (by omega)) (by rfl) T.g_is_store T.F_is_store.kp T.b_is_store .nil pass0 (pa_cons (pv 9) (pa_cons (pv 12) pa_nil))) pe_bl (nomark _))
          (pss_one (ps_ret pe_bl))
          pss_nil)))
      (pss_one (ps_ret pe_bl))))))))))), ?_⟩
    refine ⟨_, rfl, a, ns, rfl, hS, hlen, fun H1 dr sm ndr D => ?_⟩
    have tg : GxR.TabG H1 T.P_is_entry := ⟨#[], sm _ _ (htab (T.c_is_entry, T.P_is_entry) (by simp [Txt.tabs])), trivial⟩
    refine ⟨_, rfl, by decide, by decide, for_range (n := 4) (fun i σ Hs => ∃ x2 x3 x4 x5 x6 x7 x8, σ = [some (.ref a), some (.ref dr), x2, x3, x4, x5, x6, x7, x8, none, none, none, none, none, none, none, none] ∧ GS dr H1 Hs) ?_ ?_ ?_⟩
    · exact ⟨_, _, _, _, _, _, _, rfl, .refl D⟩
    · rintro i σ Hs _ ⟨x2, x3, x4, x5, x6, x7, x8, rfl, g⟩
      -- w
      refine ⟨sz4, fun l nl => ?_⟩
      have g1 : GS dr Hs (upd Hs l (.lst [.int 1, .int 3, .int 8, .int 32])) := .new g.d nl
      refine ⟨_, rfl, dr, 4, rfl, g1.d, by decide, by decide, fun r H2 r0 r1 g2 => ?_⟩
      obtain ⟨wv, hw1, hw2⟩ := atI_in (xs := [V.int 1, .int 3, .int 8, .int 32]) r0 r1
      refine ⟨l, _, r, _, rfl, rfl, SqL.of (g2.k.kp _ _ (nin_dr g.d nl) upd_same), hw1, ?_⟩
      obtain ⟨wd, rfl, w1, w2⟩ : ∃ n : Nat, wv = .int n ∧ 1 ≤ n ∧ n ≤ 32 := by
        simp only [List.mem_cons, List.not_mem_nil, or_false] at hw2
        rcases hw2 with rfl | rfl | rfl | rfl
        · exact ⟨1, rfl, by decide, by decide⟩
        · exact ⟨3, rfl, by decide, by decide⟩
        · exact ⟨8, rfl, by decide, by decide⟩
        · exact ⟨32, rfl, by decide, by decide⟩
      have g := (g.trans g1).trans g2
      clear g1 g2 nl hw1 hw2
      -- names
      refine fun nd nnd => ⟨upd_same, nmK nm4, rfl, by decide, ?_⟩
      rw [nm4_new, upd_upd]
      have gn : GS dr H2 (upd H2 nd (.dK (nmK nm4))) := .new g.d nnd
      have hnd : (upd H2 nd (.dK (nmK nm4))) nd = some (.dK (nmK nm4)) := upd_same
      have nd_ : nd ∉ [dr] := nin_dr g.d nnd
      have g := g.trans gn
      clear gn nnd
      generalize upd H2 nd (.dK (nmK nm4)) = H3 at g hnd ⊢
      -- look
      refine fun lk nlk => ?_
      have ld_ : lk ∉ [dr] := nin_dr g.d nlk
      have g3 : GS dr H3 (upd H3 lk (.dK [])) := .new g.d nlk
      have hlk : (upd H3 lk (.dK [])) lk = some (.dK []) := upd_same
      generalize upd H3 lk (.dK []) = H4 at g3 hlk ⊢
      refine ⟨_, rfl, _, rfl, dr, wd, rfl, g3.d, w1, w2, fun x H5 xa xb g5 => ⟨_, rfl, _, rfl, dr, wd, rfl, g5.d, w1, w2, fun y H6 ya yb g6 => ?_⟩⟩
      have g36 := (g3.trans g5).trans g6
      have hlk6 := (g5.trans g6).k.kp _ _ ld_ hlk
      refine ⟨_, rfl, by decide, by decide, fun rl nrl => ?_⟩
      have gr : GS dr H6 (upd H6 rl (.lst [])) := .new g36.d nrl
      have rd_ : rl ∉ [dr] := nin_dr g36.d nrl
      refine lc_range (n := 3) (fun j Hj => ∃ xs : List Int, GS dr H6 Hj ∧ Hj rl = some (.lst (xs.map V.int)) ∧ xs.length = j ∧ ∀ x ∈ xs, 0 ≤ x ∧ x < 2 ^ wd) ⟨[], gr, upd_same, rfl, fun x hx => by cases hx⟩ ?_ ?_
      · rintro j Hj hj ⟨xs, gj, hl, lx, hx⟩
        refine ⟨by rfl, ?_⟩
        refine ⟨_, rfl, _, rfl, dr, wd, rfl, gj.d, w1, w2, fun r Hk r0 r1 gk => ?_⟩
        refine ⟨_, gk.k.kp _ _ rd_ hl, ?_, xs ++ [r], (gj.trans gk).late g36.d nrl, ?_, by rw [List.length_append, lx]; rfl, fun x hm => ?_⟩
        · rw [List.length_map]
          exact Nat.lt_of_le_of_lt (by omega : _ ≤ 3) (by decide)
        · rw [upd_same, List.map_append]
          rfl
        · rcases List.mem_append.mp hm with z | z
          · exact hx x z
          · rw [List.mem_singleton.mp z]
            exact ⟨r0, r1⟩
      rintro H7 ⟨rs, g7, hrl, lrs, hrs⟩
      refine ⟨g7.k.kp _ _ ld_ hlk6, lkK x y rl, rfl, Nat.le_of_ble_eq_true rfl, ?_⟩
      rw [lk_new]
      have g37 := g36.trans g7
      have nlk3 : H3 lk = none := nlk
      have g8 := g37.late (o := .dK (lkK x y rl)) g.d nlk
      have hlk8 : (upd H7 lk (.dK (lkK x y rl))) lk = some (.dK (lkK x y rl)) := upd_same
      have hrl8 : (upd H7 lk (.dK (lkK x y rl))) rl = some (.lst (rs.map V.int)) := by
        rw [upd_ne (ne_of hrl (g7.k.kp _ _ ld_ hlk6) (by intro z; cases z))]
        exact hrl
      generalize upd H7 lk (.dK (lkK x y rl)) = H8 at g8 hlk8 hrl8 ⊢
      clear hrl g7 gr hlk6 g36 g37 g6 g5 hlk g3
      refine ⟨_, rfl, _, rfl, dr, wd, rfl, g8.d, w1, w2, fun z H9 za zb g9 => ⟨sz1, fun ll nll => ?_⟩⟩
      have ga : GS dr H9 (upd H9 ll (.lst [.int z])) := .new g9.d nll
      have lld_ : ll ∉ [dr] := nin_dr g9.d nll
      have hll : (upd H9 ll (.lst [.int z])) ll = some (.lst [.int z]) := upd_same
      have hlka := (g9.trans ga).k.kp _ _ ld_ hlk8
      have hrla := (g9.trans ga).k.kp _ _ rd_ hrl8
      have gA := (g8.trans g9).trans ga
      generalize upd H9 ll (.lst [.int z]) = Ha at gA hll hlka hrla ⊢
      clear ga g9 g8 hrl8 hlk8
      refine ⟨_, rfl, lk, _, rfl, DPut.k (k := Sum.inr "list") hlka (show 3 < sizeLine by decide), ?_⟩
      rw [lk_put]
      have gB := gA.late (o := .dK (lkL x y rl ll)) g.d nlk
      have hlkB : (upd Ha lk (.dK (lkL x y rl ll))) lk = some (.dK (lkL x y rl ll)) := upd_same
      have hrlB : (upd Ha lk (.dK (lkL x y rl ll))) rl = some (.lst (rs.map V.int)) := by rw [upd_ne (ne_of hrla hlka (by intro z; cases z))]; exact hrla
      have hllB : (upd Ha lk (.dK (lkL x y rl ll))) ll = some (.lst [.int z]) := by rw [upd_ne (ne_of hll hlka (by intro z; cases z))]; exact hll
      generalize upd Ha lk (.dK (lkL x y rl ll)) = HB at gB hlkB hrlB hllB ⊢
      clear hll hrla hlka gA
      -- frame
      refine fun fd nfd => ?_
      have fdd_ : fd ∉ [dr] := nin_dr gB.d nfd
      have k1 : KT [] HB (upd HB fd (.dK [])) := .new _ nfd
      refine ⟨_, rfl, lk, _, rfl, dget_s (k1.kp _ _ (by simp) hlkB) (by kernel_rfl : valV (lkL x y rl ll) (.inr "a") = some (.int x)), sz1, fun la nla => ?_⟩
      have k2 := k1.trans (KT.new [] nla (o := .lst [.int x]))
      have lad_ : la ∉ [dr] := nin_dr gB.d (k1.free nla)
      have hfd2 : (upd (upd HB fd (.dK [])) la (.lst [.int x])) fd = some (.dK []) := by rw [upd_ne (ne_of_none upd_same nla)]; exact upd_same
      have hla2 : (upd (upd HB fd (.dK [])) la (.lst [.int x])) la = some (.lst [.int x]) := upd_same
      generalize upd (upd HB fd (.dK [])) la (.lst [.int x]) = HC at k2 hfd2 hla2 ⊢
      refine ⟨_, rfl, lk, _, rfl, dget_s (k2.kp _ _ (by simp) hlkB) (by kernel_rfl : valV (lkL x y rl ll) (.inr "b") = some (.int y)), sz1, fun lb nlb => ?_⟩
      have k3 := k2.trans (KT.new [] nlb (o := .lst [.int y]))
      have lbd_ : lb ∉ [dr] := nin_dr gB.d (k2.free nlb)
      have hfd3 : (upd HC lb (.lst [.int y])) fd = some (.dK []) := by rw [upd_ne (ne_of_none hfd2 nlb)]; exact hfd2
      have hla3 : (upd HC lb (.lst [.int y])) la = some (.lst [.int x]) := by rw [upd_ne (ne_of_none hla2 nlb)]; exact hla2
      have hlb3 : (upd HC lb (.lst [.int y])) lb = some (.lst [.int y]) := upd_same
      generalize upd HC lb (.lst [.int y]) = HD at k3 hfd3 hla3 hlb3 ⊢
      refine ⟨_, rfl, lk, _, rfl, dget_s (k3.kp _ _ (by simp) hlkB) (by kernel_rfl : valV (lkL x y rl ll) (.inr "row") = some (.ref rl)), _, rfl, lk, _, rfl, dget_s (k3.kp _ _ (by simp) hlkB) (by kernel_rfl : valV (lkL x y rl ll) (.inr "list") = some (.ref ll)), hfd3, frK la lb rl ll, rfl, Nat.le_of_ble_eq_true rfl, ?_⟩
      rw [fr_new]
      have k4 := k3.late (o := .dK (frK la lb rl ll)) nfd
      have hfd4 : (upd HD fd (.dK (frK la lb rl ll))) fd = some (.dK (frK la lb rl ll)) := upd_same
      have hla4 : (upd HD fd (.dK (frK la lb rl ll))) la = some (.lst [.int x]) := by rw [upd_ne (ne_of hla3 hfd3 (by intro z; cases z))]; exact hla3
      have hlb4 : (upd HD fd (.dK (frK la lb rl ll))) lb = some (.lst [.int y]) := by rw [upd_ne (ne_of hlb3 hfd3 (by intro z; cases z))]; exact hlb3
      generalize upd HD fd (.dK (frK la lb rl ll)) = HE at k4 hfd4 hla4 hlb4 ⊢
      clear hlb3 hla3 hfd3 k3 hla2 hfd2 k2 k1
      have gE : GS dr H3 HE := gB.trans (.of0 gB.d k4)
      have hlkE := k4.kp _ _ (by simp) hlkB
      have hrlE := k4.kp _ _ (by simp) hrlB
      have hllE := k4.kp _ _ (by simp) hllB
      have hndE := gE.k.kp _ _ nd_ hnd
      have g := g.trans gE
      -- the expression
      refine fun pd npd => ⟨_, rfl, _, rfl, upd_same, [(.inr "draw", .ref dr), (.inr "width", .int wd)], rfl, Nat.le_of_ble_eq_true rfl, ?_⟩
      rw [upd_upd, show mergeK [] [((Sum.inr "draw" : Key), V.ref dr), (.inr "width", .int wd)] = [(.inr "draw", .ref dr), (.inr "width", .int wd)] by kernel_rfl]
      have gp : GS dr HE (upd HE pd (.dK [(.inr "draw", .ref dr), (.inr "width", .int wd)])) := .new g.d npd
      have pat : PdAt (upd HE pd (.dK [(.inr "draw", .ref dr), (.inr "width", .int wd)])) pd dr wd := ⟨⟨_, upd_same, by kernel_rfl, by kernel_rfl⟩, w1, w2, gp.d⟩
      generalize upd HE pd (.dK [(.inr "draw", .ref dr), (.inr "width", .int wd)]) = HF at gp pat ⊢
      refine ⟨_, rfl, pd, nd, dr, 4, wd, nm4, rfl, by decide, pat, nm4_at (gp.k.kp _ _ nd_ hndE), fun ev e HG gG re oe de => ?_⟩
      have gz := gp.trans gG
      have g := g.trans gz
      have hlkG := gz.k.kp _ _ ld_ hlkE
      have hrlG := gz.k.kp _ _ rd_ hrlE
      have hen := en4_ok (x := x) (y := y) (z := z) (rs := rs) ⟨xa, xb⟩ ⟨ya, yb⟩ ⟨za, zb⟩ hrs lrs
      have hllG := gz.k.kp _ _ lld_ hllE
      have lkv := look4 (K := K) hlkG hrlG hllG
      have lkf := lookF4 (K := K) (gz.k.kp _ _ fdd_ hfd4) (gz.k.kp _ _ lad_ hla4) (gz.k.kp _ _ lbd_ hlb4) hrlG hllG
      refine ⟨_, rfl, _, rfl, _, rfl, wd, ev, lk, e, nm4, _, rfl, re, oe, hen, w1, w2, de, lkv, ?_⟩
      refine ⟨fun b H' => b = false ∧ GS dr HG H', ?_, ?_⟩
      · refine ⟨_, rfl, _, _, _, _, false, rfl, .ty "bool", .base (.int _), kit_ty (by decide +kernel), _, rfl, ite_f (fun z => by cases z) ⟨_, rfl, _, rfl, _, rfl, _, rfl, wd, ev, fd, e, nm4, _, rfl, re, oe, hen, w1, w2, de, lkf, fun H' sm' => ⟨rfl, _, rfl, ?_, ?_⟩⟩⟩
        · rw [decide_eq_true rfl]
          rfl
        · exact .of0 g.d (KT.of_same sm')
      rintro b H' ⟨rfl, g'⟩
      exact ite_f (by decide) ⟨_, _, _, _, _, _, _, rfl, g.trans g'⟩
    rintro σ H2 ⟨x2, x3, x4, x5, x6, x7, x8, rfl, g⟩
    refine ⟨_, rfl, dr, 2, rfl, g.d, by decide, fun pv H3 p g3 rp hp => ?_⟩
    refine ⟨_, rfl, _, rfl, dr, pv, p, rfl, g3.d, rp, hp, fun sv H4 st g4 rs hst => ?_⟩
    have rp := rp.keep g4.k
    have tg4 : GxR.TabG H4 T.P_is_entry := by
      obtain ⟨ps, e, h⟩ := tg
      exact ⟨ps, ((g.trans g3).trans g4).k.kp _ _ (fun z => by
        obtain ⟨xs, e'⟩ := drawAt_isl D
        rw [List.mem_singleton.mp z, e'] at e
        cases e) e, h⟩
    obtain ⟨hsz, hln, _⟩ := hp.sizes
    have h0 : ∀ r ∈ p.gl, 0 ≤ r.2 := fun r hr => (hsz r hr).1
    have w2 := hp.w2
    -- is_store of the store and of the empty one
    refine ⟨fun b H' => b = false ∧ KT [T.P_is_entry] H4 H' ∧ GxR.TabG H' T.P_is_entry, ?_, ?_⟩
    · refine ⟨_, rfl, _, rfl, pv, sv, p, _, rfl, rp, w2, by omega, rs, (fun ds e _ => by cases e; exact ent_nice _ _), tg4, fun H5 k5 tg5 => ?_⟩
      rw [sto_true hst h0]
      refine ⟨_, _, rfl, rfl, _, rfl, ite_f (by decide) ?_⟩
      have rp5 := rp.keep k5
      refine ⟨_, rfl, _, rfl, pv, p, rfl, rp5, hp, fun ev H6 k6 re => ?_⟩
      refine ⟨pv, ev, p, _, rfl, rp5.keep k6, w2, by omega, re, (fun ds e _ => by cases e; exact ent_nice _ _), ?_, fun H7 k7 tg7 => ?_⟩
      · obtain ⟨ps, e, h⟩ := tg5
        exact ⟨ps, k6.kp _ _ (by simp) e, h⟩
      rw [sto_true (zst_ok h0) h0]
      exact ⟨_, _, rfl, rfl, _, rfl, by decide, (k5.trans (k6.mono (by simp))).trans k7, tg7⟩
    rintro b H5 ⟨rfl, k5, tg5⟩
    refine ite_f (by decide) ?_
    have rp := rp.keep k5
    have rs := rs.keep k5
    -- the empty store has 0 everywhere
    refine ⟨_, rfl, pv, p, rfl, rp, hp, fun ev H6 k6 re => ?_⟩
    obtain ⟨ea, es, rfl, hes, res⟩ := re.inv
    have les : es.length = p.gl.length := by
      rw [res.length]
      unfold stD zst
      rw [List.length_zipWith, List.length_map]
      omega
    refine ⟨ea, rfl, ⟨_, hes⟩, for_tup (K := K) (xs := es) (fun i σ Hs => ∃ x11 x12, σ = [some (.ref a), some (.ref dr), x2, x3, x4, x5, x6, x7, x8, some pv, some sv, x11, x12, none, none, none, none] ∧ KT [] H6 Hs) ⟨_, _, rfl, .refl _ _⟩ ?_ ?_ ?_⟩
    · rintro i σ Hs _ ⟨x11, x12, rfl, k⟩
      exact k.sqT hes
    · rintro i v σ Hs hi ⟨x11, x12, rfl, k⟩
      obtain ⟨d, hd, rd⟩ := res.get hi
      have hpi : ∃ y, p.gl[i]? = some y ∧ d = entD y (zc y) := by
        unfold stD zst at hd
        rw [List.getElem?_zipWith] at hd
        cases hpi : p.gl[i]? with
        | none => rw [hpi] at hd; cases hd
        | some y =>
          rw [hpi, List.getElem?_map, hpi] at hd
          exact ⟨y, rfl, (Option.some.inj hd).symm⟩
      obtain ⟨⟨y, sz⟩, hpi, rfl⟩ := hpi
      obtain ⟨t, xs, rfl, hs, ha⟩ := Rp.inv (ds := [.str y, cellD sz (zc (y, sz))]) rd
      obtain ⟨v1, r1, rfl, h1, ha1⟩ := ha.inv
      obtain ⟨v2, r2, rfl, h2, ha2⟩ := ha1.inv
      obtain rfl := ha2.inv0
      have hm := hsz _ (List.mem_of_getElem? hpi)
      have hm1 : 0 ≤ sz := hm.1
      have hm2 : sz ≤ 9 := hm.2
      refine ⟨t, _, rfl, k.sqT hs, rfl, _, _, rfl, _, _, rfl, rfl, ?_⟩
      have h2 := h2.keep k
      refine ⟨fun b H' => b = false ∧ KT [] Hs H', ?_, ?_⟩
      · by_cases hz : sz = 0
        · have e : cellD sz (zc (y, sz)) = .int 0 := by rw [hz]; rfl
          rw [e] at h2
          cases h2
          exact ⟨_, rfl, .int 0, .int 0, .int 0, .int 0, by decide, by decide, _, rfl, ite_f (by decide) ⟨rfl, .refl _ _⟩⟩
        · have e : cellD sz (zc (y, sz)) = .tuple ((List.replicate sz.toNat (0 : Int)).map PyData.int) := by
            unfold cellD zc
            rw [if_neg hz, if_neg hz]
          rw [e] at h2
          have lay : SeqAt.shaped (.tuple ((List.replicate sz.toNat (0 : Int)).map PyData.int)) = true := by
            have : sz = 1 ∨ sz = 2 ∨ sz = 3 ∨ sz = 4 ∨ sz = 5 ∨ sz = 6 ∨ sz = 7 ∨ sz = 8 ∨ sz = 9 := by omega
            rcases this with rfl | rfl | rfl | rfl | rfl | rfl | rfl | rfl | rfl <;> decide +kernel
          have h2' := h2
          obtain ⟨b, ys, rfl, hb, hys⟩ := h2.inv
          refine ⟨_, rfl, _, .int 0, h2'.dp, .int 0, lay, by decide, _, rfl, ite_t rfl ?_⟩
          refine ⟨_, rfl, b, rfl, ⟨_, hb⟩, fun D nD => ?_⟩
          refine lc_it (walk_tup (K := K) (a := b) (xs := ys)) (fun j H1 => H1 = upd Hs D (.lst [])) rfl ?_ ?_ ?_
          · rintro j H1 _ rfl
            exact (KT.new [] nD).sqT hb
          · rintro j u H1 H2' hj rfl ⟨rfl, hu⟩
            obtain ⟨du, hdu, rdu⟩ := hys.get hu
            have : du = .int 0 := by
              rw [List.getElem?_map] at hdu
              cases hq : (List.replicate sz.toNat (0 : Int))[j]? with
              | none => rw [hq] at hdu; cases hdu
              | some q0 =>
                rw [hq] at hdu
                cases hdu
                have := (List.mem_replicate.mp (List.mem_of_getElem? hq)).2
                rw [this]
            subst this
            cases rdu
            refine ⟨by rfl, ?_⟩
            exact ⟨_, rfl, rfl, _, rfl, ite_f (by decide) rfl⟩
          · rintro H1 rfl
            have k2 : KT [] Hs (upd Hs D (.lst [])) := .new _ nD
            refine ⟨Nat.zero_le _, fun l2 nl2 => ?_⟩
            have k3 := k2.trans (KT.new [] nl2 (o := .lst []))
            refine ⟨_, _, .lst (SqL.of ((KT.new [] nl2).kp _ _ (by simp) upd_same)) .nil, .lst (SqL.of upd_same) .nil, by decide, by decide, _, rfl, by decide, k3⟩
      rintro b H' ⟨rfl, k'⟩
      exact ite_f (by decide) ⟨_, _, rfl, k.trans k'⟩
    rintro σ H7 ⟨x11, x12, rfl, k7⟩
    have k57 := k6.trans k7
    have rs := rs.keep k57
    have rp := rp.keep k57
    obtain ⟨t, egl, ht⟩ := hp.two
    rw [egl] at hst rs
    obtain ⟨ca, cb, cr⟩ : ∃ xa xb st2, st = xa :: xb :: st2 ∧ CellOk p.w ("a", 0) xa ∧ StOk p.w t st2 := by
      cases hst with
      | cons h1 h2 =>
        cases h2 with
        | cons h3 h4 => exact ⟨_, _, _, rfl, h1, h4⟩
    obtain ⟨st2, rfl, hca, ht2⟩ := cr
    obtain ⟨a0, rfl⟩ : ∃ a0, ca = [a0] := by
      have l := hca.2.1 rfl
      match ca, l with
      | [x], _ => exact ⟨x, rfl⟩
    have eD : stD (("a", 0) :: ("b", 0) :: t) ([a0] :: cb :: st2) = e0D a0 :: (entD ("b", 0) cb :: stD t st2) := rfl
    rw [eD] at rs
    have lR : (stD t st2).length = t.length := (zip_true ht2 fun r hr => h0 r (by rw [egl]; exact List.mem_cons_of_mem _ (List.mem_cons_of_mem _ hr))).2
    have hnice : ∀ e ∈ (entD ("b", 0) cb :: stD t st2), Nice e := fun e he => by
      have := ent_nice (("a", 0) :: ("b", 0) :: t) ([a0] :: cb :: st2)
      rw [eD] at this
      exact this e (List.mem_cons_of_mem _ he)
    have hbad := bads_no (w := p.w) (a0 := a0) ht lR hnice
    rw [← egl] at hbad
    have lt5 : t.length ≤ 3 := by
      have := hln
      rw [egl] at this
      simp only [List.length_cons] at this
      omega
    have lR1 : (entD ("b", 0) cb :: stD t st2).length ≤ 4 := by rw [List.length_cons, lR]; omega
    generalize (entD ("b", 0) cb :: stD t st2) = R at rs hbad lR1
    have rs' := rs
    obtain ⟨sa, sx, rfl, hsa, hsx⟩ := rs'.inv
    obtain ⟨u1, sr, rfl, hu1, _⟩ := hsx.inv
    refine ⟨_, rfl, sa, _, _, _, rfl, rfl, hsa, atI_0, ?_⟩
    have hu1 : Rp K H7 u1 (.tuple [.str "a", .int a0]) := hu1
    dsimp only [gName]
    change tSeq (tAsg _ _) _ _ [some (.ref a), some (.ref dr), x2, x3, x4, x5, x6, x7, x8, some pv, some (.ref sa), x11, x12, some u1, none, none, none] _
    refine seq_asg ?_
    have S := TK.var (K := K) (σ := [some (.ref a), some (.ref dr), x2, x3, x4, x5, x6, x7, x8, some pv, some (.ref sa), x11, x12, some u1, none, none, none]) 10 (by rfl) rs
    have F := TK.var (K := K) (σ := [some (.ref a), some (.ref dr), x2, x3, x4, x5, x6, x7, x8, some pv, some (.ref sa), x11, x12, some u1, none, none, none]) 13 (by rfl) hu1
    have z1 : ∀ x : PyData, [x].length + R.length ≤ 1000 := fun x => by show 1 + R.length ≤ 1000; omega
    refine TKs.lst (K := K) (ds := bads p.w a0 R) (.cons (.from1 S) (.cons (.catC S (.to1 S) (by rw [List.length_cons]; show R.length + 1 + 1 ≤ 1000; omega)) (.cons (.catC (.tup (.cons (.tup (.cons (.str "zz") (.cons (.ix1 F) .nil))) .nil)) (.from1 S) (z1 _))
      (.cons (.catC (.tup (.cons (.tup (.cons (.ix0 F) (.cons (fun H k C h => ?top) .nil))) .nil)) (.from1 S) (z1 _)) (.cons (.catC (.tup (.cons (.tup (.cons (.ix0 F) (.cons (fun H k C h => ?neg) .nil))) .nil)) (.from1 S) (z1 _))
      (.cons (.catC (.tup (.cons (.tup (.cons (.ix0 F) (.cons (.tup (.cons (.int 0) .nil)) .nil))) .nil)) (.from1 S) (z1 _)) (.cons (.catC (.tup (.cons (.tup (.cons (.ix0 F) (.cons (.bl true) .nil))) .nil)) (.from1 S) (z1 _))
      (.cons .non (.cons (.tup (.cons (.ix0 F) .nil)) (.cons (.int 5) (.cons (.catC (.tup (.cons (.one F) .nil)) (.from1 S) (z1 _)) (.cons (.catC (.from1 S) (.to1 S) (by rw [Nat.add_comm]; exact z1 _)) .nil)))))))))))) (Nat.le_of_ble_eq_true rfl) fun vs H8 bl k8 rvs nbl => ?_
    case top =>
      obtain ⟨pa, pb, pc, rows, rfl, hs, _, _⟩ := Prg.inv (rp.keep k)
      exact ⟨_, rfl, pa, _, _, _, rfl, rfl, hs, atI_0, p.w, rfl, w2, _, _, rfl, rfl, h _ _ (.refl _ _) (.int _)⟩
    case neg => exact ⟨_, rfl, h _ _ (.refl _ _) (.int _)⟩
    have k9 : KT [T.P_is_entry] H7 (upd H8 bl (.lst vs)) := (k8.mono (by simp)).trans (KT.new _ nbl)
    have tg9 : GxR.TabG (upd H8 bl (.lst vs)) T.P_is_entry := by
      obtain ⟨ps, e, h⟩ := tg5
      have e8 := k8.kp _ _ (by simp) (k57.kp _ _ (by simp) e)
      exact ⟨ps, by rw [upd_ne (ne_of_none e8 nbl)]; exact e8, h⟩
    have hbl : (upd H8 bl (.lst vs)) bl = some (.lst vs) := upd_same
    have nbp : bl ∉ [T.P_is_entry] := fun z => by
      obtain ⟨ps, e, h⟩ := tg5
      exact ne_of_none (k8.kp _ _ (by simp) (k57.kp _ _ (by simp) e)) nbl (List.mem_singleton.mp z).symm
    have rp9 := rp.keep k9
    have rvs9 := rvs.keep (KT.new [] nbl (o := .lst vs))
    generalize upd H8 bl (.lst vs) = H9 at k9 tg9 hbl rp9 rvs9 ⊢
    refine ⟨_, rfl, bl, rfl, ⟨_, SqL.of hbl⟩, for_list (K := K) (xs := vs) (fun i σ Hs => ∃ x12, σ = [some (.ref a), some (.ref dr), x2, x3, x4, x5, x6, x7, x8, some pv, some (.ref sa), x11, x12, some u1, some (.ref bl), none, none] ∧ KT [T.P_is_entry] H9 Hs ∧ GxR.TabG Hs T.P_is_entry) ⟨_, rfl, .refl _ _, tg9⟩ ?_ ?_ ?_⟩
    · rintro i σ Hs _ ⟨x12, rfl, k, _⟩
      exact SqL.of (k.kp _ _ nbp hbl)
    · rintro i v σ Hs hi ⟨x12, rfl, k, tgs⟩
      obtain ⟨d, hd, rd⟩ := rvs9.get hi
      obtain ⟨hno, hni⟩ := hbad d (List.mem_of_getElem? hd)
      refine ⟨_, rfl, _, rfl, pv, v, p, d, rfl, rp9.keep k, w2, by omega, rd.keep k, hni, tgs, fun H' k' tg' => ?_⟩
      rw [hno]
      exact ⟨_, _, rfl, rfl, _, rfl, ite_f (by decide) ⟨_, rfl, k.trans k', tg'⟩⟩
    rintro σ Hs ⟨x12, rfl, _, _⟩
    exact q _
end

end My

set_option Elab.async false
set_option linter.all false
set_option maxRecDepth 100000
namespace My
open PySem PySem.Spec PyProof.Rows L2
theorem all_mk {l : PySem.W.OpenLaw} {q : Program} {w : World} {K : PySem.W.Frag} {h : Heap} {mg : Str → Option Value} {fa : Addr} (X : K.In h) (G : h.Ns mainGlobals mg) (hfa : mg "law" = some (.ref fa)) (RT : RecTabs q mg h)
    {f0 : Addr} {od0 an0 : Option Addr} {sl0 : Array (Option Value)} {oc0 kV0 dc0 pm0 cd0 ct0 : Value}
    {f1 : Addr} {od1 an1 : Option Addr} {sl1 : Array (Option Value)} {oc1 kV1 dc1 pm1 cd1 ct1 : Value}
    {f2 : Addr} {od2 an2 : Option Addr} {sl2 : Array (Option Value)} {oc2 kV2 dc2 pm2 cd2 ct2 : Value}
    {f3 : Addr} {od3 an3 : Option Addr} {sl3 : Array (Option Value)} {oc3 kV3 dc3 pm3 cd3 ct3 : Value}
    {f4 : Addr} {od4 an4 : Option Addr} {sl4 : Array (Option Value)} {oc4 kV4 dc4 pm4 cd4 ct4 : Value}
    {f5 : Addr} {od5 an5 : Option Addr} {sl5 : Array (Option Value)} {oc5 kV5 dc5 pm5 cd5 ct5 : Value}
    {f6 : Addr} {od6 an6 : Option Addr} {sl6 : Array (Option Value)} {oc6 kV6 dc6 pm6 cd6 ct6 : Value}
    {f7 : Addr} {od7 an7 : Option Addr} {sl7 : Array (Option Value)} {oc7 kV7 dc7 pm7 cd7 ct7 : Value}
    {f8 : Addr} {od8 an8 : Option Addr} {sl8 : Array (Option Value)} {oc8 kV8 dc8 pm8 cd8 ct8 : Value}
    {f9 : Addr} {od9 an9 : Option Addr} {sl9 : Array (Option Value)} {oc9 kV9 dc9 pm9 cd9 ct9 : Value}
    {f10 cc10 P10 : Addr} {od10 an10 ce10 : Option Addr} {sl10 cs10 : Array (Option Value)} {cv10 : Array Value} {oc10 kV10 dc10 pm10 ct10 : Value}
    {f11 : Addr} {od11 an11 : Option Addr} {sl11 : Array (Option Value)} {oc11 kV11 dc11 pm11 cd11 ct11 : Value}
    {f12 : Addr} {od12 an12 : Option Addr} {sl12 : Array (Option Value)} {oc12 kV12 dc12 pm12 cd12 ct12 : Value}
    {f13 : Addr} {od13 an13 : Option Addr} {sl13 : Array (Option Value)} {oc13 kV13 dc13 pm13 cd13 ct13 : Value}
    {f14 : Addr} {od14 an14 : Option Addr} {sl14 : Array (Option Value)} {oc14 kV14 dc14 pm14 cd14 ct14 : Value}
    {f15 : Addr} {od15 an15 : Option Addr} {sl15 : Array (Option Value)} {oc15 kV15 dc15 pm15 cd15 ct15 : Value}
    {f16 : Addr} {od16 an16 : Option Addr} {sl16 : Array (Option Value)} {oc16 kV16 dc16 pm16 cd16 ct16 : Value}
    {f17 : Addr} {od17 an17 : Option Addr} {sl17 : Array (Option Value)} {oc17 kV17 dc17 pm17 cd17 ct17 : Value}
    {f18 : Addr} {od18 an18 : Option Addr} {sl18 : Array (Option Value)} {oc18 kV18 dc18 pm18 cd18 ct18 : Value}
    {f19 : Addr} {od19 an19 : Option Addr} {sl19 : Array (Option Value)} {oc19 kV19 dc19 pm19 cd19 ct19 : Value}
    {f20 : Addr} {od20 an20 : Option Addr} {sl20 : Array (Option Value)} {oc20 kV20 dc20 pm20 cd20 ct20 : Value}
    {f21 : Addr} {od21 an21 : Option Addr} {sl21 : Array (Option Value)} {oc21 kV21 dc21 pm21 cd21 ct21 : Value}
    {f22 : Addr} {od22 an22 : Option Addr} {sl22 : Array (Option Value)} {oc22 kV22 dc22 pm22 cd22 ct22 : Value}
    {f23 : Addr} {od23 an23 : Option Addr} {sl23 : Array (Option Value)} {oc23 kV23 dc23 pm23 cd23 ct23 : Value}
    {f24 : Addr} {od24 an24 : Option Addr} {sl24 : Array (Option Value)} {oc24 kV24 dc24 pm24 cd24 ct24 : Value}
    {f25 : Addr} {od25 an25 : Option Addr} {sl25 : Array (Option Value)} {oc25 kV25 dc25 pm25 cd25 ct25 : Value}
    {f26 : Addr} {od26 an26 : Option Addr} {sl26 : Array (Option Value)} {oc26 kV26 dc26 pm26 cd26 ct26 : Value}
    {f27 : Addr} {od27 an27 : Option Addr} {sl27 : Array (Option Value)} {oc27 kV27 dc27 pm27 cd27 ct27 : Value}
    {f28 : Addr} {od28 an28 : Option Addr} {sl28 : Array (Option Value)} {oc28 kV28 dc28 pm28 cd28 ct28 : Value}
    {f29 : Addr} {od29 an29 : Option Addr} {sl29 : Array (Option Value)} {oc29 kV29 dc29 pm29 cd29 ct29 : Value}
    {f30 : Addr} {od30 an30 : Option Addr} {sl30 : Array (Option Value)} {oc30 kV30 dc30 pm30 cd30 ct30 : Value}
    {f31 : Addr} {od31 an31 : Option Addr} {sl31 : Array (Option Value)} {oc31 kV31 dc31 pm31 cd31 ct31 : Value}
    {f32 : Addr} {od32 an32 : Option Addr} {sl32 : Array (Option Value)} {oc32 kV32 dc32 pm32 cd32 ct32 : Value}
    (a0 : PySem.W.nsIn K mainGlobals "top" = some (some (.ref f0))) (l0 : K.lookup f0 = some ⟨oc0, od0, .func (PySem.W.fnOf "top" "top" (defArgs s_top) (defBody s_top) (defScope s_top) .none kV0 dc0 pm0 an0 cd0 ct0), sl0⟩) (c0 : PySem.W.codeIn K cd0 "top" = true) (k0 : PySem.W.keepIn K (.ref f0) = true)
    (a1 : PySem.W.nsIn K mainGlobals "shift" = some (some (.ref f1))) (l1 : K.lookup f1 = some ⟨oc1, od1, .func (PySem.W.fnOf "shift" "shift" (defArgs s_shift) (defBody s_shift) (defScope s_shift) .none kV1 dc1 pm1 an1 cd1 ct1), sl1⟩) (c1 : PySem.W.codeIn K cd1 "shift" = true) (k1 : PySem.W.keepIn K (.ref f1) = true)
    (a2 : PySem.W.nsIn K mainGlobals "compute" = some (some (.ref f2))) (l2 : K.lookup f2 = some ⟨oc2, od2, .func (PySem.W.fnOf "compute" "compute" (defArgs s_compute) (defBody s_compute) (defScope s_compute) .none kV2 dc2 pm2 an2 cd2 ct2), sl2⟩) (c2 : PySem.W.codeIn K cd2 "compute" = true) (k2 : PySem.W.keepIn K (.ref f2) = true)
    (a3 : PySem.W.nsIn K mainGlobals "value_of" = some (some (.ref f3))) (l3 : K.lookup f3 = some ⟨oc3, od3, .func (PySem.W.fnOf "value_of" "value_of" (defArgs s_value_of) (defBody s_value_of) (defScope s_value_of) .none kV3 dc3 pm3 an3 cd3 ct3), sl3⟩) (c3 : PySem.W.codeIn K cd3 "value_of" = true) (k3 : PySem.W.keepIn K (.ref f3) = true)
    (a4 : PySem.W.nsIn K mainGlobals "cell_index" = some (some (.ref f4))) (l4 : K.lookup f4 = some ⟨oc4, od4, .func (PySem.W.fnOf "cell_index" "cell_index" (defArgs s_cell_index) (defBody s_cell_index) (defScope s_cell_index) .none kV4 dc4 pm4 an4 cd4 ct4), sl4⟩) (c4 : PySem.W.codeIn K cd4 "cell_index" = true) (k4 : PySem.W.keepIn K (.ref f4) = true)
    (a5 : PySem.W.nsIn K mainGlobals "is_whole" = some (some (.ref f5))) (l5 : K.lookup f5 = some ⟨oc5, od5, .func (PySem.W.fnOf "is_whole" "is_whole" (defArgs s_is_whole) (defBody s_is_whole) (defScope s_is_whole) .none kV5 dc5 pm5 an5 cd5 ct5), sl5⟩) (c5 : PySem.W.codeIn K cd5 "is_whole" = true) (k5 : PySem.W.keepIn K (.ref f5) = true)
    (a6 : PySem.W.nsIn K mainGlobals "is_integer" = some (some (.ref f6))) (l6 : K.lookup f6 = some ⟨oc6, od6, .func (PySem.W.fnOf "is_integer" "is_integer" (defArgs s_is_integer) (defBody s_is_integer) (defScope s_is_integer) .none kV6 dc6 pm6 an6 cd6 ct6), sl6⟩) (c6 : PySem.W.codeIn K cd6 "is_integer" = true) (k6 : PySem.W.keepIn K (.ref f6) = true)
    (a7 : PySem.W.nsIn K mainGlobals "is_word" = some (some (.ref f7))) (l7 : K.lookup f7 = some ⟨oc7, od7, .func (PySem.W.fnOf "is_word" "is_word" (defArgs s_is_word) (defBody s_is_word) (defScope s_is_word) .none kV7 dc7 pm7 an7 cd7 ct7), sl7⟩) (c7 : PySem.W.codeIn K cd7 "is_word" = true) (k7 : PySem.W.keepIn K (.ref f7) = true)
    (a8 : PySem.W.nsIn K mainGlobals "empty_store" = some (some (.ref f8))) (l8 : K.lookup f8 = some ⟨oc8, od8, .func (PySem.W.fnOf "empty_store" "empty_store" (defArgs s_empty_store) (defBody s_empty_store) (defScope s_empty_store) .none kV8 dc8 pm8 an8 cd8 ct8), sl8⟩) (c8 : PySem.W.codeIn K cd8 "empty_store" = true) (k8 : PySem.W.keepIn K (.ref f8) = true)
    (a9 : PySem.W.nsIn K mainGlobals "is_store" = some (some (.ref f9))) (l9 : K.lookup f9 = some ⟨oc9, od9, .func (PySem.W.fnOf "is_store" "is_store" (defArgs s_is_store) (defBody s_is_store) (defScope s_is_store) .none kV9 dc9 pm9 an9 cd9 ct9), sl9⟩) (c9 : PySem.W.codeIn K cd9 "is_store" = true) (k9 : PySem.W.keepIn K (.ref f9) = true)
    (a10 : PySem.W.nsIn K mainGlobals "is_entry" = some (some (.ref f10))) (l10 : K.lookup f10 = some ⟨oc10, od10, .func (PySem.W.fnOf "is_entry" "is_entry" (defArgs s_is_entry) (defBody s_is_entry) (defScope s_is_entry) .none kV10 dc10 pm10 an10 (.ref cc10) ct10), sl10⟩) (c10 : PySem.W.codeIn K (.ref cc10) "is_entry" = true) (k10 : PySem.W.keepIn K (.ref f10) = true)
    (lc10 : K.lookup cc10 = some ⟨.type "code", ce10, .fields cv10, cs10⟩) (tv10 : cv10[11]? = some (.ref P10)) (hv10 : hdOk cv10 cc10 P10 = true) (np10 : K.lookup P10 = none) (rc10 : ((recsOf q).any fun e => e.name == "is_entry") = true)
    (a11 : PySem.W.nsIn K mainGlobals "_law_draw" = some (some (.ref f11))) (l11 : K.lookup f11 = some ⟨oc11, od11, .func (PySem.W.fnOf "_law_draw" "_law_draw" (defArgs s_z_draw) (defBody s_z_draw) (defScope s_z_draw) .none kV11 dc11 pm11 an11 cd11 ct11), sl11⟩) (c11 : PySem.W.codeIn K cd11 "_law_draw" = true) (k11 : PySem.W.keepIn K (.ref f11) = true)
    (a12 : PySem.W.nsIn K mainGlobals "_law_take" = some (some (.ref f12))) (l12 : K.lookup f12 = some ⟨oc12, od12, .func (PySem.W.fnOf "_law_take" "_law_take" (defArgs s_z_take) (defBody s_z_take) (defScope s_z_take) .none kV12 dc12 pm12 an12 cd12 ct12), sl12⟩) (c12 : PySem.W.codeIn K cd12 "_law_take" = true) (k12 : PySem.W.keepIn K (.ref f12) = true)
    (a13 : PySem.W.nsIn K mainGlobals "_law_top" = some (some (.ref f13))) (l13 : K.lookup f13 = some ⟨oc13, od13, .func (PySem.W.fnOf "_law_top" "_law_top" (defArgs s_z_top) (defBody s_z_top) (defScope s_z_top) .none kV13 dc13 pm13 an13 cd13 ct13), sl13⟩) (c13 : PySem.W.codeIn K cd13 "_law_top" = true) (k13 : PySem.W.keepIn K (.ref f13) = true)
    (a14 : PySem.W.nsIn K mainGlobals "_law_compute" = some (some (.ref f14))) (l14 : K.lookup f14 = some ⟨oc14, od14, .func (PySem.W.fnOf "_law_compute" "_law_compute" (defArgs s_z_compute) (defBody s_z_compute) (defScope s_z_compute) .none kV14 dc14 pm14 an14 cd14 ct14), sl14⟩) (c14 : PySem.W.codeIn K cd14 "_law_compute" = true) (k14 : PySem.W.keepIn K (.ref f14) = true)
    (a15 : PySem.W.nsIn K mainGlobals "_law_word" = some (some (.ref f15))) (l15 : K.lookup f15 = some ⟨oc15, od15, .func (PySem.W.fnOf "_law_word" "_law_word" (defArgs s_z_word) (defBody s_z_word) (defScope s_z_word) .none kV15 dc15 pm15 an15 cd15 ct15), sl15⟩) (c15 : PySem.W.codeIn K cd15 "_law_word" = true) (k15 : PySem.W.keepIn K (.ref f15) = true)
    (a16 : PySem.W.nsIn K mainGlobals "_law_expression" = some (some (.ref f16))) (l16 : K.lookup f16 = some ⟨oc16, od16, .func (PySem.W.fnOf "_law_expression" "_law_expression" (defArgs s_z_expression) (defBody s_z_expression) (defScope s_z_expression) .none kV16 dc16 pm16 an16 cd16 ct16), sl16⟩) (c16 : PySem.W.codeIn K cd16 "_law_expression" = true) (k16 : PySem.W.keepIn K (.ref f16) = true)
    (a17 : PySem.W.nsIn K mainGlobals "_law_without" = some (some (.ref f17))) (l17 : K.lookup f17 = some ⟨oc17, od17, .func (PySem.W.fnOf "_law_without" "_law_without" (defArgs s_z_without) (defBody s_z_without) (defScope s_z_without) .none kV17 dc17 pm17 an17 cd17 ct17), sl17⟩) (c17 : PySem.W.codeIn K cd17 "_law_without" = true) (k17 : PySem.W.keepIn K (.ref f17) = true)
    (a18 : PySem.W.nsIn K mainGlobals "_law_place" = some (some (.ref f18))) (l18 : K.lookup f18 = some ⟨oc18, od18, .func (PySem.W.fnOf "_law_place" "_law_place" (defArgs s_z_place) (defBody s_z_place) (defScope s_z_place) .none kV18 dc18 pm18 an18 cd18 ct18), sl18⟩) (c18 : PySem.W.codeIn K cd18 "_law_place" = true) (k18 : PySem.W.keepIn K (.ref f18) = true)
    (a19 : PySem.W.nsIn K mainGlobals "_law_change" = some (some (.ref f19))) (l19 : K.lookup f19 = some ⟨oc19, od19, .func (PySem.W.fnOf "_law_change" "_law_change" (defArgs s_z_change) (defBody s_z_change) (defScope s_z_change) .none kV19 dc19 pm19 an19 cd19 ct19), sl19⟩) (c19 : PySem.W.codeIn K cd19 "_law_change" = true) (k19 : PySem.W.keepIn K (.ref f19) = true)
    (a20 : PySem.W.nsIn K mainGlobals "_law_fresh" = some (some (.ref f20))) (l20 : K.lookup f20 = some ⟨oc20, od20, .func (PySem.W.fnOf "_law_fresh" "_law_fresh" (defArgs s_z_fresh) (defBody s_z_fresh) (defScope s_z_fresh) .none kV20 dc20 pm20 an20 cd20 ct20), sl20⟩) (c20 : PySem.W.codeIn K cd20 "_law_fresh" = true) (k20 : PySem.W.keepIn K (.ref f20) = true)
    (a21 : PySem.W.nsIn K mainGlobals "_law_names_of" = some (some (.ref f21))) (l21 : K.lookup f21 = some ⟨oc21, od21, .func (PySem.W.fnOf "_law_names_of" "_law_names_of" (defArgs s_z_names_of) (defBody s_z_names_of) (defScope s_z_names_of) .none kV21 dc21 pm21 an21 cd21 ct21), sl21⟩) (c21 : PySem.W.codeIn K cd21 "_law_names_of" = true) (k21 : PySem.W.keepIn K (.ref f21) = true)
    (a22 : PySem.W.nsIn K mainGlobals "_law_if" = some (some (.ref f22))) (l22 : K.lookup f22 = some ⟨oc22, od22, .func (PySem.W.fnOf "_law_if" "_law_if" (defArgs s_z_if) (defBody s_z_if) (defScope s_z_if) .none kV22 dc22 pm22 an22 cd22 ct22), sl22⟩) (c22 : PySem.W.codeIn K cd22 "_law_if" = true) (k22 : PySem.W.keepIn K (.ref f22) = true)
    (a23 : PySem.W.nsIn K mainGlobals "_law_loop" = some (some (.ref f23))) (l23 : K.lookup f23 = some ⟨oc23, od23, .func (PySem.W.fnOf "_law_loop" "_law_loop" (defArgs s_z_loop) (defBody s_z_loop) (defScope s_z_loop) .none kV23 dc23 pm23 an23 cd23 ct23), sl23⟩) (c23 : PySem.W.codeIn K cd23 "_law_loop" = true) (k23 : PySem.W.keepIn K (.ref f23) = true)
    (a24 : PySem.W.nsIn K mainGlobals "_law_lent" = some (some (.ref f24))) (l24 : K.lookup f24 = some ⟨oc24, od24, .func (PySem.W.fnOf "_law_lent" "_law_lent" (defArgs s_z_lent) (defBody s_z_lent) (defScope s_z_lent) .none kV24 dc24 pm24 an24 cd24 ct24), sl24⟩) (c24 : PySem.W.codeIn K cd24 "_law_lent" = true) (k24 : PySem.W.keepIn K (.ref f24) = true)
    (a25 : PySem.W.nsIn K mainGlobals "_law_local" = some (some (.ref f25))) (l25 : K.lookup f25 = some ⟨oc25, od25, .func (PySem.W.fnOf "_law_local" "_law_local" (defArgs s_z_local) (defBody s_z_local) (defScope s_z_local) .none kV25 dc25 pm25 an25 cd25 ct25), sl25⟩) (c25 : PySem.W.codeIn K cd25 "_law_local" = true) (k25 : PySem.W.keepIn K (.ref f25) = true)
    (a26 : PySem.W.nsIn K mainGlobals "_law_call" = some (some (.ref f26))) (l26 : K.lookup f26 = some ⟨oc26, od26, .func (PySem.W.fnOf "_law_call" "_law_call" (defArgs s_z_call) (defBody s_z_call) (defScope s_z_call) .none kV26 dc26 pm26 an26 cd26 ct26), sl26⟩) (c26 : PySem.W.codeIn K cd26 "_law_call" = true) (k26 : PySem.W.keepIn K (.ref f26) = true)
    (a27 : PySem.W.nsIn K mainGlobals "_law_body" = some (some (.ref f27))) (l27 : K.lookup f27 = some ⟨oc27, od27, .func (PySem.W.fnOf "_law_body" "_law_body" (defArgs s_z_body) (defBody s_z_body) (defScope s_z_body) .none kV27 dc27 pm27 an27 cd27 ct27), sl27⟩) (c27 : PySem.W.codeIn K cd27 "_law_body" = true) (k27 : PySem.W.keepIn K (.ref f27) = true)
    (a28 : PySem.W.nsIn K mainGlobals "_law_counting" = some (some (.ref f28))) (l28 : K.lookup f28 = some ⟨oc28, od28, .func (PySem.W.fnOf "_law_counting" "_law_counting" (defArgs s_z_counting) (defBody s_z_counting) (defScope s_z_counting) .none kV28 dc28 pm28 an28 cd28 ct28), sl28⟩) (c28 : PySem.W.codeIn K cd28 "_law_counting" = true) (k28 : PySem.W.keepIn K (.ref f28) = true)
    (a29 : PySem.W.nsIn K mainGlobals "_law_program" = some (some (.ref f29))) (l29 : K.lookup f29 = some ⟨oc29, od29, .func (PySem.W.fnOf "_law_program" "_law_program" (defArgs s_z_program) (defBody s_z_program) (defScope s_z_program) .none kV29 dc29 pm29 an29 cd29 ct29), sl29⟩) (c29 : PySem.W.codeIn K cd29 "_law_program" = true) (k29 : PySem.W.keepIn K (.ref f29) = true)
    (a30 : PySem.W.nsIn K mainGlobals "_law_store" = some (some (.ref f30))) (l30 : K.lookup f30 = some ⟨oc30, od30, .func (PySem.W.fnOf "_law_store" "_law_store" (defArgs s_z_store) (defBody s_z_store) (defScope s_z_store) .none kV30 dc30 pm30 an30 cd30 ct30), sl30⟩) (c30 : PySem.W.codeIn K cd30 "_law_store" = true) (k30 : PySem.W.keepIn K (.ref f30) = true)
    (a31 : PySem.W.nsIn K mainGlobals "_law_value" = some (some (.ref f31))) (l31 : K.lookup f31 = some ⟨oc31, od31, .func (PySem.W.fnOf "_law_value" "_law_value" (defArgs s_z_value) (defBody s_z_value) (defScope s_z_value) .none kV31 dc31 pm31 an31 cd31 ct31), sl31⟩) (c31 : PySem.W.codeIn K cd31 "_law_value" = true) (k31 : PySem.W.keepIn K (.ref f31) = true)
    (a32 : PySem.W.nsIn K mainGlobals "law" = some (some (.ref f32))) (l32 : K.lookup f32 = some ⟨oc32, od32, .func (PySem.W.fnOf "law" "law" (defArgs s_law) (defBody s_law) (defScope s_law) .none kV32 dc32 pm32 an32 cd32 ct32), sl32⟩) (c32 : PySem.W.codeIn K cd32 "law" = true) (k32 : PySem.W.keepIn K (.ref f32) = true)
    (z0 : PySem.W.nsIn K mainGlobals "abs" = some none)
    (z1 : PySem.W.nsIn K mainGlobals "all" = some none)
    (z2 : PySem.W.nsIn K mainGlobals "bool" = some none)
    (z3 : PySem.W.nsIn K mainGlobals "int" = some none)
    (z4 : PySem.W.nsIn K mainGlobals "isinstance" = some none)
    (z5 : PySem.W.nsIn K mainGlobals "len" = some none)
    (z6 : PySem.W.nsIn K mainGlobals "min" = some none)
    (z7 : PySem.W.nsIn K mainGlobals "range" = some none)
    (z8 : PySem.W.nsIn K mainGlobals "str" = some none)
    (z9 : PySem.W.nsIn K mainGlobals "tuple" = some none)
    (z10 : PySem.W.nsIn K mainGlobals "zip" = some none)
    : LamX.LawAtS l w K CX0 34 63 "script" mg fa h := by
  have e := hfa.symm.trans (PySem.W.mg_of X G a32)
  cases e
  have F0 := fun_mk (st := s_top) l0 c0 k0
  have F1 := fun_mk (st := s_shift) l1 c1 k1
  have F2 := fun_mk (st := s_compute) l2 c2 k2
  have F3 := fun_mk (st := s_value_of) l3 c3 k3
  have F4 := fun_mk (st := s_cell_index) l4 c4 k4
  have F5 := fun_mk (st := s_is_whole) l5 c5 k5
  have F6 := fun_mk (st := s_is_integer) l6 c6 k6
  have F7 := fun_mk (st := s_is_word) l7 c7 k7
  have F8 := fun_mk (st := s_empty_store) l8 c8 k8
  have F9 := fun_mk (st := s_is_store) l9 c9 k9
  have F10 := func_mk (st := s_is_entry) l10 c10 k10
  have F11 := fun_mk (st := s_z_draw) l11 c11 k11
  have F12 := fun_mk (st := s_z_take) l12 c12 k12
  have F13 := fun_mk (st := s_z_top) l13 c13 k13
  have F14 := fun_mk (st := s_z_compute) l14 c14 k14
  have F15 := fun_mk (st := s_z_word) l15 c15 k15
  have F16 := fun_mk (st := s_z_expression) l16 c16 k16
  have F17 := fun_mk (st := s_z_without) l17 c17 k17
  have F18 := fun_mk (st := s_z_place) l18 c18 k18
  have F19 := fun_mk (st := s_z_change) l19 c19 k19
  have F20 := fun_mk (st := s_z_fresh) l20 c20 k20
  have F21 := fun_mk (st := s_z_names_of) l21 c21 k21
  have F22 := fun_mk (st := s_z_if) l22 c22 k22
  have F23 := fun_mk (st := s_z_loop) l23 c23 k23
  have F24 := fun_mk (st := s_z_lent) l24 c24 k24
  have F25 := fun_mk (st := s_z_local) l25 c25 k25
  have F26 := fun_mk (st := s_z_call) l26 c26 k26
  have F27 := fun_mk (st := s_z_body) l27 c27 k27
  have F28 := fun_mk (st := s_z_counting) l28 c28 k28
  have F29 := fun_mk (st := s_z_program) l29 c29 k29
  have F30 := fun_mk (st := s_z_store) l30 c30 k30
  have F31 := fun_mk (st := s_z_value) l31 c31 k31
  have F32 := fun_mk (st := s_law) l32 c32 k32
  have b0 := F0.binds (ps := ["w"]) fun _ _ _ _ _ _ us hl => match us, hl with | [_], _ => rfl
  have b1 := F1.binds (ps := ["op", "w", "x", "y"]) fun _ _ _ _ _ _ us hl => match us, hl with | [_, _, _, _], _ => rfl
  have b2 := F2.binds (ps := ["op", "w", "x", "y"]) fun _ _ _ _ _ _ us hl => match us, hl with | [_, _, _, _], _ => rfl
  have b3 := F3.binds (ps := ["w", "e", "look"]) fun _ _ _ _ _ _ us hl => match us, hl with | [_, _, _], _ => rfl
  have b4 := F4.binds (ps := ["w", "e", "look"]) fun _ _ _ _ _ _ us hl => match us, hl with | [_, _, _], _ => rfl
  have b5 := F5.binds (ps := ["value"]) fun _ _ _ _ _ _ us hl => match us, hl with | [_], _ => rfl
  have b6 := F6.binds (ps := ["value", "low", "high"]) fun _ _ _ _ _ _ us hl => match us, hl with | [_, _, _], _ => rfl
  have b7 := F7.binds (ps := ["value", "w"]) fun _ _ _ _ _ _ us hl => match us, hl with | [_, _], _ => rfl
  have b8 := F8.binds (ps := ["program"]) fun _ _ _ _ _ _ us hl => match us, hl with | [_], _ => rfl
  have b9 := F9.binds (ps := ["program", "value"]) fun _ _ _ _ _ _ us hl => match us, hl with | [_, _], _ => rfl
  have b10 := F10.fun.binds (ps := ["width", "name", "size", "item"]) fun _ _ _ _ _ _ us hl => match us, hl with | [_, _, _, _], _ => rfl
  have b11 := F11.binds (ps := ["script"]) fun _ _ _ _ _ _ us hl => match us, hl with | [_], _ => rfl
  have b12 := F12.binds (ps := ["draw", "many"]) fun _ _ _ _ _ _ us hl => match us, hl with | [_, _], _ => rfl
  have b13 := F13.binds (ps := ["w"]) fun _ _ _ _ _ _ us hl => match us, hl with | [_], _ => rfl
  have b14 := F14.binds (ps := ["op", "w", "x", "y"]) fun _ _ _ _ _ _ us hl => match us, hl with | [_, _, _, _], _ => rfl
  have b15 := F15.binds (ps := ["draw", "w"]) fun _ _ _ _ _ _ us hl => match us, hl with | [_, _], _ => rfl
  have b16 := F16.binds (ps := ["p", "names", "depth"]) fun _ _ _ _ _ _ us hl => match us, hl with | [_, _, _], _ => rfl
  have b17 := F17.binds (ps := ["names", "gone"]) fun _ _ _ _ _ _ us hl => match us, hl with | [_, _], _ => rfl
  have b18 := F18.binds (ps := ["p", "names", "name"]) fun _ _ _ _ _ _ us hl => match us, hl with | [_, _, _], _ => rfl
  have b19 := F19.binds (ps := ["p", "names", "free"]) fun _ _ _ _ _ _ us hl => match us, hl with | [_, _, _], _ => rfl
  have b20 := F20.binds (ps := ["p"]) fun _ _ _ _ _ _ us hl => match us, hl with | [_], _ => rfl
  have b21 := F21.binds (ps := ["e"]) fun _ _ _ _ _ _ us hl => match us, hl with | [_], _ => rfl
  have b22 := F22.binds (ps := ["p", "names", "free", "depth"]) fun _ _ _ _ _ _ us hl => match us, hl with | [_, _, _, _], _ => rfl
  have b23 := F23.binds (ps := ["p", "names", "free", "depth"]) fun _ _ _ _ _ _ us hl => match us, hl with | [_, _, _, _], _ => rfl
  have b24 := F24.binds (ps := ["p", "names", "free", "local"]) fun _ _ _ _ _ _ us hl => match us, hl with | [_, _, _, _], _ => rfl
  have b25 := F25.binds (ps := ["p", "names", "free", "depth"]) fun _ _ _ _ _ _ us hl => match us, hl with | [_, _, _, _], _ => rfl
  have b26 := F26.binds (ps := ["p", "names", "free"]) fun _ _ _ _ _ _ us hl => match us, hl with | [_, _, _], _ => rfl
  have b27 := F27.binds (ps := ["p", "names", "free", "depth"]) fun _ _ _ _ _ _ us hl => match us, hl with | [_, _, _, _], _ => rfl
  have b28 := F28.binds (ps := ["name", "other", "word"]) fun _ _ _ _ _ _ us hl => match us, hl with | [_, _, _], _ => rfl
  have b29 := F29.binds (ps := ["draw", "left"]) fun _ _ _ _ _ _ us hl => match us, hl with | [_, _], _ => rfl
  have b30 := F30.binds (ps := ["draw", "program"]) fun _ _ _ _ _ _ us hl => match us, hl with | [_, _], _ => rfl
  have b31 := F31.binds (ps := ["w", "e", "frame"]) fun _ _ _ _ _ _ us hl => match us, hl with | [_, _, _], _ => rfl
  let T : Txt K mg := ⟨f0, _, F0, PySem.W.mg_of X G a0, b0, f1, _, F1, PySem.W.mg_of X G a1, b1, f2, _, F2, PySem.W.mg_of X G a2, b2, f3, _, F3, PySem.W.mg_of X G a3, b3, f4, _, F4, PySem.W.mg_of X G a4, b4, f5, _, F5, PySem.W.mg_of X G a5, b5, f6, _, F6, PySem.W.mg_of X G a6, b6, f7, _, F7, PySem.W.mg_of X G a7, b7, f8, _, F8, PySem.W.mg_of X G a8, b8, f9, _, F9, PySem.W.mg_of X G a9, b9, f10, _, cc10, P10, F10, PySem.W.mg_of X G a10, b10, f11, _, F11, PySem.W.mg_of X G a11, b11, f12, _, F12, PySem.W.mg_of X G a12, b12, f13, _, F13, PySem.W.mg_of X G a13, b13, f14, _, F14, PySem.W.mg_of X G a14, b14, f15, _, F15, PySem.W.mg_of X G a15, b15, f16, _, F16, PySem.W.mg_of X G a16, b16, f17, _, F17, PySem.W.mg_of X G a17, b17, f18, _, F18, PySem.W.mg_of X G a18, b18, f19, _, F19, PySem.W.mg_of X G a19, b19, f20, _, F20, PySem.W.mg_of X G a20, b20, f21, _, F21, PySem.W.mg_of X G a21, b21, f22, _, F22, PySem.W.mg_of X G a22, b22, f23, _, F23, PySem.W.mg_of X G a23, b23, f24, _, F24, PySem.W.mg_of X G a24, b24, f25, _, F25, PySem.W.mg_of X G a25, b25, f26, _, F26, PySem.W.mg_of X G a26, b26, f27, _, F27, PySem.W.mg_of X G a27, b27, f28, _, F28, PySem.W.mg_of X G a28, b28, f29, _, F29, PySem.W.mg_of X G a29, b29, f30, _, F30, PySem.W.mg_of X G a30, b30, f31, _, F31, PySem.W.mg_of X G a31, b31, fa, _, F32, PySem.W.mg_of X G a32, PySem.W.mg_none_of X G z0, PySem.W.mg_none_of X G z1, PySem.W.mg_none_of X G z2, PySem.W.mg_none_of X G z3, PySem.W.mg_none_of X G z4, PySem.W.mg_none_of X G z5, PySem.W.mg_none_of X G z6, PySem.W.mg_none_of X G z7, PySem.W.mg_none_of X G z8, PySem.W.mg_none_of X G z9, PySem.W.mg_none_of X G z10⟩
  have h10 := codeHd_mk lc10 tv10 hv10
  have t10 := tab_of RT X rc10 (PySem.W.mg_of X G a10) l10 rfl (codeTab_mk lc10 tv10)
  refine ⟨PySem.W.fnOf "law" "law" (defArgs s_law) (defBody s_law) (defScope s_law) .none kV32 dc32 pm32 an32 cd32 ct32, T.tabs, spLaw T, fun p hp => by
    simp only [Txt.tabs, List.mem_cons, List.not_mem_nil, or_false] at hp
    subst hp
    · exact t10, fun p hp => by
    simp only [Txt.tabs, List.mem_cons, List.not_mem_nil, or_false] at hp
    subst hp
    · exact np10, fun p hp => by
    simp only [Txt.tabs, List.mem_cons, List.not_mem_nil, or_false] at hp
    subst hp
    · exact PySem.W.codeHd_of_K X h10, fun s v => .of_eq rfl, fun H a ns hl hb hT hS => ⟨a, ns, rfl, hS, hl, hb, hT, fun _ => rfl⟩, fun base _ _ TB => ?_⟩
  have B : TBs T base := ⟨let z := TB (T.c_is_entry, T.P_is_entry) (by simp [Txt.tabs]); ⟨z.code, z.bm, z.gP⟩⟩
  exact ok_law T B
end My
open PySem PySem.W PyProof.Rows
set_option maxRecDepth 100000 in
set_option maxHeartbeats 0 in
theorem PySem.Challenge.cw_backrun_k04_values_and_stores_holds : PySem.Challenge.rw_backrun_k04_values_and_stores.Holds := by
  w_on; o_law; k_head; (case hw => w_witness2)
  k_fill
  refine My.walk_ofG (l := PySem.Challenge.rw_backrun_k04_values_and_stores) (n := 63) (k := 34) (x := "script") rfl (by decide) rfl ⟨rfl, by decide, by decide⟩ (fun w h Y => PySem.W.kIn_of Y) ?F
  case F =>
    intro w mg fa h KX G hmg RT
    refine' My.all_mk KX G hmg RT ?a0 ?l0 ?c0 ?k0 ?a1 ?l1 ?c1 ?k1 ?a2 ?l2 ?c2 ?k2 ?a3 ?l3 ?c3 ?k3 ?a4 ?l4 ?c4 ?k4 ?a5 ?l5 ?c5 ?k5 ?a6 ?l6 ?c6 ?k6 ?a7 ?l7 ?c7 ?k7 ?a8 ?l8 ?c8 ?k8 ?a9 ?l9 ?c9 ?k9 ?a10 ?l10 ?c10 ?k10 ?lc10 ?tv10 ?hv10 ?np10 ?rc10 ?a11 ?l11 ?c11 ?k11 ?a12 ?l12 ?c12 ?k12 ?a13 ?l13 ?c13 ?k13 ?a14 ?l14 ?c14 ?k14 ?a15 ?l15 ?c15 ?k15 ?a16 ?l16 ?c16 ?k16 ?a17 ?l17 ?c17 ?k17 ?a18 ?l18 ?c18 ?k18 ?a19 ?l19 ?c19 ?k19 ?a20 ?l20 ?c20 ?k20 ?a21 ?l21 ?c21 ?k21 ?a22 ?l22 ?c22 ?k22 ?a23 ?l23 ?c23 ?k23 ?a24 ?l24 ?c24 ?k24 ?a25 ?l25 ?c25 ?k25 ?a26 ?l26 ?c26 ?k26 ?a27 ?l27 ?c27 ?k27 ?a28 ?l28 ?c28 ?k28 ?a29 ?l29 ?c29 ?k29 ?a30 ?l30 ?c30 ?k30 ?a31 ?l31 ?c31 ?k31 ?a32 ?l32 ?c32 ?k32 ?z0 ?z1 ?z2 ?z3 ?z4 ?z5 ?z6 ?z7 ?z8 ?z9 ?z10
    (case a0 => k_is)
    (case l0 => k_is)
    (case c0 => k_is)
    (case k0 => k_is)
    (case a1 => k_is)
    (case l1 => k_is)
    (case c1 => k_is)
    (case k1 => k_is)
    (case a2 => k_is)
    (case l2 => k_is)
    (case c2 => k_is)
    (case k2 => k_is)
    (case a3 => k_is)
    (case l3 => k_is)
    (case c3 => k_is)
    (case k3 => k_is)
    (case a4 => k_is)
    (case l4 => k_is)
    (case c4 => k_is)
    (case k4 => k_is)
    (case a5 => k_is)
    (case l5 => k_is)
    (case c5 => k_is)
    (case k5 => k_is)
    (case a6 => k_is)
    (case l6 => k_is)
    (case c6 => k_is)
    (case k6 => k_is)
    (case a7 => k_is)
    (case l7 => k_is)
    (case c7 => k_is)
    (case k7 => k_is)
    (case a8 => k_is)
    (case l8 => k_is)
    (case c8 => k_is)
    (case k8 => k_is)
    (case a9 => k_is)
    (case l9 => k_is)
    (case c9 => k_is)
    (case k9 => k_is)
    (case a10 => k_is)
    (case l10 => k_is)
    (case c10 => k_is)
    (case k10 => k_is)
    (case lc10 => k_is)
    (case tv10 => rfl)
    (case hv10 => rfl)
    (case np10 => rfl)
    (case rc10 => decide +kernel)
    (case a11 => k_is)
    (case l11 => k_is)
    (case c11 => k_is)
    (case k11 => k_is)
    (case a12 => k_is)
    (case l12 => k_is)
    (case c12 => k_is)
    (case k12 => k_is)
    (case a13 => k_is)
    (case l13 => k_is)
    (case c13 => k_is)
    (case k13 => k_is)
    (case a14 => k_is)
    (case l14 => k_is)
    (case c14 => k_is)
    (case k14 => k_is)
    (case a15 => k_is)
    (case l15 => k_is)
    (case c15 => k_is)
    (case k15 => k_is)
    (case a16 => k_is)
    (case l16 => k_is)
    (case c16 => k_is)
    (case k16 => k_is)
    (case a17 => k_is)
    (case l17 => k_is)
    (case c17 => k_is)
    (case k17 => k_is)
    (case a18 => k_is)
    (case l18 => k_is)
    (case c18 => k_is)
    (case k18 => k_is)
    (case a19 => k_is)
    (case l19 => k_is)
    (case c19 => k_is)
    (case k19 => k_is)
    (case a20 => k_is)
    (case l20 => k_is)
    (case c20 => k_is)
    (case k20 => k_is)
    (case a21 => k_is)
    (case l21 => k_is)
    (case c21 => k_is)
    (case k21 => k_is)
    (case a22 => k_is)
    (case l22 => k_is)
    (case c22 => k_is)
    (case k22 => k_is)
    (case a23 => k_is)
    (case l23 => k_is)
    (case c23 => k_is)
    (case k23 => k_is)
    (case a24 => k_is)
    (case l24 => k_is)
    (case c24 => k_is)
    (case k24 => k_is)
    (case a25 => k_is)
    (case l25 => k_is)
    (case c25 => k_is)
    (case k25 => k_is)
    (case a26 => k_is)
    (case l26 => k_is)
    (case c26 => k_is)
    (case k26 => k_is)
    (case a27 => k_is)
    (case l27 => k_is)
    (case c27 => k_is)
    (case k27 => k_is)
    (case a28 => k_is)
    (case l28 => k_is)
    (case c28 => k_is)
    (case k28 => k_is)
    (case a29 => k_is)
    (case l29 => k_is)
    (case c29 => k_is)
    (case k29 => k_is)
    (case a30 => k_is)
    (case l30 => k_is)
    (case c30 => k_is)
    (case k30 => k_is)
    (case a31 => k_is)
    (case l31 => k_is)
    (case c31 => k_is)
    (case k31 => k_is)
    (case a32 => k_is)
    (case l32 => k_is)
    (case c32 => k_is)
    (case k32 => k_is)
    (case z0 => k_is)
    (case z1 => k_is)
    (case z2 => k_is)
    (case z3 => k_is)
    (case z4 => k_is)
    (case z5 => k_is)
    (case z6 => k_is)
    (case z7 => k_is)
    (case z8 => k_is)
    (case z9 => k_is)
    (case z10 => k_is)

