import PyProof.Rows.All
import Wide.All
import OpenK.AllK
import Wide.FinOn
import HandS.ForMost
import HandS.Wide
import HandS.IsInst
import KE.KBits
import KE.OsArith
import HandS.AnyAll
import HandS.GenOver
import HandS.GenList
import HandS.Nested
import PyProof.GenQ
import HandS.TupAny
import HandS.TupMul
import HandS.Zip
import HandS.Style
import HandS.EndTab
import KE.KNestM
import HandS.Walk
import KE.KIntText
import HandS.CallLocal
import HandS.Call
import HandS.Defaults
import HandS.More
import HandS.Flow
import HandS.Dict
import KE.KDictPairs
import PyProof.P3In
import PyProof.AutoSeq1
import HandS.DictComp
import PySem.Challenge.RW_backrun_k08_ordinary_runs
set_option Elab.async false
set_option linter.all false
set_option maxRecDepth 100000
/-! what serves every law: cuts, heaps that change at one place, the law's own draw -/
namespace My
open PySem PySem.Spec PyProof.Rows L2
/-! ### cuts -/
section
variable {X : Cx}
theorem ps_cut {st : Stmt} {t : TS} (h : PS X st t) : PS X st (fun D σ H => ∃ J : L2.St → Hp → Prop, t { D with nx := J } σ H ∧ ∀ σ' H', J σ' H' → D.nx σ' H') := by
  refine ⟨fun pins s σ H D I hh => ?_⟩
  obtain ⟨J, h1, h2⟩ := hh
  refine thn (h.run pins s σ H _ I h1) fun f s' z => ?_
  cases f with
  | next => obtain ⟨σ', H', I', j⟩ := z; exact ⟨σ', H', I', h2 σ' H' j⟩
  | brk => exact z
  | cont => exact z
  | ret v => exact z
theorem pe_cut {e : Expr} {t : TE} (h : PE X e t) : PE X e (fun σ H Q => ∃ J : V → Hp → Prop, t σ H J ∧ ∀ v H', J v H' → Q v H') := by
  refine ⟨fun pins s σ H Q I hh => ?_⟩
  obtain ⟨J, h1, h2⟩ := hh
  refine thn (h.run pins s σ H _ I h1) fun u s' ⟨v, H', I', r, j⟩ => ⟨v, H', I', r, h2 v H' j⟩
theorem pt_cut {e : Expr} {t : TT} (h : PT X e t) : PT X e (fun σ H Q => ∃ J : Bool → Hp → Prop, t σ H J ∧ ∀ b H', J b H' → Q b H') := by
  refine ⟨fun pins s σ H Q I hh => ?_⟩
  obtain ⟨J, h1, h2⟩ := hh
  refine thn (h.run pins s σ H _ I h1) fun u s' ⟨H', I', j⟩ => ⟨H', I', h2 u H' j⟩
end
/-! ### heaps -/
theorem same_upd {H : Hp} {p : Addr} {o : HO} (h : H p = none) : Same H (upd H p o) := fun b x e => by
  rw [upd_ne (ne_of_none e h)]
  exact e
/-- all but what stands at p stays -/
def KeepBut (p : Addr) (H H' : Hp) : Prop := ∀ b o, b ≠ p → H b = some o → H' b = some o
theorem KeepBut.refl (p : Addr) (H : Hp) : KeepBut p H H := fun _ _ _ e => e
theorem KeepBut.trans {p : Addr} {H H1 H2 : Hp} (a : KeepBut p H H1) (b : KeepBut p H1 H2) : KeepBut p H H2 := fun c o n e => b c o n (a c o n e)
theorem KeepBut.put (p : Addr) (H : Hp) (o : HO) : KeepBut p H (upd H p o) := fun b x n e => by
  rw [upd_ne n]
  exact e
theorem KeepBut.same {p : Addr} {H H1 : Hp} (a : Same H H1) : KeepBut p H H1 := fun c o _ e => a c o e
theorem KeepBut.new {p q : Addr} {H H1 : Hp} {o : HO} (a : KeepBut p H H1) (h : H1 q = none) : KeepBut p H (upd H1 q o) := a.trans (.same (same_upd h))
/-! ### the law's draw: [cells, place, rest, seed] -/
structure DrawIs (H : Hp) (p c : Addr) (cells : List Int) (pos rest seed : Int) : Prop where
  hp : H p = some (.lst [.ref c, .int pos, .int rest, .int seed])
  hc : H c = some (.lst (cells.map V.int))
  nn : ∀ x ∈ cells, 0 ≤ x
  po : -1 ≤ pos
  re : 0 ≤ rest
  s0 : 0 ≤ seed
  s1 : seed < 2147483647
def DrawAt (H : Hp) (p : Addr) : Prop := ∃ c cells pos rest seed, DrawIs H p c cells pos rest seed
theorem DrawIs.ne {H : Hp} {p c : Addr} {cells : List Int} {pos rest seed : Int} (D : DrawIs H p c cells pos rest seed) : c ≠ p := ne_of D.hc D.hp (by
  intro z
  cases cells with
  | nil => cases z
  | cons x r => cases z)
theorem DrawIs.put {H : Hp} {p c : Addr} {cells : List Int} {pos rest seed pos' rest' seed' : Int} (D : DrawIs H p c cells pos rest seed) (h1 : -1 ≤ pos') (h2 : 0 ≤ rest') (h3 : 0 ≤ seed') (h4 : seed' < 2147483647) :
    DrawIs (upd H p (.lst [.ref c, .int pos', .int rest', .int seed'])) p c cells pos' rest' seed' :=
  ⟨upd_same, by rw [upd_ne D.ne]; exact D.hc, D.nn, h1, h2, h3, h4⟩
theorem DrawIs.keep {H H' : Hp} {p c : Addr} {cells : List Int} {pos rest seed : Int} (D : DrawIs H p c cells pos rest seed) (k : Same H H') : DrawIs H' p c cells pos rest seed :=
  ⟨k _ _ D.hp, k _ _ D.hc, D.nn, D.po, D.re, D.s0, D.s1⟩
theorem DrawAt.keep {H H' : Hp} {p : Addr} (D : DrawAt H p) (k : Same H H') : DrawAt H' p := by
  obtain ⟨c, cells, pos, rest, seed, d⟩ := D
  exact ⟨c, cells, pos, rest, seed, d.keep k⟩
theorem DrawAt.some {H : Hp} {p : Addr} (D : DrawAt H p) : ∃ o, H p = some o := by
  obtain ⟨c, cells, pos, rest, seed, d⟩ := D
  exact ⟨_, d.hp⟩
theorem DrawAt.upd {H : Hp} {p q : Addr} {o : HO} (D : DrawAt H p) (h : H q = none) : DrawAt (upd H q o) p := D.keep (same_upd h)
/-! ### numbers -/
theorem int_nat {i : Int} (h : 0 ≤ i) : ∃ n : Nat, i = (n : Int) := ⟨i.toNat, by omega⟩
theorem fmod_lo {a b : Int} (h : 0 < b) : 0 ≤ a.fmod b := Int.fmod_nonneg_of_pos a h
theorem fmod_hi {a b : Int} (h : 0 < b) : a.fmod b < b := Int.fmod_lt_of_pos a h
theorem fmod_e {a b : Int} (h : 0 < b) : a.fmod b = a % b := Int.fmod_eq_emod_of_nonneg a (by omega)
theorem div_lo {a b : Int} (h : 0 ≤ a) (hb : 0 < b) : 0 ≤ a / b := Int.ediv_nonneg h (by omega)
end My
namespace My
open PySem PySem.Spec PyProof.Rows L2
/-! ### a written tuple of the top -/
theorem rel_abs : ∀ {u : Value} {x : V}, absV u = some x → RelV x u
  | .none, _, h => by cases h; rfl
  | .bool _, _, h => by cases h; rfl
  | .int _ t, _, h => by cases h; exact ⟨t, rfl⟩
  | .str _ t, _, h => by cases h; exact ⟨t, rfl⟩
  | .bytes _ t, _, h => by cases h; exact ⟨t, rfl⟩
  | .float _ t, _, h => by cases h; exact ⟨t, rfl⟩
  | .ref _, _, h => by cases h; rfl
  | .type _, _, h => by cases h; rfl
theorem vals_abs : ∀ {us : List Value} {xs : List V}, us.mapM absV = some xs → Vals xs us
  | [], xs, h => by
    cases h
    exact .nil
  | u :: us, xs, h => by
    rw [List.mapM_cons] at h
    cases e : absV u with
    | none => rw [e] at h; cases h
    | some x =>
      rw [e] at h
      cases e2 : us.mapM absV with
      | none => rw [e2] at h; cases h
      | some ys =>
        rw [e2] at h
        cases h
        exact .cons (rel_abs e) (vals_abs e2)
theorem sqT_k {K : PySem.W.Frag} {H : Hp} {a : Addr} {d : Option Addr} {its : Array Value} {n : Nat} {sl : Array (Option Value)} {xs : List V} (l : K.lookup a = some ⟨.type "tuple", d, .seq its n, sl⟩) (h : its.toList.mapM absV = some xs) (z : its.size ≤ sizeLine) : SqT K H a xs :=
  .inr ⟨_, its, n, l, rfl, rfl, z, vals_abs h⟩
end My

set_option Elab.async false
set_option linter.all false
/-! words: the ten ops by bits and by whole numbers -/
namespace My
open PySem PySem.Spec PyProof.Rows L2
theorem bit_and (a b k : Nat) : (a &&& b) / 2 ^ k % 2 = if a / 2 ^ k % 2 + b / 2 ^ k % 2 = 2 then 1 else 0 := by
  have h := Nat.testBit_and a b k
  rw [Nat.testBit_eq_decide_div_mod_eq, Nat.testBit_eq_decide_div_mod_eq, Nat.testBit_eq_decide_div_mod_eq] at h
  have h1 := Nat.mod_lt (a / 2 ^ k) (show 2 > 0 by decide)
  have h2 := Nat.mod_lt (b / 2 ^ k) (show 2 > 0 by decide)
  have h3 := Nat.mod_lt ((a &&& b) / 2 ^ k) (show 2 > 0 by decide)
  have h4 : ((a &&& b) / 2 ^ k % 2 = 1) ↔ (a / 2 ^ k % 2 = 1 ∧ b / 2 ^ k % 2 = 1) := by
    rw [← decide_eq_true_iff (p := (a &&& b) / 2 ^ k % 2 = 1), h, Bool.and_eq_true, decide_eq_true_iff, decide_eq_true_iff]
  split <;> omega
theorem bit_or (a b k : Nat) : (a ||| b) / 2 ^ k % 2 = if 0 < a / 2 ^ k % 2 + b / 2 ^ k % 2 then 1 else 0 := by
  have h := Nat.testBit_or a b k
  rw [Nat.testBit_eq_decide_div_mod_eq, Nat.testBit_eq_decide_div_mod_eq, Nat.testBit_eq_decide_div_mod_eq] at h
  have h1 := Nat.mod_lt (a / 2 ^ k) (show 2 > 0 by decide)
  have h2 := Nat.mod_lt (b / 2 ^ k) (show 2 > 0 by decide)
  have h3 := Nat.mod_lt ((a ||| b) / 2 ^ k) (show 2 > 0 by decide)
  have h4 : ((a ||| b) / 2 ^ k % 2 = 1) ↔ (a / 2 ^ k % 2 = 1 ∨ b / 2 ^ k % 2 = 1) := by
    rw [← decide_eq_true_iff (p := (a ||| b) / 2 ^ k % 2 = 1), h, Bool.or_eq_true, decide_eq_true_iff, decide_eq_true_iff]
  split <;> omega
theorem bit_xor (a b k : Nat) : (a ^^^ b) / 2 ^ k % 2 = if a / 2 ^ k % 2 + b / 2 ^ k % 2 = 1 then 1 else 0 := by
  have h := Nat.testBit_xor (x := a) (y := b) (i := k)
  rw [Nat.testBit_eq_decide_div_mod_eq, Nat.testBit_eq_decide_div_mod_eq, Nat.testBit_eq_decide_div_mod_eq] at h
  have h1 := Nat.mod_lt (a / 2 ^ k) (show 2 > 0 by decide)
  have h2 := Nat.mod_lt (b / 2 ^ k) (show 2 > 0 by decide)
  have h3 := Nat.mod_lt ((a ^^^ b) / 2 ^ k) (show 2 > 0 by decide)
  by_cases c1 : a / 2 ^ k % 2 = 1 <;> by_cases c2 : b / 2 ^ k % 2 = 1 <;> by_cases c3 : (a ^^^ b) / 2 ^ k % 2 = 1 <;> simp [c1, c2, c3] at h ⊢ <;> first | omega | (split <;> omega)
/-- and, or, xor of two numbers by their name -/
def bitF (op : Str) (a b : Nat) : Nat := if op = "and" then a &&& b else if op = "or" then a ||| b else a ^^^ b
/-- does the bit count -/
def bitC (op : Str) (both : Int) : Bool := if op = "and" then decide (both = 2) else if op = "or" then decide (0 < both) else decide (both = 1)
theorem bitF_step (op : Str) (a b k : Nat) : ((bitF op a b % 2 ^ (k + 1) : Nat) : Int) = ((bitF op a b % 2 ^ k : Nat) : Int) + (if bitC op (((a / 2 ^ k % 2 : Nat) : Int) + ((b / 2 ^ k % 2 : Nat) : Int)) = true then (2 : Int) ^ k else 0) := by
  have e : bitF op a b / 2 ^ k % 2 = if bitC op (((a / 2 ^ k % 2 : Nat) : Int) + ((b / 2 ^ k % 2 : Nat) : Int)) = true then 1 else 0 := by
    unfold bitF bitC
    by_cases c1 : op = "and"
    · rw [if_pos c1, if_pos c1, bit_and]
      simp only [decide_eq_true_eq]
      split <;> split <;> omega
    · rw [if_neg c1, if_neg c1]
      by_cases c2 : op = "or"
      · rw [if_pos c2, if_pos c2, bit_or]
        simp only [decide_eq_true_eq]
        split <;> split <;> omega
      · rw [if_neg c2, if_neg c2, bit_xor]
        simp only [decide_eq_true_eq]
        split <;> split <;> omega
  rw [Nat.mod_pow_succ, e]
  have hk : ((2 ^ k : Nat) : Int) = (2 : Int) ^ k := PySem.W.kbt_cast k
  split
  · rw [Nat.mul_one]; omega
  · rw [Nat.mul_zero]; omega
theorem bitF_lt (op : Str) {a b n : Nat} (ha : a < 2 ^ n) (hb : b < 2 ^ n) : bitF op a b < 2 ^ n := by
  unfold bitF
  split
  · exact Nat.and_lt_two_pow a hb
  · split
    · exact Nat.or_lt_two_pow ha hb
    · exact Nat.xor_lt_two_pow ha hb
theorem bitOr_nat (a b : Nat) : Builtin.bitOr (a : Int) (b : Int) = ((a ||| b : Nat) : Int) := by
  show Spec.bitOr (a : Int) (b : Int) = _
  have h1 : ¬ (0 ≤ -(a : Int) - 1) := by omega
  have h2 : ¬ (0 ≤ -(b : Int) - 1) := by omega
  have e1 : (-(-(a : Int) - 1) - 1).toNat = a := by omega
  have e2 : (-(-(b : Int) - 1) - 1).toNat = b := by omega
  unfold Spec.bitOr Spec.bitAnd Spec.bitNot
  rw [decide_eq_false h1, decide_eq_false h2]
  show -(-(((-(-(a : Int) - 1) - 1).toNat ||| (-(-(b : Int) - 1) - 1).toNat : Nat) : Int) - 1) - 1 = _
  rw [e1, e2]
  omega
theorem bitAnd_nat (a b : Nat) : Builtin.bitAnd (a : Int) (b : Int) = ((a &&& b : Nat) : Int) := PySem.W.os_band a b
theorem or_sub_and (a b : Nat) : (a ||| b) - (a &&& b) = a ^^^ b ∧ (a &&& b) ≤ (a ||| b) := by
  -- by bits from below
  have key : ∀ n : Nat, ∀ a b : Nat, a < 2 ^ n → b < 2 ^ n → (a ||| b) = (a ^^^ b) + (a &&& b) := by
    intro n
    induction n with
    | zero =>
      intro a b ha hb
      have : a = 0 := by omega
      have : b = 0 := by omega
      subst_vars
      rfl
    | succ n ih =>
      intro a b ha hb
      have h1 := bit_and a b 0
      have h2 := bit_or a b 0
      have h3 := bit_xor a b 0
      have e1 : (a &&& b) / 2 = (a / 2) &&& (b / 2) := Nat.and_div_two
      have e2 : (a ||| b) / 2 = (a / 2) ||| (b / 2) := Nat.or_div_two
      have e3 : (a ^^^ b) / 2 = (a / 2) ^^^ (b / 2) := Nat.xor_div_two
      have hp : 2 ^ (n + 1) = 2 ^ n * 2 := Nat.pow_succ ..
      have := ih (a / 2) (b / 2) (by omega) (by omega)
      simp only [Nat.pow_zero, Nat.div_one] at h1 h2 h3
      have m1 := Nat.mod_lt a (show 2 > 0 by decide)
      have m2 := Nat.mod_lt b (show 2 > 0 by decide)
      split at h1 <;> split at h2 <;> split at h3 <;> omega
  have hm : ∀ a : Nat, a < 2 ^ a := fun a => Nat.lt_two_pow_self
  have ha : a < 2 ^ (a + b) := Nat.lt_of_lt_of_le (hm a) (Nat.pow_le_pow_right (by decide) (by omega))
  have hb : b < 2 ^ (a + b) := Nat.lt_of_lt_of_le (hm b) (Nat.pow_le_pow_right (by decide) (by omega))
  have := key (a + b) a b ha hb
  omega
theorem bitXor_nat (a b : Nat) : Builtin.bitXor (a : Int) (b : Int) = ((a ^^^ b : Nat) : Int) := by
  show Builtin.bitOr (a : Int) (b : Int) - Builtin.bitAnd (a : Int) (b : Int) = _
  rw [bitOr_nat, bitAnd_nat]
  have := or_sub_and a b
  omega
/-- the word of an op, as the document has it -/
def cmpS (op : Str) (n : Nat) (x y : Int) : Int :=
  if op = "add" then (x + y) % 2 ^ n else if op = "sub" then (x - y) % 2 ^ n else if op = "mul" then (x * y) % 2 ^ n
  else if op = "and" then Builtin.bitAnd x y else if op = "or" then Builtin.bitOr x y else if op = "xor" then Builtin.bitXor x y
  else if op = "less" then (if x < y then 1 else 0) else if op = "equal" then (if x = y then 1 else 0)
  else if (n : Int) ≤ y then 0 else if op = "shl" then (x * 2 ^ y.toNat) % 2 ^ n else x / 2 ^ y.toNat
theorem bitF_cmp {op : Str} (h : op = "and" ∨ op = "or" ∨ op = "xor") (n a b : Nat) : cmpS op n (a : Int) (b : Int) = ((bitF op a b : Nat) : Int) := by
  rcases h with rfl | rfl | rfl
  · exact bitAnd_nat a b
  · exact bitOr_nat a b
  · exact bitXor_nat a b
end My

set_option Elab.async false
set_option linter.all false
set_option maxRecDepth 100000
set_option maxHeartbeats 4000000
/-! all(e for x in xs), any(e for x in xs): the element any expression that gives a truth value, calls of own defs too -/
namespace My
open PySem PySem.Spec PyProof.Rows L2 GxR NdefX GenW
/-- the context of the generator's frame -/
def gcx (X : Cx) (s : Shared) (H : Hp) (A : Around) (N : List Str) (cenv : Env) (fp : List Addr) : Cx :=
  { X with A := A, N := N, s_0 := s, H_0 := H, env := cenv, outer := X.stack, stack := cenv :: X.stack, ex := fp, fn := fun _ => false, calm := true, pn := [], xe := fun _ _ => False }
/-- the names that the element reads of the def around it, with their slots there -/
def Caps (X : Cx) (scope : Scope) : List (Str × Nat) → Prop
  | [] => True
  | p :: r => (X.N[p.2]? = some p.1 ∧ scope.names.lookup p.1 = some .free ∧ (X.env.scope.names.lookup p.1 = some .cell ∨ X.env.scope.names.lookup p.1 = some .free)) ∧ Caps X scope r
def gσ (σ : L2.St) (own : List (Str × Nat)) (v : Option V) : L2.St := v :: own.map fun p => (σ[p.2]?).getD none
def gN (x : Str) (own : List (Str × Nat)) : List Str := x :: own.map (·.1)
theorem caps_at {X : Cx} {scope : Scope} : ∀ {own : List (Str × Nat)} {i : Nat} {p : Str × Nat}, Caps X scope own → own[i]? = some p → X.N[p.2]? = some p.1 ∧ scope.names.lookup p.1 = some .free ∧ (X.env.scope.names.lookup p.1 = some .cell ∨ X.env.scope.names.lookup p.1 = some .free)
  | [], _, _, _, e => by simp at e
  | q :: r, 0, p, h, e => by simp at e; subst e; exact h.1
  | q :: r, i + 1, p, h, e => caps_at (own := r) (i := i) h.2 (by simpa using e)
section
variable {X : Cx} {pins : List (Addr × Obj)} {σ : L2.St} {H : Hp} {s s' : Shared}
/-- the heap as it was -/
theorem inv_same (I : Inv X pins σ H s) (h : s'.heap = s.heap) (ho : s'.os = s.os) (hb : AllBare s'.gens) : Inv X pins σ H s' := by
  obtain ⟨hh, g, d, t, o⟩ := s'
  obtain rfl : hh = s.heap := h
  obtain rfl : o = s.os := ho
  exact I.step (g' := g) (d' := d) (t' := t) (ch := []) (fun _ z => nomatch z) (fun _ _ _ _ _ e _ => e) (fun _ o _ _ _ e _ => ⟨o.slots, e⟩) (fun _ _ _ _ n => n) (fun _ o _ e => ⟨o, e⟩) (fun _ _ e => e) (fun _ _ _ e => e)
    (fun b ps e => ⟨#[], by rw [e]; simp⟩) (fun _ hm => hm) I.hok hb
/-- the frame of the generator begins -/
theorem gen_start {it a : Addr} {go : Obj} {fp : List Addr} {scope : Scope} {x : Str} {own : List (Str × Nat)} {A : Around} {h' : Heap} {bi : Addr} {code : Value} {gg : Array GenState} {tk : Nat}
    (I : Inv X pins σ H s) (hfp : ∀ b ∈ fp, FpOk X pins H b ∧ b < s.heap.objs.size) (S : GenS X.env scope x) (hc : Caps X scope own) (hA : A.handled = none) (hF : A.frames = some (genEnv scope (cloFrom X.env.cells scope.names []) s.heap.objs.size code bi X.env :: X.stack)) (hbi : bi = builtinsNs)
    (hn : h'.Ns s.heap.objs.size fun y => if y = ".0" then some (.ref it) else none) (kp : ∀ b o, s.heap.get? b = some o → (h'.push go).get? b = some o) (hsz : h'.objs.size = s.heap.objs.size + 1) (ha : a = h'.objs.size) (hnc : ∀ v, go.data ≠ .cell v) (hfr : go.isFreed = false) (hg : AllBare gg) :
    Inv (gcx X s H A (gN x own) (genEnv scope (cloFrom X.env.cells scope.names []) s.heap.objs.size code bi X.env) fp) [(a, go)] (gσ σ own none) H { s with gens := gg, toks := tk, heap := h'.push go } := by
  have cm : ∀ {y c}, (cloFrom X.env.cells scope.names []).lookup y = some c → X.env.cells.lookup y = some c := fun {y c} e => clo_cm S.free e
  have okB : (gcx X s H A (gN x own) (genEnv scope (cloFrom X.env.cells scope.names []) s.heap.objs.size code bi X.env) fp).Ok := by
    refine ⟨I.ok.mod, S.kind, I.ok.glob, hbi, Nat.le_refl _, fun y z c e1 e2 => I.ok.inj y z c (cm e1) (cm e2), fun y hy => ?_, fun y c z _ => (by cases z), fun _ => hA, hF, .inr ⟨rfl, rfl⟩, fun b hb => ⟨Nat.ne_of_lt (hfp b hb).2, fun y c e z => (hfp b hb).1.2.2.2.2.1 y c (cm e) z⟩,
      I.bs, Nat.le_trans I.ok.bsz I.sz, fun b o e hb => ?_, fun b hb z => ?_, I.stack, I.stkFree⟩
    · have hy : scope.names.lookup y = some .cell ∨ scope.names.lookup y = some .free := hy
      rcases hy with hy | hy
      · exact absurd rfl (S.cell _ (PySem.mem_of_lookup hy))
      · obtain ⟨c, e⟩ := S.free _ (PySem.mem_of_lookup hy) rfl
        exact ⟨c, clo_has S.free (PySem.mem_of_lookup hy) e⟩
    · rcases (hfp b hb).1.2.2.2.1 with z | z
      · exact I.ok.noex b o e z
      · exact absurd (Nat.lt_of_lt_of_le (Heap.lt_size e) (Nat.le_trans I.ok.bsz z)) (Nat.lt_irrefl _)
    · rcases List.mem_cons.mp (I.stkSub b z) with z | z
      · exact (hfp b hb).1.2.1 z
      · exact (hfp b hb).1.2.2.1 z
  refine ⟨okB, rfl, hg, Un.kept kp, ⟨_, hn.push _, fun i y v e1 e2 _ => ?_⟩, fun y c e => ?_, I.hok.fresh (Nat.le_refl _), fun y c e => I.freeC y c (cm e), fun p hp => ?_, I.hok.kept kp, ?_⟩
  · cases i with
    | zero => cases e2
    | succ i =>
      have e1 : (own.map (·.1))[i]? = some y := e1
      have e2 : (own.map fun p => (σ[p.2]?).getD none)[i]? = some (some v) := e2
      rw [List.getElem?_map] at e1 e2
      cases q : own[i]? with
      | none => rw [q] at e1; cases e1
      | some p =>
        rw [q] at e1 e2
        cases e1
        obtain ⟨hN, hf, hk⟩ := caps_at hc q
        have e3 : σ[p.2]? = some (some v) := by
          have e2 : some ((σ[p.2]?).getD none) = some (some v) := e2
          cases r : σ[p.2]? with
          | none => rw [r] at e2; cases e2
          | some u => rw [r] at e2; exact e2
        obtain ⟨m, _, hl⟩ := I.loc
        obtain ⟨u, r, lk⟩ := hl p.2 p.1 v hN e3 (.inr hk)
        refine ⟨u, r, .inr ⟨.inr hf, ?_⟩⟩
        rcases lk with ⟨k, _⟩ | ⟨_, c, e, o, ho, hd⟩
        · have k : X.env.scope.names.lookup p.1 = some .local := k
          rcases hk with hk | hk <;> (rw [hk] at k; cases k)
        · exact ⟨c, clo_has S.free (PySem.mem_of_lookup hf) e, o, kp c o ho, hd⟩
  · obtain ⟨v, o, ho, hd⟩ := I.cell y c (cm e)
    exact ⟨v, o, kp c o ho, hd⟩
  · have hp : p = (a, go) := by simpa [gcx] using hp
    subst hp
    refine ⟨?_, I.hok.fresh (by rw [ha, hsz]; exact Nat.le_succ _), ?_, fun z => ?_, hnc⟩
    · show (h'.push go).get? a = some go
      rw [ha]
      exact Heap.get?_push_size _ hfr
    · show a ≠ s.heap.objs.size
      rw [ha, hsz]
      exact Nat.succ_ne_self _
    · have hlt : ∀ b, b ∈ frs X.stack → b < s.heap.objs.size := fun b hb => by
        rcases List.mem_cons.mp (I.stkSub b hb) with y | y
        · rw [y]; exact I.lt
        · by_cases q : b < s.heap.objs.size
          · exact q
          · exact absurd y (I.nofs (Nat.le_of_not_lt q))
      have q := hlt a z
      rw [ha, hsz] at q
      exact absurd q (Nat.not_lt.mpr (Nat.le_succ _))
  · simp [gσ, gN, gcx]
end

theorem bne_of : ∀ {a b : Bool}, ¬ a = b → a = !b
  | true, true, h => absurd rfl h
  | true, false, _ => rfl
  | false, true, _ => rfl
  | false, false, h => absurd rfl h
/-! ### the generator's turns -/
section
variable {X : Cx} {al : Bool} {W : Nat → Nat → Hp → Prop} {QF : V → Hp → Prop}
/-- what a turn hands out: the answer is settled, or it goes on -/
def YAll (X' : Cx) (pn : List (Addr × Obj)) (al : Bool) (QF : V → Hp → Prop) : Protocol := fun _ _ v s kap =>
  ∃ σ H, Inv X' pn σ H s ∧ ((v = .bool (!al) ∧ QF (.bl (!al)) H) ∨ (v = .bool al ∧ ∀ s', s'.heap = s.heap → s'.os = s.os → AllBare s'.gens → kap (.send .none) s'))
def PAll (X' : Cx) (pn : List (Addr × Obj)) (al : Bool) (QF : V → Hp → Prop) (_ : Nat) (_ s : Shared) : Prop := ∃ σ H, Inv X' pn σ H s ∧ QF (.bl al) H
/-- one turn of the reading -/
def TAll (σ : L2.St) (own : List (Str × Nat)) (te : TE) (al : Bool) (J : It) (W : Nat → Nat → Hp → Prop) (QF : V → Hp → Prop) : Prop := ∀ i m H, W i m H →
  (J.stop i H ∧ QF (.bl al) H) ∨ (J.go i H ∧ ∃ Nx : Hp → Prop, (∀ H', Nx H' → ∃ m', m' < m ∧ W (i + 1) m' H') ∧ ∀ v H', J.yld i H v H' → te (gσ σ own (some v)) H' fun y H2 => ∃ b, y = .bl b ∧ if b = al then Nx H2 else QF (.bl (!al)) H2)
theorem seg_all {A : Around} {elt iter : Expr} {x : Str} {px gpos : Pos} {scope : Scope} {cenv : Env} {s₁ : Shared} {H₁ : Hp} {own : List (Str × Nat)} {fp : List Addr} {it : Addr} {a : Addr} {go : Obj} {J : It} {tn : Nat → Heap → Prop} {σ : L2.St} {te : TE}
    (hsc : cenv.scope = scope) (hx : scope.names.lookup x = some .local) (hco : scope.isCoroutine = false) (hnd : (gN x own).Nodup) (haf : ∀ b ∈ fp, a ≠ b)
    (T : Turn X.prog X.w X.K (.Name x px) J fp it tn)
    (he : PE (gcx X s₁ H₁ (A.over (.compLoop (.GeneratorExp elt [⟨.Name x px, iter, [], 0⟩] scope gpos) 0 (.ref it) .none cenv) []) (gN x own) cenv fp) elt te)
    (turn : TAll σ own te al J W QF) : ∀ (m n i : Nat) (s₀ s : Shared) (H : Hp) (v₀ : Option V), m < n →
      Inv (gcx X s₁ H₁ (A.over (.compLoop (.GeneratorExp elt [⟨.Name x px, iter, [], 0⟩] scope gpos) 0 (.ref it) .none cenv) []) (gN x own) cenv fp) [(a, go)] (gσ σ own v₀) H s → tn i s.heap → (∀ b ∈ fp, H b = none) → W i m H →
      Seg (model X.prog X.w) A (fun n s₀ r s₂ => r = .ok .next ∧ PAll (gcx X s₁ H₁ (A.over (.compLoop (.GeneratorExp elt [⟨.Name x px, iter, [], 0⟩] scope gpos) 0 (.ref it) .none cenv) []) (gN x own) cenv fp) [(a, go)] al QF n s₀ s₂)
        (YAll (gcx X s₁ H₁ (A.over (.compLoop (.GeneratorExp elt [⟨.Name x px, iter, [], 0⟩] scope gpos) 0 (.ref it) .none cenv) []) (gN x own) cenv fp) [(a, go)] al QF) n s₀
        (.compLoop (.GeneratorExp elt [⟨.Name x px, iter, [], 0⟩] scope gpos) 0 (.ref it) .none cenv)
        ((model X.prog X.w).den (.compLoop (.GeneratorExp elt [⟨.Name x px, iter, [], 0⟩] scope gpos) 0 (.ref it) .none cenv)) [] s := by
  generalize hcd : (Code.compLoop (.GeneratorExp elt [⟨.Name x px, iter, [], 0⟩] scope gpos) 0 (.ref it) .none cenv) = cd at *
  have hcalm : ∀ (Y : Cx), (gcx X s₁ H₁ (A.over cd []) (gN x own) cenv fp).calm = true := fun _ => rfl
  intro m
  induction m using Nat.strongRecOn with
  | _ m ih =>
    intro n i s₀ s H v₀ hmn I st hfn w
    have stat : ∀ {σ' : L2.St} {H' : Hp} {s' : Shared}, Inv (gcx X s₁ H₁ (A.over cd []) (gN x own) cenv fp) [(a, go)] σ' H' s' → (∀ b ∈ fp, H' b = none) → ∀ b ∈ fp, FpOk (gcx X s₁ H₁ (A.over cd []) (gN x own) cenv fp) [(a, go)] H' b := fun {σ' H' s'} I' hn b hb =>
      ⟨hn b hb, (I'.ok.exf b hb).1, I'.ok.exfs b hb, .inl hb, fun x c e => (I'.ok.exf b hb).2 x c e, fun p hp => by
        have hp : p = (a, go) := by simpa [gcx] using hp
        rw [hp]
        exact haf b hb⟩
    have den : (model X.prog X.w).den cd = (compTurn (.GeneratorExp elt [⟨.Name x px, iter, [], 0⟩] scope gpos) 0 (.ref it) .none cenv).onRaise (leaving cenv) := by rw [← hcd]; rfl
    rw [den, compTurn_gen, Sem.onRaise_eq_wrap, hcd]
    refine seg_bind_wrap (wpAny_standAt ?_)
    rcases turn i m H w with ⟨stop, qq⟩ | ⟨gg, Nx, hNx, step⟩
    · refine seg_bind_wrap (thnF (T.done (gcx X s₁ H₁ (A.over cd []) (gN x own) cenv fp) rfl rfl rfl rfl i [(a, go)] s _ H (fun _ _ => False) I (stat I hfn) st stop) fun r s2 ⟨hr, I2⟩ => ?_)
      subst hr
      exact seg_end (.ok .next) ⟨rfl, _, H, I2, qq⟩
    · refine seg_bind_wrap (thnF (T.item (gcx X s₁ H₁ (A.over cd []) (gN x own) cenv fp) rfl rfl rfl rfl i [(a, go)] s _ H (fun _ _ => False) I (stat I hfn) st gg) fun r s2 ⟨u, hr, h2⟩ => ?_)
      subst hr
      refine seg_bind_wrap (thnF h2 fun _ s3 ⟨v, H3, I3, r3, y3, st3, n3⟩ => ?_)
      have I3' := I3.pinned (stat I3 n3) (T.obj _ _ st3)
      have hsx : cenv.scope.names.lookup x = some .local := by rw [hsc]; exact hx
      refine seg_bind_wrap (wpAny_assign_Name (store_ok (i := 0) (x := x) I3' hnd rfl (.inl hsx) r3 (fun s4 I4 => ?_) (.inr hsx)))
      have I4 : Inv (gcx X s₁ H₁ (A.over cd []) (gN x own) cenv fp) ([(a, go)] ++ pinsAt fp s3.heap) (gσ σ own (some v)) H3 s4 := I4
      refine seg_bind_wrap (wpAny_tests_nil ?_)
      simp only [if_true]
      have hy : ∀ v, yieldOut cenv v = yieldValue v := fun v => by simp only [yieldOut, hsc, hco, Bool.false_eq_true, if_false]
      simp only [hy]
      rw [Sem.bind_eq_wrap', Sem.bind_eq_wrap', Sem.wrap_wrap, Sem.wrap_wrap]
      refine seg_wrap (thnF (he.run _ s4 _ H3 _ I4 (step v H3 y3)) fun y s5 ⟨z, H5, I5, r5, b, hz, q5⟩ => ?_)
      subst hz
      obtain rfl : y = .bool b := r5
      obtain ⟨k, rfl⟩ : ∃ k, n = k + 1 := ⟨n - 1, by omega⟩
      refine seg_at (seg_yield rfl rfl rfl ⟨_, H5, I5.unpinned, ?_⟩)
      by_cases hb : b = al
      · subst hb
        rw [if_pos rfl] at q5
        obtain ⟨m', hm', w'⟩ := hNx H5 q5
        refine .inr ⟨rfl, fun s6 e6 o6 b6 => ?_⟩
        have pin' : ∀ b ∈ fp, ∀ o, s3.heap.get? b = some o → s5.heap.get? b = some o ∧ H5 b = none := fun b hb o e =>
          let z := I5.pin (b, o) (List.mem_append_right _ (List.mem_append_right _ (mem_pinsAt hb e)))
          ⟨z.1, z.2.1⟩
        refine seg_again (c' := cd) (by rw [← hcd]; rfl) (ih m' hm' k (i + 1) _ s6 H5 (some v) (by omega) (inv_same I5.unpinned e6 o6 b6) (T.keep _ _ _ st3 fun b hb o e => by rw [e6]; exact (pin' b hb o e).1) (fun b hb => ?_) w')
        obtain ⟨o, e, _⟩ := T.obj _ _ st3 b hb
        exact (pin' b hb o e).2
      · rw [if_neg hb] at q5
        have e : b = !al := bne_of hb
        exact .inl ⟨by rw [e], q5⟩
end
end My

set_option Elab.async false
set_option linter.all false
set_option maxRecDepth 100000
set_option maxHeartbeats 4000000
namespace My
open PySem PySem.Spec PyProof.Rows L2 GxR NdefX GenW
section
variable {Y : Cx} {QF : V → Hp → Prop} {a : Addr} {go : Obj} {g : Nat} {A0 : Around} {Re : Result → Shared → Prop}
theorem pull_all {al : Bool} {n : Nat} {s : Shared} {gs : GenState} {Q : Option Value → Shared → Prop} {E : Value → Shared → Prop} (hh : A0.handled = none) (hroom : A0.depth < recursionLimit) (hgen : ∀ h : Heap, h.get? a = some go → h.IsGen a g)
    (hgs : s.gens[g]? = some gs) (hI : ∃ σ H, Inv Y [(a, go)] σ H s)
    (hgo : gs.Goes (model Y.prog Y.w) A0.in1 (fun n s₀ r s₁ => r = .ok .next ∧ PAll Y [(a, go)] al QF n s₀ s₁) (YAll Y [(a, go)] al QF) n (.send .none) (s.setGen g .running))
    (hN : ∀ σ H s', Inv Y [(a, go)] σ H s' → QF (.bl al) H → Q none s') (hS : ∀ σ H s', Inv Y [(a, go)] σ H s' → QF (.bl (!al)) H → Q (some (.bool (!al))) s')
    (hG : ∀ m gs' s', n = m + 1 → s'.gens[g]? = some gs' → (∃ σ H, Inv Y [(a, go)] σ H s') →
      gs'.Goes (model Y.prog Y.w) A0.in1 (fun n s₀ r s₁ => r = .ok .next ∧ PAll Y [(a, go)] al QF n s₀ s₁) (YAll Y [(a, go)] al QF) m (.send .none) (s'.setGen g .running) → Q (some (.bool al)) s') :
    wpAny (model Y.prog Y.w) A0 (pyNext (.ref a)) Q E s := by
  obtain ⟨σ, H, I⟩ := hI
  have hlt : g + 1 ≤ s.gens.size := by
    obtain ⟨h, _⟩ := Array.getElem?_eq_some_iff.mp hgs
    exact h
  refine wpAny_gsz hlt ?_
  refine wpAny_pyNext_genexpQ (P := PAll Y [(a, go)] al QF) hh I.nolimit hroom (hgen _ (I.pin (a, go) (List.mem_append_right _ List.mem_cons_self)).1) hgs hgo (fun v s₁ gs' hb hy => ?_) (fun s₁ hp h' hk => ?_)
  · intro hz
    obtain ⟨σ1, H1, I1, hv⟩ := hy
    have I2 : Inv Y [(a, go)] σ1 H1 (s₁.setGen g gs') := inv_same I1 rfl rfl (allBare_setGen I1.bare hb)
    rcases hv with ⟨rfl, q⟩ | ⟨rfl, kap⟩
    · exact hS _ _ _ I2 q
    · have e := kap ((s₁.setGen g gs').setGen g .running) rfl rfl (allBare_setGen I2.bare rfl)
      cases n with
      | zero => exact e.elim
      | succ m =>
        have hz' : g < s₁.gens.size := by
          rw [setGen_size] at hz
          exact hz
        exact hG m gs' _ rfl (setGen_at hz') ⟨_, _, I2⟩ e
  · intro _
    obtain ⟨σ1, H1, I1, q⟩ := hp
    exact hN σ1 H1 _ ((inv_same (s' := s₁.setGen g .finished) I1 rfl rfl (allBare_setGen I1.bare rfl)).kept (t' := s₁.toks) hk) q
theorem all_turns (hh : A0.handled = none) (hroom : A0.depth < recursionLimit) (hgen : ∀ h : Heap, h.get? a = some go → h.IsGen a g)
    (hR : ∀ σ H b s, Inv Y [(a, go)] σ H s → QF (.bl b) H → Re (.ok (.ret (.bool b))) s) : ∀ (n : Nat) (s : Shared) (gs : GenState), s.gens[g]? = some gs → (∃ σ H, Inv Y [(a, go)] σ H s) →
      gs.Goes (model Y.prog Y.w) A0.in1.in1 (fun n s₀ r s₁ => r = .ok .next ∧ PAll Y [(a, go)] true QF n s₀ s₁) (YAll Y [(a, go)] true QF) n (.send .none) (s.setGen g .running) →
      codeAny (model Y.prog Y.w) A0 (.builtin "all.loop" ⟨[.ref a], []⟩) Re s := by
  intro n
  induction n with
  | zero =>
    intro s gs hgs hI hgo
    refine codeAny_builtin F.entry_all_loop ?_
    rw [Around.under_plainId F.plain_all_loop _]
    show wpAny _ A0.in1 (pyNext (.ref a) >>= _) _ _ s
    refine wpAny_bind (pull_all (A0 := A0.in1) hh hroom hgen hgs hI hgo (fun σ H s' I q => ?_) (fun σ H s' I q => ?_) fun m gs' s' e _ _ _ => ?_)
    · exact wpAny_bind (wpAny_rule (wpAny_pure (hR σ H true s' I q)))
    · refine wpAny_bind (wpAny_holding (wpAny_truthy_bool ?_))
      refine wpAny_bind (wpAny_letGo ?_)
      exact wpAny_bind (wpAny_rule (wpAny_pure (hR σ H false s' I q)))
    · cases e
  | succ n ih =>
    intro s gs hgs hI hgo
    refine codeAny_builtin F.entry_all_loop ?_
    rw [Around.under_plainId F.plain_all_loop _]
    show wpAny _ A0.in1 (pyNext (.ref a) >>= _) _ _ s
    refine wpAny_bind (pull_all (A0 := A0.in1) hh hroom hgen hgs hI hgo (fun σ H s' I q => ?_) (fun σ H s' I q => ?_) fun m gs' s' e h1 h2 h3 => ?_)
    · exact wpAny_bind (wpAny_rule (wpAny_pure (hR σ H true s' I q)))
    · refine wpAny_bind (wpAny_holding (wpAny_truthy_bool ?_))
      refine wpAny_bind (wpAny_letGo ?_)
      exact wpAny_bind (wpAny_rule (wpAny_pure (hR σ H false s' I q)))
    · obtain rfl : n = m := Nat.succ.inj e
      refine wpAny_bind (wpAny_holding (wpAny_truthy_bool ?_))
      refine wpAny_bind (wpAny_letGo ?_)
      exact wpAny_pure ⟨plainId_quiet F.plain_all_loop _, ih s' gs' h1 h2 h3⟩
theorem any_turns (hh : A0.handled = none) (hroom : A0.depth < recursionLimit) (hgen : ∀ h : Heap, h.get? a = some go → h.IsGen a g)
    (hR : ∀ σ H b s, Inv Y [(a, go)] σ H s → QF (.bl b) H → Re (.ok (.ret (.bool b))) s) : ∀ (n : Nat) (s : Shared) (gs : GenState), s.gens[g]? = some gs → (∃ σ H, Inv Y [(a, go)] σ H s) →
      gs.Goes (model Y.prog Y.w) A0.in1.in1 (fun n s₀ r s₁ => r = .ok .next ∧ PAll Y [(a, go)] false QF n s₀ s₁) (YAll Y [(a, go)] false QF) n (.send .none) (s.setGen g .running) →
      codeAny (model Y.prog Y.w) A0 (.builtin "any.loop" ⟨[.ref a], []⟩) Re s := by
  intro n
  induction n with
  | zero =>
    intro s gs hgs hI hgo
    refine codeAny_builtin F.entry_any_loop ?_
    rw [Around.under_plainId F.plain_any_loop _]
    show wpAny _ A0.in1 (pyNext (.ref a) >>= _) _ _ s
    refine wpAny_bind (pull_all (A0 := A0.in1) hh hroom hgen hgs hI hgo (fun σ H s' I q => ?_) (fun σ H s' I q => ?_) fun m gs' s' e _ _ _ => ?_)
    · exact wpAny_bind (wpAny_rule (wpAny_pure (hR σ H false s' I q)))
    · refine wpAny_bind (wpAny_holding (wpAny_truthy_bool ?_))
      refine wpAny_bind (wpAny_letGo ?_)
      exact wpAny_bind (wpAny_rule (wpAny_pure (hR σ H true s' I q)))
    · cases e
  | succ n ih =>
    intro s gs hgs hI hgo
    refine codeAny_builtin F.entry_any_loop ?_
    rw [Around.under_plainId F.plain_any_loop _]
    show wpAny _ A0.in1 (pyNext (.ref a) >>= _) _ _ s
    refine wpAny_bind (pull_all (A0 := A0.in1) hh hroom hgen hgs hI hgo (fun σ H s' I q => ?_) (fun σ H s' I q => ?_) fun m gs' s' e h1 h2 h3 => ?_)
    · exact wpAny_bind (wpAny_rule (wpAny_pure (hR σ H false s' I q)))
    · refine wpAny_bind (wpAny_holding (wpAny_truthy_bool ?_))
      refine wpAny_bind (wpAny_letGo ?_)
      exact wpAny_bind (wpAny_rule (wpAny_pure (hR σ H true s' I q)))
    · obtain rfl : n = m := Nat.succ.inj e
      refine wpAny_bind (wpAny_holding (wpAny_truthy_bool ?_))
      refine wpAny_bind (wpAny_letGo ?_)
      exact wpAny_pure ⟨plainId_quiet F.plain_any_loop _, ih s' gs' h1 h2 h3⟩
end
end My

set_option Elab.async false
set_option linter.all false
set_option maxRecDepth 100000
set_option maxHeartbeats 4000000
namespace My
open PySem PySem.Spec PyProof.Rows L2 GxR NdefX GenW
/-- all(e for x in ..): P the def's table of code objects; W by the turn and a measure -/
def tGen (al : Bool) (P : Addr) (wi : TI) (own : List (Str × Nat)) (te : TE) : TE := fun σ H Q => wi σ H fun J H1 => TabG H1 P ∧ ∀ H2, Tabbed P H1 H2 → ∃ W : Nat → Nat → Hp → Prop, (∃ m, W 0 m H2) ∧ TAll σ own te al J W Q
/-- the generator's scope is in order -/
def genOk (scope : Scope) (x : Str) : Bool := scope.kind == .function && !scope.isCoroutine && scope.names.all (fun y => y.2 != .cell) && scope.names.lookup (".0" : Str) == some NameKind.local && scope.names.lookup x == some NameKind.local
def freeOk (sc scope : Scope) : Bool := scope.names.all fun y => y.2 != .free || sc.names.lookup y.1 == some NameKind.cell || sc.names.lookup y.1 == some NameKind.free
theorem gens_of {env : Env} {scope : Scope} {x : Str} (h : genOk scope x = true) (hf : freeOk env.scope scope = true) (has : ∀ y, (env.kindOf y = some .cell ∨ env.kindOf y = some .free) → ∃ c, env.cells.lookup y = some c) : GenS env scope x := by
  unfold genOk at h
  simp only [Bool.and_eq_true, beq_iff_eq, Bool.not_eq_true', List.all_eq_true, bne_iff_ne] at h
  obtain ⟨⟨⟨⟨h1, h2⟩, h3⟩, h4⟩, h5⟩ := h
  refine ⟨h1, h2, h3, h4, h5, fun y hy e => ?_⟩
  unfold freeOk at hf
  have q := List.all_eq_true.mp hf y hy
  simp only [Bool.or_eq_true, bne_iff_ne, beq_iff_eq] at q
  refine has y.1 ?_
  rcases q with (q | q) | q
  · exact absurd e q
  · exact .inl q
  · exact .inr q
section
variable {X : Cx} {pins : List (Addr × Obj)} {σ : L2.St} {H : Hp} {s : Shared}
theorem gen_made {al : Bool} {c P : Addr} {elt iter : Expr} {x : Str} {px gpos : Pos} {scope : Scope} {wi : TI} {te : TE} {own : List (Str × Nat)} {k : Nat} {Q : VK} {Q' : Value → Shared → Prop}
    (hr : Room (k + 1) X.A) (hcalm : X.calm = true) (TB : TabB X.base X.mg c P) (hcode : X.env.code = .ref c) (S : GenS X.env scope x) (hc : Caps X scope own) (hnd : (gN x own).Nodup) (hi : PI X (.Name x px) iter wi)
    (he : ∀ (s : Shared) (H : Hp) (A : Around) (cl : List (Str × Addr)) (C : Addr) (code : Value) (bi : Addr) (fp : List Addr), Room k A → PE (gcx X s H A (gN x own) (genEnv scope cl C code bi X.env) fp) elt te)
    (hs : ∀ v, genFold iter X.env v = pure v) (I : Inv X pins σ H s) (h : tGen al P wi own te σ H Q)
    (hQ : ∀ (Y : Cx) (a g : Nat) (go : Obj) (n : Nat) (cs : Code) (s5 : Shared), Y.prog = X.prog → Y.w = X.w → (∀ h : Heap, h.get? a = some go → h.IsGen a g) → s5.gens[g]? = some (.fresh cs) → (∃ σ H, Inv Y [(a, go)] σ H s5) → s5.heap.IsGen a g →
      GenState.Goes (model X.prog X.w) X.A.in1.in1 (fun n s₀ r s₁ => r = .ok .next ∧ PAll Y [(a, go)] al Q n s₀ s₁) (YAll Y [(a, go)] al Q) n (.fresh cs) (.send .none) (s5.setGen g .running) →
      (∀ σ' H' s', Inv Y [(a, go)] σ' H' s' → Inv X pins σ H' s') → Q' (.ref a) s5) :
    wpAny (model X.prog X.w) X.A (eval (.GeneratorExp elt [⟨.Name x px, iter, [], 0⟩] scope gpos) X.env) Q' X.xe s := by
  refine wpAny_GeneratorExp_make S.co (closure_ok S.free) S.cell S.dot S.kind (by have := hr.dp; omega) ?_ hs
  refine thn (hi.run pins s σ H _ I h) fun xv s1 hx => thn hx fun itv s2 h2 => ?_
  obtain ⟨it, fp, tn, J, H2, e, I2, T, st2, f2, ⟨ps, hP, ht⟩, q⟩ := h2
  subst e
  refine ⟨I2.nolimit, ?_⟩
  have hPs : s2.heap.get? P = some { cls := .none, data := .fields ps } := I2.hok P _ hP
  have cd : PySem.W.CodeHd s2.heap c P := TB.code.keeps fun b u e => I2.bk b u e
  have nP : ∀ b ∈ fp, b ≠ P := fun b hb z => by
    have := (f2 b hb).1
    rw [z, hP] at this
    cases this
  have cont : ∀ (code : Value) (s3 : Shared) (H3 : Hp), Inv X pins σ H3 s3 → Tabbed P H2 H3 → (∀ b u, b ≠ P → s2.heap.get? b = some u → s3.heap.get? b = some u) →
      wpAny (model X.prog X.w) X.A (builtinsFor X.env.globals X.env.builtins) (fun bi s₄ =>
        ∀ h', h'.Ns s₄.heap.objs.size (fun y => if y = ".0" then some (.ref it) else none) → Heap.SameBut s₄.heap.objs.size (s₄.heap.push { cls := .type "frame", data := .dict #[] }) h' →
          Q' (.ref h'.objs.size) { s₄ with
            gens := s₄.gens.push (.fresh (.compStart (.GeneratorExp elt [⟨.Name x px, iter, [], 0⟩] scope gpos) 0 (.ref it) .none (genEnv scope (cloFrom X.env.cells scope.names []) s₄.heap.objs.size code bi X.env))),
            toks := s₄.toks + 1 + 1 + 1,
            heap := h'.push { cls := .type "generator", data := .fields #[.int s₄.gens.size 0, .str "<genexpr>" (s₄.toks + 1), .str (X.env.qual ++ "<genexpr>") (s₄.toks + 1 + 1)] } }) X.xe s3 := by
    intro code s3 H3 I3 hT kp3
    obtain ⟨bm, ob, e1, e2, e3, e4, e5, e6, e7, e8⟩ := TB.bm
    refine wpAny_builtinsFor (m := X.mg) (by rw [I3.ok.glob]; exact I3.mod.glob.keeps I3.bk) e1 e2 (I3.bk _ _ e5) e6 e7 e8 ?_
    intro h' hn' hs'
    have keep' : ∀ b o, s3.heap.get? b = some o → h'.get? b = some o := fun b o e => hs'.extBut b o (Nat.ne_of_lt (Heap.lt_size e)) (Heap.get?_push_of_some _ e)
    have hsz : h'.objs.size = s3.heap.objs.size + 1 := by rw [hs'.1, Heap.size_push]
    have ffp : ∀ b ∈ fp, FpOk X pins H3 b ∧ b < s3.heap.objs.size := fun b hb => by
      obtain ⟨o, e, _⟩ := T.obj _ _ st2 b hb
      exact ⟨⟨by rw [hT.2 b (nP b hb)]; exact (f2 b hb).1, (f2 b hb).2⟩, Heap.lt_size (kp3 b o (nP b hb) e)⟩
    have st3 : tn 0 s3.heap := T.keep _ _ _ st2 fun b hb o e => kp3 b o (nP b hb) e
    obtain ⟨W, ⟨m0, w0⟩, turn⟩ := q H3 hT
    generalize hgo : ({ cls := .type "generator", data := .fields #[.int s3.gens.size 0, .str "<genexpr>" (s3.toks + 1), .str (X.env.qual ++ "<genexpr>") (s3.toks + 1 + 1)] } : Obj) = go
    have kp5 : ∀ b o, s3.heap.get? b = some o → (h'.push go).get? b = some o := fun b o e => Heap.get?_push_of_some _ (keep' b o e)
    have hisg : ∀ h : Heap, h.get? h'.objs.size = some go → h.IsGen h'.objs.size s3.gens.size := fun h e => ⟨go, _, _, e, by rw [← hgo], by rw [← hgo], by rw [← hgo]⟩
    have hA : (X.A.in1.in1.over (.compLoop (.GeneratorExp elt [⟨.Name x px, iter, [], 0⟩] scope gpos) 0 (.ref it) .none (genEnv scope (cloFrom X.env.cells scope.names []) s3.heap.objs.size code builtinsNs X.env)) []).frames = some (genEnv scope (cloFrom X.env.cells scope.names []) s3.heap.objs.size code builtinsNs X.env :: X.stack) := by
      show pushEnvs [genEnv scope (cloFrom X.env.cells scope.names []) s3.heap.objs.size code builtinsNs X.env] (pushEnvs [] X.A.frames) = _
      rw [I3.ok.frames]
      rfl
    have hRm : Room k (X.A.in1.in1.over (.compLoop (.GeneratorExp elt [⟨.Name x px, iter, [], 0⟩] scope gpos) 0 (.ref it) .none (genEnv scope (cloFrom X.env.cells scope.names []) s3.heap.objs.size code builtinsNs X.env)) []) := by
      have d := hr.dp
      have u := hr.un
      refine ⟨hr.hd, ?_, ?_⟩
      · show X.A.depth + 0 + 1 + 3 * k + 5 < _
        omega
      · show X.A.units + 1 + 1 + 0 + 3 + 16 * k + 200 < _
        omega
    have I5 := gen_start (it := it) (a := h'.objs.size) (go := go) (fp := fp) (own := own) (A := X.A.in1.in1.over (.compLoop (.GeneratorExp elt [⟨.Name x px, iter, [], 0⟩] scope gpos) 0 (.ref it) .none (genEnv scope (cloFrom X.env.cells scope.names []) s3.heap.objs.size code builtinsNs X.env)) [])
      (gg := s3.gens.push (.fresh (.compStart (.GeneratorExp elt [⟨.Name x px, iter, [], 0⟩] scope gpos) 0 (.ref it) .none (genEnv scope (cloFrom X.env.cells scope.names []) s3.heap.objs.size code builtinsNs X.env)))) (tk := s3.toks + 1 + 1 + 1)
      I3 ffp S hc hr.hd hA rfl hn' kp5 hsz rfl (fun v z => by rw [← hgo] at z; cases z) (by rw [← hgo]; rfl) (I3.bare.push rfl)
    have haf : ∀ b ∈ fp, h'.objs.size ≠ b := fun b hb z => by
      have := (ffp b hb).2
      rw [← z, hsz] at this
      exact absurd this (Nat.not_lt.mpr (Nat.le_succ _))
    refine hQ (gcx X s3 H3 (X.A.in1.in1.over (.compLoop (.GeneratorExp elt [⟨.Name x px, iter, [], 0⟩] scope gpos) 0 (.ref it) .none (genEnv scope (cloFrom X.env.cells scope.names []) s3.heap.objs.size code builtinsNs X.env)) []) (gN x own) (genEnv scope (cloFrom X.env.cells scope.names []) s3.heap.objs.size code builtinsNs X.env) fp) h'.objs.size s3.gens.size go (m0 + 1) _ _ rfl rfl hisg (Array.getElem?_push_size ..) ⟨_, _, I5⟩ (hisg _ (Heap.get?_push_size _ (by rw [← hgo]; rfl))) ⟨rfl, ?_⟩ (fun σ' H' s' I6 => ?_)
    · have loop := seg_all (X := X) (A := X.A.in1.in1) (al := al) (W := W) (QF := Q) (elt := elt) (iter := iter) (x := x) (px := px) (gpos := gpos) (scope := scope) (cenv := genEnv scope (cloFrom X.env.cells scope.names []) s3.heap.objs.size code builtinsNs X.env)
        (s₁ := s3) (H₁ := H3) (own := own) (fp := fp) (it := it) (a := h'.objs.size) (go := go) (J := J) (tn := tn) (σ := σ) (te := te) rfl S.loc S.co hnd haf T (he _ _ _ _ _ _ _ _ hRm) turn m0 (m0 + 1) 0
      have st5 : tn 0 (h'.push go) := T.keep _ _ _ st3 fun b _ o e => kp5 b o e
      have nf5 : ∀ b ∈ fp, H3 b = none := fun b hb => (ffp b hb).1.1
      generalize hs5 : ({ s3 with gens := s3.gens.push (.fresh (.compStart (.GeneratorExp elt [⟨.Name x px, iter, [], 0⟩] scope gpos) 0 (.ref it) .none (genEnv scope (cloFrom X.env.cells scope.names []) s3.heap.objs.size code builtinsNs X.env))), toks := s3.toks + 1 + 1 + 1, heap := h'.push go } : Shared) = s5 at I5 ⊢
      have h5 : s5.heap = h'.push go := by rw [← hs5]
      have I5' := inv_same (s' := s5.setGen s3.gens.size .running) I5 rfl rfl (allBare_setGen I5.bare rfl)
      have lp := loop (s5.setGen s3.gens.size .running) (s5.setGen s3.gens.size .running) H3 none (Nat.lt_succ_self _) I5' (by show tn 0 s5.heap; rw [h5]; exact st5) nf5 w0
      show Seg _ _ _ _ _ _ _ ((compStart (.GeneratorExp elt [⟨.Name x px, iter, [], 0⟩] scope gpos) 0 (.ref it) .none (genEnv scope (cloFrom X.env.cells scope.names []) s3.heap.objs.size code builtinsNs X.env)).onRaise (leaving (genEnv scope (cloFrom X.env.cells scope.names []) s3.heap.objs.size code builtinsNs X.env))) [] _
      unfold compStart
      rw [Sem.onRaise_eq_wrap]
      show Seg _ _ _ _ _ _ _ ((ask >>= _).wrap _ _ _ _) [] _
      refine seg_bind_wrap (wpAny_askSetting ?_)
      have slf : tn 0 (s5.setGen s3.gens.size .running).heap := by
        show tn 0 s5.heap
        rw [h5]
        exact st5
      split
      · exact seg_again rfl lp
      · first
          | exact seg_bind_wrap (wpAny_rule (seg_bind_wrap (wpAny_standAt (seg_bind_wrap (T.self _ 0 _ _ _ slf (seg_again rfl lp))))))
          | (refine seg_bind_wrap (wpAny_rule ?_); show Seg _ _ _ _ _ _ _ ((standAt iter.pos >>= _).wrap _ _ _ _) [] _; exact seg_bind_wrap (wpAny_standAt (seg_bind_wrap (T.self _ 0 _ _ _ slf (seg_again rfl lp)))))
    · exact I3.call' (ch := fp) I6.os I6.base I6.hok I6.bare fun b hb => ⟨(ffp b hb).1.2.2.2.1, (ffp b hb).1.2.1, (ffp b hb).1.2.2.2.2.1, (ffp b hb).1.2.2.2.2.2⟩
  cases hf : codeAmong gpos ps.toList with
  | none =>
    refine wpAny_genexprCodeX hcode (cd.code hPs ht) (cd.tab hPs) hf fun c' h3 tk hx hge hlt hco' _ htab' _ => ?_
    obtain ⟨o1, vs, f1, tf, fl, tg, inF, tx, tt, op, _, _, _, _, _, _, _, _, _, htr, _⟩ := hco'
    have I3 := inv_tab (g' := s2.gens) (d' := s2.drawn) (t' := tk) I2 hP (fun b o hb e => hx b o hb e) htab'.2 I2.bare
    exact cont _ _ _ I3 ⟨⟨_, upd_same, htr⟩, fun b hb => upd_ne hb⟩ fun b u hb e => hx b u hb e
  | some cv =>
    refine wpAny_genexprCode_hit hcode (cd.code hPs ht) hf ?_
    exact cont cv s2 H2 I2 ⟨⟨ps, hP, ht⟩, fun _ _ => rfl⟩ fun _ _ _ e => e
theorem pe_allG {c P : Addr} {elt iter : Expr} {x : Str} {px p pos gpos : Pos} {scope : Scope} {wi : TI} {te : TE} (own : List (Str × Nat)) {k : Nat}
    (hr : Room (k + 1) X.A) (hg : Gl X "all") (hm : X.mg "all" = none) (TB : TabB X.base X.mg c P) (hcode : X.env.code = .ref c) (gk : genOk scope x = true) (fk : freeOk X.env.scope scope = true) (hc : Caps X scope own) (hnd : (gN x own).Nodup) (hcalm : X.calm = true) (hi : PI X (.Name x px) iter wi)
    (he : ∀ (s : Shared) (H : Hp) (A : Around) (cl : List (Str × Addr)) (C : Addr) (code : Value) (bi : Addr) (fp : List Addr), Room k A → PE (gcx X s H A (gN x own) (genEnv scope cl C code bi X.env) fp) elt te)
    (hs : ∀ v, genFold iter X.env v = pure v := by intro _; rfl)
    (hE : starEach [.GeneratorExp elt [⟨.Name x px, iter, [], 0⟩] scope gpos] X.env = (false, eval (.GeneratorExp elt [⟨.Name x px, iter, [], 0⟩] scope gpos) X.env) :: starEach [] X.env := by rfl) :
    PE X (.Call (.Name "all" p) [.GeneratorExp elt [⟨.Name x px, iter, [], 0⟩] scope gpos] [] pos) (tGen true P wi own te) := by
  refine ⟨fun pins s σ H Q I h => ?_⟩
  refine wpAny_Call_Name_kw (ld_blt I hg hm (by decide +kernel : bootBuiltins "all" = some (.builtin "all")) ?_)
  refine PyProof.Rows.callWith_builtin1 ?_ hE (by rfl)
  rw [hE]
  show wpAny _ _ (spliced ((false, eval (.GeneratorExp elt [⟨.Name x px, iter, [], 0⟩] scope gpos) X.env) :: backTo pos (starEach [] X.env))) _ _ s
  refine Calls.spliced_cons (gen_made hr hcalm TB hcode (gens_of gk fk I.ok.has) hc hnd hi he hs I h fun Y a g go n cs s5 hp hw hgen hgs hI hisg hgo hback => ?_)
  refine Calls.spliced_nil ?_
  refine call_function_tree F.kind_all F.plain_all F.entry_all (F.args_all1 _) ?_
  unfold Builtin.«all»
  refine wpAny_bind (m := oneArg "all" _) (wpAny_pure ?_)
  refine wpAny_bind (wpAny_pyIter_gen hisg ?_)
  rw [← hp, ← hw] at hgo ⊢
  exact wpAny_pure ⟨plainId_quiet F.plain_all_loop _, all_turns (A0 := X.A) (QF := Q) hr.hd (by have := hr.dp; omega) hgen (fun σ' H' b s6 I6 q => ⟨.bl b, H', hback _ _ _ I6, rfl, q⟩) n s5 _ hgs hI hgo⟩
theorem pe_anyG {c P : Addr} {elt iter : Expr} {x : Str} {px p pos gpos : Pos} {scope : Scope} {wi : TI} {te : TE} (own : List (Str × Nat)) {k : Nat}
    (hr : Room (k + 1) X.A) (hg : Gl X "any") (hm : X.mg "any" = none) (TB : TabB X.base X.mg c P) (hcode : X.env.code = .ref c) (gk : genOk scope x = true) (fk : freeOk X.env.scope scope = true) (hc : Caps X scope own) (hnd : (gN x own).Nodup) (hcalm : X.calm = true) (hi : PI X (.Name x px) iter wi)
    (he : ∀ (s : Shared) (H : Hp) (A : Around) (cl : List (Str × Addr)) (C : Addr) (code : Value) (bi : Addr) (fp : List Addr), Room k A → PE (gcx X s H A (gN x own) (genEnv scope cl C code bi X.env) fp) elt te)
    (hs : ∀ v, genFold iter X.env v = pure v := by intro _; rfl)
    (hE : starEach [.GeneratorExp elt [⟨.Name x px, iter, [], 0⟩] scope gpos] X.env = (false, eval (.GeneratorExp elt [⟨.Name x px, iter, [], 0⟩] scope gpos) X.env) :: starEach [] X.env := by rfl) :
    PE X (.Call (.Name "any" p) [.GeneratorExp elt [⟨.Name x px, iter, [], 0⟩] scope gpos] [] pos) (tGen false P wi own te) := by
  refine ⟨fun pins s σ H Q I h => ?_⟩
  refine wpAny_Call_Name_kw (ld_blt I hg hm (by decide +kernel : bootBuiltins "any" = some (.builtin "any")) ?_)
  refine PyProof.Rows.callWith_builtin1 ?_ hE (by rfl)
  rw [hE]
  show wpAny _ _ (spliced ((false, eval (.GeneratorExp elt [⟨.Name x px, iter, [], 0⟩] scope gpos) X.env) :: backTo pos (starEach [] X.env))) _ _ s
  refine Calls.spliced_cons (gen_made hr hcalm TB hcode (gens_of gk fk I.ok.has) hc hnd hi he hs I h fun Y a g go n cs s5 hp hw hgen hgs hI hisg hgo hback => ?_)
  refine Calls.spliced_nil ?_
  refine call_function_tree F.kind_any F.plain_any F.entry_any (F.args_any1 _) ?_
  unfold Builtin.«any»
  refine wpAny_bind (m := oneArg "any" _) (wpAny_pure ?_)
  refine wpAny_bind (wpAny_pyIter_gen hisg ?_)
  rw [← hp, ← hw] at hgo ⊢
  exact wpAny_pure ⟨plainId_quiet F.plain_any_loop _, any_turns (A0 := X.A) (QF := Q) hr.hd (by have := hr.dp; omega) hgen (fun σ' H' b s6 I6 q => ⟨.bl b, H', hback _ _ _ I6, rfl, q⟩) n s5 _ hgs hI hgo⟩
end
/-! ### a def whose code object is known -/
structure FunC (K : PySem.W.Frag) (x qual : Str) (st : Stmt) (f : Addr) (fd : FuncData) (c : Addr) : Prop where
  ex : ∃ (oc : Value) (od : Option Addr) (kV doc pm : Value) (an : Option Addr) (ct : Value) (osl : Array (Option Value)),
    fd = PySem.W.fnOf x qual (defArgs st) (defBody st) (defScope st) .none kV doc pm an (.ref c) ct ∧ K.lookup f = some ⟨oc, od, .func fd, osl⟩ ∧ PySem.W.codeIn K (.ref c) qual = true
  kp : PySem.W.keepIn K (.ref f) = true
section
variable {P : Program} {w : World} {K : PySem.W.Frag} {mg : Str → Option Value} {base : Heap}
theorem FunC.fun {x qual : Str} {st : Stmt} {f : Addr} {fd : FuncData} {c : Addr} (F : FunC K x qual st f fd c) : Fun K x qual st f fd :=
  ⟨let ⟨oc, od, kV, doc, pm, an, ct, osl, h⟩ := F.ex; ⟨oc, od, kV, doc, pm, an, .ref c, ct, osl, h⟩, F.kp⟩
theorem FunC.ok {x qual : Str} {st : Stmt} {f : Addr} {fd : FuncData} {c : Addr} {N ps : List Str} {k : Nat} {sp : Sp} (F : FunC K x qual st f fd c) (S : FnScope N ps (defScope st)) (len : ∀ vs H Q E, sp vs H Q E → vs.length = ps.length)
    (hbody : ∀ (A : Around) (outer : List Env) (s : Shared) (H : Hp) (vs : List V) (Q : VK) (E : XK), Room k (A.deeper (envOfC qual (defScope st) s.heap.objs.size f (.ref c))) → sp vs H Q E →
      ∃ t, PSs (cxOf CX0 P w K mg base N qual (defScope st) f (.ref c) A outer s H E).nox (defBody st) t ∧ t { nx := fun _ H' => Q .non H', rt := Q } (start N vs) H) : FnOk P w K mg base CX0 (k + 1) f fd ps sp := by
  obtain ⟨oc, od, kV, doc, pm, an, ct, osl, e, lk, hcd⟩ := F.ex
  cases e
  refine fn_of lk hcd S len fun A outer s H vs Q E hr hsp => ?_
  obtain ⟨t, h, q⟩ := hbody A outer s H vs Q E hr hsp
  exact ⟨t, h.nox, q⟩
theorem func_mk {x qual : Str} {st : Stmt} {f c : Addr} {oc : Value} {od an : Option Addr} {osl : Array (Option Value)} {kV doc pm ct : Value} (l : K.lookup f = some ⟨oc, od, .func (PySem.W.fnOf x qual (defArgs st) (defBody st) (defScope st) .none kV doc pm an (.ref c) ct), osl⟩)
    (h : PySem.W.codeIn K (.ref c) qual = true) (k : PySem.W.keepIn K (.ref f) = true) : FunC K x qual st f (PySem.W.fnOf x qual (defArgs st) (defBody st) (defScope st) .none kV doc pm an (.ref c) ct) c := ⟨⟨oc, od, kV, doc, pm, an, ct, osl, rfl, l, h⟩, k⟩
end
end My

set_option Elab.async false
set_option linter.all false
set_option maxRecDepth 100000
/-! data of ints, texts, truth values, None and tuples; heaps that keep all but some places -/
namespace My
open PySem PySem.Spec PyProof.Rows L2
/-! ### what is kept -/
structure KT (S : List Addr) (H H' : Hp) : Prop where
  kp : ∀ b o, b ∉ S → H b = some o → H' b = some o
  tp : ∀ b xs, H b = some (.tup xs) → H' b = some (.tup xs)
  fz : ∀ b o u, H b = some (.frz o u) → H' b = some (.frz o u)
  th : ∀ b o, H b = some o → ∃ o', H' b = some o'
  hd : ∀ b c t, H b = some (.lst (.ref c :: t)) → ∃ t', H' b = some (.lst (.ref c :: t'))
section
variable {S S' : List Addr} {H H1 H2 H' : Hp} {K : PySem.W.Frag}
theorem KT.refl (S : List Addr) (H : Hp) : KT S H H := ⟨fun _ _ _ e => e, fun _ _ e => e, fun _ _ _ e => e, fun _ o e => ⟨o, e⟩, fun _ _ t e => ⟨t, e⟩⟩
theorem KT.trans (a : KT S H H1) (b : KT S H1 H2) : KT S H H2 :=
  ⟨fun c o n e => b.kp c o n (a.kp c o n e), fun c xs e => b.tp c xs (a.tp c xs e), fun c o u e => b.fz c o u (a.fz c o u e), fun c o e => let ⟨o', e'⟩ := a.th c o e; b.th c o' e', fun c d t e => let ⟨t', e'⟩ := a.hd c d t e; b.hd c d t' e'⟩
theorem KT.mono (a : KT S H H1) (h : ∀ b ∈ S, b ∈ S') : KT S' H H1 := ⟨fun b o n e => a.kp b o (fun z => n (h b z)) e, a.tp, a.fz, a.th, a.hd⟩
theorem KT.new (S : List Addr) {p : Addr} {o : HO} (h : H p = none) : KT S H (upd H p o) :=
  ⟨fun b x _ e => by rw [upd_ne (ne_of_none e h)]; exact e, fun b x e => by rw [upd_ne (ne_of_none e h)]; exact e, fun b x u e => by rw [upd_ne (ne_of_none e h)]; exact e, fun b x e => ⟨x, by rw [upd_ne (ne_of_none e h)]; exact e⟩, fun b c t e => ⟨t, by rw [upd_ne (ne_of_none e h)]; exact e⟩⟩
theorem KT.of_same (a : Same H H1) : KT S H H1 := ⟨fun b o _ e => a b o e, fun b xs e => a b _ e, fun b o u e => a b _ e, fun b o e => ⟨o, a b o e⟩, fun b c t e => ⟨t, a b _ e⟩⟩
/-- a place changes that is no tuple and not locked -/
theorem KT.put {p : Addr} {u o : HO} (hp : p ∈ S) (h : H p = some u) (h1 : ∀ xs, u ≠ .tup xs) (h2 : ∀ o v, u ≠ .frz o v) (h3 : ∀ xs, u ≠ .lst xs) : KT S H (upd H p o) :=
  ⟨fun b x n e => by rw [upd_ne (fun z => n (by rw [z]; exact hp))]; exact e, fun b x e => by
    rw [upd_ne (fun z => by rw [z, h] at e; exact h1 x (Option.some.inj e))]; exact e, fun b x v e => by
    rw [upd_ne (fun z => by rw [z, h] at e; exact h2 x v (Option.some.inj e))]; exact e, fun b x e => by
    by_cases z : b = p
    · exact ⟨o, by rw [z, upd_same]⟩
    · exact ⟨x, by rw [upd_ne z]; exact e⟩, fun b c t e => ⟨t, by rw [upd_ne (fun z => by rw [z, h] at e; exact h3 _ (Option.some.inj e))]; exact e⟩⟩
/-- a place changes that did not stand at the start -/
theorem KT.late {p : Addr} {o : HO} (a : KT S H H1) (h : H p = none) : KT S H (upd H1 p o) :=
  ⟨fun b x n e => by rw [upd_ne (ne_of_none e h)]; exact a.kp b x n e, fun b x e => by rw [upd_ne (ne_of_none e h)]; exact a.tp b x e, fun b x u e => by rw [upd_ne (ne_of_none e h)]; exact a.fz b x u e,
    fun b x e => by rw [upd_ne (ne_of_none e h)]; exact a.th b x e, fun b c t e => by rw [upd_ne (ne_of_none e h)]; exact a.hd b c t e⟩
theorem KT.free (a : KT S H H1) {p : Addr} (h : H1 p = none) : H p = none := by
  cases q : H p with
  | none => rfl
  | some o =>
    obtain ⟨o', e⟩ := a.th p o q
    rw [h] at e
    cases e
theorem KT.tab {P : Addr} (h : GxR.Tabbed P H H1) (t : GxR.TabG H P) (hP : P ∈ S) : KT S H H1 := by
  obtain ⟨ps, e, _⟩ := t
  obtain ⟨⟨ps', e', _⟩, k⟩ := h
  have ne : ∀ b o, H b = some o → (∀ q, o ≠ .tbl q) → b ≠ P := fun b o q n z => by rw [z, e] at q; exact n ps (Option.some.inj q).symm
  refine ⟨fun b o n q => ?_, fun b xs q => ?_, fun b o u q => ?_, fun b o q => ?_, fun b c t q => ⟨t, by rw [k b (ne b _ q (fun _ z => by cases z))]; exact q⟩⟩
  · rw [k b (fun z => n (by rw [z]; exact hP))]; exact q
  · rw [k b (ne b _ q (fun _ z => by cases z))]; exact q
  · rw [k b (ne b _ q (fun _ z => by cases z))]; exact q
  · by_cases z : b = P
    · exact ⟨_, by rw [z]; exact e'⟩
    · exact ⟨o, by rw [k b z]; exact q⟩
theorem KT.sqT (a : KT S H H1) {p : Addr} {xs : List V} (h : SqT K H p xs) : SqT K H1 p xs := by
  rcases h with (h | ⟨o, h⟩) | h
  · exact .inl (.inl (a.tp _ _ h))
  · exact .inl (.inr ⟨o, a.fz _ _ _ h⟩)
  · exact .inr h
theorem KT.sqL (a : KT S H H1) {p : Addr} {xs : List V} (n : p ∉ S) (h : SqL K H p xs) : SqL K H1 p xs := by
  rcases h with (h | ⟨o, h⟩) | h
  · exact .inl (.inl (a.kp _ _ n h))
  · exact .inl (.inr ⟨o, a.fz _ _ _ h⟩)
  · exact .inr h
end
/-! ### data -/
mutual
inductive Rp (K : PySem.W.Frag) (H : Hp) : V → PyData → Prop
  | non : Rp K H .non .none
  | bl (b : Bool) : Rp K H (.bl b) (.bool b)
  | int (i : Int) : Rp K H (.int i) (.int i)
  | str (x : Str) : Rp K H (.str x) (.str x)
  | tup {a : Addr} {xs : List V} {ds : List PyData} : SqT K H a xs → RpA K H xs ds → Rp K H (.ref a) (.tuple ds)
inductive RpA (K : PySem.W.Frag) (H : Hp) : List V → List PyData → Prop
  | nil : RpA K H [] []
  | cons {v : V} {vs : List V} {d : PyData} {ds : List PyData} : Rp K H v d → RpA K H vs ds → RpA K H (v :: vs) (d :: ds)
end
section
variable {K : PySem.W.Frag} {S : List Addr} {H H' : Hp}
mutual
theorem Rp.keep (k : KT S H H') : ∀ {d : PyData} {v : V}, Rp K H v d → Rp K H' v d
  | .none, _, h => by cases h; exact .non
  | .bool b, _, h => by cases h; exact .bl b
  | .int i, _, h => by cases h; exact .int i
  | .str x, _, h => by cases h; exact .str x
  | .list ds, _, h => by cases h
  | .dict ds, _, h => by cases h
  | .tuple ds, _, h => by
    cases h with
    | tup hs ha => exact .tup (k.sqT hs) (RpA.keep k ha)
theorem RpA.keep (k : KT S H H') : ∀ {ds : List PyData} {vs : List V}, RpA K H vs ds → RpA K H' vs ds
  | [], _, h => by cases h; exact .nil
  | d :: ds, _, h => by
    cases h with
    | cons h1 h2 => exact .cons (Rp.keep k h1) (RpA.keep k h2)
end
mutual
theorem Rp.dp : ∀ {d : PyData} {v : V}, Rp K H v d → Dp K H v d
  | .none, _, h => by cases h; exact .non
  | .bool b, _, h => by cases h; exact .bl b
  | .int i, _, h => by cases h; exact .int i
  | .str x, _, h => by cases h; exact .str x
  | .list ds, _, h => by cases h
  | .dict ds, _, h => by cases h
  | .tuple ds, _, h => by
    cases h with
    | tup hs ha => exact .tup hs (RpA.dp ha)
theorem RpA.dp : ∀ {ds : List PyData} {vs : List V}, RpA K H vs ds → DpAll K H vs ds
  | [], _, h => by cases h; exact .nil
  | d :: ds, _, h => by
    cases h with
    | cons h1 h2 => exact .cons (Rp.dp h1) (RpA.dp h2)
end
theorem RpA.length : ∀ {ds : List PyData} {vs : List V}, RpA K H vs ds → vs.length = ds.length
  | [], _, h => by cases h; rfl
  | d :: ds, _, h => by
    cases h with
    | cons h1 h2 => rw [List.length_cons, List.length_cons, RpA.length h2]
theorem RpA.get : ∀ {ds : List PyData} {vs : List V} {i : Nat} {v : V}, RpA K H vs ds → vs[i]? = some v → ∃ d, ds[i]? = some d ∧ Rp K H v d
  | [], _, i, v, h, e => by cases h; simp at e
  | d :: ds, _, i, v, h, e => by
    cases h with
    | cons h1 h2 =>
      cases i with
      | zero => simp at e; subst e; exact ⟨d, rfl, h1⟩
      | succ i =>
        obtain ⟨d', e', r⟩ := RpA.get h2 (i := i) (v := v) (by simpa using e)
        exact ⟨d', by simpa using e', r⟩
theorem RpA.app : ∀ {ds es : List PyData} {vs us : List V}, RpA K H vs ds → RpA K H us es → RpA K H (vs ++ us) (ds ++ es)
  | [], _, _, _, h, g => by cases h; exact g
  | d :: ds, _, _, _, h, g => by
    cases h with
    | cons h1 h2 => exact .cons h1 (RpA.app h2 g)
theorem RpA.snoc {ds : List PyData} {vs : List V} {v : V} {d : PyData} (h : RpA K H vs ds) (g : Rp K H v d) : RpA K H (vs ++ [v]) (ds ++ [d]) := h.app (.cons g .nil)
theorem RpA.take : ∀ {ds : List PyData} {vs : List V} (n : Nat), RpA K H vs ds → RpA K H (vs.take n) (ds.take n)
  | _, _, 0, _ => by simp only [List.take_zero]; exact .nil
  | [], _, n + 1, h => by cases h; simp only [List.take_nil]; exact .nil
  | d :: ds, _, n + 1, h => by
    cases h with
    | cons h1 h2 => rw [List.take_succ_cons, List.take_succ_cons]; exact .cons h1 (RpA.take n h2)
theorem RpA.drop : ∀ {ds : List PyData} {vs : List V} (n : Nat), RpA K H vs ds → RpA K H (vs.drop n) (ds.drop n)
  | _, _, 0, h => h
  | [], _, n + 1, h => by cases h; simp only [List.drop_nil]; exact .nil
  | d :: ds, _, n + 1, h => by
    cases h with
    | cons h1 h2 => rw [List.drop_succ_cons, List.drop_succ_cons]; exact RpA.drop n h2
/-- a tuple just made -/
theorem Rp.made {p : Addr} {vs : List V} {ds : List PyData} (hp : H p = none) (h : RpA K H vs ds) : Rp K (upd H p (.tup vs)) (.ref p) (.tuple ds) := .tup (SqT.of upd_same) (h.keep (KT.new [] hp))
theorem Rp.inv {v : V} {ds : List PyData} (h : Rp K H v (.tuple ds)) : ∃ a xs, v = .ref a ∧ SqT K H a xs ∧ RpA K H xs ds := by
  cases h with
  | tup hs ha => exact ⟨_, _, rfl, hs, ha⟩
theorem RpA.inv {vs : List V} {d : PyData} {ds : List PyData} (h : RpA K H vs (d :: ds)) : ∃ v r, vs = v :: r ∧ Rp K H v d ∧ RpA K H r ds := by
  cases h with
  | cons h1 h2 => exact ⟨_, _, rfl, h1, h2⟩
theorem RpA.inv0 {vs : List V} (h : RpA K H vs []) : vs = [] := by cases h; rfl
theorem Rp.sInv {v : V} {x : Str} (h : Rp K H v (.str x)) : v = .str x := by cases h; rfl
theorem Rp.iInv {v : V} {x : Int} (h : Rp K H v (.int x)) : v = .int x := by cases h; rfl
end
end My

set_option Elab.async false
set_option linter.all false
set_option maxRecDepth 100000
set_option maxHeartbeats 4000000
namespace My
open PySem PySem.Spec PyProof.Rows L2
theorem tuple_mul1 (l : Addr) (items : Array Value) (n : Nat) (dd : Option Addr) (sl : Array (Option Value)) (x : Int) (u : Tok) (c0 : (decide (x < -(2 ^ 63)) || decide (x ≥ 2 ^ 63)) = false) (c1 : (items.isEmpty || x == 1) = true) :
    Meets (Builtin.«tuple.__mul__» ⟨[.ref l, .int x u], []⟩) (fun _ R s => s.heap.get? l = some { cls := .type "tuple", dict := dd, data := .seq items n, slots := sl } ∧
      R (.ok (.ret (Value.ref l))) s) :=
  .of_wp fun prog w A R s h => by
    obtain ⟨hp, g, d, tk, os⟩ := s
    obtain ⟨hl, h⟩ := h
    have f1 := AutoSeq1.idx_int
    wp_walk using wpAny_loadPart' hl
    repeat (first
      | (refine wpAny_ite_false (decide_eq_false (by rw [c0]; exact Bool.false_ne_true)) ?_; wp_walk using wpAny_loadPart' hl)
      | (refine wpAny_ite_true (decide_eq_true c1) ?_; wp_walk using wpAny_loadPart' hl))
    exact ⟨_, rfl, h⟩
/-- (x,) * k, k from 1 on: the same tuple for 1, else a new one -/
def rRepZ (K : PySem.W.Frag) : R2 := fun x y H Q => ∃ l k xs, x = .ref l ∧ y = .int k ∧ SqT K H l xs ∧ xs ≠ [] ∧ 1 ≤ k ∧ k ≤ 1000 ∧ xs.length ≤ 1000 ∧ (k = 1 → Q (.ref l) H) ∧ (2 ≤ k → ∀ p, H p = none → Q (.ref p) (upd H p (.tup (List.replicate k.toNat xs).flatten)))
section
variable {X : Cx} {K : PySem.W.Frag}
theorem op_repZ (h : X.K = K) : OpR X (binaryOp .Mult) (rRepZ K) := by
  subst h
  intro pins s σ H x y v u Q I rx ry h
  obtain ⟨l, k, xs, rfl, rfl, hT, hne, h1, h2, hz, q1, q2⟩ := h
  by_cases hk : k = 1
  · subst hk
    have q := q1 rfl
    cases rx
    obtain ⟨t, rfl⟩ := ry
    obtain ⟨its, r, ⟨⟨cls, dd, data, sl⟩, ho, hc, n, hd⟩, hs⟩ := I.tuple hT
    simp only at hc hd
    subst hc hd
    refine wpAny_binaryOp_repeat_ref (T := "tuple") (U := "int") (by decide) ⟨_, ho, rfl⟩ (fun s' => typeIs_int s' 1 t) noFill_tuple_mul F.fills_int_mul F.slot_int_rmul repeat_tuple F.slot_int_index.lookup
      (call_meets F.slot_int_rmul (typeIs_int s 1 t) F.entry_int_rmul (F.args_int_rmul_2 _ _) (int_rmul_tuple 1 t l its.toArray n dd sl)
        ⟨ho, rfl, ⟨_, ho, rfl⟩, call_meets F.slot_tuple_mul ⟨_, ho, rfl⟩ F.entry_tuple_mul (F.args_tuple_mul_2 _ _) (tuple_mul1 l its.toArray n dd sl 1 t (by decide) (by simp)) ⟨ho, ?_⟩⟩)
    exact ⟨.ref l, H, I, rfl, q⟩
  · exact op_repT pins s σ H _ _ v u Q I rx ry ⟨l, k, xs, rfl, rfl, hT, hne, by omega, h2, hz, q2 (by omega)⟩
end
/-- the truth of the name in the i-th slot -/
theorem pt_truthK {X : Cx} {K : PySem.W.Frag} (h : X.K = K) (i : Nat) {x : Str} {pos : Pos} (hN : X.N[i]? = some x := by rfl) (hv : Vis X.env.scope x := by first | exact Or.inl rfl | exact Or.inr (Or.inl rfl) | exact Or.inr (Or.inr rfl)) (hd : (x == ("__debug__" : Str)) = false := by decide)
    (hcd : (x == ("__classdict__" : Str)) = false := by decide) : PT X (.Name x pos) (fun σ H Q => tVar i σ H fun x H' => ∃ k, TruV K x H' k ∧ Q k H') := by
  subst h
  exact pt_truth (pv i hN hv hd hcd) (by intro _; rfl)
end My

set_option Elab.async false
set_option linter.all false
set_option maxRecDepth 100000
/-! the end of a row whose defs hold generator expressions -/
namespace My
open PySem PySem.Spec PyProof.Rows L2
/-- what the head tells of the defs' code objects: their tables are empty -/
def RecTabs (q : Program) (mg : Str → Option Value) (h : Heap) : Prop := ∀ d ∈ recsOf q, ∃ a o fd c P, mg d.name = some (.ref a) ∧ h.get? a = some o ∧ o.data = .func fd ∧ fd.code = .ref c ∧ h.IsCode c P #[] ∧ h.TableAt c P #[]
theorem walk_ofG {l : PySem.W.OpenLaw} {n k : Nat} {q : Program} {loose : List Str} {XP : (Str → Option Value) → Heap → Prop} {YP : World → Heap → Prop} {d : DefRec} {K : Params → PySem.W.Frag} {x : Str}
    (hn : l.most = some n) (hn2 : n ≤ sizeLine) (hdf : d.params.defaults = []) (hr : Room k callerA) (hY : ∀ (w : World) (h : Heap), YP w h → (K w.params).In h)
    (F : ∀ (w : World) (mg : Str → Option Value) (fa : Addr) (h : Heap), (K w.params).In h → h.Ns mainGlobals mg → mg d.name = some (.ref fa) → RecTabs q mg h → LamX.LawAtS l w (K w.params) CX0 k n x mg fa h) :
    PySem.W.WalkO q loose XP YP l.row.toRowW d [] (fun f vs => PySem.call f vs) := by
  refine Att.attach_callB hn hdf fun w s₀ s₁ mg mb fa o pm cd doc a vs ns G Y ho hd hcd hmg hobj hints hlen hbits hg => ?_
  have KX := hY w _ Y
  obtain ⟨fd, cs, sp, hT, nT, C, hb, hsp, hF⟩ := F w mg fa _ KX G.T.g hmg G.T.tab
  exact LamX.law_callTs KX G.T.g G.T.b G.T.builtins G.T.nolimit hg hT nT C G.T.bmain hobj hints (Nat.le_trans hlen hn2) hr hF hb (fun H hH hS => hsp H a ns hlen hbits hH hS) fun H e s' h => h
/-- the table of the code object at c -/
def codeTab (K : PySem.W.Frag) (c : Addr) : Option Addr := match K.lookup c with
  | some ⟨_, _, .fields vs, _⟩ => (match (vs[11]? : Option Value) with | some (.ref P) => some P | _ => none)
  | _ => none
/-- the table of the def that bears this name stands empty -/
theorem tab_of {q : Program} {mg : Str → Option Value} {h : Heap} {K : PySem.W.Frag} {nm : Str} {f c P : Addr} {oc : Value} {od : Option Addr} {fd : FuncData} {osl : Array (Option Value)} (T : RecTabs q mg h) (X : K.In h)
    (hrec : ((recsOf q).any fun e => e.name == nm) = true) (hm : mg nm = some (.ref f)) (lk : K.lookup f = some ⟨oc, od, .func fd, osl⟩) (hc : fd.code = .ref c) (hd : codeTab K c = some P) : h.get? P = some { cls := .none, data := .fields #[] } := by
  obtain ⟨d, hd1, e⟩ := List.any_eq_true.mp hrec
  have e : d.name = nm := beq_iff_eq.mp e
  obtain ⟨a, o, fd', c', P', h1, h2, h3, h4, h5, h6⟩ := T d hd1
  rw [e, hm] at h1
  cases h1
  rw [X _ _ lk] at h2
  cases h2
  cases h3
  rw [hc] at h4
  cases h4
  obtain ⟨⟨oc', vc, e1, _, e3, e4⟩, hP⟩ := h6
  unfold codeTab at hd
  split at hd
  · rename_i vs _ hk
    rw [X _ _ hk] at e1
    cases e1
    cases e3
    rw [e4] at hd
    cases hd
    exact hP
  · cases hd
/-- the code object's fields are in order -/
def hdOk (vs : Array Value) (c P : Addr) : Bool := (match (vs[11]? : Option Value) with | some (.ref P') => P' == P | _ => false) &&
  (match vs.getD 18 .none with | .str _ _ => true | _ => false) && (match vs.getD 7 .none with | .int _ _ => true | _ => false) &&
  (match vs.getD 9 .none with | .bool _ => true | _ => false) && (match vs.getD 10 .none with | .int _ _ => true | _ => false) && c != P
theorem codeHd_mk {K : PySem.W.Frag} {c P : Addr} {vs : Array Value} {dd : Option Addr} {sl : Array (Option Value)} (lk : K.lookup c = some ⟨.type "code", dd, .fields vs, sl⟩) (_ : vs[11]? = some (.ref P)) (h : hdOk vs c P = true) : PySem.W.codeHdIn K c P = true := by
  unfold PySem.W.codeHdIn
  rw [lk]
  exact h
theorem codeTab_mk {K : PySem.W.Frag} {c P : Addr} {vs : Array Value} {dd : Option Addr} {sl : Array (Option Value)} (lk : K.lookup c = some ⟨.type "code", dd, .fields vs, sl⟩) (h : vs[11]? = some (.ref P)) : codeTab K c = some P := by
  unfold codeTab
  rw [lk]
  show (match (vs[11]? : Option Value) with | some (.ref P) => some P | _ => none) = _
  rw [h]
end My

set_option Elab.async false
set_option linter.all false
set_option maxRecDepth 100000
namespace My
open PySem PySem.Spec PyProof.Rows L2
/-! small steps of a reading -/
theorem ite_f {c A B : Prop} [Decidable c] (h : ¬ c) (q : B) : if c then A else B := by rw [if_neg h]; exact q
theorem ite_t {c A B : Prop} [Decidable c] (h : c) (q : A) : if c then A else B := by rw [if_pos h]; exact q
theorem dstr_ne {a b : Str} (h : ¬ a = b) : ¬ decide (V.str a = V.str b) = true := fun z => h (V.str.inj (of_decide_eq_true z))
theorem dstr_eq {a b : Str} (h : a = b) : decide (V.str a = V.str b) = true := decide_eq_true (by rw [h])
theorem dint_ne {a b : Int} (h : ¬ a = b) : ¬ decide (V.int a = V.int b) = true := fun z => h (V.int.inj (of_decide_eq_true z))
theorem dint_eq {a b : Int} (h : a = b) : decide (V.int a = V.int b) = true := decide_eq_true (by rw [h])
theorem dget_s {H : Hp} {a : Addr} {kvs : List (Key × V)} {x : Str} {v : V} (e : H a = some (.dK kvs)) (h : valV kvs (.inr x) = some v) : DGet H a (.str x) (some v) := by
  rw [← h]
  exact DGet.k (k := Sum.inr x) e
theorem dget_f {H : Hp} {a : Addr} {o : Obj} {kvs : List (Key × V)} {x : Str} {v : V} (e : H a = some (.frz o (.dK kvs))) (h : valV kvs (.inr x) = some v) : DGet H a (.str x) (some v) := by
  rw [← h]
  exact .inl ⟨kvs, .inr x, .inr ⟨o, e⟩, rfl, rfl⟩
theorem not_bl {b : Bool} (h : b = false) : ¬ b = true := by rw [h]; exact Bool.false_ne_true
end My
namespace My
open PySem PySem.Spec PyProof.Rows L2
theorem or_bl {a b : Bool} {p : Prop} (h : ¬ a = true) (g : b = true ∨ p) : b = true ∨ p := g
theorem dp_strL {K : PySem.W.Frag} {H : Hp} : ∀ xs : List Str, DpAll K H (xs.map V.str) (xs.map PyData.str)
  | [] => .nil
  | x :: r => .cons (.str x) (dp_strL r)
theorem layAll_strs : ∀ xs : List Str, (∀ x ∈ xs, (PyData.str x).canLay0 = true) → PyData.canLayAll0 (xs.map PyData.str) = true
  | [], _ => rfl
  | x :: r, h => by
    show (PyData.canLay0 (.str x) && PyData.canLayAll0 (r.map PyData.str)) = true
    rw [layAll_strs r (fun y hy => h y (List.mem_cons_of_mem _ hy)), Bool.and_true]
    exact h x List.mem_cons_self
theorem depthAll_strs : ∀ xs : List Str, PyData.depthAll (xs.map PyData.str) = 0
  | [] => rfl
  | x :: r => by
    show max (PyData.depth (.str x)) (PyData.depthAll (r.map PyData.str)) = 0
    rw [depthAll_strs r]
    rfl
theorem shaped_strs (xs : List Str) (h : ∀ x ∈ xs, (PyData.str x).canLay0 = true) : SeqAt.shaped (.list (xs.map PyData.str)) = true := by
  unfold SeqAt.shaped
  rw [Bool.and_eq_true]
  refine ⟨layAll_strs xs h, decide_eq_true ?_⟩
  show PyData.depthAll (xs.map PyData.str) + 1 ≤ 64
  rw [depthAll_strs]
  decide
theorem eqv_nil (xs : List PyData) : PyData.eqv (.list xs) (.list []) = xs.isEmpty := by
  cases xs with
  | nil => rfl
  | cons x r => rfl
/-! a statement laid open -/
theorem seq_asg_op {r : R2} {ta tb : TE} {g : TG} {u : TS} {D : Ends} {σ : L2.St} {H : Hp} (h : ta σ H fun x H1 => tb σ H1 fun y H2 => r x y H2 fun v H3 => g v σ H3 (u D)) : tSeq (tAsg (tOp r ta tb) g) u D σ H := h
theorem seq_asg {te : TE} {g : TG} {u : TS} {D : Ends} {σ : L2.St} {H : Hp} (h : te σ H fun v H3 => g v σ H3 (u D)) : tSeq (tAsg te g) u D σ H := h
theorem seq_any {t u : TS} {D : Ends} {σ : L2.St} {H : Hp} (h : t { D with nx := u D } σ H) : tSeq t u D σ H := h
end My
namespace My
open PySem PySem.Spec PyProof.Rows L2
/-! the same operators, the written part by its name: within a comprehension's block -/
section
variable {X : Cx} {K : PySem.W.Frag}
theorem opNI (h : X.K = K) : OpR X (compareOp .NotIn) (rIn K true) := by subst h; exact op_notIn_seq
theorem opIN (h : X.K = K) : OpR X (compareOp .In) (rIn K false) := by subst h; exact op_in_seq
theorem ixL (h : X.K = K) : IxR X (rIxL K) := by subst h; exact ix_list
theorem ixT (h : X.K = K) : IxR X (rIxT K) := by subst h; exact ix_tup
theorem ixQ (h : X.K = K) : IxR X (rIx K) := by subst h; exact ix_seq
theorem opED (h : X.K = K) (hu : X.A.units + 64 < cLine) : OpR X (compareOp .Eq) (rEqD K) := by subst h; exact op_eqD hu
theorem opND (h : X.K = K) (hu : X.A.units + 64 < cLine) : OpR X (compareOp .NotEq) (rNeD K) := by subst h; exact op_neD hu
theorem slL (h : X.K = K) : SlR X (rSlL K) := by subst h; exact sl_list
theorem slT (h : X.K = K) : SlR X (rSlA K) := by subst h; exact sl_tupA
theorem catT (h : X.K = K) : OpR X (binaryOp .Add) (rCatA K) := by subst h; exact op_catA
theorem lnQ (h : X.K = K) : CallR X (.builtin "len") (fun xs H Q => ∃ p ys, xs = [.ref p] ∧ (SqL K H p ys ∨ SqT K H p ys) ∧ Q (.int ys.length) H) := by subst h; exact call_len_seq
theorem lsO (h : X.K = K) : CallR X (.type "list") (fun xs H Q => ∃ p ys, xs = [.ref p] ∧ (SqL K H p ys ∨ SqT K H p ys) ∧ ∀ l, H l = none → Q (.ref l) (upd H l (.lst ys))) := by subst h; exact call_list_of
theorem tpO (h : X.K = K) : CallR X (.type "tuple") (fun xs H Q => ∃ p ys, xs = [.ref p] ∧ ((SqL K H p ys ∧ ∀ l, H l = none → Q (.ref l) (upd H l (.tup ys))) ∨ (SqT K H p ys ∧ Q (.ref p) H))) := by subst h; exact call_tuple_of
theorem isI (h : X.K = K) : CallR X (.builtin "isinstance") (rIsi K) := by subst h; exact call_isi
end
end My
namespace My
open PySem PySem.Spec PyProof.Rows L2
/-! a walk over a list or a tuple, as it comes -/
section
variable {X : Cx} {tg : Expr}
def iSeq (K : PySem.W.Frag) (tl : TE) : TI := fun σ H R => tl σ H fun x H1 => ∃ (a : Addr) (xs : List V) (G : Hp → Prop), x = .ref a ∧ ((G = fun H => SqL K H a xs) ∨ (G = fun H => SqT K H a xs)) ∧ G H1 ∧ ∀ J, Walk J xs.length G (YAt xs) → R J H1
theorem pi_seq {l : Expr} {tl : TE} (hl : PE X l tl) : PI X tg l (iSeq X.K tl) := by
  refine ⟨fun pins s σ H R I h => ?_⟩
  refine thn (hl.run pins s σ H _ I h) fun v s1 ⟨x, H1, I1, r1, q1⟩ => ?_
  obtain ⟨a, xs, G, e, hG, g1, q⟩ := q1
  subst e
  cases r1
  have fp : ∀ b ∈ [s1.heap.objs.size], FpOk X pins H1 b := fun b hb => by
    rw [List.mem_singleton.mp hb]
    exact I1.fpOk (Nat.le_refl _) (I1.hok.fresh (Nat.le_refl _))
  rcases hG with rfl | rfl
  · have hq : SqL X.K H1 a xs := g1
    obtain ⟨its, _, p, _⟩ := I1.list hq
    refine wpAny_pyIter_list p.isList ?_
    exact ⟨_, _, _, _, H1, rfl, I1.kept (t' := s1.toks) fun b o e => Heap.get?_push_of_some _ e, turn_list a _, ⟨_, Heap.get?_push_size _ rfl, rfl, rfl⟩, fp, q _ walk_list⟩
  · have hq : SqT X.K H1 a xs := g1
    obtain ⟨its, _, p, _⟩ := I1.tuple hq
    refine wpAny_pyIter_tuple (show s1.heap.IsTuple a its.toArray from p) ?_
    exact ⟨_, _, _, _, H1, rfl, I1.kept (t' := s1.toks) fun b o e => Heap.get?_push_of_some _ e, turn_tuple a _, ⟨_, Heap.get?_push_size _ rfl, rfl, rfl⟩, fp, q _ walk_tup⟩
end
theorem lookup_memG {β : Type} {nm : List (Str × β)} (nd : (nm.map (·.1)).Nodup) {x : Str} {s : β} (h : (x, s) ∈ nm) : nm.lookup x = some s := by
  induction nm with
  | nil => cases h
  | cons p r ih =>
    obtain ⟨y, t⟩ := p
    rw [List.map_cons, List.nodup_cons] at nd
    rcases List.mem_cons.mp h with e | h
    · cases e
      rw [List.lookup_cons_self]
    · have ne : ¬ x = y := fun z => nd.1 (by rw [← z]; exact List.mem_map.mpr ⟨_, h, rfl⟩)
      rw [List.lookup_cons]
      have : (x == y) = false := by simpa using ne
      rw [this]
      exact ih nd.2 h
end My

set_option Elab.async false
set_option linter.all false
set_option maxRecDepth 100000
namespace My
open PySem PySem.Spec PyProof.Rows L2
/-! expressions of the language as trees -/
inductive Ex where
  | int (n : Int) | var (x : Str) | cell (x : Str) (i : Ex) | not (a : Ex) | op (o : Str) (a b : Ex)
abbrev Nm := List (Str × Int)
def opl : List Str := ["add", "sub", "mul", "and", "or", "xor", "less", "equal", "shl", "shr"]
def Ex.d : Ex → PyData
  | .int n => .tuple [.str "int", .int n]
  | .var x => .tuple [.str "var", .str x]
  | .cell x i => .tuple [.str "cell", .str x, i.d]
  | .not a => .tuple [.str "not", a.d]
  | .op o a b => .tuple [.str o, a.d, b.d]
def Ex.dep : Ex → Nat
  | .int _ => 1 | .var _ => 1 | .cell _ i => i.dep + 1 | .not a => a.dep + 1 | .op _ a b => max a.dep b.dep + 1
def EOk (w : Nat) (nm : Nm) : Ex → Prop
  | .int n => 0 ≤ n ∧ n < 2 ^ w
  | .var x => nm.lookup x = some 0
  | .cell x i => (∃ s, nm.lookup x = some s ∧ 0 < s) ∧ EOk w nm i
  | .not a => EOk w nm a
  | .op o a b => o ∈ opl ∧ EOk w nm a ∧ EOk w nm b
def Ex.val (w : Nat) (en : Str → List Int) : Ex → Int
  | .int n => n
  | .var x => (en x).getD 0 0
  | .cell x i => (en x).getD (i.val w en % (en x).length).toNat 0
  | .not a => if a.val w en = 0 then 1 else 0
  | .op o a b => cmpS o w (a.val w en) (b.val w en)
theorem Ex.dep_pos : ∀ e : Ex, 1 ≤ e.dep
  | .int _ => Nat.le_refl _ | .var _ => Nat.le_refl _ | .cell _ _ => Nat.le_add_left .. | .not _ => Nat.le_add_left .. | .op _ _ _ => Nat.le_add_left ..
/-- the words that the names have: a variable one, an array so many as it is long -/
def EnOk (w : Nat) (nm : Nm) (en : Str → List Int) : Prop := ∀ x s, nm.lookup x = some s → (∀ i ∈ en x, 0 ≤ i ∧ i < 2 ^ w) ∧ (s = 0 → (en x).length = 1) ∧ (0 < s → ((en x).length : Int) = s)
theorem opl_ne {o : Str} (h : o ∈ opl) : o ≠ "int" ∧ o ≠ "var" ∧ o ≠ "cell" ∧ o ≠ "not" := by
  have key : ∀ o ∈ opl, o ≠ "int" ∧ o ≠ "var" ∧ o ≠ "cell" ∧ o ≠ "not" := by decide +kernel
  exact key o h
theorem pow2_pos (n : Nat) : (0 : Int) < 2 ^ n := Int.pow_pos (by decide)
theorem pow2_two {n : Nat} (h : 1 ≤ n) : (1 : Int) < 2 ^ n := by
  obtain ⟨k, rfl⟩ : ∃ k, n = k + 1 := ⟨n - 1, by omega⟩
  have := pow2_pos k
  rw [Int.pow_succ]
  omega
theorem cmpS_in {o : Str} {n : Nat} {x y : Int} (hn : 1 ≤ n) (x0 : 0 ≤ x) (x1 : x < 2 ^ n) (y0 : 0 ≤ y) (y1 : y < 2 ^ n) : 0 ≤ cmpS o n x y ∧ cmpS o n x y < 2 ^ n := by
  have p := pow2_pos n
  have p2 := pow2_two hn
  have md : ∀ a : Int, 0 ≤ a % 2 ^ n ∧ a % 2 ^ n < 2 ^ n := fun a => ⟨Int.emod_nonneg _ (by omega), Int.emod_lt_of_pos _ p⟩
  obtain ⟨a, rfl⟩ := int_nat x0
  obtain ⟨b, rfl⟩ := int_nat y0
  have ha : a < 2 ^ n := by exact_mod_cast x1
  have hb : b < 2 ^ n := by exact_mod_cast y1
  have bits : ∀ op : Str, (op = "and" ∨ op = "or" ∨ op = "xor") → 0 ≤ cmpS op n (a : Int) (b : Int) ∧ cmpS op n (a : Int) (b : Int) < 2 ^ n := fun op h => by
    rw [bitF_cmp h]
    have := bitF_lt op ha hb
    exact ⟨Int.natCast_nonneg _, by exact_mod_cast this⟩
  by_cases h : o = "and" ∨ o = "or" ∨ o = "xor"
  · exact bits o h
  · have h1 : ¬ o = "and" := fun z => h (.inl z)
    have h2 : ¬ o = "or" := fun z => h (.inr (.inl z))
    have h3 : ¬ o = "xor" := fun z => h (.inr (.inr z))
    unfold cmpS
    rw [if_neg h1, if_neg h2, if_neg h3]
    split
    · exact md _
    · split
      · exact md _
      · split
        · exact md _
        · split
          · split <;> omega
          · split
            · split <;> omega
            · split
              · omega
              · split
                · exact md _
                · have q : (0 : Int) < 2 ^ (b : Int).toNat := pow2_pos _
                  refine ⟨Int.ediv_nonneg x0 (by omega), Int.lt_of_le_of_lt (Int.ediv_le_self _ x0) x1⟩
theorem val_in {w : Nat} {nm : Nm} {en : Str → List Int} (hw : 1 ≤ w) (hen : EnOk w nm en) : ∀ {e : Ex}, EOk w nm e → 0 ≤ e.val w en ∧ e.val w en < 2 ^ w
  | .int n, h => h
  | .var x, h => by
    obtain ⟨h1, h2, _⟩ := hen x 0 h
    have hl := h2 rfl
    show 0 ≤ (en x).getD 0 0 ∧ (en x).getD 0 0 < 2 ^ w
    have hm : (en x).getD 0 0 ∈ en x := by
      rw [List.getD_eq_getElem?_getD, List.getElem?_eq_getElem (by omega)]
      exact List.getElem_mem _
    exact h1 _ hm
  | .cell x i, h => by
    obtain ⟨⟨s, hs, s0⟩, hi⟩ := h
    obtain ⟨h1, _, h3⟩ := hen x s hs
    have hl := h3 s0
    have q := val_in hw hen hi
    show 0 ≤ (en x).getD (i.val w en % (en x).length).toNat 0 ∧ _ < (2 : Int) ^ w
    have m0 : 0 ≤ i.val w en % (en x).length := Int.emod_nonneg _ (by omega)
    have m1 : i.val w en % (en x).length < (en x).length := Int.emod_lt_of_pos _ (by omega)
    have hm : (en x).getD (i.val w en % (en x).length).toNat 0 ∈ en x := by
      rw [List.getD_eq_getElem?_getD, List.getElem?_eq_getElem (by omega)]
      exact List.getElem_mem _
    exact h1 _ hm
  | .not a, h => by
    have p2 := pow2_two hw
    show 0 ≤ (if a.val w en = 0 then (1 : Int) else 0) ∧ (if a.val w en = 0 then (1 : Int) else 0) < 2 ^ w
    split <;> omega
  | .op o a b, h => by
    obtain ⟨_, ha, hb⟩ := h
    have qa := val_in hw hen ha
    have qb := val_in hw hen hb
    exact cmpS_in hw qa.1 qa.2 qb.1 qb.2
section
variable {K : PySem.W.Frag} {H : Hp} {v : V}
theorem rp_int {n : Int} (h : Rp K H v (Ex.int n).d) : ∃ a, v = .ref a ∧ SqT K H a [.str "int", .int n] := by
  obtain ⟨a, xs, rfl, hs, ha⟩ := Rp.inv h
  obtain ⟨v1, r1, rfl, h1, ha⟩ := ha.inv
  obtain ⟨v2, r2, rfl, h2, ha⟩ := ha.inv
  rw [ha.inv0, h1.sInv, h2.iInv] at hs
  exact ⟨a, rfl, hs⟩
theorem rp_var {x : Str} (h : Rp K H v (Ex.var x).d) : ∃ a, v = .ref a ∧ SqT K H a [.str "var", .str x] := by
  obtain ⟨a, xs, rfl, hs, ha⟩ := Rp.inv h
  obtain ⟨v1, r1, rfl, h1, ha⟩ := ha.inv
  obtain ⟨v2, r2, rfl, h2, ha⟩ := ha.inv
  rw [ha.inv0, h1.sInv, h2.sInv] at hs
  exact ⟨a, rfl, hs⟩
theorem rp_cell {x : Str} {i : Ex} (h : Rp K H v (Ex.cell x i).d) : ∃ a u, v = .ref a ∧ SqT K H a [.str "cell", .str x, u] ∧ Rp K H u i.d := by
  obtain ⟨a, xs, rfl, hs, ha⟩ := Rp.inv (ds := [.str "cell", .str x, i.d]) h
  obtain ⟨v1, r1, rfl, h1, ha⟩ := ha.inv
  obtain ⟨v2, r2, rfl, h2, ha⟩ := ha.inv
  obtain ⟨v3, r3, rfl, h3, ha⟩ := ha.inv
  rw [ha.inv0, h1.sInv, h2.sInv] at hs
  exact ⟨a, v3, rfl, hs, h3⟩
theorem rp_not {i : Ex} (h : Rp K H v (Ex.not i).d) : ∃ a u, v = .ref a ∧ SqT K H a [.str "not", u] ∧ Rp K H u i.d := by
  obtain ⟨a, xs, rfl, hs, ha⟩ := Rp.inv (ds := [.str "not", i.d]) h
  obtain ⟨v1, r1, rfl, h1, ha⟩ := ha.inv
  obtain ⟨v3, r3, rfl, h3, ha⟩ := ha.inv
  rw [ha.inv0, h1.sInv] at hs
  exact ⟨a, v3, rfl, hs, h3⟩
theorem rp_op {o : Str} {i j : Ex} (h : Rp K H v (Ex.op o i j).d) : ∃ a u t, v = .ref a ∧ SqT K H a [.str o, u, t] ∧ Rp K H u i.d ∧ Rp K H t j.d := by
  obtain ⟨a, xs, rfl, hs, ha⟩ := Rp.inv (ds := [.str o, i.d, j.d]) h
  obtain ⟨v1, r1, rfl, h1, ha⟩ := ha.inv
  obtain ⟨v2, r2, rfl, h2, ha⟩ := ha.inv
  obtain ⟨v3, r3, rfl, h3, ha⟩ := ha.inv
  rw [ha.inv0, h1.sInv] at hs
  exact ⟨a, v2, v3, rfl, hs, h2, h3⟩
end
end My

set_option Elab.async false
set_option linter.all false
set_option maxRecDepth 100000
set_option maxHeartbeats 1000000
namespace My
open PySem PySem.Spec PyProof.Rows L2
/-! dicts of names and sizes -/
def nmK (nm : Nm) : List (Key × V) := nm.map fun p => (Sum.inr p.1, V.int p.2)
theorem valV_nm (nm : Nm) (x : Str) : valV (nmK nm) (.inr x) = (nm.lookup x).map V.int := by
  induction nm with
  | nil => rfl
  | cons p r ih =>
    obtain ⟨y, s⟩ := p
    show valV ((Sum.inr y, V.int s) :: nmK r) _ = _
    by_cases h : x = y
    · subst h
      rw [valV_pos rfl, List.lookup_cons_self]
      rfl
    · rw [valV_neg (fun z => h (Sum.inr.inj z).symm), ih, List.lookup_cons]
      have : (x == y) = false := by simpa using h
      rw [this]
theorem nmK_get {nm : Nm} {i : Nat} {k : Key} {v : V} (h : (nmK nm)[i]? = some (k, v)) : ∃ x s, nm[i]? = some (x, s) ∧ k = .inr x ∧ v = .int s := by
  unfold nmK at h
  rw [List.getElem?_map] at h
  cases e : nm[i]? with
  | none => rw [e] at h; cases h
  | some p => rw [e] at h; cases h; exact ⟨p.1, p.2, rfl, rfl, rfl⟩
theorem nmK_length (nm : Nm) : (nmK nm).length = nm.length := List.length_map ..
/-- the names that pass -/
def pick (pz : Int → Bool) (nm : Nm) : List Str := (nm.filter fun p => pz p.2).map (·.1)
theorem pick_take {pz : Int → Bool} {nm : Nm} {i : Nat} {x : Str} {s : Int} (h : nm[i]? = some (x, s)) : pick pz (nm.take (i + 1)) = if pz s = true then pick pz (nm.take i) ++ [x] else pick pz (nm.take i) := by
  unfold pick
  rw [List.take_succ, h]
  show ((nm.take i ++ [(x, s)]).filter _).map _ = _
  rw [List.filter_append, List.map_append]
  cases hp : pz s with
  | true => simp [List.filter, hp]
  | false => simp [List.filter, hp]
theorem pick_length (pz : Int → Bool) (nm : Nm) : (pick pz nm).length ≤ nm.length := by
  unfold pick
  rw [List.length_map]
  exact List.length_filter_le ..
theorem mem_pick {pz : Int → Bool} {nm : Nm} {x : Str} (h : x ∈ pick pz nm) : ∃ s, (x, s) ∈ nm ∧ pz s = true := by
  unfold pick at h
  obtain ⟨p, hp, e⟩ := List.mem_map.mp h
  obtain ⟨h1, h2⟩ := List.mem_filter.mp hp
  exact ⟨p.2, by rw [← e]; exact h1, h2⟩
theorem lookup_mem {nm : Nm} (nd : (nm.map (·.1)).Nodup) {x : Str} {s : Int} (h : (x, s) ∈ nm) : nm.lookup x = some s := by
  induction nm with
  | nil => cases h
  | cons p r ih =>
    obtain ⟨y, t⟩ := p
    rw [List.map_cons, List.nodup_cons] at nd
    rcases List.mem_cons.mp h with e | h
    · cases e
      rw [List.lookup_cons_self]
    · have ne : ¬ x = y := fun z => nd.1 (by rw [← z]; exact List.mem_map.mpr ⟨_, h, rfl⟩)
      rw [List.lookup_cons]
      have : (x == y) = false := by simpa using ne
      rw [this]
      exact ih nd.2 h
theorem mem_of_lookup' {nm : Nm} {x : Str} {s : Int} (h : nm.lookup x = some s) : (x, s) ∈ nm := by
  induction nm with
  | nil => cases h
  | cons p r ih =>
    obtain ⟨y, t⟩ := p
    rw [List.lookup_cons] at h
    by_cases e : x = y
    · subst e
      simp at h
      subst h
      exact List.mem_cons_self
    · have : (x == y) = false := by simpa using e
      rw [this] at h
      exact List.mem_cons_of_mem _ (ih h)
/-- a locked dict is let go: the heap but for what came new -/
theorem unlock {H : Hp} {d l : Addr} {u f o o' : HO} (hu : H d = some u) (hl : (upd H d f) l = none) : upd (upd (upd (upd H d f) l o) l o') d u = upd H l o' := by
  have ne : l ≠ d := fun z => by rw [z, upd_same] at hl; cases hl
  funext b
  by_cases h1 : b = d
  · rw [h1, upd_same, upd_ne (fun z => ne z.symm), hu]
  · rw [upd_ne h1]
    by_cases h2 : b = l
    · rw [h2, upd_same, upd_same]
    · rw [upd_ne h2, upd_ne h2, upd_ne h1, upd_ne h2]
theorem unlock_free {H : Hp} {d l : Addr} {f : HO} (hl : (upd H d f) l = none) : H l = none := by
  have ne : l ≠ d := fun z => by rw [z, upd_same] at hl; cases hl
  rw [upd_ne ne] at hl
  exact hl
/-- y = [x for x in names if .. names[x] ..] -/
theorem names_comp {σ : L2.St} {H : Hp} {nd : Addr} {nm : Nm} {D : Ends} {a j own : Nat} {tt : TT} (pz : Int → Bool) (ha : σ[a]? = some (some (.ref nd))) (hn : H nd = some (.dK (nmK nm))) (hz : nm.length ≤ 1000) (ho : decide (own < σ.length) = true)
    (ht : ∀ od H1 x s, (x, s) ∈ nm → H1 nd = some (.frz od (.dK (nmK nm))) → ∀ Q : Bool → Hp → Prop, Q (pz s) H1 → tt ((wipe σ [own]).set own (some (.str x))) H1 Q)
    (hd : ∀ l, H l = none → D.nx (σ.set j (some (.ref l))) (upd H l (.lst ((pick pz nm).map V.str)))) : tLock (tAsg (tLc (iKeys (tVar a)) (gName own) tt (tVar own) [own]) (gName j)) D σ H := by
  refine ⟨nd, _, hn, trivial, fun od => ?_⟩
  refine ⟨_, ha, nd, od, rfl, .inl ⟨_, upd_same, fun l hl => ?_⟩⟩
  have nl : l ≠ nd := fun z => by rw [z, upd_same] at hl; cases hl
  refine lc_it (walk_keys (o := od) (kvs := nmK nm)) (fun i H1 => H1 = upd (upd H nd (.frz od (.dK (nmK nm)))) l (.lst ((pick pz (nm.take i)).map V.str))) rfl (fun i H1 _ e => ?_) (fun i x H1 H2 hi e y => ?_) (fun H1 e => ?_)
  · rw [e, upd_ne (fun z => nl z.symm), upd_same]
  · obtain ⟨e2, k, v, hk, rfl⟩ := y
    obtain ⟨x, s, hx, rfl, rfl⟩ := nmK_get hk
    subst e2
    subst e
    have hwl : own < (wipe σ [own]).length := by rw [wipe_length]; exact of_decide_eq_true ho
    refine ⟨by simp [wipe, List.set_set], ?_⟩
    refine ht od _ x s (List.mem_of_getElem? hx) (by rw [upd_ne (fun z => nl z.symm), upd_same]) _ ?_
    refine ite2 (fun hp => ?_) (fun hp => ?_)
    · refine ⟨_, List.getElem?_set_self hwl, _, upd_same, ?_, ?_⟩
      · rw [List.length_map]
        have := pick_length pz (nm.take i)
        rw [List.length_take] at this
        exact small1000 (by omega)
      · show upd _ l _ = _
        rw [upd_upd, pick_take hx, if_pos hp, List.map_append]
        rfl
    · show upd _ l _ = upd _ l _
      rw [pick_take hx, if_neg hp]
  · subst e
    refine ⟨by rw [upd_ne (fun z => nl z.symm), upd_same], ?_⟩
    have e : upd (upd (upd H nd (.frz od (.dK (nmK nm)))) l (.lst ((pick pz (nm.take (nmK nm).length)).map V.str))) nd (.dK (nmK nm)) = upd H l (.lst ((pick pz nm).map V.str)) := by
      rw [nmK_length, List.take_length]
      have := unlock (o := .lst []) (o' := .lst ((pick pz nm).map V.str)) hn hl
      rw [upd_upd] at this
      exact this
    show D.nx _ (upd _ nd _)
    rw [e]
    exact hd l (unlock_free hl)
end My

set_option Elab.async false
set_option linter.all false
set_option maxRecDepth 100000
set_option maxHeartbeats 1000000
namespace My
open PySem PySem.Spec PyProof.Rows L2
/-! statements and programs of the language as trees -/
inductive Sm where
  | chg (wd : Str) (p e : Ex) | swap (p q : Ex) | ite (e : Ex) (a b : List Sm) (f : Ex) | loop (e : Ex) (a b : List Sm) (f : Ex)
  | call (wd x : Str) (as : List Str) | loc (x : Str) (e : Ex) (b : List Sm) (f : Ex) | skip
mutual
def Sm.d : Sm → PyData
  | .chg wd p e => .tuple [.str wd, p.d, e.d]
  | .swap p q => .tuple [.str "swap", p.d, q.d]
  | .ite e a b f => .tuple [.str "if", e.d, .tuple (bd a), .tuple (bd b), f.d]
  | .loop e a b f => .tuple [.str "loop", e.d, .tuple (bd a), .tuple (bd b), f.d]
  | .call wd x as => .tuple [.str wd, .str x, .tuple (as.map PyData.str)]
  | .loc x e b f => .tuple [.str "local", .str x, e.d, .tuple (bd b), f.d]
  | .skip => .tuple [.str "skip"]
def bd : List Sm → List PyData
  | [] => []
  | s :: r => s.d :: bd r
end
theorem bd_app : ∀ a b : List Sm, bd (a ++ b) = bd a ++ bd b
  | [], b => rfl
  | s :: r, b => by rw [List.cons_append, bd, bd, bd_app r b]; rfl
theorem bd_len : ∀ a : List Sm, (bd a).length = a.length
  | [] => rfl
  | s :: r => by rw [bd, List.length_cons, List.length_cons, bd_len r]
/-- the names without some -/
def wo (gone : List Str) (nm : Nm) : Nm := nm.filter fun p => !decide (p.1 ∈ gone)
def Ex.nm : Ex → Str
  | .var x => x
  | .cell x _ => x
  | _ => ""
def PlOk (w : Nat) (nm : Nm) (gone : List Str) : Ex → Prop
  | .var x => nm.lookup x = some 0
  | .cell x i => (∃ s, nm.lookup x = some s ∧ 0 < s) ∧ EOk w (wo gone nm) i
  | _ => False
/-- an expression that is in order and not deep -/
def EO (w : Nat) (nm : Nm) (e : Ex) : Prop := EOk w nm e ∧ e.dep ≤ 4
def tn (j : Nat) : Str := ("t" : Str) ++ Str.ofString (toString (j : Int))
def LocN (x : Str) : Prop := x = "t" ∨ ∃ j : Nat, j ≤ 100000 ∧ x = tn j
mutual
def SOk (ps : List (Str × Nm)) (w : Nat) (nm : Nm) : Sm → Prop
  | .chg wd p e => wd ∈ (["plus", "minus", "xor"] : List Str) ∧ PlOk w nm [p.nm] p ∧ p.dep ≤ 4 ∧ EO w (wo [p.nm] nm) e
  | .swap p q => p.nm ≠ q.nm ∧ PlOk w nm [p.nm, q.nm] p ∧ PlOk w nm [p.nm, q.nm] q ∧ p.dep ≤ 4 ∧ q.dep ≤ 4
  | .ite e a b f => EO w nm e ∧ EO w nm f ∧ BOk ps w nm a ∧ BOk ps w nm b
  | .loop e a b f => EO w nm e ∧ EO w nm f ∧ BOk ps w nm a ∧ BOk ps w nm b
  | .call wd x as => (wd = "call" ∨ wd = "uncall") ∧ as.Nodup ∧ ∃ prm, ps.lookup x = some prm ∧ as.map (fun a => nm.lookup a) = prm.map fun p => some p.2
  | .loc x e b f => nm.lookup x = none ∧ LocN x ∧ EO w nm e ∧ EO w nm f ∧ BOk ps w (nm ++ [(x, 0)]) b
  | .skip => True
def BOk (ps : List (Str × Nm)) (w : Nat) (nm : Nm) : List Sm → Prop
  | [] => True
  | s :: r => SOk ps w nm s ∧ BOk ps w nm r
end
mutual
/-- how deep statements nest -/
def Sm.dp : Sm → Nat
  | .ite _ a b _ => max (bdp a) (bdp b) + 1
  | .loop _ a b _ => max (bdp a) (bdp b) + 1
  | .loc _ _ b _ => bdp b + 1
  | _ => 1
def bdp : List Sm → Nat
  | [] => 0
  | s :: r => max s.dp (bdp r)
end
section
variable {ps : List (Str × Nm)} {w : Nat} {nm : Nm}
theorem bok_app : ∀ {a b : List Sm}, BOk ps w nm a → BOk ps w nm b → BOk ps w nm (a ++ b)
  | [], _, _, h => h
  | s :: r, _, ⟨h1, h2⟩, h => ⟨h1, bok_app h2 h⟩
theorem bdp_app : ∀ a b : List Sm, bdp (a ++ b) = max (bdp a) (bdp b)
  | [], b => by rw [List.nil_append, bdp]; omega
  | s :: r, b => by rw [List.cons_append, bdp, bdp, bdp_app r b]; omega
theorem wo_mem {gone : List Str} {p : Str × Int} : p ∈ wo gone nm ↔ p ∈ nm ∧ p.1 ∉ gone := by
  unfold wo
  rw [List.mem_filter]
  simp
theorem wo_nd {gone : List Str} (h : (nm.map (·.1)).Nodup) : ((wo gone nm).map (·.1)).Nodup := h.sublist (List.Sublist.map _ List.filter_sublist)
theorem wo_len (gone : List Str) : (wo gone nm).length ≤ nm.length := List.length_filter_le ..
theorem wo_nil : wo [] nm = nm := by
  unfold wo
  rw [List.filter_eq_self]
  intro p _
  simp
theorem wo_lookup {gone : List Str} {x : Str} {s : Int} (nd : (nm.map (·.1)).Nodup) (h : (wo gone nm).lookup x = some s) : nm.lookup x = some s ∧ x ∉ gone := by
  have := wo_mem.mp (mem_of_lookup' h)
  exact ⟨lookup_mem nd this.1, this.2⟩
end
theorem lookup_none {nm : Nm} {x : Str} (h : ∀ p ∈ nm, p.1 ≠ x) : nm.lookup x = none := by
  cases e : nm.lookup x with
  | none => rfl
  | some s => exact absurd rfl (h _ (mem_of_lookup' e))
/-! ### the names of locals -/
theorem tn_cps (j : Nat) : (tn j).cps.toList = 116 :: (Str.ofString (toString (j : Int))).cps.toList := by
  unfold tn
  show (("t" : Str).cps ++ (Str.ofString (toString (j : Int))).cps).toList = _
  rw [Array.toList_append]
  rfl
theorem tn_inj {i j : Nat} (hi : i < 10 ^ 9) (hj : j < 10 ^ 9) (h : tn i = tn j) : i = j := by
  have e : (tn i).cps.toList = (tn j).cps.toList := by rw [h]
  rw [tn_cps, tn_cps] at e
  have e2 : (Str.ofString (toString (i : Int))).cps.toList = (Str.ofString (toString (j : Int))).cps.toList := (List.cons.inj e).2
  have e3 : Str.ofString (toString (i : Int)) = Str.ofString (toString (j : Int)) := by
    have : (Str.ofString (toString (i : Int))).cps = (Str.ofString (toString (j : Int))).cps := Array.toList_inj.mp e2
    cases ha : Str.ofString (toString (i : Int)) with
    | mk ca =>
      cases hb : Str.ofString (toString (j : Int)) with
      | mk cb => rw [ha, hb] at this; rw [show ca = cb from this]
  have r1 := PySem.W.KIN.num_reads (n := (i : Int)) (by omega) (by omega)
  have r2 := PySem.W.KIN.num_reads (n := (j : Int)) (by omega) (by omega)
  rw [e3, r2] at r1
  have := Option.some.inj r1
  omega
def bases : List Str := ["a", "b", "c_1", "list", "row", "u", "v", "cells"]
theorem tn_base (j : Nat) : tn j ∉ bases := by
  intro h
  have key : ∀ x ∈ bases, x.cps.toList.head? ≠ some 116 := by decide +kernel
  refine key _ h ?_
  rw [tn_cps]
  rfl
/-- the names that stand there: the given ones, and locals up to the count -/
def Frs (nm : Nm) (c : Nat) : Prop := ∀ p ∈ nm, p.1 ∈ bases ∨ ∃ j, j ≤ c ∧ p.1 = tn j
theorem Frs.mono {nm : Nm} {c c' : Nat} (h : Frs nm c) (hc : c ≤ c') : Frs nm c' := fun p hp => (h p hp).imp id fun ⟨j, h1, h2⟩ => ⟨j, Nat.le_trans h1 hc, h2⟩
theorem Frs.fresh {nm : Nm} {c : Nat} (h : Frs nm c) (hc : c < 100000) : nm.lookup (tn (c + 1)) = none := lookup_none fun p hp e => by
  rcases h p hp with z | ⟨j, h1, h2⟩
  · rw [e] at z; exact tn_base _ z
  · rw [e] at h2
    have := tn_inj (by omega) (by omega) h2
    omega
theorem Frs.add {nm : Nm} {c : Nat} (h : Frs nm c) : Frs (nm ++ [(tn c, 0)]) c := fun p hp => by
  rcases List.mem_append.mp hp with z | z
  · exact h p z
  · rw [List.mem_singleton.mp z]
    exact .inr ⟨c, Nat.le_refl _, rfl⟩
theorem char_lt (c : Char) : c.toNat < 0x110000 := by
  have h := c.valid
  rcases h with h | h
  · have : c.toNat < 0xd800 := h
    omega
  · have : c.toNat < 0x110000 := h.2
    exact this
theorem tn_lay (j : Nat) : (PyData.str (tn j)).canLay0 = true := by
  show (tn j).cps.all (· < 0x110000) = true
  rw [← Array.all_toList, tn_cps, List.all_cons, Bool.and_eq_true]
  refine ⟨by decide, ?_⟩
  rw [PySem.W.KIN.signs_num, List.all_eq_true]
  intro x hx
  obtain ⟨c, _, e⟩ := List.mem_map.mp hx
  rw [← e]
  exact decide_eq_true (char_lt c)
theorem base_lay : ∀ x ∈ bases, (PyData.str x).canLay0 = true := by decide +kernel
theorem Frs.lay {nm : Nm} {c : Nat} (h : Frs nm c) : ∀ p ∈ nm, (PyData.str p.1).canLay0 = true := fun p hp => by
  rcases h p hp with z | ⟨j, _, e⟩
  · exact base_lay _ z
  · rw [e]; exact tn_lay j
end My

set_option Elab.async false
set_option linter.all false
set_option maxRecDepth 100000
/-! methods of built-in types within a comprehension -/
namespace My
open PySem PySem.Spec PyProof.Rows L2
section
variable {X : Cx} {K : PySem.W.Frag} {o e : Expr} {es : List Expr} {to : TE} {t : TA} {name : Str} {apos cpos : Pos} {T id : String} {r : V → List V → Hp → VK → Prop}
theorem pe_bmK (h : X.K = K) (pa : PlainAttrs T) (slot : Slot T name id) (hty : typeOf (.builtin id) = pure (.type "method_descriptor")) (hm : MtR X id r) (ho : PE X o to) (ha : PA X (e :: es) t) (hbase : attributeBase o name X.env (eval o X.env) = eval o X.env := by rfl)
    (hfew : ((backTo cpos (starEach (e :: es) X.env)).all (fun x => !x.1) && (backToKw cpos (keywordEach [] X.env)).all (fun x => x.1.isSome) && decide ((e :: es).length + ([] : List Keyword).length + (if ([] : List Keyword).isEmpty then 0 else 1) < 30)) = true := by rfl)
    (hline : (apos.endLine == cpos.line) = true := by rfl) (hs : starEach (e :: es) X.env = (false, eval e X.env) :: starEach es X.env := by rfl) (hplain : (backTo cpos (starEach es X.env)).any (·.1) = false := by rfl) :
    PE X (.Call (.Attribute o name apos) (e :: es) [] cpos) (tBM K T r to t) := by
  subst h
  exact pe_bm pa slot hty hm ho ha hbase hfew hline hs hplain
/-- the truth of any expression -/
def tTru (K : PySem.W.Frag) (ta : TE) : TT := fun σ H Q => ta σ H fun x H' => ∃ k, TruV K x H' k ∧ Q k H'
theorem pt_truthE {a : Expr} {ta : TE} (h : X.K = K) (ha : PE X a ta) (he : ∀ whole, isTrue a X.env whole = (do let v ← whole; standAt a.pos; holding [v] (truthy v))) : PT X a (tTru K ta) := by
  subst h
  exact pt_truth ha he
end
end My

set_option Elab.async false
set_option linter.all false
set_option maxRecDepth 100000
/-! an attribute as one of several targets -/
namespace My
open PySem PySem.Spec PyProof.Rows L2
section
variable {X : Cx} {o : Expr} {f : Str} {pos : Pos} {to : TE}
/-- o.f = .. -/
def gFld (K : PySem.W.Frag) (to : TE) (f : Str) : TG := fun v σ H Q => to σ H fun x H2 => ∃ a C dx fs, x = .ref a ∧ H2 a = some (.ins C dx fs) ∧ Cls K C ∧ NoAttr K C f ∧ fs.length < 1000 ∧ Q σ (upd H2 a (.ins C dx (putF f v fs)))
theorem pg_fld (ho : PE X o to) : PG X (.Attribute o f pos) (gFld X.K to f) := by
  refine ⟨fun pins s σ H v u Q I r h => ?_⟩
  rw [assign_Attribute]
  refine wpAny_bind (wpAny_holding (thn (ho.run pins s σ H _ I h) fun ov s1 ⟨x, H1, I1, r1, a, C, dx, fs, ex, ea, c, n, l, q⟩ => ?_))
  subst ex
  obtain rfl : ov = Value.ref a := r1
  refine wpAny_bind (wpAny_standAt (wpAny_bind (wpAny_holding ?_)))
  refine setattr_ok I1 ea c n l r fun s3 I3 => ?_
  exact wpAny_release ⟨σ, _, I3, q⟩
end
theorem pe_fldK {X : Cx} {K : PySem.W.Frag} {o : Expr} {to : TE} {f : Str} {pos : Pos} (h : X.K = K) (he : PE X o to) (hb : attributeBase o f X.env (eval o X.env) = eval o X.env) : PE X (.Attribute o f pos) (tFld K to f) := by
  subst h
  exact pe_fld he hb
end My

set_option Elab.async false
set_option linter.all false
set_option maxRecDepth 100000
/-! a call of a name that holds one of several defs, told where it is called -/
namespace My
open PySem PySem.Spec PyProof.Rows L2
def tCallH (P : Program) (w : World) (K : PySem.W.Frag) (mg : Str → Option Value) (base : Heap) (k i : Nat) (t : TA) : TE := fun σ H Q => ∃ f sp, σ[i]? = some (some (.ref f)) ∧ Held P w K mg base k f sp ∧ t σ H fun vs H1 => sp vs H1 Q fun _ _ _ => False
theorem pe_callH {X : Cx} {k i : Nat} {x : Str} {p pos : Pos} {e : Expr} {es : List Expr} {t : TA} (hr : Room k X.A) (hN : X.N[i]? = some x) (hv : Vis X.env.scope x) (ha : PA X (e :: es) t)
    (h1 : (x == Str.ofString "__debug__") = false := by rfl) (h2 : (x == Str.ofString "__classdict__") = false := by rfl) (h3 : starEach (e :: es) X.env = (false, eval e X.env) :: starEach es X.env := by rfl) (h4 : ((backTo pos (starEach es X.env)).any fun x => x.1) = false := by rfl) :
    PE X (.Call (.Name x p) (e :: es) [] pos) (tCallH X.prog X.w X.K X.mg X.base k i t) :=
  ⟨fun pins s σ H Q I h => by
    obtain ⟨f, sp, hf, hh, ht⟩ := h
    refine (pe_callA (S := fun g => if g = f then some sp else none) (fun g sp' e => ?_) hr hN hv ha h1 h2 h3 h4).run pins s σ H Q I ⟨f, sp, hf, if_pos rfl, ht⟩
    by_cases z : g = f
    · rw [if_pos z] at e
      cases e
      rw [z]
      exact hh
    · rw [if_neg z] at e
      cases e⟩
theorem Held.of {P : Program} {w : World} {K : PySem.W.Frag} {mg : Str → Option Value} {base : Heap} {k k' : Nat} {f : Addr} {fd : FuncData} {ps : List Str} {sp : Sp} (F : FnOk P w K mg base CX0 k f fd ps sp) (hk : PySem.W.keepIn K (.ref f) = true) (hb : L2.Binds K fd ps []) (h : k ≤ k') : Held P w K mg base k' f sp :=
  ⟨fd, ps, ⟨F.len, fun A outer s H args us vs Q E r => F.run A outer s H args us vs Q E (r.mono h)⟩, hk, hb⟩
theorem fun_kbn {K : PySem.W.Frag} {x qual : Str} {st : Stmt} {f : Addr} {fd : FuncData} {ps ks : List Str} {n : Nat} (F : Fun K x qual st f fd)
    (h : ∀ (kV doc pm : Value) (an : Option Addr) (cdv ct : Value) (us ws : List Value), us.length = n → ws.length = ks.length → bindArgs (PySem.W.fnOf x qual (defArgs st) (defBody st) (defScope st) .none kV doc pm an cdv ct) { pos := us, kw := ks.zip ws } = pure (ps.zip (us ++ ws))) :
    KBn K fd ps n ks (fun us ws => us ++ ws) (fun vs zs => vs ++ zs) := by
  obtain ⟨oc, od, kV, doc, pm, an, cdv, ct, osl, rfl, _, _⟩ := F.ex
  exact ⟨fun s us ws _ hu hw => .of_eq (h kV doc pm an cdv ct us ws hu hw), fun a b => a.append b⟩
end My

set_option Elab.async false
set_option linter.all false
set_option maxRecDepth 100000
set_option maxHeartbeats 1000000
/-! tuples that are known to have no dict of their own: tuple(list), dict(tuple); membership of data in a tuple -/
namespace My
open PySem PySem.Spec PyProof.Rows L2
def FzT (H : Hp) (a : Addr) (xs : List V) : Prop := ∃ o : Obj, o.dict = none ∧ H a = some (.frz o (.tup xs))
theorem FzT.sq {K : PySem.W.Frag} {H : Hp} {a : Addr} {xs : List V} (h : FzT H a xs) : SqT K H a xs := by
  obtain ⟨o, _, e⟩ := h
  exact .inl (.inr ⟨o, e⟩)
theorem KT.fzT {S : List Addr} {H H' : Hp} (k : KT S H H') {a : Addr} {xs : List V} (h : FzT H a xs) : FzT H' a xs := by
  obtain ⟨o, d, e⟩ := h
  exact ⟨o, d, k.fz _ _ _ e⟩
theorem FzT.new {H : Hp} {a : Addr} {xs : List V} {o : Obj} (h : o.dict = none) : FzT (upd H a (.frz o (.tup xs))) a xs := ⟨o, h, upd_same⟩
theorem FzT.ne {H : Hp} {a b : Addr} {xs ys : List V} (h : FzT H a xs) (hb : H b = some (.lst ys)) : a ≠ b := fun z => by
  obtain ⟨o, _, e⟩ := h
  rw [z, hb] at e
  cases e
section
variable {X : Cx}
/-- tuple(xs) of a list -/
theorem call_tupleF : CallR X (.type "tuple") (fun xs H Q => ∃ p ys, xs = [.ref p] ∧ SqL X.K H p ys ∧ ∀ (l : Addr) (o : Obj), H l = none → o.dict = none → Q (.ref l) (upd H l (.frz o (.tup ys)))) := by
  intro pins s σ H xs us Q I r h
  obtain ⟨p, ys, rfl, hq, q⟩ := h
  obtain ⟨u, rfl, rx⟩ := vals1 r
  cases rx
  obtain ⟨its, r', pl, hz⟩ := I.list hq
  have hlen := r'.length
  refine call_tuple_list pl.isList (fun h' kp => ?_) (by simp only [List.size_toArray] <;> omega)
  have I1 : Inv X pins σ H { s with heap := h' } := I.kept (t' := s.toks) kp
  have I2 : Inv X pins σ (upd H h'.objs.size (.frz { cls := .type "tuple", data := .seq its.toArray } (.tup ys))) { s with heap := h'.push { cls := .type "tuple", data := .seq its.toArray } } :=
    I1.laid (t' := s.toks) (fun b o e => Heap.get?_push_of_some _ e) (Nat.le_refl _) (show ObjOk X.prog X.w _ _ _ (.frz { cls := .type "tuple", data := .seq its.toArray } (.tup ys)) from ⟨Heap.get?_push_size _ rfl, hz, its, r', IsTup.new _ _⟩)
  exact ⟨.ref h'.objs.size, _, I2, rfl, q _ _ (I1.hok.fresh (Nat.le_refl _)) rfl⟩
theorem tpF {K : PySem.W.Frag} (h : X.K = K) : CallR X (.type "tuple") (fun xs H Q => ∃ p ys, xs = [.ref p] ∧ SqL K H p ys ∧ ∀ (l : Addr) (o : Obj), H l = none → o.dict = none → Q (.ref l) (upd H l (.frz o (.tup ys)))) := by subst h; exact call_tupleF
theorem pairs_of2 {pins : List (Addr × Obj)} {σ : L2.St} {H : Hp} {s : Shared} (I : L2.Inv X pins σ H s) : ∀ {ps : List Addr} {kvs : List (L2.Key × V)}, Paired (fun p kv => SqT X.K H p [kV kv.1, kv.2]) ps kvs →
    ∃ (prs : List (L2.Key × Value)) (us : List (Value × Value)), KV kvs prs ∧ prs.length = ps.length ∧ us.length = ps.length ∧ ∀ (j : Nat) (k v : Value), us[j]? = some (k, v) → ∃ (b : Addr) (key : L2.Key), ps[j]? = some b ∧ prs[j]? = some (key, v) ∧ IsTup s.heap b #[k, v] ∧ keyIs key k = true
  | _, _, .nil => ⟨[], [], .nil, rfl, rfl, fun j k v e => by simp at e⟩
  | _, _, .cons (a := p) (b := kv) h t => by
    obtain ⟨prs, us, r, hl, hl2, hp⟩ := pairs_of2 I t
    obtain ⟨its, rv, ht, _⟩ := I.tuple h
    obtain ⟨u, y, ei, ru, ry⟩ := vals2 rv
    subst ei
    refine ⟨(kv.1, y) :: prs, (u, y) :: us, .cons ⟨rfl, ry⟩ r, by rw [List.length_cons, List.length_cons, hl], by rw [List.length_cons, List.length_cons, hl2], fun j k v e => ?_⟩
    cases j with
    | zero =>
      have e' : (u, y) = (k, v) := Option.some.inj e
      cases e'
      exact ⟨p, kv.1, rfl, rfl, ht, kV_is (P := X.prog) (w := X.w) ru⟩
    | succ j =>
      obtain ⟨b, key, e1, e2, e3, e4⟩ := hp j k v (by simpa using e)
      exact ⟨b, key, by simpa using e1, by simpa using e2, e3, e4⟩
/-- dict(t) of a tuple of pairs -/
theorem call_dictF (hcalm : X.calm = true) : CallR X (.type "dict") (fun xs H Q => ∃ (a : Addr) (ps : List Addr) (kvs : List (L2.Key × V)), xs = [.ref a] ∧ FzT H a (ps.map V.ref) ∧ Paired (fun p kv => SqT X.K H p [kV kv.1, kv.2]) ps kvs ∧
    ∀ p, H p = none → Q (.ref p) (upd H p (.dK (mergeK [] kvs)))) := by
  intro pins s σ H xs us Q I r q
  obtain ⟨a, ps, kvs, ex, ⟨o, hd, ho⟩, hp, q⟩ := q
  subst ex
  obtain ⟨u, eu, rx⟩ := vals1 r
  subst eu
  cases rx
  have hok := I.hok a _ ho
  obtain ⟨hg, hz, its, rv, ⟨o2, hg2, hc, n, hdat⟩⟩ := hok
  have e2 : o2 = o := Option.some.inj (hg2.symm.trans hg)
  subst e2
  have ei := refs_at rv
  subst ei
  rw [List.length_map] at hz
  obtain ⟨prs, us2, rel, hl, hl2, hpr⟩ := pairs_of2 I hp
  have PA := PySem.PairArg.tuple (prog := X.prog) (w := X.w) a (ps.map Value.ref).toArray (fun j => ps.getD j 0) us2
  refine PySem.call_dict_pairs (knd := mixKind X.prog X.w) (kvs := prs) PA (I.ok.hd hcalm) ⟨⟨o2, n, hg, hc, hd, hdat⟩, by simp [hl2], fun j k v e => ?_⟩ ⟨by rw [hl, hl2], fun i k v e => ?_⟩ (by rw [hl2]; exact hz) fun h' tk hd' k => ?_
  · obtain ⟨b, key, e1, e2, e3, e4⟩ := hpr j k v e
    have eb : ps.getD j 0 = b := by rw [List.getD_eq_getElem?_getD, e1]; rfl
    show (List.map Value.ref ps).toArray[j]? = some (Value.ref (ps.getD j 0)) ∧ PySem.PairAt s.heap (ps.getD j 0) k v
    rw [eb]
    refine ⟨by simp [e1], .inl ?_⟩
    exact e3
  · obtain ⟨b, key, e1, e2, e3, e4⟩ := hpr i k v e
    exact ⟨key, e2, e4⟩
  · have hm : (s.heap.objs.size == sysModules) = false := beq_eq_false_iff_ne.mpr (Nat.ne_of_gt I.big)
    have hlen : (mergeK [] kvs).length ≤ sizeLine := by
      refine Nat.le_trans (length_mergeK kvs []) ?_
      rw [List.length_nil, Nat.zero_add, rel.length, hl]
      exact hz
    exact ⟨.ref s.heap.objs.size, upd H s.heap.objs.size (.dK (mergeK [] kvs)), I.laid (t' := tk) (fun b o e => k b o (by simp) e) (Nat.le_refl _) (show ObjOk X.prog X.w _ _ _ (.dK (mergeK [] kvs)) from ⟨hlen, hm, merged [] prs, KV.merge rel .nil, hd'⟩), rfl, q _ (I.hok.fresh (Nat.le_refl _))⟩
/-! ### x in t, x not in t, of data -/
def rInD (K : PySem.W.Frag) (neg : Bool) : R2 := fun x y H Q => ∃ d es, Dp K H x d ∧ Dp K H y (.tuple es) ∧ SeqAt.shaped d = true ∧ SeqAt.shaped (.tuple es) = true ∧ Q (.bl (if neg = true then !(es.any fun e => PyData.eqv e d) else es.any fun e => PyData.eqv e d)) H
theorem op_inD (hu : X.A.units + 66 < cLine) : OpR X (compareOp .In) (rInD X.K false) := by
  intro pins s σ H x y v u Q I rx ry h
  obtain ⟨d, es, hd, he, sd, se, q⟩ := h
  obtain ⟨as, r1⟩ := Dp.reads I d x v hd rx
  obtain ⟨bs, r2⟩ := Dp.reads I (.tuple es) y u he ry
  have h1 := SeqAt.depth_of_shaped sd
  exact SeqAt.in_tuple_reads r2 r1 (SeqAt.canLay_of_shaped se) (SeqAt.canLay_of_shaped sd) (by have := Nat.min_le_right (PyData.depthAll es) d.depth; omega) ⟨.bl _, H, I, rfl, q⟩
theorem op_notInD (hu : X.A.units + 66 < cLine) : OpR X (compareOp .NotIn) (rInD X.K true) := by
  intro pins s σ H x y v u Q I rx ry h
  obtain ⟨d, es, hd, he, sd, se, q⟩ := h
  obtain ⟨as, r1⟩ := Dp.reads I d x v hd rx
  obtain ⟨bs, r2⟩ := Dp.reads I (.tuple es) y u he ry
  have h1 := SeqAt.depth_of_shaped sd
  exact SeqAt.notIn_tuple_reads r2 r1 (SeqAt.canLay_of_shaped se) (SeqAt.canLay_of_shaped sd) (by have := Nat.min_le_right (PyData.depthAll es) d.depth; omega) ⟨.bl _, H, I, rfl, q⟩
end
/-! ### x in d, d a dict of the module -/
def KDin (K : PySem.W.Frag) (w : World) (a : Addr) (x : Str) (b : Bool) : Prop :=
  ∃ es n o, K.lookup a = some ⟨.type "dict", none, .dict es n, #[]⟩ ∧ PySem.W.KeysLit w.params es.toList ∧ PySem.W.nsIn K a x = some o ∧ b = o.isSome ∧ (a == sysModules) = false
def rInKD (K : PySem.W.Frag) (w : World) : R2 := fun x y H Q => ∃ p z b, x = .str z ∧ y = .ref p ∧ KDin K w p z b ∧ Q (.bl b) H
section
variable {X : Cx}
theorem op_inKD : OpR X (compareOp .In) (rInKD X.K X.w) := by
  intro pins s σ H x y v u Q I rx ry h
  obtain ⟨p, z, b, rfl, rfl, ⟨es, n, o, hl, hk, e, rfl, lo⟩, q⟩ := h
  obtain rfl : u = Value.ref p := ry
  obtain ⟨t, rfl⟩ := rx
  have hm := PySem.W.mapOf_K (prog := X.prog) (w := X.w) I.kIn hl hk
  refine wpAny_in_of (strKind_is X.prog X.w z t) lo hm ?_
  rw [PySem.W.find_K hl e]
  exact ⟨.bl o.isSome, H, I.tok _, rfl, q⟩
end
theorem inDK {X : Cx} {K : PySem.W.Frag} (h : X.K = K) (hu : X.A.units + 70 < cLine) : OpR X (compareOp .In) (rInD K false) := by subst h; exact op_inD (by omega)
theorem notInDK {X : Cx} {K : PySem.W.Frag} (h : X.K = K) (hu : X.A.units + 70 < cLine) : OpR X (compareOp .NotIn) (rInD K true) := by subst h; exact op_notInD (by omega)
end My

set_option Elab.async false
set_option linter.all false
set_option maxRecDepth 100000
/-! t += u of tuples -/
namespace My
open PySem PySem.Spec PyProof.Rows L2 HT
theorem noI_tuple_add : typeLookup (.type "tuple") (dunderI "add") = pure none := by rw [typeLookup_type, builtinLookup_eq_fast]; kernel_rfl
section
variable {prog : Program} {w : World} {A : Around} {E : Value → Shared → Prop} {s : Shared}
theorem iconcat_meets {T id : String} {B : Builtin} {a b : Value} {S : PySem.Spec} {Q : Value → Shared → Prop} (ha : s.TypeIs a T) (hb : s.TypeIs b T) (hno : typeLookup (.type T) (dunderI "add") = pure none)
    (hfill : fillsNumberSlot (.type T) "add" = pure false) (hseq : seqSlot? (.type T) "__add__" = pure (some (.builtin id))) (slot : Slot T "__add__" id)
    (entry : entryFor table id = some B) (args : argsOk id ⟨[a, b], []⟩) (g : Meets (B ⟨[a, b], []⟩) S) (h : S A (wants Q E) s) : wpAny (model prog w) A (inplaceOp .Add a b) Q E s :=
  wpAny_inplaceOp_concat ha hb hno hfill hseq (call_meets slot ha entry args g h)
theorem icat_tup {t b : Addr} {vs ws : List Value} {Q : Value → Shared → Prop} (ht : IsTup s.heap t vs.toArray) (hb : IsTup s.heap b ws.toArray) (h0 : vs = [] → Q (.ref b) s)
    (h1 : vs ≠ [] → ws = [] → Q (.ref t) s) (h2 : vs ≠ [] → ws ≠ [] → Q (.ref s.heap.objs.size) { s with heap := s.heap.push { cls := .type "tuple", data := .seq (vs ++ ws).toArray } })
    (hsz : vs.length + ws.length ≤ sizeLine) : wpAny (model prog w) A (inplaceOp .Add (.ref t) (.ref b)) Q E s := by
  obtain ⟨⟨cls, dd, data, sl⟩, ho, hc, n, hd⟩ := id ht
  obtain ⟨⟨cls2, dd2, data2, sl2⟩, ho2, hc2, n2, hd2⟩ := id hb
  simp only at hc hd hc2 hd2
  subst hc hd hc2 hd2
  have e : vs.toArray ++ ws.toArray = (vs ++ ws).toArray := by simp
  by_cases hv : vs = []
  · exact iconcat_meets ⟨_, ho, rfl⟩ ⟨_, ho2, rfl⟩ noI_tuple_add noFill_tuple_add seq_tuple_add PySem.F.slot_tuple_add PySem.F.entry_tuple_add (PySem.F.args_tuple_add_2 _ _)
      (tuple_addW0 t b vs.toArray ws.toArray n n2 dd dd2 sl sl2 (by simp [hv])) ⟨ho, ho2, h0 hv⟩
  by_cases hw : ws = []
  · exact iconcat_meets ⟨_, ho, rfl⟩ ⟨_, ho2, rfl⟩ noI_tuple_add noFill_tuple_add seq_tuple_add PySem.F.slot_tuple_add PySem.F.entry_tuple_add (PySem.F.args_tuple_add_2 _ _)
      (tuple_addW1 t b vs.toArray ws.toArray n n2 dd dd2 sl sl2 (by simpa using hv) (by simp [hw])) ⟨ho, ho2, h1 hv hw⟩
  · refine iconcat_meets ⟨_, ho, rfl⟩ ⟨_, ho2, rfl⟩ noI_tuple_add noFill_tuple_add seq_tuple_add PySem.F.slot_tuple_add PySem.F.entry_tuple_add (PySem.F.args_tuple_add_2 _ _)
      (tuple_addW2 t b vs.toArray ws.toArray n n2 dd dd2 sl sl2 (by simpa using hv) (by simpa using hw) (by rw [List.size_toArray, List.size_toArray]; exact hsz)) ⟨ho, ho2, ?_⟩
    rw [e]
    exact h2 hv hw
end
theorem ip_catA {X : Cx} : PIp X .Add (rCatA X.K) := by
  intro pins s σ H x y v u Q I rx ry h
  obtain ⟨a, b, xs, ys, rfl, rfl, ha, hb, hz, q0, q1, q2⟩ := h
  cases rx
  cases ry
  obtain ⟨its, r1, p1, _⟩ := I.tuple ha
  obtain ⟨its2, r2, p2, _⟩ := I.tuple hb
  refine icat_tup p1 p2 (fun z => ⟨.ref b, H, I, rfl, q0 (r1.nil_iff.mp z)⟩) (fun z z2 => ⟨.ref a, H, I, rfl, q1 (fun y => z (r1.nil_iff.mpr y)) (r2.nil_iff.mp z2)⟩) (fun z z2 => ?_) (by rw [← r1.length, ← r2.length]; exact hz)
  refine ⟨.ref s.heap.objs.size, _, I.laid (t' := s.toks) (o := .tup (xs ++ ys)) (fun b ob q => Heap.get?_push_of_some _ q) (Nat.le_refl _) ?_, rfl, q2 (fun w => z (r1.nil_iff.mpr w)) (fun w => z2 (r2.nil_iff.mpr w)) _ (I.hok.fresh (Nat.le_refl _))⟩
  exact ⟨by rw [List.length_append]; exact hz, _, r1.append r2, IsTup.new _ _⟩
end My

set_option Elab.async false
set_option linter.all false
set_option maxRecDepth 100000
/-! t.count(x), d.get(x) of a dict of the module -/
namespace My
open PySem PySem.Spec PyProof.Rows L2
def cntV (x : V) (xs : List V) : Nat := xs.countP fun y => eqV y x
def rCntT (K : PySem.W.Frag) : V → List V → Hp → VK → Prop := fun x vs H Q => ∃ p ys y, x = .ref p ∧ vs = [y] ∧ SqT K H p ys ∧ flatV y = true ∧ ys.all flatV = true ∧ Q (.int (cntV y ys : Nat)) H
theorem cnt_eqU {x : V} : ∀ {xs : List V} {us : List Value}, Vals xs us → xs.all flatV = true → us.countP (eqU x) = cntV x xs
  | _, _, .nil, _ => rfl
  | y :: xs, u :: us, .cons r t, f => by
    rw [List.all_cons, Bool.and_eq_true] at f
    unfold cntV
    rw [List.countP_cons, List.countP_cons, eqU_of r f.1, cnt_eqU t f.2]
    rfl
section
variable {X : Cx}
theorem mt_tcount : MtR X "tuple.count" (rCntT X.K) := by
  intro pins s σ H x vs v us Q I rx rv h
  obtain ⟨p, ys, y, rfl, rfl, hq, fy, fs, q⟩ := h
  cases rx
  obtain ⟨u, rfl, ru⟩ := rv.one
  obtain ⟨its, r, pl, hz⟩ := I.tuple hq
  obtain ⟨⟨cls, dd, data, sl⟩, ho, hc, n, hd'⟩ := id pl
  simp only at hc hd'
  subst hc hd'
  refine call_meets PySem.F.slot_tuple_count ⟨_, ho, rfl⟩ PySem.F.entry_tuple_count (PySem.F.args_tuple_count_2 _ _) (SeqAt.tuple_countAt p its.toArray n dd sl u (eqU y)) ⟨ho, fun w hw => mem_eqAt ru fy r fs w (by simpa using hw), ?_⟩
  refine ⟨.int _, H, I.tok _, ⟨_, rfl⟩, ?_⟩
  show Q (.int ((its.countP (eqU y) : Nat) : Int)) H
  rw [cnt_eqU r fs]
  exact q
theorem mt_tcountK {K : PySem.W.Frag} (h : X.K = K) : MtR X "tuple.count" (rCntT K) := by subst h; exact mt_tcount
end
/-! ### d.get(x), d of the module -/
inductive KO : Option V → Option Value → Prop
  | no : KO none none
  | yes {v : V} {u : Value} : RelV v u → KO (some v) (some u)
/-- what stands at a word, if anything does -/
def KDgt (K : PySem.W.Frag) (w : World) (a : Addr) (x : Str) (o : Option V) : Prop :=
  ∃ es n r, K.lookup a = some ⟨.type "dict", none, .dict es n, #[]⟩ ∧ PySem.W.KeysLit w.params es.toList ∧ PySem.W.nsIn K a x = some r ∧ KO o r ∧ (a == sysModules) = false
def tKGet (K : PySem.W.Frag) (w : World) (td ty : TE) : TE := fun σ H Q => td σ H fun x H1 => ∃ a es n, x = .ref a ∧ K.lookup a = some ⟨.type "dict", none, .dict es n, #[]⟩ ∧ PySem.W.KeysLit w.params es.toList ∧ ty σ H1 fun y H2 => ∃ z o, y = .str z ∧ KDgt K w a z o ∧ Q (o.getD .non) H2
section
variable {X : Cx} {o e : Expr} {apos cpos : Pos} {td ty : TE}
theorem pe_kget (ho : PE X o td) (he : PE X e ty) (m : M1 X o "get" apos e cpos) : PE X (.Call (.Attribute o "get" apos) [e] [] cpos) (tKGet X.K X.w td ty) := by
  refine ⟨fun pins s σ H Q I h => ?_⟩
  refine wpAny_Call_method m.base m.few m.line PySem.F.plainAttrs_dict PySem.F.slot_dict_get PySem.F.type_dict_get (thn (ho.run pins s σ H _ I h) fun u s1 ⟨x, H1, I1, rx, a, es, n, ex, hl, hk, q1⟩ => ?_)
  subst ex
  obtain rfl : u = Value.ref a := rx
  refine ⟨(PySem.W.mapOf_K (prog := X.prog) (w := X.w) I1.kIn hl hk).typeIs, fun b q => ?_, ?_⟩
  · cases q
    exact ⟨_, I1.kIn _ _ hl, rfl⟩
  rw [m.trees]
  refine Calls.callWith_builtin rfl (Calls.evalArgs_plain (Calls.spliced_cons (thn (he.run pins s1 σ H1 _ I1 q1) fun iv s2 ⟨y, H2, I2, ry, z, ov, ey, ⟨es', n', r, hl', hk', e', ko, low⟩, q2⟩ => Calls.spliced_nil ?_)))
  subst ey
  obtain ⟨t, rfl⟩ := ry
  have hm := PySem.W.mapOf_K (prog := X.prog) (w := X.w) I2.kIn hl' hk'
  refine call_meetsIn PySem.F.slot_dict_get hm.typeIs PySem.F.entry_dict_get (PySem.F.args_dict_get_2 _ _) (meets_dict_get (PySem.strKind X.prog X.w) a (PySem.strKind_is X.prog X.w z t) low) ⟨_, hm, ?_⟩
  rw [PySem.W.find_K hl' e']
  refine ⟨_, H2, I2.tok _, ?_, q2⟩
  cases ko with
  | no => exact rfl
  | yes r => exact r
end
end My

set_option Elab.async false
set_option linter.all false
set_option maxRecDepth 100000
/-! l.extend(t), t a tuple of any kind -/
namespace My
open PySem PySem.Spec PyProof.Rows L2 HT PySem.AutoSeq1
theorem ext_tup (l : Addr) (items : Array Value) (n : Nat) (b : Addr) (items2 : Array Value) (n2 : Nat) (dd : Option Addr) (sl : Array (Option Value)) (h0 : ¬(!items.isEmpty && Builtin.List.listTooLong (items.size + items2.size)) = true) (h1 : items.size ≤ sizeLine) (h2 : items.size + items2.size ≤ sizeLine + 1) :
    Meets (Builtin.«list.extend» ⟨[.ref l, .ref b], []⟩) (fun _ R s => s.heap.get? l = some { cls := .type "list", dict := none, data := .seq items n, slots := #[] } ∧ s.heap.get? b = some { cls := .type "tuple", dict := dd, data := .seq items2 n2, slots := sl } ∧
      R (.ok (.ret Value.none)) { s with heap := s.heap.update l (Obj.mapSeq fun x => x ++ items2), toks := s.toks }) :=
  .of_wp fun prog w A R s h => by
    obtain ⟨hp, g, d, tk, os⟩ := s
    obtain ⟨hl, hb, h⟩ := h
    have f2 := AutoSeq1.sub_tuple_tuple
    have f4 := AutoSeq1.sub_tuple_list
    have f5 := AutoSeq1.sub_list_tuple
    have f3 := AutoSeq1.sub_list_list
    have hz : (items ++ items2).size ≤ sizeLine + 1 := by rw [Array.size_append]; exact h2
    wp_walk using (wpAny_updateSeq hl rfl (hz := h1) (_hz' := hz)), wpAny_loadPart' hl, wpAny_loadPart' hb
    exact ⟨_, rfl, h⟩
def rExtT (K : PySem.W.Frag) : V → List V → Hp → VK → Prop := fun x vs H Q => ∃ l b xs zs, x = .ref l ∧ vs = [.ref b] ∧ H l = some (.lst xs) ∧ SqT K H b zs ∧ xs.length + zs.length ≤ sizeLine ∧ Q .non (upd H l (.lst (xs ++ zs)))
theorem mt_extT {X : Cx} : MtM X "list.extend" (rExtT X.K) := by
  intro pins s σ H x vs v us Q I rx rv h
  obtain ⟨l, b, xs, zs, rfl, rfl, hH, hB, hz, q⟩ := h
  cases rx
  obtain ⟨u, rfl, ru⟩ := rv.one
  cases ru
  obtain ⟨z, its, n, r, hl, e⟩ := I.lstM hH
  obtain ⟨its2, r2, p2, hl2⟩ := I.tuple hB
  obtain ⟨⟨cls, dd, data, sl⟩, ho, hc, n2, hd⟩ := id p2
  simp only at hc hd
  subst hc hd
  have l1 := r.length
  have l2 := r2.length
  have hsz : its.toArray.size + its2.toArray.size ≤ sizeLine := by rw [List.size_toArray, List.size_toArray]; omega
  have hlong : ¬ (!its.toArray.isEmpty && Builtin.List.listTooLong (its.toArray.size + its2.toArray.size)) = true := by
    have : Builtin.List.listTooLong (its.toArray.size + its2.toArray.size) = false := by
      unfold Builtin.List.listTooLong
      exact decide_eq_false (by omega)
    rw [this, Bool.and_false]
    exact Bool.false_ne_true
  refine call_meets PySem.F.slot_list_extend ⟨_, e, rfl⟩ PySem.F.entry_list_extend (PySem.F.args_list_extend_2 _ _)
    (ext_tup l its.toArray n b its2.toArray n2 dd sl hlong (by rw [List.size_toArray]; omega) (by omega)) ⟨e, ho, ?_⟩
  refine ⟨.non, _, I.lset (its' := its ++ its2) hH e (by simp) (r.append r2) ?_, rfl, q⟩
  rw [List.length_append]
  omega
end My

set_option Elab.async false
set_option linter.all false
set_option maxRecDepth 100000
/-! tuples made by a display or by + that are known to have no dict of their own; t.count(x) of such a tuple -/
namespace My
open PySem PySem.Spec PyProof.Rows L2 HT
def tTcn (to te : TE) : TE := fun σ H Q => to σ H fun x H1 => ∃ a xs, x = .ref a ∧ FzT H1 a xs ∧ te σ H1 fun y H2 => FzT H2 a xs ∧ flatV y = true ∧ xs.all flatV = true ∧ Q (.int (cntV y xs : Nat)) H2
def tTupF (t : TA) : TE := fun σ H Q => t σ H fun xs H1 => xs.length ≤ sizeLine ∧ ∀ (p : Addr) (o : Obj), H1 p = none → o.dict = none → Q (.ref p) (upd H1 p (.frz o (.tup xs)))
section
variable {X : Cx} {o e : Expr} {es : List Expr} {apos cpos pos : Pos} {to te : TE} {t : TA}
theorem fz_none {pins : List (Addr × Obj)} {σ : L2.St} {H : Hp} {s : Shared} {a : Addr} {xs : List V} (I : L2.Inv X pins σ H s) (h : FzT H a xs) : s.TypeIs (.ref a) "tuple" ∧ ∀ b, (Value.ref a : Value) = .ref b → ∃ ob, s.heap.get? b = some ob ∧ ob.dict = none := by
  obtain ⟨oo, hd, ho⟩ := h
  have hok := I.hok a _ ho
  obtain ⟨hg, hz, its, rv, ⟨o2, hg2, hc, n, hdat⟩⟩ := hok
  have e2 : o2 = oo := Option.some.inj (hg2.symm.trans hg)
  subst e2
  refine ⟨⟨o2, hg2, hc⟩, fun b q => ?_⟩
  cases q
  exact ⟨o2, hg2, hd⟩
theorem pe_tcnF (ho : PE X o to) (he : PE X e te) (m : M1 X o "count" apos e cpos) : PE X (.Call (.Attribute o "count" apos) [e] [] cpos) (tTcn to te) := by
  refine ⟨fun pins s σ H Q I h => ?_⟩
  refine wpAny_Call_method m.base m.few m.line PySem.F.plainAttrs_tuple PySem.F.slot_tuple_count PySem.F.type_tuple_count (thn (ho.run pins s σ H _ I h) fun u s1 ⟨x, H1, I1, rx, a, xs, ex, fz, q1⟩ => ?_)
  subst ex
  obtain rfl : u = Value.ref a := rx
  obtain ⟨h1, h2⟩ := fz_none I1 fz
  refine ⟨h1, h2, ?_⟩
  rw [m.trees]
  refine Calls.callWith_builtin rfl (Calls.evalArgs_plain (Calls.spliced_cons (thn (he.run pins s1 σ H1 _ I1 q1) fun iv s2 ⟨y, H2, I2, ry, fz2, fy, fs, q2⟩ => Calls.spliced_nil ?_)))
  exact mt_tcount pins s2 σ H2 (.ref a) [y] (.ref a) [iv] Q I2 rfl (.cons ry .nil) ⟨a, xs, y, rfl, rfl, fz2.sq, fy, fs, q2⟩
theorem pe_tupF {x1 : Nat} (h : PA X es t) : PE X (.Tuple es x1 pos) (tTupF t) := by
  refine ⟨fun pins s σ H Q I hq => ?_⟩
  refine wpAny_Tuple_spliced (thn (h.run pos pins s σ H _ I hq) fun us s1 ⟨xs, H1, I1, r, z, q⟩ => ⟨by rw [← r.length]; exact z, ?_⟩)
  have hf : H1 s1.heap.objs.size = none := I1.hok.fresh (Nat.le_refl _)
  have e : us.toArray.toList = us := by simp
  refine ⟨.ref s1.heap.objs.size, upd H1 s1.heap.objs.size (.frz { cls := .type "tuple", data := .seq us.toArray } (.tup xs)), I1.laid (t' := s1.toks) (fun b u e => Heap.get?_push_of_some _ e) (Nat.le_refl _) ?_, rfl, q _ _ hf rfl⟩
  exact ⟨Heap.get?_push_size _ rfl, z, us, r, IsTup.new _ _⟩
end
/-- t + u, neither empty -/
def rCatF (K : PySem.W.Frag) : R2 := fun x y H Q => ∃ a b xs ys, x = .ref a ∧ y = .ref b ∧ SqT K H a xs ∧ SqT K H b ys ∧ xs ≠ [] ∧ ys ≠ [] ∧ xs.length + ys.length ≤ sizeLine ∧ ∀ (p : Addr) (o : Obj), H p = none → o.dict = none → Q (.ref p) (upd H p (.frz o (.tup (xs ++ ys))))
theorem op_catF {X : Cx} : OpR X (binaryOp .Add) (rCatF X.K) := by
  intro pins s σ H x y v u Q I rx ry h
  obtain ⟨a, b, xs, ys, rfl, rfl, ha, hb, hx, hy, hz, q2⟩ := h
  cases rx
  cases ry
  obtain ⟨us, r1, p1, _⟩ := I.tuple ha
  obtain ⟨ws, r2, p2, _⟩ := I.tuple hb
  have l1 := r1.length
  have l2 := r2.length
  refine HT.cat_tup p1 p2 (fun z => absurd (r1.nil_iff.mp z) hx) (fun z => absurd (r2.nil_iff.mp z) hy) (fun z => ?_) (by omega)
  have I2 := I.laid (t' := s.toks) (a := s.heap.objs.size) (h' := s.heap.push { cls := .type "tuple", data := .seq (us ++ ws).toArray }) (o := .frz { cls := .type "tuple", data := .seq (us ++ ws).toArray } (.tup (xs ++ ys))) (fun b ob q => Heap.get?_push_of_some _ q) (Nat.le_refl _)
    ⟨Heap.get?_push_size _ rfl, by rw [List.length_append]; exact hz, us ++ ws, r1.append r2, IsTup.new _ _⟩
  exact ⟨.ref s.heap.objs.size, _, I2, rfl, q2 _ _ (I.hok.fresh (Nat.le_refl _)) rfl⟩
end My

set_option Elab.async false
set_option linter.all false
set_option maxRecDepth 100000
set_option maxHeartbeats 1000000
/-! ordinary programs as trees, and what they do -/
namespace My
open PySem PySem.Spec PyProof.Rows L2
inductive PS where
  | set (x : Str) (e : Ex) | ite (e : Ex) (a b : List PS) | whl (e : Ex) (a : List PS)
mutual
def PS.d : PS → PyData
  | .set x e => .tuple [.str "set", .str x, e.d]
  | .ite e a b => .tuple [.str "if", e.d, .tuple (pbd a), .tuple (pbd b)]
  | .whl e a => .tuple [.str "while", e.d, .tuple (pbd a)]
def pbd : List PS → List PyData
  | [] => []
  | s :: r => s.d :: pbd r
end
theorem pbd_map : ∀ a : List PS, pbd a = a.map PS.d
  | [] => by rw [pbd]; rfl
  | s :: r => by rw [pbd, pbd_map r]; rfl
def four4 : List Str := ["x", "y", "n", "k"]
def nm4 : Nm := [("x", 0), ("y", 0), ("n", 0), ("k", 0)]
mutual
def POk (w : Nat) : PS → Prop
  | .set x e => x ∈ four4 ∧ EO w nm4 e
  | .ite e a b => EO w nm4 e ∧ PBk w a ∧ PBk w b
  | .whl e a => EO w nm4 e ∧ PBk w a
def PBk (w : Nat) : List PS → Prop
  | [] => True
  | s :: r => POk w s ∧ PBk w r
end
mutual
def PS.dp : PS → Nat
  | .set _ _ => 1
  | .ite _ a b => max (pdp a) (pdp b) + 1
  | .whl _ a => pdp a + 1
def pdp : List PS → Nat
  | [] => 0
  | s :: r => max s.dp (pdp r)
end
mutual
def PS.sz : PS → Nat
  | .set _ _ => 1
  | .ite _ a b => psz a + psz b + 1
  | .whl _ a => psz a + 1
def psz : List PS → Nat
  | [] => 0
  | s :: r => s.sz + psz r
end
theorem PS.dp_pos : ∀ p : PS, 1 ≤ p.dp
  | .set _ _ => by rw [PS.dp]; omega
  | .ite _ _ _ => by rw [PS.dp]; omega
  | .whl _ _ => by rw [PS.dp]; omega
theorem PS.sz_pos : ∀ p : PS, 1 ≤ p.sz
  | .set _ _ => by rw [PS.sz]; omega
  | .ite _ _ _ => by rw [PS.sz]; omega
  | .whl _ _ => by rw [PS.sz]; omega
theorem pbk_mem {w : Nat} : ∀ {a : List PS}, PBk w a ↔ ∀ p ∈ a, POk w p
  | [] => by rw [PBk]; simp
  | s :: r => by
    rw [PBk, pbk_mem]
    simp
theorem pbk_app {w : Nat} {a b : List PS} (h : PBk w a) (k : PBk w b) : PBk w (a ++ b) := by
  rw [pbk_mem] at h k ⊢
  intro p hp
  rcases List.mem_append.mp hp with z | z
  · exact h p z
  · exact k p z
theorem pdp_app : ∀ a b : List PS, pdp (a ++ b) = max (pdp a) (pdp b)
  | [], b => by rw [List.nil_append, pdp]; omega
  | s :: r, b => by rw [List.cons_append, pdp, pdp, pdp_app r b]; omega
theorem psz_app : ∀ a b : List PS, psz (a ++ b) = psz a + psz b
  | [], b => by rw [List.nil_append, psz]; omega
  | s :: r, b => by rw [List.cons_append, psz, psz, psz_app r b]; omega
theorem pdp_mem {p : PS} : ∀ {a : List PS}, p ∈ a → p.dp ≤ pdp a
  | s :: r, h => by
    rw [pdp]
    rcases List.mem_cons.mp h with rfl | h
    · omega
    · have := pdp_mem h
      omega
theorem psz_len : ∀ a : List PS, a.length ≤ psz a
  | [] => by simp
  | s :: r => by
    rw [psz, List.length_cons]
    have := psz_len r
    have := s.sz_pos
    omega
/-! ### the machine -/
abbrev Lk := Str → Int
def Lk.en (l : Lk) : Str → List Int := fun x => [l x]
def Lk.put (l : Lk) (x : Str) (v : Int) : Lk := fun y => if y = x then v else l y
structure PFr where
  all : List PS
  i : Nat
  own : Option PS
structure PMc where
  lk : Lk
  st : Nat
  mx : Nat
  fr : List PFr
def PFr.fin (f : PFr) : Prop := f.all.length ≤ f.i
def PFr.soft (f : PFr) : Prop := match f.own with | some (.whl _ _) => False | _ => True
/-- begun -/
def begP (w : Nat) (p : PS) (c : PMc) : PMc := match p with
  | .set x e => { c with lk := c.lk.put x (e.val w c.lk.en), mx := c.mx + 1 }
  | .ite e a b => { c with fr := ⟨if e.val w c.lk.en ≠ 0 then a else b, 0, some p⟩ :: c.fr }
  | .whl e a => if e.val w c.lk.en ≠ 0 then { c with fr := ⟨a, 0, some p⟩ :: c.fr } else { c with mx := c.mx + 1 }
/-- one turn -/
inductive Stp (w F : Nat) : PMc → PMc → Prop
  | pop {lk st mx} {f : PFr} {r} : f.fin → f.soft → Stp w F ⟨lk, st, mx, f :: r⟩ ⟨lk, st, mx + (if f.own.isNone then 0 else 1), r⟩
  | next {lk st mx all i own r p} : st < F → all[i]? = some p → Stp w F ⟨lk, st, mx, ⟨all, i, own⟩ :: r⟩ (begP w p ⟨lk, st + 1, mx, ⟨all, i + 1, own⟩ :: r⟩)
  | again {lk st mx all i e a r} : st < F → all.length ≤ i → Stp w F ⟨lk, st, mx, ⟨all, i, some (.whl e a)⟩ :: r⟩ (begP w (.whl e a) ⟨lk, st + 1, mx, r⟩)
/-- no fuel is left -/
def Dry (F : Nat) (c : PMc) : Prop := F ≤ c.st ∧ ∃ f r, c.fr = f :: r ∧ (¬ f.fin ∨ ¬ f.soft)
inductive Gos (w F : Nat) : Nat → PMc → PMc → Prop
  | refl (c) : Gos w F 0 c c
  | step {n c d e} : Stp w F c d → Gos w F n d e → Gos w F (n + 1) c e
theorem Gos.one {w F : Nat} {c d : PMc} (h : Stp w F c d) : Gos w F 1 c d := .step h (.refl _)
theorem Gos.trans {w F n m : Nat} {c d e : PMc} (h : Gos w F n c d) (k : Gos w F m d e) : Gos w F (m + n) c e := by
  induction h with
  | refl => exact k
  | step s _ ih => exact .step s (ih k)
def Reach (w F : Nat) (c d : PMc) : Prop := ∃ n, Gos w F n c d
theorem Reach.trans {w F : Nat} {c d e : PMc} (h : Reach w F c d) (k : Reach w F d e) : Reach w F c e := let ⟨_, a⟩ := h; let ⟨_, b⟩ := k; ⟨_, a.trans b⟩
theorem Reach.one {w F : Nat} {c d : PMc} (h : Stp w F c d) : Reach w F c d := ⟨_, .one h⟩
/-- what the law's walk knows -/
structure PSt where
  lk : Lk
  st : Nat
  mx : Nat
  out : Bool
/-- a body from its i-th statement on -/
def DoB (w F : Nat) (all : List PS) (i : Nat) (s s' : PSt) : Prop := ∀ own r, if s'.out then ∃ c, Reach w F ⟨s.lk, s.st, s.mx, ⟨all, i, own⟩ :: r⟩ c ∧ Dry F c ∧ c.lk = s'.lk ∧ c.st = s'.st ∧ c.mx = s'.mx
  else Reach w F ⟨s.lk, s.st, s.mx, ⟨all, i, own⟩ :: r⟩ ⟨s'.lk, s'.st, s'.mx, ⟨all, all.length, own⟩ :: r⟩
/-- a statement that is begun -/
def DoS (w F : Nat) (p : PS) (s s' : PSt) : Prop := ∀ r, if s'.out then ∃ c, Reach w F (begP w p ⟨s.lk, s.st, s.mx, r⟩) c ∧ Dry F c ∧ c.lk = s'.lk ∧ c.st = s'.st ∧ c.mx = s'.mx
  else Reach w F (begP w p ⟨s.lk, s.st, s.mx, r⟩) ⟨s'.lk, s'.st, s'.mx + 1, r⟩
section
variable {w F : Nat} {s s1 s2 : PSt} {all a b : List PS} {i : Nat} {e : Ex} {x : Str} {p : PS}
theorem dob_nil (h : all.length = i) (o : s.out = false) : DoB w F all i s s := fun own r => by
  rw [o, ← h]
  exact ⟨0, .refl _⟩
theorem dob_dry (h : i < all.length) (o : F ≤ s.st) : DoB w F all i s { s with out := true } := fun own r => ⟨_, ⟨0, .refl _⟩, ⟨o, _, _, rfl, .inl (by show ¬ all.length ≤ i; omega)⟩, rfl, rfl, rfl⟩
theorem dob_out (h : all[i]? = some p) (o : s.st < F) (d : DoS w F p { s with st := s.st + 1 } s1) (e : s1.out = true) : DoB w F all i s s1 := fun own r => by
  have := d (⟨all, i + 1, own⟩ :: r)
  rw [e] at this ⊢
  obtain ⟨c, h1, h2⟩ := this
  exact ⟨c, (Reach.one (.next o h)).trans h1, h2⟩
theorem dob_go (h : all[i]? = some p) (o : s.st < F) (d : DoS w F p { s with st := s.st + 1 } s1) (e : s1.out = false) (k : DoB w F all (i + 1) { s1 with mx := s1.mx + 1 } s2) : DoB w F all i s s2 := fun own r => by
  have := d (⟨all, i + 1, own⟩ :: r)
  rw [e] at this
  have k := k own r
  have g := (Reach.one (.next (own := own) (r := r) o h)).trans this
  by_cases z : s2.out = true
  · rw [z] at k ⊢
    obtain ⟨c, h1, h2⟩ := k
    exact ⟨c, g.trans h1, h2⟩
  · rw [Bool.not_eq_true] at z
    rw [z] at k ⊢
    exact g.trans k
theorem dos_set (h : s.out = false) : DoS w F (.set x e) s { s with lk := s.lk.put x (e.val w s.lk.en) } := fun r => by
  show if s.out = true then _ else _
  rw [h]
  exact ⟨0, .refl _⟩
theorem dos_ite (d : DoB w F (if e.val w s.lk.en ≠ 0 then a else b) 0 s s1) : DoS w F (.ite e a b) s s1 := fun r => by
  have := d (some (.ite e a b)) r
  by_cases z : s1.out = true
  · rw [z] at this ⊢
    exact this
  · rw [Bool.not_eq_true] at z
    rw [z] at this ⊢
    exact this.trans (.one (.pop (Nat.le_refl _) trivial))
theorem dos_stop (h : s.out = false) (v : e.val w s.lk.en = 0) : DoS w F (.whl e a) s s := fun r => by
  rw [h]
  refine ⟨0, ?_⟩
  show Gos w F 0 (if e.val w s.lk.en ≠ 0 then _ else _) _
  rw [if_neg (fun z => z v)]
  exact .refl _
theorem dos_wout (v : e.val w s.lk.en ≠ 0) (d : DoB w F a 0 s s1) (o : s1.out = true) : DoS w F (.whl e a) s s1 := fun r => by
  have := d (some (.whl e a)) r
  rw [o] at this ⊢
  show ∃ c, Reach w F (if e.val w s.lk.en ≠ 0 then _ else _) c ∧ _
  rw [if_pos v]
  exact this
theorem dos_wdry (v : e.val w s.lk.en ≠ 0) (d : DoB w F a 0 s s1) (o : s1.out = false) (f : F ≤ s1.st) : DoS w F (.whl e a) s { s1 with out := true } := fun r => by
  have := d (some (.whl e a)) r
  rw [o] at this
  show ∃ c, Reach w F (if e.val w s.lk.en ≠ 0 then _ else _) c ∧ _
  rw [if_pos v]
  exact ⟨_, this, ⟨f, _, _, rfl, .inr (fun z => z)⟩, rfl, rfl, rfl⟩
theorem dos_wgo (v : e.val w s.lk.en ≠ 0) (d : DoB w F a 0 s s1) (o : s1.out = false) (f : s1.st < F) (k : DoS w F (.whl e a) { s1 with st := s1.st + 1 } s2) : DoS w F (.whl e a) s s2 := fun r => by
  have := d (some (.whl e a)) r
  rw [o] at this
  have k := k r
  have g : Reach w F (begP w (.whl e a) ⟨s.lk, s.st, s.mx, r⟩) (begP w (.whl e a) ⟨s1.lk, s1.st + 1, s1.mx, r⟩) := by
    refine Reach.trans (d := ⟨s1.lk, s1.st, s1.mx, ⟨a, a.length, some (.whl e a)⟩ :: r⟩) ?_ (.one (.again f (Nat.le_refl _)))
    show Reach w F (if e.val w s.lk.en ≠ 0 then _ else _) _
    rw [if_pos v]
    exact this
  by_cases z : s2.out = true
  · rw [z] at k ⊢
    obtain ⟨c, h1, h2⟩ := k
    exact ⟨c, g.trans h1, h2⟩
  · rw [Bool.not_eq_true] at z
    rw [z] at k ⊢
    exact g.trans k
end
end My

set_option Elab.async false
set_option linter.all false
set_option maxRecDepth 100000
namespace My
open PySem PySem.Spec PyProof.Rows L2
structure TxA (K : PySem.W.Frag) (mg : Str → Option Value) (w : World) where
  a_EXPRESSION_LENGTHS : Addr
  m_EXPRESSION_LENGTHS : mg "EXPRESSION_LENGTHS" = some (.ref a_EXPRESSION_LENGTHS)
  e_int : KDgt K w a_EXPRESSION_LENGTHS "int" (some (.int 2))
  e_var : KDgt K w a_EXPRESSION_LENGTHS "var" (some (.int 2))
  e_cell : KDgt K w a_EXPRESSION_LENGTHS "cell" (some (.int 3))
  e_not : KDgt K w a_EXPRESSION_LENGTHS "not" (some (.int 2))
  e_add : KDgt K w a_EXPRESSION_LENGTHS "add" (some (.int 3))
  e_sub : KDgt K w a_EXPRESSION_LENGTHS "sub" (some (.int 3))
  e_mul : KDgt K w a_EXPRESSION_LENGTHS "mul" (some (.int 3))
  e_and : KDgt K w a_EXPRESSION_LENGTHS "and" (some (.int 3))
  e_or : KDgt K w a_EXPRESSION_LENGTHS "or" (some (.int 3))
  e_xor : KDgt K w a_EXPRESSION_LENGTHS "xor" (some (.int 3))
  e_less : KDgt K w a_EXPRESSION_LENGTHS "less" (some (.int 3))
  e_equal : KDgt K w a_EXPRESSION_LENGTHS "equal" (some (.int 3))
  e_shl : KDgt K w a_EXPRESSION_LENGTHS "shl" (some (.int 3))
  e_shr : KDgt K w a_EXPRESSION_LENGTHS "shr" (some (.int 3))
  a_STATEMENT_LENGTHS : Addr
  m_STATEMENT_LENGTHS : mg "STATEMENT_LENGTHS" = some (.ref a_STATEMENT_LENGTHS)
  s_set : KDgt K w a_STATEMENT_LENGTHS "set" (some (.int 3))
  s_if : KDgt K w a_STATEMENT_LENGTHS "if" (some (.int 4))
  s_while : KDgt K w a_STATEMENT_LENGTHS "while" (some (.int 3))
  n_int : KDgt K w a_STATEMENT_LENGTHS "int" none

def topS (i : Nat) : Stmt := PySem.Challenge.pw_backrun_k08_ordinary_runs.main.body.getD i (.Pass ⟨0, 0, 0, 0⟩)
abbrev s_top : Stmt := topS 9
abbrev N_top : List Str := ["w"]
theorem sc_top : FnScope N_top ["w"] (defScope s_top) := ⟨rfl, rfl, rfl, by decide +kernel, rfl, by decide +kernel, by decide +kernel⟩
abbrev s_shift : Stmt := topS 11
abbrev N_shift : List Str := ["op", "w", "x", "y"]
theorem sc_shift : FnScope N_shift ["op", "w", "x", "y"] (defScope s_shift) := ⟨rfl, rfl, rfl, by decide +kernel, rfl, by decide +kernel, by decide +kernel⟩
abbrev s_compute : Stmt := topS 10
abbrev N_compute : List Str := ["op", "w", "x", "y"]
theorem sc_compute : FnScope N_compute ["op", "w", "x", "y"] (defScope s_compute) := ⟨rfl, rfl, rfl, by decide +kernel, rfl, by decide +kernel, by decide +kernel⟩
abbrev s_value_of : Stmt := topS 21
abbrev N_value_of : List Str := ["w", "e", "look", "word"]
theorem sc_value_of : FnScope N_value_of ["w", "e", "look"] (defScope s_value_of) := ⟨rfl, rfl, rfl, by decide +kernel, rfl, by decide +kernel, by decide +kernel⟩
abbrev s_cell_index : Stmt := topS 22
abbrev N_cell_index : List Str := ["w", "e", "look"]
theorem sc_cell_index : FnScope N_cell_index ["w", "e", "look"] (defScope s_cell_index) := ⟨rfl, rfl, rfl, by decide +kernel, rfl, by decide +kernel, by decide +kernel⟩
abbrev s_is_whole : Stmt := topS 14
abbrev N_is_whole : List Str := ["value"]
theorem sc_is_whole : FnScope N_is_whole ["value"] (defScope s_is_whole) := ⟨rfl, rfl, rfl, by decide +kernel, rfl, by decide +kernel, by decide +kernel⟩
abbrev s_is_integer : Stmt := topS 15
abbrev N_is_integer : List Str := ["value", "low", "high"]
theorem sc_is_integer : FnScope N_is_integer ["value", "low", "high"] (defScope s_is_integer) := ⟨rfl, rfl, rfl, by decide +kernel, rfl, by decide +kernel, by decide +kernel⟩
abbrev s_is_word : Stmt := topS 16
abbrev N_is_word : List Str := ["value", "w"]
theorem sc_is_word : FnScope N_is_word ["value", "w"] (defScope s_is_word) := ⟨rfl, rfl, rfl, by decide +kernel, rfl, by decide +kernel, by decide +kernel⟩
abbrev s_z_draw : Stmt := topS 39
abbrev N_z_draw : List Str := ["script", "seed", "cell"]
theorem sc_z_draw : FnScope N_z_draw ["script"] (defScope s_z_draw) := ⟨rfl, rfl, rfl, by decide +kernel, rfl, by decide +kernel, by decide +kernel⟩
abbrev s_z_take : Stmt := topS 40
abbrev N_z_take : List Str := ["draw", "many", "found"]
theorem sc_z_take : FnScope N_z_take ["draw", "many"] (defScope s_z_take) := ⟨rfl, rfl, rfl, by decide +kernel, rfl, by decide +kernel, by decide +kernel⟩
abbrev s_z_top : Stmt := topS 41
abbrev N_z_top : List Str := ["w"]
theorem sc_z_top : FnScope N_z_top ["w"] (defScope s_z_top) := ⟨rfl, rfl, rfl, by decide +kernel, rfl, by decide +kernel, by decide +kernel⟩
abbrev s_z_compute : Stmt := topS 42
abbrev N_z_compute : List Str := ["op", "w", "x", "y", "size", "found", "k", "both"]
theorem sc_z_compute : FnScope N_z_compute ["op", "w", "x", "y"] (defScope s_z_compute) := ⟨rfl, rfl, rfl, by decide +kernel, rfl, by decide +kernel, by decide +kernel⟩
abbrev s_z_word : Stmt := topS 43
abbrev N_z_word : List Str := ["draw", "w", "k"]
theorem sc_z_word : FnScope N_z_word ["draw", "w"] (defScope s_z_word) := ⟨rfl, rfl, rfl, by decide +kernel, rfl, by decide +kernel, by decide +kernel⟩
abbrev s_z_expression : Stmt := topS 44
abbrev N_z_expression : List Str := ["p", "names", "depth", "draw", "variables", "arrays", "k", "ops", "op", "name"]
theorem sc_z_expression : FnScope N_z_expression ["p", "names", "depth"] (defScope s_z_expression) := ⟨rfl, rfl, rfl, by decide +kernel, rfl, by decide +kernel, by decide +kernel⟩
abbrev s_z_value : Stmt := topS 59
abbrev N_z_value : List Str := ["w", "e", "frame", "word", "cells"]
theorem sc_z_value : FnScope N_z_value ["w", "e", "frame"] (defScope s_z_value) := ⟨rfl, rfl, rfl, by decide +kernel, rfl, by decide +kernel, by decide +kernel⟩
abbrev s_begins_with_word : Stmt := topS 17
abbrev N_begins_with_word : List Str := ["value"]
theorem sc_begins_with_word : FnScope N_begins_with_word ["value"] (defScope s_begins_with_word) := ⟨rfl, rfl, rfl, by decide +kernel, rfl, by decide +kernel, by decide +kernel⟩
abbrev s_looks_like_expression : Stmt := topS 18
abbrev N_looks_like_expression : List Str := ["value"]
theorem sc_looks_like_expression : FnScope N_looks_like_expression ["value"] (defScope s_looks_like_expression) := ⟨rfl, rfl, rfl, by decide +kernel, rfl, by decide +kernel, by decide +kernel⟩
abbrev s_is_name : Stmt := topS 5
abbrev N_is_name : List Str := ["text"]
theorem sc_is_name : FnScope N_is_name ["text"] (defScope s_is_name) := ⟨rfl, rfl, rfl, by decide +kernel, rfl, by decide +kernel, by decide +kernel⟩
abbrev s_parts : Stmt := topS 6
abbrev N_parts : List Str := ["expression", "word"]
theorem sc_parts : FnScope N_parts ["expression"] (defScope s_parts) := ⟨rfl, rfl, rfl, by decide +kernel, rfl, by decide +kernel, by decide +kernel⟩
abbrev s_uses : Stmt := topS 7
abbrev N_uses : List Str := ["expression", "found", "waiting", "part"]
theorem sc_uses : FnScope N_uses ["expression"] (defScope s_uses) := ⟨rfl, rfl, rfl, by decide +kernel, rfl, by decide +kernel, by decide +kernel⟩
abbrev s_is_expression : Stmt := topS 19
abbrev N_is_expression : List Str := ["value", "w", "waiting", "part"]
theorem sc_is_expression : FnScope N_is_expression ["value", "w"] (defScope s_is_expression) := ⟨rfl, rfl, rfl, by decide +kernel, rfl, by decide +kernel, by decide +kernel⟩
abbrev s_has_plain_form : Stmt := topS 29
abbrev N_has_plain_form : List Str := ["value", "item"]
theorem sc_has_plain_form : FnScope N_has_plain_form ["value"] (defScope s_has_plain_form) := ⟨rfl, rfl, rfl, by decide +kernel, rfl, by decide +kernel, by decide +kernel⟩
abbrev s_is_plain_name : Stmt := topS 30
abbrev N_is_plain_name : List Str := ["value"]
theorem sc_is_plain_name : FnScope N_is_plain_name ["value"] (defScope s_is_plain_name) := ⟨rfl, rfl, rfl, by decide +kernel, rfl, by decide +kernel, by decide +kernel⟩
abbrev s_are_different_among : Stmt := topS 31
abbrev N_are_different_among : List Str := ["items", "names", "item"]
theorem sc_are_different_among : FnScope N_are_different_among ["items", "names"] (defScope s_are_different_among) := ⟨rfl, rfl, rfl, by decide +kernel, rfl, by decide +kernel, by decide +kernel⟩
abbrev s_plain_bodies : Stmt := topS 34
abbrev N_plain_bodies : List Str := ["statement"]
theorem sc_plain_bodies : FnScope N_plain_bodies ["statement"] (defScope s_plain_bodies) := ⟨rfl, rfl, rfl, by decide +kernel, rfl, by decide +kernel, by decide +kernel⟩
abbrev s_is_plain_statement : Stmt := topS 33
abbrev N_is_plain_statement : List Str := ["value", "width", "names", "e", "kind", "name", "body"]
theorem sc_is_plain_statement : FnScope N_is_plain_statement ["value", "width", "names"] (defScope s_is_plain_statement) := ⟨rfl, rfl, rfl, by decide +kernel, rfl, by decide +kernel, by decide +kernel⟩
abbrev s_is_plain_body : Stmt := topS 32
abbrev N_is_plain_body : List Str := ["body", "width", "names", "waiting", "item", "inner"]
theorem sc_is_plain_body : FnScope N_is_plain_body ["body", "width", "names"] (defScope s_is_plain_body) := ⟨rfl, rfl, rfl, by decide +kernel, rfl, by decide +kernel, by decide +kernel⟩
abbrev s_plain_faults : Stmt := topS 28
abbrev N_plain_faults : List Str := ["value", "width", "names", "inputs", "outputs", "body", "found", "is_right", "item"]
theorem sc_plain_faults : FnScope N_plain_faults ["value"] (defScope s_plain_faults) := ⟨rfl, rfl, rfl, by decide +kernel, rfl, by decide +kernel, by decide +kernel⟩
abbrev s_PlainBody___init__ : Stmt := inClass (topS 36) 0
abbrev N_PlainBody___init__ : List Str := ["self", "body", "owner"]
theorem sc_PlainBody___init__ : FnScope N_PlainBody___init__ ["self", "body", "owner"] (defScope s_PlainBody___init__) := ⟨rfl, rfl, rfl, by decide +kernel, rfl, by decide +kernel, by decide +kernel⟩
abbrev s_PlainRun___init__ : Stmt := inClass (topS 37) 0
abbrev N_PlainRun___init__ : List Str := ["self", "program", "values", "fuel", "names", "inputs", "_", "body", "name", "word"]
theorem sc_PlainRun___init__ : FnScope N_PlainRun___init__ ["self", "program", "values", "fuel"] (defScope s_PlainRun___init__) := ⟨rfl, rfl, rfl, by decide +kernel, rfl, by decide +kernel, by decide +kernel⟩
abbrev s_PlainRun_value : Stmt := inClass (topS 37) 2
abbrev N_PlainRun_value : List Str := ["self", "expression"]
theorem sc_PlainRun_value : FnScope N_PlainRun_value ["self", "expression"] (defScope s_PlainRun_value) := ⟨rfl, rfl, rfl, by decide +kernel, rfl, by decide +kernel, by decide +kernel⟩
abbrev s_PlainRun_begin : Stmt := inClass (topS 37) 3
abbrev N_PlainRun_begin : List Str := ["self", "statement", "is_first"]
theorem sc_PlainRun_begin : FnScope N_PlainRun_begin ["self", "statement"] (defScope s_PlainRun_begin) := ⟨rfl, rfl, rfl, by decide +kernel, rfl, by decide +kernel, by decide +kernel⟩
abbrev s_PlainRun_end : Stmt := inClass (topS 37) 1
abbrev N_PlainRun_end : List Str := ["self", "last", "has_next"]
theorem sc_PlainRun_end : FnScope N_PlainRun_end ["self"] (defScope s_PlainRun_end) := ⟨rfl, rfl, rfl, by decide +kernel, rfl, by decide +kernel, by decide +kernel⟩
abbrev s_run_plain : Stmt := topS 35
abbrev N_run_plain : List Str := ["program", "values", "fuel", "plain_run", "end", "outputs", "name"]
theorem sc_run_plain : FnScope N_run_plain ["program", "values", "fuel"] (defScope s_run_plain) := ⟨rfl, rfl, rfl, by decide +kernel, rfl, by decide +kernel, by decide +kernel⟩
abbrev s_z_while : Stmt := topS 60
abbrev N_z_while : List Str := ["p", "names", "depth", "draw", "top_v", "counter", "kind", "free", "one", "begin", "less", "again", "second", "body", "test", "name"]
theorem sc_z_while : FnScope N_z_while ["p", "names", "depth"] (defScope s_z_while) := ⟨rfl, rfl, rfl, by decide +kernel, rfl, by decide +kernel, by decide +kernel⟩
abbrev s_z_plain_body : Stmt := topS 61
abbrev N_z_plain_body : List Str := ["p", "names", "depth", "draw", "seen", "rows", "k", "what", "e"]
theorem sc_z_plain_body : FnScope N_z_plain_body ["p", "names", "depth"] (defScope s_z_plain_body) := ⟨rfl, rfl, rfl, by decide +kernel, rfl, by decide +kernel, by decide +kernel⟩
abbrev s_z_ordinary : Stmt := topS 62
abbrev N_z_ordinary : List Str := ["draw", "width", "p", "names", "inputs", "outputs"]
theorem sc_z_ordinary : FnScope N_z_ordinary ["draw"] (defScope s_z_ordinary) := ⟨rfl, rfl, rfl, by decide +kernel, rfl, by decide +kernel, by decide +kernel⟩
abbrev s_z_plain_do : Stmt := topS 63
abbrev N_z_plain_do : List Str := ["m", "body", "s"]
theorem sc_z_plain_do : FnScope N_z_plain_do ["m", "body"] (defScope s_z_plain_do) := ⟨rfl, rfl, rfl, by decide +kernel, rfl, by decide +kernel, by decide +kernel⟩
abbrev s_law : Stmt := topS 64
abbrev N_law : List Str := ["script", "draw", "program", "values", "fuel", "m", "k", "due", "w", "names", "inputs", "outputs", "body", "one", "value", "codes", "name"]
theorem sc_law : FnScope N_law ["script"] (defScope s_law) := ⟨rfl, rfl, rfl, by decide +kernel, rfl, by decide +kernel, by decide +kernel⟩
/-- what the top has left -/
structure Txt (K : PySem.W.Frag) (mg : Str → Option Value) where
  f_top : Addr
  d_top : FuncData
  F_top : Fun K "top" "top" s_top f_top d_top
  g_top : mg "top" = some (.ref f_top)
  b_top : Binds K d_top ["w"] []
  f_shift : Addr
  d_shift : FuncData
  F_shift : Fun K "shift" "shift" s_shift f_shift d_shift
  g_shift : mg "shift" = some (.ref f_shift)
  b_shift : Binds K d_shift ["op", "w", "x", "y"] []
  f_compute : Addr
  d_compute : FuncData
  F_compute : Fun K "compute" "compute" s_compute f_compute d_compute
  g_compute : mg "compute" = some (.ref f_compute)
  b_compute : Binds K d_compute ["op", "w", "x", "y"] []
  f_value_of : Addr
  d_value_of : FuncData
  F_value_of : Fun K "value_of" "value_of" s_value_of f_value_of d_value_of
  g_value_of : mg "value_of" = some (.ref f_value_of)
  b_value_of : Binds K d_value_of ["w", "e", "look"] []
  f_cell_index : Addr
  d_cell_index : FuncData
  F_cell_index : Fun K "cell_index" "cell_index" s_cell_index f_cell_index d_cell_index
  g_cell_index : mg "cell_index" = some (.ref f_cell_index)
  b_cell_index : Binds K d_cell_index ["w", "e", "look"] []
  f_is_whole : Addr
  d_is_whole : FuncData
  F_is_whole : Fun K "is_whole" "is_whole" s_is_whole f_is_whole d_is_whole
  g_is_whole : mg "is_whole" = some (.ref f_is_whole)
  b_is_whole : Binds K d_is_whole ["value"] []
  f_is_integer : Addr
  d_is_integer : FuncData
  F_is_integer : Fun K "is_integer" "is_integer" s_is_integer f_is_integer d_is_integer
  g_is_integer : mg "is_integer" = some (.ref f_is_integer)
  b_is_integer : Binds K d_is_integer ["value", "low", "high"] []
  f_is_word : Addr
  d_is_word : FuncData
  F_is_word : Fun K "is_word" "is_word" s_is_word f_is_word d_is_word
  g_is_word : mg "is_word" = some (.ref f_is_word)
  b_is_word : Binds K d_is_word ["value", "w"] []
  f_z_draw : Addr
  d_z_draw : FuncData
  F_z_draw : Fun K "_law_draw" "_law_draw" s_z_draw f_z_draw d_z_draw
  g_z_draw : mg "_law_draw" = some (.ref f_z_draw)
  b_z_draw : Binds K d_z_draw ["script"] []
  f_z_take : Addr
  d_z_take : FuncData
  F_z_take : Fun K "_law_take" "_law_take" s_z_take f_z_take d_z_take
  g_z_take : mg "_law_take" = some (.ref f_z_take)
  b_z_take : Binds K d_z_take ["draw", "many"] []
  f_z_top : Addr
  d_z_top : FuncData
  F_z_top : Fun K "_law_top" "_law_top" s_z_top f_z_top d_z_top
  g_z_top : mg "_law_top" = some (.ref f_z_top)
  b_z_top : Binds K d_z_top ["w"] []
  f_z_compute : Addr
  d_z_compute : FuncData
  F_z_compute : Fun K "_law_compute" "_law_compute" s_z_compute f_z_compute d_z_compute
  g_z_compute : mg "_law_compute" = some (.ref f_z_compute)
  b_z_compute : Binds K d_z_compute ["op", "w", "x", "y"] []
  f_z_word : Addr
  d_z_word : FuncData
  F_z_word : Fun K "_law_word" "_law_word" s_z_word f_z_word d_z_word
  g_z_word : mg "_law_word" = some (.ref f_z_word)
  b_z_word : Binds K d_z_word ["draw", "w"] []
  f_z_expression : Addr
  d_z_expression : FuncData
  F_z_expression : Fun K "_law_expression" "_law_expression" s_z_expression f_z_expression d_z_expression
  g_z_expression : mg "_law_expression" = some (.ref f_z_expression)
  b_z_expression : Binds K d_z_expression ["p", "names", "depth"] []
  f_z_value : Addr
  d_z_value : FuncData
  F_z_value : Fun K "_law_value" "_law_value" s_z_value f_z_value d_z_value
  g_z_value : mg "_law_value" = some (.ref f_z_value)
  b_z_value : Binds K d_z_value ["w", "e", "frame"] []
  f_begins_with_word : Addr
  d_begins_with_word : FuncData
  F_begins_with_word : Fun K "begins_with_word" "begins_with_word" s_begins_with_word f_begins_with_word d_begins_with_word
  g_begins_with_word : mg "begins_with_word" = some (.ref f_begins_with_word)
  b_begins_with_word : Binds K d_begins_with_word ["value"] []
  f_looks_like_expression : Addr
  d_looks_like_expression : FuncData
  F_looks_like_expression : Fun K "looks_like_expression" "looks_like_expression" s_looks_like_expression f_looks_like_expression d_looks_like_expression
  g_looks_like_expression : mg "looks_like_expression" = some (.ref f_looks_like_expression)
  b_looks_like_expression : Binds K d_looks_like_expression ["value"] []
  f_is_name : Addr
  d_is_name : FuncData
  c_is_name : Addr
  P_is_name : Addr
  F_is_name : FunC K "is_name" "is_name" s_is_name f_is_name d_is_name c_is_name
  g_is_name : mg "is_name" = some (.ref f_is_name)
  b_is_name : Binds K d_is_name ["text"] []
  f_parts : Addr
  d_parts : FuncData
  F_parts : Fun K "parts" "parts" s_parts f_parts d_parts
  g_parts : mg "parts" = some (.ref f_parts)
  b_parts : Binds K d_parts ["expression"] []
  f_uses : Addr
  d_uses : FuncData
  F_uses : Fun K "uses" "uses" s_uses f_uses d_uses
  g_uses : mg "uses" = some (.ref f_uses)
  b_uses : Binds K d_uses ["expression"] []
  f_is_expression : Addr
  d_is_expression : FuncData
  F_is_expression : Fun K "is_expression" "is_expression" s_is_expression f_is_expression d_is_expression
  g_is_expression : mg "is_expression" = some (.ref f_is_expression)
  b_is_expression : Binds K d_is_expression ["value", "w"] []
  f_has_plain_form : Addr
  d_has_plain_form : FuncData
  F_has_plain_form : Fun K "has_plain_form" "has_plain_form" s_has_plain_form f_has_plain_form d_has_plain_form
  g_has_plain_form : mg "has_plain_form" = some (.ref f_has_plain_form)
  b_has_plain_form : Binds K d_has_plain_form ["value"] []
  f_is_plain_name : Addr
  d_is_plain_name : FuncData
  F_is_plain_name : Fun K "is_plain_name" "is_plain_name" s_is_plain_name f_is_plain_name d_is_plain_name
  g_is_plain_name : mg "is_plain_name" = some (.ref f_is_plain_name)
  b_is_plain_name : Binds K d_is_plain_name ["value"] []
  f_are_different_among : Addr
  d_are_different_among : FuncData
  F_are_different_among : Fun K "are_different_among" "are_different_among" s_are_different_among f_are_different_among d_are_different_among
  g_are_different_among : mg "are_different_among" = some (.ref f_are_different_among)
  b_are_different_among : Binds K d_are_different_among ["items", "names"] []
  f_plain_bodies : Addr
  d_plain_bodies : FuncData
  F_plain_bodies : Fun K "plain_bodies" "plain_bodies" s_plain_bodies f_plain_bodies d_plain_bodies
  g_plain_bodies : mg "plain_bodies" = some (.ref f_plain_bodies)
  b_plain_bodies : Binds K d_plain_bodies ["statement"] []
  f_is_plain_statement : Addr
  d_is_plain_statement : FuncData
  F_is_plain_statement : Fun K "is_plain_statement" "is_plain_statement" s_is_plain_statement f_is_plain_statement d_is_plain_statement
  g_is_plain_statement : mg "is_plain_statement" = some (.ref f_is_plain_statement)
  b_is_plain_statement : Binds K d_is_plain_statement ["value", "width", "names"] []
  f_is_plain_body : Addr
  d_is_plain_body : FuncData
  F_is_plain_body : Fun K "is_plain_body" "is_plain_body" s_is_plain_body f_is_plain_body d_is_plain_body
  g_is_plain_body : mg "is_plain_body" = some (.ref f_is_plain_body)
  b_is_plain_body : Binds K d_is_plain_body ["body", "width", "names"] []
  f_plain_faults : Addr
  d_plain_faults : FuncData
  F_plain_faults : Fun K "plain_faults" "plain_faults" s_plain_faults f_plain_faults d_plain_faults
  g_plain_faults : mg "plain_faults" = some (.ref f_plain_faults)
  b_plain_faults : Binds K d_plain_faults ["value"] []
  f_run_plain : Addr
  d_run_plain : FuncData
  F_run_plain : Fun K "run_plain" "run_plain" s_run_plain f_run_plain d_run_plain
  g_run_plain : mg "run_plain" = some (.ref f_run_plain)
  b_run_plain : KBn K d_run_plain ["program", "values", "fuel"] 2 ["fuel"] (fun us ws => us ++ ws) (fun vs zs => vs ++ zs)
  f_z_while : Addr
  d_z_while : FuncData
  F_z_while : Fun K "_law_while" "_law_while" s_z_while f_z_while d_z_while
  g_z_while : mg "_law_while" = some (.ref f_z_while)
  b_z_while : Binds K d_z_while ["p", "names", "depth"] []
  f_z_plain_body : Addr
  d_z_plain_body : FuncData
  F_z_plain_body : Fun K "_law_plain_body" "_law_plain_body" s_z_plain_body f_z_plain_body d_z_plain_body
  g_z_plain_body : mg "_law_plain_body" = some (.ref f_z_plain_body)
  b_z_plain_body : Binds K d_z_plain_body ["p", "names", "depth"] []
  f_z_ordinary : Addr
  d_z_ordinary : FuncData
  F_z_ordinary : Fun K "_law_ordinary" "_law_ordinary" s_z_ordinary f_z_ordinary d_z_ordinary
  g_z_ordinary : mg "_law_ordinary" = some (.ref f_z_ordinary)
  b_z_ordinary : Binds K d_z_ordinary ["draw"] []
  f_z_plain_do : Addr
  d_z_plain_do : FuncData
  F_z_plain_do : Fun K "_law_plain_do" "_law_plain_do" s_z_plain_do f_z_plain_do d_z_plain_do
  g_z_plain_do : mg "_law_plain_do" = some (.ref f_z_plain_do)
  b_z_plain_do : Binds K d_z_plain_do ["m", "body"] []
  f_law : Addr
  d_law : FuncData
  F_law : Fun K "law" "law" s_law f_law d_law
  g_law : mg "law" = some (.ref f_law)
  m_abs : mg "abs" = none
  m_all : mg "all" = none
  m_bool : mg "bool" = none
  m_int : mg "int" = none
  m_isinstance : mg "isinstance" = none
  m_len : mg "len" = none
  m_list : mg "list" = none
  m_min : mg "min" = none
  m_range : mg "range" = none
  m_str : mg "str" = none
  m_tuple : mg "tuple" = none
  m_zip : mg "zip" = none
  k_NAME_LENGTH_programs : Tok
  m_NAME_LENGTH_programs : mg "NAME_LENGTH_programs" = some (.int 20 k_NAME_LENGTH_programs)
  k_LETTERS : Tok
  m_LETTERS : mg "LETTERS" = some (.str "abcdefghijklmnopqrstuvwxyz" k_LETTERS)
  k_NAME_SIGNS : Tok
  m_NAME_SIGNS : mg "NAME_SIGNS" = some (.str "abcdefghijklmnopqrstuvwxyz0123456789_" k_NAME_SIGNS)
  a_NOT_NAMES : Addr
  m_NOT_NAMES : mg "NOT_NAMES" = some (.ref a_NOT_NAMES)
  t_NOT_NAMES : ∀ H, SqT K H a_NOT_NAMES [V.str "width", V.str "vars", V.str "proc", V.str "end", V.str "if", V.str "then", V.str "else", V.str "fi", V.str "from", V.str "do", V.str "loop", V.str "until", V.str "call", V.str "uncall", V.str "local", V.str "in", V.str "delocal", V.str "skip"]
  k_MOST_WIDTH : Tok
  m_MOST_WIDTH : mg "MOST_WIDTH" = some (.int 32 k_MOST_WIDTH)
  k_NAME_LENGTH_plain : Tok
  m_NAME_LENGTH_plain : mg "NAME_LENGTH_plain" = some (.int 11 k_NAME_LENGTH_plain)
  k_OWN_WORD : Tok
  m_OWN_WORD : mg "OWN_WORD" = some (.str "back" k_OWN_WORD)
/-- the methods -/
structure TxM (K : PySem.W.Frag) (mg : Str → Option Value) (C : Addr) where
  f_PlainRun___init__ : Addr
  d_PlainRun___init__ : FuncData
  F_PlainRun___init__ : Fun K "__init__" "PlainRun.__init__" s_PlainRun___init__ f_PlainRun___init__ d_PlainRun___init__
  b_PlainRun___init__ : Binds K d_PlainRun___init__ ["self", "program", "values", "fuel"] []
  mkc : Mk K C f_PlainRun___init__
  gC : mg "PlainRun" = some (.ref C)
  f_PlainRun_value : Addr
  d_PlainRun_value : FuncData
  F_PlainRun_value : Fun K "value" "PlainRun.value" s_PlainRun_value f_PlainRun_value d_PlainRun_value
  b_PlainRun_value : Binds K d_PlainRun_value ["self", "expression"] []
  m_PlainRun_value : Meth K C "value" f_PlainRun_value
  f_PlainRun_begin : Addr
  d_PlainRun_begin : FuncData
  F_PlainRun_begin : Fun K "begin" "PlainRun.begin" s_PlainRun_begin f_PlainRun_begin d_PlainRun_begin
  b_PlainRun_begin : Binds K d_PlainRun_begin ["self", "statement"] []
  m_PlainRun_begin : Meth K C "begin" f_PlainRun_begin
  f_PlainRun_end : Addr
  d_PlainRun_end : FuncData
  F_PlainRun_end : Fun K "end" "PlainRun.end" s_PlainRun_end f_PlainRun_end d_PlainRun_end
  b_PlainRun_end : Binds K d_PlainRun_end ["self"] []
  m_PlainRun_end : Meth K C "end" f_PlainRun_end
/-- the methods -/
structure TxM2 (K : PySem.W.Frag) (mg : Str → Option Value) (C : Addr) where
  f_PlainBody___init__ : Addr
  d_PlainBody___init__ : FuncData
  F_PlainBody___init__ : Fun K "__init__" "PlainBody.__init__" s_PlainBody___init__ f_PlainBody___init__ d_PlainBody___init__
  b_PlainBody___init__ : Binds K d_PlainBody___init__ ["self", "body", "owner"] []
  mkc : Mk K C f_PlainBody___init__
  gC : mg "PlainBody" = some (.ref C)
/-- the code objects and tables of the defs that hold generator expressions -/
def Txt.tabs {K : PySem.W.Frag} {mg : Str → Option Value} (T : Txt K mg) : List (Addr × Addr) := [(T.c_is_name, T.P_is_name)]
structure TBs {K : PySem.W.Frag} {mg : Str → Option Value} (T : Txt K mg) (base : Heap) : Prop where
  B_is_name : GxR.TabB base mg T.c_is_name T.P_is_name

section
variable {P : Program} {w : World} {K : PySem.W.Frag} {mg : Str → Option Value} {base : Heap}
/-! ### the draw -/
/-- the cells stay where they are -/
def Cs (p : Addr) (H H' : Hp) : Prop := ∀ c t, H p = some (.lst (.ref c :: t)) → ∃ t', H' p = some (.lst (.ref c :: t'))
theorem Cs.refl (p : Addr) (H : Hp) : Cs p H H := fun _ t e => ⟨t, e⟩
theorem Cs.trans {p : Addr} {H H1 H2 : Hp} (a : Cs p H H1) (b : Cs p H1 H2) : Cs p H H2 := fun c t e => let ⟨t', e'⟩ := a c t e; b c t' e'
theorem Cs.new {p q : Addr} {H : Hp} {o : HO} (h : H q = none) : Cs p H (upd H q o) := fun c t e => ⟨t, by rw [upd_ne (ne_of_none e h)]; exact e⟩
/-- a number from 0 to m - 1, the draw turned -/
def spTake : Sp := fun vs H Q _ => ∃ (p : Addr) (m : Int), vs = [.ref p, .int m] ∧ DrawAt H p ∧ 0 < m ∧ m ≤ 2 ^ 40 ∧ ∀ (r : Int) (H' : Hp), 0 ≤ r → r < m → KeepBut p H H' → Cs p H H' → DrawAt H' p → Q (.int r) H'
theorem ok_z_take (T : Txt K mg) : FnOk P w K mg base CX0 1 T.f_z_take T.d_z_take ["draw", "many"] spTake := by
  refine T.F_z_take.ok sc_z_take (fun vs H Q E h => ?_) (fun cdv A outer s H vs Q E hr h => ?_)
  · obtain ⟨p, m, rfl, _⟩ := h
    rfl
  · obtain ⟨p, m, rfl, ⟨c, cells, pos, rest, seed, D⟩, hm, hm2, q⟩ := h
    have hc0 := D.hp
    refine ⟨_, (pss_cons (ps_cut (ps_if (pt_cmpR op_eq (pe_ix ix_list (pv 0) pe_int (fun _ _ => rfl)) pe_int (nomark _))
        (pss_cons (ps_asg (pe_op op_add (pe_ix ix_list (pv 0) pe_int (fun _ _ => rfl)) pe_int) (pg_sub (pv 0) pe_int set_list))
        (pss_cons (ps_cut (ps_if (pt_cmpR op_lt (pe_ix ix_list (pv 0) pe_int (fun _ _ => rfl)) (pe_callB call_len_seq (by rfl) T.m_len (by decide +kernel) (pa_cons (pe_ix ix_list (pv 0) pe_int (fun _ _ => rfl)) pa_nil)) (nomark _))
          (pss_one (ps_asg (pe_ix ix_list (pe_ix ix_list (pv 0) pe_int (fun _ _ => rfl)) (pe_ix ix_list (pv 0) pe_int (fun _ _ => rfl)) (fun _ _ => rfl)) (pg_sub (pv 0) pe_int set_list)))
          pss_nil))
        (pss_one (ps_if (pt_cmpR op_eq (pe_ix ix_list (pv 0) pe_int (fun _ _ => rfl)) pe_int (nomark _))
          (pss_cons (ps_asg (pe_op op_modN (pe_callTy call_int1 (by rfl) T.m_int (by decide +kernel) (pa_cons (pe_op op_add (pe_op op_mul (pe_ix ix_list (pv 0) pe_int (fun _ _ => rfl)) pe_int) pe_int) pa_nil)) pe_int) (pg_sub (pv 0) pe_int set_list))
          (pss_one (ps_asg (pe_ix ix_list (pv 0) pe_int (fun _ _ => rfl)) (pg_sub (pv 0) pe_int set_list))))
          pss_nil))))
        pss_nil))
      (pss_cons (ps_set (i := 2) sc_z_take.nd rfl (Or.inl rfl) (pe_op op_modN (pe_callTy call_int1 (by rfl) T.m_int (by decide +kernel) (pa_cons (pe_ix ix_list (pv 0) pe_int (fun _ _ => rfl)) pa_nil)) (pv 1)))
      (pss_cons (ps_asg (pe_op op_fdivW (pe_ix ix_list (pv 0) pe_int (fun _ _ => rfl)) (pv 1)) (pg_sub (pv 0) pe_int set_list))
      (pss_one (ps_ret (pv 2)))))), ?_⟩
    refine ⟨fun σ H1 => ∃ pos rest seed, σ = [some (.ref p), some (.int m), none] ∧ DrawIs H1 p c cells pos rest seed ∧ KeepBut p H H1, ?_, ?_⟩
    · -- draw[2] == 0
      refine ⟨_, rfl, _, _, _, _, rfl, rfl, SqL.of D.hp, rfl, rfl, _, rfl, ite2 (fun e => ?_) (fun e => ?_)⟩
      · -- draw[1] = draw[1] + 1
        refine ⟨_, rfl, _, _, _, _, rfl, rfl, SqL.of D.hp, rfl, _, _, rfl, rfl, _, rfl, _, _, _, 1, rfl, rfl, D.hp, rfl, ?_⟩
        have h1 := D.po
        have D1 : DrawIs (upd H p (.lst [.ref c, .int (pos + 1), .int rest, .int seed])) p c cells (pos + 1) rest seed := D.put (by omega) D.re D.s0 D.s1
        have k1 : KeepBut p H (upd H p (.lst [.ref c, .int (pos + 1), .int rest, .int seed])) := .put _ _ _
        refine ⟨fun σ H1 => ∃ rest, σ = [some (.ref p), some (.int m), none] ∧ DrawIs H1 p c cells (pos + 1) rest seed ∧ KeepBut p H H1, ?_, ?_⟩
        · -- draw[1] < len(draw[0])
          refine ⟨_, rfl, _, _, _, _, rfl, rfl, SqL.of D1.hp, rfl, _, rfl, _, _, _, _, rfl, rfl, SqL.of D1.hp, rfl, _, _, rfl, .inl (SqL.of D1.hc), _, _, rfl, rfl, _, rfl, ite2 (fun e => ?_) (fun e => ?_)⟩
          · have e1 : pos + 1 < ((cells.map V.int).length : Int) := of_decide_eq_true e
            rw [List.length_map] at e1
            obtain ⟨n, hn⟩ := int_nat (show 0 ≤ pos + 1 by omega)
            have hn2 : n < cells.length := by omega
            refine ⟨_, rfl, _, _, _, _, rfl, rfl, SqL.of D1.hp, rfl, _, rfl, _, _, _, _, rfl, rfl, SqL.of D1.hp, rfl, _, _, _, .int cells[n], rfl, rfl, SqL.of D1.hc, ?_, _, rfl, _, _, _, 2, rfl, rfl, D1.hp, rfl, ?_⟩
            · rw [hn]
              exact atI_nat (by rw [List.getElem?_map, List.getElem?_eq_getElem hn2]; rfl)
            · exact ⟨_, rfl, D1.put D1.po (D1.nn _ (List.getElem_mem hn2)) D1.s0 D1.s1, k1.trans (.put _ _ _)⟩
          · exact ⟨rest, rfl, D1, k1⟩
        · rintro σ H1 ⟨rest1, rfl, D2, k2⟩
          -- draw[2] == 0
          refine ⟨_, rfl, _, _, _, _, rfl, rfl, SqL.of D2.hp, rfl, rfl, _, rfl, ite2 (fun e => ?_) (fun e => ?_)⟩
          · have s0 := D2.s0
            have s1 := D2.s1
            refine ⟨_, rfl, _, _, _, _, rfl, rfl, SqL.of D2.hp, rfl, _, _, rfl, rfl, .inl ⟨by omega, by omega⟩, _, _, rfl, rfl, .inl ⟨_, rfl, _, _, rfl, rfl, (show (2147483647 : Int) ≠ 0 by decide), _, rfl, _, _, _, 3, rfl, rfl, D2.hp, rfl, ?_⟩⟩
            have f0 : 0 ≤ (seed * 48271 + 11).fmod 2147483647 := fmod_lo (by decide)
            have f1 : (seed * 48271 + 11).fmod 2147483647 < 2147483647 := fmod_hi (by decide)
            have D3 := D2.put (seed' := (seed * 48271 + 11).fmod 2147483647) D2.po D2.re f0 f1
            refine ⟨_, rfl, _, _, _, _, rfl, rfl, SqL.of D3.hp, rfl, _, rfl, _, _, _, 2, rfl, rfl, D3.hp, rfl, ?_⟩
            exact ⟨_, _, _, rfl, D3.put D3.po f0 f0 f1, (k2.trans (.put _ _ _)).trans (.put _ _ _)⟩
          · exact ⟨_, _, _, rfl, D2, k2⟩
      · exact ⟨_, _, _, rfl, D, .refl _ _⟩
    · rintro σ H1 ⟨pos, rest, seed, rfl, D, k⟩
      -- found = int(draw[2]) % many; draw[2] = draw[2] // many
      refine ⟨_, rfl, _, _, _, _, rfl, rfl, SqL.of D.hp, rfl, .inl ⟨_, rfl, _, rfl, _, _, rfl, rfl, (by omega), ?_⟩⟩
      refine ⟨_, rfl, _, _, _, _, rfl, rfl, SqL.of D.hp, rfl, _, rfl, _, _, rfl, rfl, wide_div (b := 41) hm (by omega) (by decide) (by decide), _, rfl, _, _, _, 2, rfl, rfl, D.hp, rfl, ?_⟩
      exact ⟨_, rfl, q _ _ (fmod_lo hm) (fmod_hi hm) (k.trans (.put _ _ _)) (fun c' t e => by rw [hc0] at e; cases e; exact ⟨_, upd_same⟩) ⟨_, _, _, _, _, D.put D.po (div_lo D.re hm) D.s0 D.s1⟩⟩

def spTop : Sp := fun vs H Q _ => ∃ n : Nat, vs = [.int n] ∧ n ≤ 32 ∧ Q (.int (2 ^ n - 1)) H
theorem ok_z_top (T : Txt K mg) : FnOk P w K mg base CX0 1 T.f_z_top T.d_z_top ["w"] spTop := by
  refine T.F_z_top.ok sc_z_top (fun vs H Q E h => ?_) (fun cdv A outer s H vs Q E hr h => ?_)
  · obtain ⟨n, rfl, _⟩ := h
    rfl
  · obtain ⟨n, rfl, hn, q⟩ := h
    refine ⟨_, (pss_one (ps_ret (pe_op op_sub (pe_op op_shl pe_int (pv 0)) pe_int))), ?_⟩
    refine ⟨_, rfl, _, _, rfl, rfl, ⟨by omega, by omega, by decide⟩, _, _, rfl, rfl, ?_⟩
    rw [Int.one_mul]
    exact q
theorem ok_top (T : Txt K mg) : FnOk P w K mg base CX0 1 T.f_top T.d_top ["w"] spTop := by
  refine T.F_top.ok sc_top (fun vs H Q E h => ?_) (fun cdv A outer s H vs Q E hr h => ?_)
  · obtain ⟨n, rfl, _⟩ := h
    rfl
  · obtain ⟨n, rfl, hn, q⟩ := h
    refine ⟨_, (pss_one (ps_ret (pe_op op_sub (pe_op op_shl pe_int (pv 0)) pe_int))), ?_⟩
    refine ⟨_, rfl, _, _, rfl, rfl, ⟨by omega, by omega, by decide⟩, _, _, rfl, rfl, ?_⟩
    rw [Int.one_mul]
    exact q
/-- a word of the width -/
def spWord : Sp := fun vs H Q _ => ∃ (p : Addr) (n : Nat), vs = [.ref p, .int n] ∧ DrawAt H p ∧ 1 ≤ n ∧ n ≤ 32 ∧ ∀ (r : Int) (H' : Hp), 0 ≤ r → r < 2 ^ n → KeepBut p H H' → Cs p H H' → DrawAt H' p → Q (.int r) H'
theorem pow_ge (n : Nat) (h : 1 ≤ n) : (2 : Int) ≤ 2 ^ n := by
  obtain ⟨k, rfl⟩ : ∃ k, n = k + 1 := ⟨n - 1, by omega⟩
  have : (0 : Int) < 2 ^ k := Int.pow_pos (by decide)
  rw [Int.pow_succ]
  omega
theorem pow_le {n m : Nat} (h : n ≤ m) : (2 : Int) ^ n ≤ 2 ^ m := by
  have h2 : (2 : Nat) ^ n ≤ 2 ^ m := Nat.pow_le_pow_right (by decide) h
  exact_mod_cast h2
theorem ok_z_word (T : Txt K mg) : FnOk P w K mg base CX0 2 T.f_z_word T.d_z_word ["draw", "w"] spWord := by
  have G_z_take := ok_z_take (P := P) (w := w) (base := base) T
  have G_z_top := ok_z_top (P := P) (w := w) (base := base) T
  refine T.F_z_word.ok sc_z_word (fun vs H Q E h => ?_) (fun cdv A outer s H vs Q E hr h => ?_)
  · obtain ⟨p, n, rfl, _⟩ := h
    rfl
  · obtain ⟨p, n, rfl, D, hn1, hn, q⟩ := h
    have p2 := pow_ge n hn1
    refine ⟨_, (pss_cons (ps_set (i := 2) sc_z_word.nd rfl (Or.inl rfl) (pe_call G_z_take (hr.mono (by omega)) (by rfl) T.g_z_take T.F_z_take.kp T.b_z_take .nil pass0 (pa_cons (pv 0) (pa_cons pe_int pa_nil))))
      (pss_cons (ps_if (pt_cmpR op_lt (pv 2) pe_int (nomark _))
        (pss_one (ps_ret (pe_callB (call_min2 rfl) (by rfl) T.m_min (by decide +kernel) (pa_cons (pe_ix ix_list (pe_lst (pa_cons pe_int (pa_cons pe_int (pa_cons pe_int pa_nil)))) (pv 2) (fun _ _ => rfl)) (pa_cons (pe_call G_z_top (hr.mono (by omega)) (by rfl) T.g_z_top T.F_z_top.kp T.b_z_top .nil pass0 (pa_cons (pv 1) pa_nil)) pa_nil)))))
        pss_nil)
      (pss_cons (ps_if (pt_cmpR op_eq (pv 2) pe_int (nomark _))
        (pss_one (ps_ret (pe_call G_z_top (hr.mono (by omega)) (by rfl) T.g_z_top T.F_z_top.kp T.b_z_top .nil pass0 (pa_cons (pv 1) pa_nil))))
        pss_nil)
      (pss_one (ps_ret (pe_op op_modN (pe_callTy call_int1 (by rfl) T.m_int (by decide +kernel) (pa_cons (pe_call G_z_take (hr.mono (by omega)) (by rfl) T.g_z_take T.F_z_take.kp T.b_z_take .nil pass0 (pa_cons (pv 0) (pa_cons (pe_op op_shl pe_int (pe_callB (call_min2 rfl) (by rfl) T.m_min (by decide +kernel) (pa_cons (pv 1) (pa_cons pe_int pa_nil)))) pa_nil))) pa_nil)) (pe_op op_shl pe_int (pv 1)))))))), ?_⟩
    refine ⟨_, rfl, p, 6, rfl, D, by decide, by decide, fun k H1 k0 k1 kp1 cs1 D1 => ?_⟩
    refine ⟨_, rfl, _, _, rfl, rfl, _, rfl, ite2 (fun e => ?_) (fun e => ?_)⟩
    · have e1 : k < 3 := of_decide_eq_true e
      refine ⟨by decide, fun l hl => ⟨_, rfl, ?_⟩⟩
      have hk : ∃ v : Int, atI [V.int 0, V.int 1, V.int 3] k = some (.int v) ∧ 0 ≤ v := by
        have : k = 0 ∨ k = 1 ∨ k = 2 := by omega
        rcases this with rfl | rfl | rfl
        · exact ⟨0, rfl, by decide⟩
        · exact ⟨1, rfl, by decide⟩
        · exact ⟨3, rfl, by decide⟩
      obtain ⟨v, hv, v0⟩ := hk
      refine ⟨_, _, _, _, rfl, rfl, SqL.of upd_same, hv, _, rfl, n, rfl, hn, _, _, rfl, ?_⟩
      refine q _ _ ?_ ?_ (kp1.new hl) (cs1.trans (.new hl)) (D1.upd hl)
      · split <;> omega
      · split <;> omega
    · refine ⟨_, rfl, rfl, _, rfl, ite2 (fun e => ?_) (fun e => ?_)⟩
      · refine ⟨_, rfl, n, rfl, hn, ?_⟩
        exact q _ _ (by omega) (by omega) kp1 cs1 D1
      · refine ⟨_, rfl, _, rfl, _, _, rfl, _, _, rfl, rfl, ⟨?_, ?_, by decide⟩, p, _, rfl, D1, ?_, ?_, fun r H2 r0 r1 kp2 cs2 D2 => ?_⟩
        · split <;> omega
        · split <;> omega
        · rw [Int.one_mul]; exact Int.pow_pos (by decide)
        · rw [Int.one_mul]
          refine Int.le_trans (pow_le (m := 32) ?_) (by decide)
          split <;> omega
        · refine .inl ⟨_, rfl, _, rfl, _, _, rfl, rfl, ⟨by omega, by omega, by decide⟩, _, _, rfl, rfl, ?_, ?_⟩
          · rw [Int.one_mul]; exact Int.ne_of_gt (Int.pow_pos (by decide))
          · rw [Int.one_mul]
            have hp : (0 : Int) < 2 ^ (n : Int).toNat := Int.pow_pos (by decide)
            exact q _ _ (fmod_lo hp) (fmod_hi hp) (kp1.trans kp2) (cs1.trans cs2) D2
end

section
variable {P : Program} {w : World} {K : PySem.W.Frag} {mg : Str → Option Value} {base : Heap}
theorem str_eq {a b : Str} (e : decide (V.str a = V.str b) = true) : a = b := V.str.inj (of_decide_eq_true e)
theorem str_ne {a b : Str} (e : ¬ decide (V.str a = V.str b) = true) : ¬ a = b := fun q => e (decide_eq_true (by rw [q]))
theorem int_eq {a b : Int} (e : decide (V.int a = V.int b) = true) : a = b := V.int.inj (of_decide_eq_true e)
theorem int_ne {a b : Int} (e : ¬ decide (V.int a = V.int b) = true) : ¬ a = b := fun q => e (decide_eq_true (by rw [q]))
def spCmp : Sp := fun vs H Q _ => ∃ (op : Str) (n : Nat) (x y : Int), vs = [.str op, .int n, .int x, .int y] ∧ n ≤ 32 ∧ 0 ≤ x ∧ x < 2 ^ n ∧ 0 ≤ y ∧ y < 2 ^ n ∧ Q (.int (cmpS op n x y)) H
/-- shl and shr alone -/
def spShift : Sp := fun vs H Q _ => ∃ (op : Str) (n : Nat) (x y : Int), vs = [.str op, .int n, .int x, .int y] ∧ n ≤ 32 ∧ 0 ≤ x ∧ x < 2 ^ n ∧ 0 ≤ y ∧ y < 2 ^ n ∧ Q (.int (if (n : Int) ≤ y then 0 else if op = "shl" then (x * 2 ^ y.toNat) % 2 ^ n else x / 2 ^ y.toNat)) H
theorem lt64 {n : Nat} {x : Int} (hn : n ≤ 32) (h0 : 0 ≤ x) (h : x < 2 ^ n) : x < 4294967296 := Int.lt_of_lt_of_le h (pow_le (m := 32) hn)
theorem bit_top {Q : VK} {H : Hp} {x : Int} {n : Nat} (q : Q (.int (x % 2 ^ n)) H) : Q (.int (Builtin.bitAnd x (2 ^ n - 1))) H := by
  rw [PySem.W.kbt_mask]
  exact q
theorem ok_shift (T : Txt K mg) : FnOk P w K mg base CX0 2 T.f_shift T.d_shift ["op", "w", "x", "y"] spShift := by
  have G_top := ok_top (P := P) (w := w) (base := base) T
  refine T.F_shift.ok sc_shift (fun vs H Q E h => ?_) (fun cdv A outer s H vs Q E hr h => ?_)
  · obtain ⟨op, n, x, y, rfl, _⟩ := h
    rfl
  · obtain ⟨op, n, x, y, rfl, hn, x0, x1, y0, y1, q⟩ := h
    have xl := lt64 hn x0 x1
    refine ⟨_, (pss_cons (ps_if (pt_cmpR op_ge (pv 3) (pv 1) (nomark _))
        (pss_one (ps_ret pe_int))
        pss_nil)
      (pss_cons (ps_if (pt_cmpR op_eq (pv 0) pe_str (nomark _))
        (pss_one (ps_ret (pe_op op_and (pe_op op_shl (pv 2) (pv 3)) (pe_call G_top (hr.mono (by omega)) (by rfl) T.g_top T.F_top.kp T.b_top .nil pass0 (pa_cons (pv 1) pa_nil)))))
        pss_nil)
      (pss_one (ps_ret (pe_op op_shr (pv 2) (pv 3)))))), ?_⟩
    refine ⟨_, rfl, _, rfl, _, _, rfl, rfl, _, rfl, ite2 (fun e => ?_) (fun e => ?_)⟩
    · have e1 : (n : Int) ≤ y := of_decide_eq_true e
      rw [if_pos e1] at q
      exact q
    · have e1 : ¬ (n : Int) ≤ y := fun z => e (decide_eq_true z)
      rw [if_neg e1] at q
      refine ⟨_, rfl, rfl, _, rfl, ite2 (fun e => ?_) (fun e => ?_)⟩
      · rw [if_pos (str_eq e)] at q
        exact ⟨_, rfl, _, rfl, _, _, rfl, rfl, ⟨y0, by omega, by omega⟩, _, rfl, n, rfl, hn, _, _, rfl, rfl, bit_top q⟩
      · rw [if_neg (str_ne e)] at q
        exact ⟨_, rfl, _, rfl, _, _, rfl, rfl, y0, q⟩
theorem ok_compute (T : Txt K mg) : FnOk P w K mg base CX0 3 T.f_compute T.d_compute ["op", "w", "x", "y"] spCmp := by
  have G_top := ok_top (P := P) (w := w) (base := base) T
  have G_shift := ok_shift (P := P) (w := w) (base := base) T
  refine T.F_compute.ok sc_compute (fun vs H Q E h => ?_) (fun cdv A outer s H vs Q E hr h => ?_)
  · obtain ⟨op, n, x, y, rfl, _⟩ := h
    rfl
  · obtain ⟨op, n, x, y, rfl, hn, x0, x1, y0, y1, q⟩ := h
    have xl := lt64 hn x0 x1
    unfold cmpS at q
    refine ⟨_, (pss_cons (ps_if (pt_cmpR op_eq (pv 0) pe_str (nomark _))
        (pss_one (ps_ret (pe_op op_and (pe_op op_add (pv 2) (pv 3)) (pe_call G_top (hr.mono (by omega)) (by rfl) T.g_top T.F_top.kp T.b_top .nil pass0 (pa_cons (pv 1) pa_nil)))))
        pss_nil)
      (pss_cons (ps_if (pt_cmpR op_eq (pv 0) pe_str (nomark _))
        (pss_one (ps_ret (pe_op op_and (pe_op op_sub (pv 2) (pv 3)) (pe_call G_top (hr.mono (by omega)) (by rfl) T.g_top T.F_top.kp T.b_top .nil pass0 (pa_cons (pv 1) pa_nil)))))
        pss_nil)
      (pss_cons (ps_if (pt_cmpR op_eq (pv 0) pe_str (nomark _))
        (pss_one (ps_ret (pe_op op_and (pe_op op_mul (pv 2) (pv 3)) (pe_call G_top (hr.mono (by omega)) (by rfl) T.g_top T.F_top.kp T.b_top .nil pass0 (pa_cons (pv 1) pa_nil)))))
        pss_nil)
      (pss_cons (ps_if (pt_cmpR op_eq (pv 0) pe_str (nomark _))
        (pss_one (ps_ret (pe_op op_and (pv 2) (pv 3))))
        pss_nil)
      (pss_cons (ps_if (pt_cmpR op_eq (pv 0) pe_str (nomark _))
        (pss_one (ps_ret (pe_op op_or (pv 2) (pv 3))))
        pss_nil)
      (pss_cons (ps_if (pt_cmpR op_eq (pv 0) pe_str (nomark _))
        (pss_one (ps_ret (pe_op op_xor (pv 2) (pv 3))))
        pss_nil)
      (pss_cons (ps_if (pt_cmpR op_eq (pv 0) pe_str (nomark _))
        (pss_one (ps_ret (pe_ifExp (pt_cmpR op_lt (pv 2) (pv 3) (nomark _)) pe_int pe_int)))
        pss_nil)
      (pss_cons (ps_if (pt_cmpR op_eq (pv 0) pe_str (nomark _))
        (pss_one (ps_ret (pe_ifExp (pt_cmpR op_eq (pv 2) (pv 3) (nomark _)) pe_int pe_int)))
        pss_nil)
      (pss_one (ps_ret (pe_call G_shift (hr.mono (by omega)) (by rfl) T.g_shift T.F_shift.kp T.b_shift .nil pass0 (pa_cons (pv 0) (pa_cons (pv 1) (pa_cons (pv 2) (pa_cons (pv 3) pa_nil))))))))))))))), ?_⟩
    refine ⟨_, rfl, rfl, _, rfl, ite2 (fun e => ?_) (fun e => ?_)⟩
    · rw [if_pos (str_eq e)] at q
      refine ⟨_, rfl, _, rfl, _, _, rfl, rfl, _, rfl, n, rfl, hn, _, _, rfl, rfl, bit_top q⟩
    rw [if_neg (str_ne e)] at q
    clear e
    refine ⟨_, rfl, rfl, _, rfl, ite2 (fun e => ?_) (fun e => ?_)⟩
    · rw [if_pos (str_eq e)] at q
      refine ⟨_, rfl, _, rfl, _, _, rfl, rfl, _, rfl, n, rfl, hn, _, _, rfl, rfl, bit_top q⟩
    rw [if_neg (str_ne e)] at q
    clear e
    refine ⟨_, rfl, rfl, _, rfl, ite2 (fun e => ?_) (fun e => ?_)⟩
    · rw [if_pos (str_eq e)] at q
      refine ⟨_, rfl, _, rfl, _, _, rfl, rfl, .inl ⟨by omega, by omega⟩, _, rfl, n, rfl, hn, _, _, rfl, rfl, bit_top q⟩
    rw [if_neg (str_ne e)] at q
    clear e
    refine ⟨_, rfl, rfl, _, rfl, ite2 (fun e => ?_) (fun e => ?_)⟩
    · rw [if_pos (str_eq e)] at q
      exact ⟨_, rfl, _, rfl, _, _, rfl, rfl, q⟩
    rw [if_neg (str_ne e)] at q
    clear e
    refine ⟨_, rfl, rfl, _, rfl, ite2 (fun e => ?_) (fun e => ?_)⟩
    · rw [if_pos (str_eq e)] at q
      exact ⟨_, rfl, _, rfl, _, _, rfl, rfl, q⟩
    rw [if_neg (str_ne e)] at q
    clear e
    refine ⟨_, rfl, rfl, _, rfl, ite2 (fun e => ?_) (fun e => ?_)⟩
    · rw [if_pos (str_eq e)] at q
      exact ⟨_, rfl, _, rfl, _, _, rfl, rfl, q⟩
    rw [if_neg (str_ne e)] at q
    clear e
    refine ⟨_, rfl, rfl, _, rfl, ite2 (fun e => ?_) (fun e => ?_)⟩
    · rw [if_pos (str_eq e)] at q
      refine ⟨_, rfl, _, rfl, _, _, rfl, rfl, _, rfl, ite2 (fun e => ?_) (fun e => ?_)⟩
      · rw [if_pos (of_decide_eq_true e)] at q
        exact q
      · rw [if_neg (fun z => e (decide_eq_true z))] at q
        exact q
    rw [if_neg (str_ne e)] at q
    clear e
    refine ⟨_, rfl, rfl, _, rfl, ite2 (fun e => ?_) (fun e => ?_)⟩
    · rw [if_pos (str_eq e)] at q
      refine ⟨_, rfl, _, rfl, rfl, _, rfl, ite2 (fun e => ?_) (fun e => ?_)⟩
      · rw [if_pos (int_eq e)] at q
        exact q
      · rw [if_neg (int_ne e)] at q
        exact q
    rw [if_neg (str_ne e)] at q
    clear e
    exact ⟨_, rfl, _, rfl, _, rfl, _, rfl, op, n, x, y, rfl, hn, x0, x1, y0, y1, q⟩

def OPL : List Str := ["add", "sub", "mul", "and", "or", "xor", "less", "equal", "shl", "shr"]
def spZc : Sp := fun vs H Q _ => ∃ (op : Str) (n : Nat) (x y : Int), vs = [.str op, .int n, .int x, .int y] ∧ op ∈ OPL ∧ n ≤ 32 ∧ 0 ≤ x ∧ x < 2 ^ n ∧ 0 ≤ y ∧ y < 2 ^ n ∧ ∀ H', Same H H' → Q (.int (cmpS op n x y)) H'
theorem add_mod {x y m : Int} (x0 : 0 ≤ x) (x1 : x < m) (y0 : 0 ≤ y) (y1 : y < m) : (x + y) % m = if x + y < m then x + y else x + y - m := by
  split
  · exact Int.emod_eq_of_lt (by omega) (by assumption)
  · have e : (x + y - m) % m = (x + y) % m := Int.sub_emod_right ..
    rw [← e]
    exact Int.emod_eq_of_lt (by omega) (by omega)
theorem sub_mod {x y m : Int} (x0 : 0 ≤ x) (x1 : x < m) (y0 : 0 ≤ y) (y1 : y < m) : (x - y) % m = if y ≤ x then x - y else x - y + m := by
  split
  · exact Int.emod_eq_of_lt (by omega) (by omega)
  · have e : (x - y + m) % m = (x - y) % m := Int.add_emod_right ..
    rw [← e]
    exact Int.emod_eq_of_lt (by omega) (by omega)
theorem mul_mod' (a m : Int) : a % m = a - a / m * m := by
  rw [Int.emod_def, Int.mul_comm m]
theorem flat_ops : ([V.str "and", V.str "or", V.str "xor"] : List V).all flatV = true := by decide +kernel
theorem in_ops (op : Str) : inV (V.str op) [V.str "and", V.str "or", V.str "xor"] = decide (op = "and" ∨ op = "or" ∨ op = "xor") := by
  unfold inV
  show (decide (("and" : Str) = op) || (decide (("or" : Str) = op) || (decide (("xor" : Str) = op) || false))) = _
  rw [Bool.or_false, ← Bool.decide_or, ← Bool.decide_or]
  apply decide_eq_decide.mpr
  constructor
  · rintro (h | h | h)
    · exact .inl h.symm
    · exact .inr (.inl h.symm)
    · exact .inr (.inr h.symm)
  · rintro (h | h | h)
    · exact .inl h.symm
    · exact .inr (.inl h.symm)
    · exact .inr (.inr h.symm)
set_option maxHeartbeats 4000000 in
theorem ok_z_compute (T : Txt K mg) : FnOk P w K mg base CX0 1 T.f_z_compute T.d_z_compute ["op", "w", "x", "y"] spZc := by
  refine T.F_z_compute.ok sc_z_compute (fun vs H Q E h => ?_) (fun cdv A outer s H vs Q E hr h => ?_)
  · obtain ⟨op, n, x, y, rfl, _⟩ := h
    rfl
  · obtain ⟨op, n, x, y, rfl, hop, hn, x0, x1, y0, y1, q⟩ := h
    have xl := lt64 hn x0 x1
    have yl := lt64 hn y0 y1
    have hpn : (0 : Int) < 2 ^ n := Int.pow_pos (by decide)
    have hpn2 : (2 : Int) ^ n ≤ 4294967296 := pow_le (m := 32) hn
    have q0 := q H (.refl H)
    unfold cmpS at q0
    refine ⟨_, (pss_cons (ps_set (i := 4) sc_z_compute.nd rfl (Or.inl rfl) (pe_op op_shl pe_int (pv 1)))
      (pss_cons (ps_if (pt_cmpR op_eq (pv 0) pe_str (nomark _))
        (pss_one (ps_ret (pe_ifExp (pt_cmpR op_lt (pe_op op_add (pv 2) (pv 3)) (pv 4) (nomark _)) (pe_op op_add (pv 2) (pv 3)) (pe_op op_sub (pe_op op_add (pv 2) (pv 3)) (pv 4)))))
        pss_nil)
      (pss_cons (ps_if (pt_cmpR op_eq (pv 0) pe_str (nomark _))
        (pss_one (ps_ret (pe_ifExp (pt_cmpR op_ge (pv 2) (pv 3) (nomark _)) (pe_op op_sub (pv 2) (pv 3)) (pe_op op_add (pe_op op_sub (pv 2) (pv 3)) (pv 4)))))
        pss_nil)
      (pss_cons (ps_if (pt_cmpR op_eq (pv 0) pe_str (nomark _))
        (pss_one (ps_ret (pe_op op_sub (pe_op op_mul (pv 2) (pv 3)) (pe_op op_mul (pe_op op_fdivW (pe_op op_mul (pv 2) (pv 3)) (pv 4)) (pv 4)))))
        pss_nil)
      (pss_cons (ps_if (pt_cmpR op_in_seq (pv 0) (pe_lst (pa_cons pe_str (pa_cons pe_str (pa_cons pe_str pa_nil)))) (by rfl))
        (pss_cons (ps_set (i := 5) sc_z_compute.nd rfl (Or.inl rfl) pe_int)
        (pss_cons (ps_for PassesOwn.never rfl (pi_range1 (by rfl) T.m_range (pa_cons (pv 1) pa_nil)) (pg_name (i := 6) sc_z_compute.nd rfl (Or.inl rfl))
          (pss_cons (ps_set (i := 7) sc_z_compute.nd rfl (Or.inl rfl) (pe_op op_add (pe_op op_modN (pe_op op_fdivW (pv 2) (pe_op op_shl pe_int (pv 6))) pe_int) (pe_op op_modN (pe_op op_fdivW (pv 3) (pe_op op_shl pe_int (pv 6))) pe_int)))
          (pss_one (ps_if (pt_cut (PW.pt (pw_or (PW.pt (pw_and (pt_cmpR op_eq (pv 0) pe_str (nomark _)) (pw_and1 (pt_cmpR op_eq (pv 7) pe_int (nomark _))))) (pw_or (PW.pt (pw_and (pt_cmpR op_eq (pv 0) pe_str (nomark _)) (pw_and1 (pt_cmpR op_gt (pv 7) pe_int (nomark _))))) (pw_or1 (PW.pt (pw_and (pt_cmpR op_eq (pv 0) pe_str (nomark _)) (pw_and1 (pt_cmpR op_eq (pv 7) pe_int (nomark _))))))))))
            (pss_one (ps_set (i := 5) sc_z_compute.nd rfl (Or.inl rfl) (pe_op op_add (pv 5) (pe_op op_shl pe_int (pv 6)))))
            pss_nil))))
        (pss_one (ps_ret (pv 5)))))
        pss_nil)
      (pss_cons (ps_if (pt_cmpR op_eq (pv 0) pe_str (nomark _))
        (pss_one (ps_ret (pe_ifExp (pt_cmpR op_lt (pv 2) (pv 3) (nomark _)) pe_int pe_int)))
        pss_nil)
      (pss_cons (ps_if (pt_cmpR op_eq (pv 0) pe_str (nomark _))
        (pss_one (ps_ret (pe_ifExp (pt_cmpR op_eq (pv 2) (pv 3) (nomark _)) pe_int pe_int)))
        pss_nil)
      (pss_cons (ps_if (pt_cmpR op_ge (pv 3) (pv 1) (nomark _))
        (pss_one (ps_ret pe_int))
        pss_nil)
      (pss_cons (ps_if (pt_cmpR op_eq (pv 0) pe_str (nomark _))
        (pss_one (ps_ret (pe_op op_fdivW (pv 2) (pe_op op_shl pe_int (pv 3)))))
        pss_nil)
      (pss_one (ps_ret (pe_op op_sub (pe_op op_mul (pv 2) (pe_op op_shl pe_int (pv 3))) (pe_op op_mul (pe_op op_fdivW (pe_op op_mul (pv 2) (pe_op op_shl pe_int (pv 3))) (pv 4)) (pv 4)))))))))))))), ?_⟩
    refine ⟨_, rfl, _, _, rfl, rfl, ⟨by omega, by omega, by decide⟩, ?_⟩
    dsimp only
    rw [Int.one_mul, Int.toNat_natCast]
    -- add
    refine ⟨_, rfl, rfl, _, rfl, ite2 (fun e => ?_) (fun e => ?_)⟩
    · rw [if_pos (str_eq e), add_mod x0 x1 y0 y1] at q0
      refine ⟨_, rfl, _, rfl, _, _, rfl, rfl, _, rfl, _, _, rfl, rfl, _, rfl, ite2 (fun e => ?_) (fun e => ?_)⟩
      · rw [if_pos (of_decide_eq_true e)] at q0
        exact ⟨_, rfl, _, rfl, _, _, rfl, rfl, q0⟩
      · rw [if_neg (fun z => e (decide_eq_true z))] at q0
        exact ⟨_, rfl, _, rfl, _, _, rfl, rfl, _, rfl, _, _, rfl, rfl, q0⟩
    rw [if_neg (str_ne e)] at q0
    have n1 := str_ne e
    clear e
    refine ⟨_, rfl, rfl, _, rfl, ite2 (fun e => ?_) (fun e => ?_)⟩
    · rw [if_pos (str_eq e), sub_mod x0 x1 y0 y1] at q0
      refine ⟨_, rfl, _, rfl, _, _, rfl, rfl, _, rfl, ite2 (fun e => ?_) (fun e => ?_)⟩
      · rw [if_pos (of_decide_eq_true e)] at q0
        exact ⟨_, rfl, _, rfl, _, _, rfl, rfl, q0⟩
      · rw [if_neg (fun z => e (decide_eq_true z))] at q0
        exact ⟨_, rfl, _, rfl, _, _, rfl, rfl, _, rfl, _, _, rfl, rfl, q0⟩
    rw [if_neg (str_ne e)] at q0
    have n2 := str_ne e
    clear e
    refine ⟨_, rfl, rfl, _, rfl, ite2 (fun e => ?_) (fun e => ?_)⟩
    · rw [if_pos (str_eq e), mul_mod'] at q0
      exact ⟨_, rfl, _, rfl, _, _, rfl, rfl, .inl ⟨by omega, by omega⟩, _, rfl, _, rfl, _, _, rfl, rfl, .inl ⟨by omega, by omega⟩, _, rfl, _, _, rfl, rfl, wide_div (b := 34) hpn (by omega) (by decide) (by decide), _, rfl, _, _, rfl, rfl, .inr ⟨by omega, by omega⟩, _, _, rfl, rfl, q0⟩
    rw [if_neg (str_ne e)] at q0
    have n3 := str_ne e
    clear e
    -- the ops bit by bit
    refine ⟨_, rfl, by decide, fun l hl => ⟨_, _, rfl, .inl (SqL.of upd_same), rfl, flat_ops, _, rfl, ?_⟩⟩
    rw [in_ops]
    refine ite2 (fun e => ?_) (fun e => ?_)
    · have eo : op = "and" ∨ op = "or" ∨ op = "xor" := of_decide_eq_true e
      obtain ⟨a, rfl⟩ := int_nat x0
      obtain ⟨b, rfl⟩ := int_nat y0
      have hk : ((2 ^ n : Nat) : Int) = (2 : Int) ^ n := PySem.W.kbt_cast n
      have la : a < 2 ^ n := by omega
      have lb : b < 2 ^ n := by omega
      -- found = 0; for k in range(w)
      refine ⟨_, rfl, _, rfl, by omega, by omega, for_range (n := n) (fun i σ H2 => ∃ k6 k7, σ = [some (.str op), some (.int n), some (.int a), some (.int b), some (.int (2 ^ n)), some (.int ((bitF op a b % 2 ^ i : Nat) : Int)), k6, k7] ∧ H2 = upd H l (.lst [V.str "and", V.str "or", V.str "xor"])) ?_ ?_ ?_⟩
      · refine ⟨none, none, ?_, rfl⟩
        rw [Nat.pow_zero, Nat.mod_one]
        rfl
      · rintro i σ H2 hi ⟨k6, k7, rfl, rfl⟩
        have ei : ((0 : Int) + (i : Int)).toNat = i := by omega
        have hpi : (0 : Int) < 2 ^ i := Int.pow_pos (by decide)
        have hpi2 : (2 : Int) ^ i ≤ 4294967296 := pow_le (m := 32) (by omega)
        have hki : ((2 ^ i : Nat) : Int) = (2 : Int) ^ i := PySem.W.kbt_cast i
        have fm : ∀ a : Nat, ((a : Int) / (1 * 2 ^ ((0 : Int) + (i : Int)).toNat)).fmod 2 = ((a / 2 ^ i % 2 : Nat) : Int) := fun a => by
          rw [ei, Int.one_mul, fmod_e (by decide), ← hki]
          omega
        -- both
        refine ⟨_, rfl, _, rfl, _, _, rfl, rfl, ⟨by omega, by omega, by decide⟩, _, _, rfl, rfl, wide_div (b := 34) (by rw [ei]; omega) (by rw [ei]; omega) (by decide) (by decide), _, _, rfl, rfl, (by show (2 : Int) ≠ 0; decide),
          _, rfl, _, rfl, _, _, rfl, rfl, ⟨by omega, by omega, by decide⟩, _, _, rfl, rfl, wide_div (b := 34) (by rw [ei]; omega) (by rw [ei]; omega) (by decide) (by decide), _, _, rfl, rfl, (by show (2 : Int) ≠ 0; decide), _, _, rfl, rfl, ?_⟩
        dsimp only
        rw [fm a, fm b]
        have st := bitF_step op a b i
        generalize hz : ((a / 2 ^ i % 2 : Nat) : Int) + ((b / 2 ^ i % 2 : Nat) : Int) = z at st
        -- the test, by its answer
        refine ⟨fun c H3 => c = bitC op z ∧ H3 = upd H l (.lst [V.str "and", V.str "or", V.str "xor"]), ?_, ?_⟩
        · refine ⟨_, rfl, rfl, _, rfl, ite2 (fun e => ?_) (fun e => ?_)⟩
          · have eq := str_eq e
            refine ⟨_, rfl, rfl, _, rfl, ite2 (fun e2 => ?_) (fun e2 => ?_)⟩
            · exact ⟨by unfold bitC; rw [if_pos eq, decide_eq_true (int_eq e2)], rfl⟩
            · refine ⟨_, rfl, rfl, _, rfl, ite2 (fun e3 => absurd (eq.symm.trans (str_eq e3)) (by decide +kernel)) (fun e3 => iteF ?_)⟩
              refine ⟨_, rfl, rfl, _, rfl, ite2 (fun e3 => absurd (eq.symm.trans (str_eq e3)) (by decide +kernel)) (fun e3 => ?_)⟩
              exact ⟨by unfold bitC; rw [if_pos eq, decide_eq_false (int_ne e2)], rfl⟩
          · have ne := str_ne e
            refine iteF ⟨_, rfl, rfl, _, rfl, ite2 (fun e3 => ?_) (fun e3 => ?_)⟩
            · have eq := str_eq e3
              refine ⟨_, rfl, _, _, rfl, rfl, _, rfl, ite2 (fun e2 => ?_) (fun e2 => ?_)⟩
              · exact ⟨by unfold bitC; rw [if_neg ne, if_pos eq, decide_eq_true (of_decide_eq_true e2)], rfl⟩
              · refine ⟨_, rfl, rfl, _, rfl, ite2 (fun e3 => absurd (eq.symm.trans (str_eq e3)) (by decide +kernel)) (fun e3 => ?_)⟩
                exact ⟨by unfold bitC; rw [if_neg ne, if_pos eq, decide_eq_false (fun z => e2 (decide_eq_true z))], rfl⟩
            · have ne2 := str_ne e3
              have eq : op = "xor" := by
                rcases eo with z | z | z
                · exact absurd z ne
                · exact absurd z ne2
                · exact z
              refine iteF ⟨_, rfl, rfl, _, rfl, ite2 (fun e4 => ?_) (fun e4 => absurd eq (str_ne e4))⟩
              refine ⟨_, rfl, rfl, _, rfl, ?_⟩
              refine ⟨?_, rfl⟩
              unfold bitC
              rw [if_neg ne, if_neg ne2]
              exact decide_eq_decide.mpr ⟨fun q => V.int.inj q, fun q => by rw [q]⟩
        · rintro c H3 ⟨hc, rfl⟩
          rw [← hc] at st
          cases c with
          | true =>
            refine iteT ⟨_, rfl, _, rfl, _, _, rfl, rfl, ⟨by omega, by omega, by decide⟩, _, _, rfl, rfl, some (.int (0 + i)), some (.int z), ?_, rfl⟩
            rw [if_pos rfl] at st
            rw [st, ei, Int.one_mul]
            rfl
          | false =>
            refine iteF ⟨some (.int (0 + i)), some (.int z), ?_, rfl⟩
            rw [if_neg Bool.false_ne_true, Int.add_zero] at st
            rw [st]
            rfl
      · rintro σ H2 ⟨k6, k7, rfl, rfl⟩
        refine ⟨_, rfl, ?_⟩
        rw [Nat.mod_eq_of_lt (bitF_lt op la lb), ← bitF_cmp eo n]
        exact q _ (same_upd hl)
    · have en : ¬ (op = "and" ∨ op = "or" ∨ op = "xor") := fun z => e (decide_eq_true z)
      rw [if_neg (fun z => en (.inl z)), if_neg (fun z => en (.inr (.inl z))), if_neg (fun z => en (.inr (.inr z)))] at q0
      have q1 := q (upd H l (.lst [V.str "and", V.str "or", V.str "xor"])) (same_upd hl)
      unfold cmpS at q1
      rw [if_neg n1, if_neg n2, if_neg n3, if_neg (fun z => en (.inl z)), if_neg (fun z => en (.inr (.inl z))), if_neg (fun z => en (.inr (.inr z)))] at q1
      clear q0
      refine ⟨_, rfl, rfl, _, rfl, ite2 (fun e => ?_) (fun e => ?_)⟩
      · rw [if_pos (str_eq e)] at q1
        refine ⟨_, rfl, _, rfl, _, _, rfl, rfl, _, rfl, ite2 (fun e => ?_) (fun e => ?_)⟩
        · rw [if_pos (of_decide_eq_true e)] at q1
          exact q1
        · rw [if_neg (fun z => e (decide_eq_true z))] at q1
          exact q1
      rw [if_neg (str_ne e)] at q1
      have n4 := str_ne e
      refine ⟨_, rfl, rfl, _, rfl, ite2 (fun e => ?_) (fun e => ?_)⟩
      · rw [if_pos (str_eq e)] at q1
        refine ⟨_, rfl, _, rfl, rfl, _, rfl, ite2 (fun e => ?_) (fun e => ?_)⟩
        · rw [if_pos (int_eq e)] at q1
          exact q1
        · rw [if_neg (int_ne e)] at q1
          exact q1
      rw [if_neg (str_ne e)] at q1
      have n5 := str_ne e
      refine ⟨_, rfl, _, rfl, _, _, rfl, rfl, _, rfl, ite2 (fun e => ?_) (fun e => ?_)⟩
      · rw [if_pos (of_decide_eq_true e)] at q1
        exact q1
      rw [if_neg (fun z => e (decide_eq_true z))] at q1
      have yn : ¬ (n : Int) ≤ y := fun z => e (decide_eq_true z)
      obtain ⟨b, rfl⟩ := int_nat y0
      have hpb : (0 : Int) < 2 ^ b := Int.pow_pos (by decide)
      have hpb2 : (2 : Int) ^ b ≤ 4294967296 := pow_le (m := 32) (by omega)
      rw [Int.toNat_natCast] at q1
      refine ⟨_, rfl, rfl, _, rfl, ite2 (fun e => ?_) (fun e => ?_)⟩
      · have eq := str_eq e
        rw [if_neg (by rw [eq]; decide +kernel)] at q1
        refine ⟨_, rfl, _, rfl, _, _, rfl, rfl, ⟨by omega, by omega, by decide⟩, _, _, rfl, rfl, wide_div (b := 34) (by rw [Int.one_mul, Int.toNat_natCast]; omega) (by rw [Int.one_mul, Int.toNat_natCast]; omega) (by decide) (by decide), ?_⟩
        dsimp only
        rw [Int.one_mul, Int.toNat_natCast]
        exact q1
      · have eq : op = "shl" := by
          have n6 := str_ne e
          have hop' := hop
          unfold OPL at hop'
          simp only [List.mem_cons, List.not_mem_nil, or_false] at hop'
          rcases hop' with z | z | z | z | z | z | z | z | z | z
          · exact absurd z n1
          · exact absurd z n2
          · exact absurd z n3
          · exact absurd (.inl z) en
          · exact absurd (.inr (.inl z)) en
          · exact absurd (.inr (.inr z)) en
          · exact absurd z n4
          · exact absurd z n5
          · exact z
          · exact absurd z n6
        rw [if_pos eq, mul_mod'] at q1
        refine ⟨_, rfl, _, rfl, _, _, rfl, rfl, ⟨by omega, by omega, by decide⟩, _, _, rfl, rfl, .inl ⟨by omega, by omega⟩, _, rfl, _, rfl, _, _, rfl, rfl, ⟨by omega, by omega, by decide⟩, _, _, rfl, rfl, .inl ⟨by omega, by omega⟩, _, rfl, _, _, rfl, rfl, wide_div (b := 34) hpn (by omega) (by decide) (by decide), _, rfl, _, _, rfl, rfl, .inr ⟨by omega, by omega⟩, _, _, rfl, rfl, ?_⟩
        dsimp only
        rw [Int.one_mul, Int.toNat_natCast]
        exact q1
end

section
variable {P : Program} {w : World} {K : PySem.W.Frag} {mg : Str → Option Value} {base : Heap}
def spDraw (K : PySem.W.Frag) : Sp := fun vs H Q _ => ∃ (a : Addr) (ns : List Int), vs = [.ref a] ∧ SqL K H a (ns.map V.int) ∧ ns.length ≤ 63 ∧ ∀ (H' : Hp) (p : Addr), Same H H' → H p = none → DrawAt H' p → Q (.ref p) H'
def absI (i : Int) : Int := if i < 0 then -i else i
theorem absI_nn (i : Int) : 0 ≤ absI i := by
  unfold absI
  split <;> omega
theorem ok_z_draw (T : Txt K mg) : FnOk P w K mg base CX0 1 T.f_z_draw T.d_z_draw ["script"] (spDraw K) := by
  refine T.F_z_draw.ok sc_z_draw (fun vs H Q E h => ?_) (fun cdv A outer s H vs Q E hr h => ?_)
  · obtain ⟨a, ns, rfl, _⟩ := h
    rfl
  · obtain ⟨a, ns, rfl, hS, hlen, q⟩ := h
    have itm : ∀ (i : Nat) (x : V), (ns.map V.int)[i]? = some x → ∃ z, ns[i]? = some z ∧ x = V.int z := fun i x e => by
      rw [List.getElem?_map] at e
      cases e2 : ns[i]? with
      | none => rw [e2] at e; cases e
      | some z => rw [e2] at e; exact ⟨z, rfl, (Option.some.inj e).symm⟩
    refine ⟨_, (pss_cons (ps_set (i := 1) sc_z_draw.nd rfl (Or.inl rfl) pe_int)
      (pss_cons (ps_for PassesOwn.never rfl (pi_list (pv 0)) (pg_name (i := 2) sc_z_draw.nd rfl (Or.inl rfl))
        (pss_one (ps_set (i := 1) sc_z_draw.nd rfl (Or.inl rfl) (pe_op op_modN (pe_callTy call_int1 (by rfl) T.m_int (by decide +kernel) (pa_cons (pe_op op_add (pe_op op_add (pe_op op_mul (pv 1) pe_int) (pe_op op_modN (pe_callB call_abs (by rfl) T.m_abs (by decide +kernel) (pa_cons (pe_callTy call_int1 (by rfl) T.m_int (by decide +kernel) (pa_cons (pv 2) pa_nil)) pa_nil)) pe_int)) pe_int) pa_nil)) pe_int))))
      (pss_one (ps_ret (pe_lst (pa_cons (pe_lc (own := [("cell", 2)]) (g := gName 2) (by rfl) sc_z_draw.nd (pi_list (pv 0)) (blkOk_by (own := [("cell", 2)]) (N := N_z_draw) (sc := defScope s_z_draw) (by decide +kernel)) (fun _ _ _ _ _ => (pg_name (i := 2) sc_z_draw.nd rfl (Or.inl rfl))) (fun _ _ _ _ _ => pts_nil) (fun _ _ _ _ _ => (pe_callB call_abs (by rfl) T.m_abs (by decide +kernel) (pa_cons (pe_callTy call_int1 (by rfl) T.m_int (by decide +kernel) (pa_cons (pv 2) pa_nil)) pa_nil)))) (pa_cons (pe_un un_neg pe_int) (pa_cons pe_int (pa_cons (pv 1) pa_nil))))))))), ?_⟩
    refine ⟨_, rfl, a, rfl, ⟨_, hS⟩, for_list (xs := ns.map V.int) (fun i σ H1 => ∃ (seed : Int) (c : Option V), σ = [some (.ref a), some (.int seed), c] ∧ H1 = H ∧ 0 ≤ seed ∧ seed < 2147483647) ⟨7, none, rfl, rfl, by decide, by decide⟩ ?_ ?_ ?_⟩
    · rintro i σ H1 _ ⟨_, _, _, rfl, _⟩
      exact hS
    · rintro i x σ H1 hx ⟨seed, c, rfl, rfl, s0, s1⟩
      obtain ⟨z, hz, rfl⟩ := itm i x hx
      refine ⟨_, rfl, _, _, rfl, rfl, .inl ⟨by omega, by omega⟩, _, rfl, .inl ⟨_, rfl, _, rfl, _, _, rfl, rfl, (show (65521 : Int) ≠ 0 by decide), _, _, rfl, rfl, _, _, rfl, rfl, .inl ⟨_, rfl, _, _, rfl, rfl, (show (2147483647 : Int) ≠ 0 by decide), ?_⟩⟩⟩
      exact ⟨_, _, rfl, rfl, fmod_lo (by decide), fmod_hi (by decide)⟩
    · rintro σ H1 ⟨seed, c, rfl, rfl, s0, s1⟩
      -- the cells
      refine ⟨_, rfl, a, rfl, ⟨_, hS⟩, fun D hD => lc_list (xs := ns.map V.int) (fun i H2 => ∃ acc : List Int, Same H1 H2 ∧ H2 D = some (.lst (acc.map V.int)) ∧ acc.length = i ∧ ∀ x ∈ acc, 0 ≤ x) ⟨[], same_upd hD, upd_same, rfl, fun _ z => nomatch z⟩ ?_ ?_ ?_⟩
      · rintro i H2 _ ⟨acc, sm, _⟩
        exact sm.seq hS
      · rintro i x H2 hx ⟨acc, sm, hA, hl, hn⟩
        obtain ⟨z, hz, rfl⟩ := itm i x hx
        have hi : i < ns.length := (List.getElem?_eq_some_iff.mp hz).1
        refine ⟨rfl, ⟨_, rfl, .inl ⟨_, rfl, _, rfl, _, hA, small1000 (by rw [List.length_map]; omega), acc ++ [absI z], fun b o e => ?_, ?_, ?_, fun x hx => ?_⟩⟩⟩
        · rw [upd_ne (ne_of_none e hD)]
          exact sm _ _ e
        · rw [upd_same, List.map_append]
          rfl
        · rw [List.length_append, hl]; rfl
        · rcases List.mem_append.mp hx with h | h
          · exact hn x h
          · rw [List.mem_singleton.mp h]
            exact absI_nn z
      · rintro H2 ⟨acc, sm, hA, hl, hn⟩
        refine ⟨_, rfl, _, rfl, (by show 4 ≤ sizeLine; decide), fun p hp => ?_⟩
        refine q _ p (sm.trans (same_upd hp)) (sm.free hp) ⟨D, acc, -1, 0, seed, ⟨upd_same, ?_, hn, by decide, by decide, s0, s1⟩⟩
        rw [upd_ne (ne_of_none hA hp)]
        exact hA
/-! ### the law -/
theorem dp_strs {K : PySem.W.Frag} {H : Hp} : ∀ xs : List Str, DpAll K H (xs.map V.str) (xs.map PyData.str)
  | [] => .nil
  | x :: r => .cons (.str x) (dp_strs r)
theorem opl_shaped : SeqAt.shaped (.list (OPL.map PyData.str)) = true := by decide +kernel
theorem opl_eqv : PyData.eqv (.list (OPL.map PyData.str)) (.list (OPL.map PyData.str)) = true := SeqAt.eqv_refl _ (SeqAt.canLay_of_shaped opl_shaped)
theorem atI_in {α : Type} {xs : List α} {r : Int} (h0 : 0 ≤ r) (h1 : r < xs.length) : ∃ v, atI xs r = some v ∧ v ∈ xs := by
  obtain ⟨n, rfl⟩ := int_nat h0
  have hn : n < xs.length := by omega
  exact ⟨xs[n], atI_nat (List.getElem?_eq_getElem hn), List.getElem_mem hn⟩
set_option maxHeartbeats 4000000 in
end

end My

set_option Elab.async false
set_option linter.all false
set_option maxRecDepth 100000
namespace My
open PySem PySem.Spec PyProof.Rows L2
local macro_rules | `(tactic| walk_at "asm") => `(tactic| (refine' of_eq_true (eq_true ?_); assumption))
local macro_rules | `(tactic| walk_at "go1") => `(tactic| first
  | (with_reducible rfl) | walk_at "asm" | (apply And.intro) | (apply Exists.intro)
  | (refine' ite_f (by decide +kernel) ?_) | (refine' ite_t (by decide +kernel) ?_) | (refine' ite_f (dstr_ne (by assumption)) ?_) | (refine' ite_t (dstr_eq (by assumption)) ?_)
  | (exact SqT.of upd_same) | (exact SqL.of upd_same) | (exact SqL.of (by assumption)) | (exact SqT.of (by assumption)) | (exact dget_s (by assumption) (by assumption)) | (exact dget_f (by assumption) (by assumption))
  | (exact Or.inl (by assumption)) | (exact Or.inr (by assumption)) | (exact Or.inl (SqL.of (by assumption))) | (exact Or.inr (SqT.of (by assumption))) | rfl)
local macro_rules | `(tactic| walk_at "go") => `(tactic| repeat' walk_at "go1")

section
variable {P : Program} {w : World} {K : PySem.W.Frag} {mg : Str → Option Value} {base : Heap}
theorem at_mod {α β : Type} {f : α → β} (xs : List α) [Inhabited α] (v : Int) {d : α} (h : 0 < xs.length) : atI (xs.map f) (v % (xs.length : Int)) = some (f (xs.getD (v % (xs.length : Int)).toNat d)) := by
  have m0 : 0 ≤ v % (xs.length : Int) := Int.emod_nonneg _ (by omega)
  have m1 : v % (xs.length : Int) < xs.length := Int.emod_lt_of_pos _ (by omega)
  obtain ⟨k, hk⟩ := int_nat m0
  rw [hk, Int.toNat_natCast]
  have hk2 : k < xs.length := by omega
  refine atI_nat ?_
  rw [List.getElem?_map, List.getElem?_eq_getElem hk2, List.getD_eq_getElem?_getD, List.getElem?_eq_getElem hk2]
  rfl
/-- the dict of words at lk -/
def LookV (K : PySem.W.Frag) (H : Hp) (lk : Addr) (nm : Nm) (en : Str → List Int) : Prop := ∃ kvs, H lk = some (.dK kvs) ∧ ∀ x s, nm.lookup x = some s →
  (s = 0 → valV kvs (.inr x) = some (.int ((en x).getD 0 0))) ∧ (0 < s → ∃ a, valV kvs (.inr x) = some (.ref a) ∧ SqL K H a ((en x).map V.int))
def spVal (K : PySem.W.Frag) (n : Nat) : Sp := fun vs H Q _ => ∃ (wd : Nat) (v : V) (lk : Addr) (e : Ex) (nm : Nm) (en : Str → List Int), vs = [.int wd, v, .ref lk] ∧ Rp K H v e.d ∧ EOk wd nm e ∧ EnOk wd nm en ∧ 1 ≤ wd ∧ wd ≤ 32 ∧ e.dep ≤ n ∧ LookV K H lk nm en ∧
  Q (.int (e.val wd en)) H
def spCix (K : PySem.W.Frag) (n : Nat) : Sp := fun vs H Q _ => ∃ (wd : Nat) (v : V) (lk : Addr) (x : Str) (e : Ex) (nm : Nm) (en : Str → List Int), vs = [.int wd, v, .ref lk] ∧ Rp K H v (Ex.cell x e).d ∧ EOk wd nm (.cell x e) ∧ EnOk wd nm en ∧ 1 ≤ wd ∧ wd ≤ 32 ∧ e.dep ≤ n ∧ LookV K H lk nm en ∧
  Q (.int (e.val wd en % (en x).length)) H
theorem ok_cell_index (T : Txt K mg) (n : Nat) (G_value_of : FnOk P w K mg base CX0 (2 * n + 4) T.f_value_of T.d_value_of ["w", "e", "look"] (spVal K n)) : FnOk P w K mg base CX0 (2 * n + 5) T.f_cell_index T.d_cell_index ["w", "e", "look"] (spCix K n) := by
  refine T.F_cell_index.ok sc_cell_index (fun vs H Q E h => ?_) (fun cdv A outer s H vs Q E hr h => ?_)
  · obtain ⟨wd, v, lk, x, e, nm, en, rfl, _⟩ := h
    rfl
  · obtain ⟨wd, v, lk, x, e, nm, en, rfl, hv, he, hen, w1, w2, hd, hl, q⟩ := h
    obtain ⟨a, u, rfl, hs, hu⟩ := rp_cell hv
    obtain ⟨⟨sz, hsz, s0⟩, hei⟩ := _root_.id he
    obtain ⟨kvs, hk, hx⟩ := _root_.id hl
    obtain ⟨l, hx2, hls⟩ := (hx x sz hsz).2 s0
    have len := (hen x sz hsz).2.2 s0
    refine ⟨_, (pss_one (ps_ret (pe_op op_modN (pe_call G_value_of (hr.mono (by omega)) (by rfl) T.g_value_of T.F_value_of.kp T.b_value_of .nil pass0 (pa_cons (pv 0) (pa_cons (pe_ix ix_tup (pv 1) pe_int (fun _ _ => rfl)) (pa_cons (pv 2) pa_nil)))) (pe_callB call_len_seq (by rfl) T.m_len (by decide +kernel) (pa_cons (pe_dget (hu_of hr) (pv 2) (pe_ix ix_tup (pv 1) pe_int (fun _ _ => rfl)) (fun _ _ => rfl)) pa_nil))))), ?_⟩
    walk_at "go"
    · show ((en x).map V.int).length ≠ (0 : Int)
      rw [List.length_map]
      omega
    · show Q (.int ((e.val wd en).fmod (((en x).map V.int).length : Nat))) H
      rw [List.length_map, fmod_e (by omega)]
      exact q
theorem ok_value_of (T : Txt K mg) : ∀ n, FnOk P w K mg base CX0 (2 * n + 4) T.f_value_of T.d_value_of ["w", "e", "look"] (spVal K n) := by
  intro n
  induction n with
  | zero => exact T.F_value_of.ok sc_value_of (fun vs H Q E ⟨wd, v, lk, e, nm, en, h, _⟩ => by rw [h]; rfl) (fun cdv A outer s H vs Q E hr ⟨wd, v, lk, e, nm, en, _, _, _, _, _, _, h, _⟩ => absurd (Ex.dep_pos e) (by omega))
  | succ n G_value_of =>
    have G_cell_index := ok_cell_index T n G_value_of
    have G_compute := ok_compute (P := P) (w := w) (base := base) T
    refine T.F_value_of.ok sc_value_of (fun vs H Q E h => ?_) (fun cdv A outer s H vs Q E hr h => ?_)
    · obtain ⟨wd, v, lk, e, nm, en, rfl, _⟩ := h
      rfl
    · obtain ⟨wd, v, lk, e, nm, en, rfl, hv, he, hen, w1, w2, hd, hl, q⟩ := h
      have hr : Room (2 * n + 5) _ := hr
      refine ⟨_, (pss_cons (ps_set (i := 3) sc_value_of.nd rfl (Or.inl rfl) (pe_ix ix_tup (pv 1) pe_int (fun _ _ => rfl)))
      (pss_cons (ps_if (pt_cmpR op_eq (pv 3) pe_str (nomark _))
        (pss_one (ps_ret (pe_ix ix_tup (pv 1) pe_int (fun _ _ => rfl))))
        pss_nil)
      (pss_cons (ps_if (pt_cmpR op_eq (pv 3) pe_str (nomark _))
        (pss_one (ps_ret (pe_dget (hu_of hr) (pv 2) (pe_ix ix_tup (pv 1) pe_int (fun _ _ => rfl)) (fun _ _ => rfl))))
        pss_nil)
      (pss_cons (ps_if (pt_cmpR op_eq (pv 3) pe_str (nomark _))
        (pss_one (ps_ret (pe_ix ix_list (pe_dget (hu_of hr) (pv 2) (pe_ix ix_tup (pv 1) pe_int (fun _ _ => rfl)) (fun _ _ => rfl)) (pe_call G_cell_index (hr.mono (by omega)) (by rfl) T.g_cell_index T.F_cell_index.kp T.b_cell_index .nil pass0 (pa_cons (pv 0) (pa_cons (pv 1) (pa_cons (pv 2) pa_nil)))) (fun _ _ => rfl))))
        pss_nil)
      (pss_cons (ps_if (pt_cmpR op_eq (pv 3) pe_str (nomark _))
        (pss_one (ps_ret (pe_ifExp (pt_cmpR op_eq (pe_call G_value_of (hr.mono (by omega)) (by rfl) T.g_value_of T.F_value_of.kp T.b_value_of .nil pass0 (pa_cons (pv 0) (pa_cons (pe_ix ix_tup (pv 1) pe_int (fun _ _ => rfl)) (pa_cons (pv 2) pa_nil)))) pe_int (nomark _)) pe_int pe_int)))
        pss_nil)
      (pss_one (ps_ret (pe_call G_compute (hr.mono (by omega)) (by rfl) T.g_compute T.F_compute.kp T.b_compute .nil pass0 (pa_cons (pv 3) (pa_cons (pv 0) (pa_cons (pe_call G_value_of (hr.mono (by omega)) (by rfl) T.g_value_of T.F_value_of.kp T.b_value_of .nil pass0 (pa_cons (pv 0) (pa_cons (pe_ix ix_tup (pv 1) pe_int (fun _ _ => rfl)) (pa_cons (pv 2) pa_nil)))) (pa_cons (pe_call G_value_of (hr.mono (by omega)) (by rfl) T.g_value_of T.F_value_of.kp T.b_value_of .nil pass0 (pa_cons (pv 0) (pa_cons (pe_ix ix_tup (pv 1) pe_int (fun _ _ => rfl)) (pa_cons (pv 2) pa_nil)))) pa_nil)))))))))))), ?_⟩
      cases e with
      | int i =>
        obtain ⟨a, rfl, hs⟩ := rp_int hv
        walk_at "go"
      | var x =>
        obtain ⟨a, rfl, hs⟩ := rp_var hv
        obtain ⟨kvs, hk, hx⟩ := _root_.id hl
        have hx2 := (hx x 0 he).1 rfl
        walk_at "go"
      | cell x i =>
        obtain ⟨a, u, rfl, hs, hu⟩ := rp_cell hv
        obtain ⟨⟨sz, hsz, s0⟩, hei⟩ := _root_.id he
        obtain ⟨kvs, hk, hx⟩ := _root_.id hl
        obtain ⟨l, hx2, hls⟩ := (hx x sz hsz).2 s0
        have len := (hen x sz hsz).2.2 s0
        have hd2 : i.dep ≤ n := Nat.le_of_succ_le_succ hd
        have at_ := at_mod (f := V.int) (d := 0) (en x) (i.val wd en) (by omega)
        walk_at "go"
      | not i =>
        obtain ⟨a, u, rfl, hs, hu⟩ := rp_not hv
        have hd2 : i.dep ≤ n := Nat.le_of_succ_le_succ hd
        have he2 : EOk wd nm i := he
        have q : Q (.int (if i.val wd en = 0 then 1 else 0)) H := q
        walk_at "go"
        refine ite2 (fun e => ?_) (fun e => ?_)
        · rw [if_pos (int_eq e)] at q
          exact q
        · rw [if_neg (int_ne e)] at q
          exact q
      | op o x y =>
        obtain ⟨a, u, t, rfl, hs, hu, ht⟩ := rp_op hv
        obtain ⟨ho, hx, hy⟩ := _root_.id he
        obtain ⟨o1, o2, o3, o4⟩ := opl_ne ho
        have hd2 : x.dep ≤ n := by have : max x.dep y.dep + 1 ≤ n + 1 := hd; omega
        have hd3 : y.dep ≤ n := by have : max x.dep y.dep + 1 ≤ n + 1 := hd; omega
        have ⟨x0, x1⟩ := val_in w1 hen hx
        have ⟨y0, y1⟩ := val_in w1 hen hy
        walk_at "go"
end
end My

set_option Elab.async false
set_option linter.all false
set_option maxRecDepth 100000
set_option maxHeartbeats 4000000
namespace My
open PySem PySem.Spec PyProof.Rows L2
local macro_rules | `(tactic| walk_at "asm") => `(tactic| (refine' of_eq_true (eq_true ?_); assumption))
local macro_rules | `(tactic| walk_at "go1") => `(tactic| first
  | (with_reducible rfl) | walk_at "asm" | (apply And.intro) | (apply Exists.intro)
  | (refine' ite_f (by decide +kernel) ?_) | (refine' ite_t (by decide +kernel) ?_) | (refine' ite_f (dstr_ne (by assumption)) ?_) | (refine' ite_t (dstr_eq (by assumption)) ?_)
  | (exact SqT.of upd_same) | (exact SqL.of upd_same) | (exact SqL.of (by assumption)) | (exact SqT.of (by assumption)) | (exact dget_s (by assumption) (by assumption)) | (exact dget_f (by assumption) (by assumption))
  | (exact Or.inl (by assumption)) | (exact Or.inr (by assumption)) | (exact Or.inl (SqL.of (by assumption))) | (exact Or.inr (SqT.of (by assumption))) | rfl)
local macro_rules | `(tactic| walk_at "go") => `(tactic| repeat' walk_at "go1")

section
variable {P : Program} {w : World} {K : PySem.W.Frag} {mg : Str → Option Value} {base : Heap}
/-- the dict of the names' lists at lk -/
def LookF (K : PySem.W.Frag) (H : Hp) (lk : Addr) (nm : Nm) (en : Str → List Int) : Prop := ∃ kvs, H lk = some (.dK kvs) ∧ ∀ x s, nm.lookup x = some s → ∃ a, valV kvs (.inr x) = some (.ref a) ∧ SqL K H a ((en x).map V.int)
def spLv (K : PySem.W.Frag) (n : Nat) : Sp := fun vs H Q _ => ∃ (wd : Nat) (v : V) (lk : Addr) (e : Ex) (nm : Nm) (en : Str → List Int), vs = [.int wd, v, .ref lk] ∧ Rp K H v e.d ∧ EOk wd nm e ∧ EnOk wd nm en ∧ 1 ≤ wd ∧ wd ≤ 32 ∧ e.dep ≤ n ∧ LookF K H lk nm en ∧
  ∀ H', Same H H' → Q (.int (e.val wd en)) H'
theorem opl_OPL {o : Str} (h : o ∈ opl) : o ∈ OPL := h
theorem LookF.keep {H H' : Hp} {lk : Addr} {nm : Nm} {en : Str → List Int} (h : LookF K H lk nm en) (k : Same H H') : LookF K H' lk nm en := by
  obtain ⟨kvs, e, h⟩ := h
  exact ⟨kvs, k _ _ e, fun x s q => let ⟨a, h1, h2⟩ := h x s q; ⟨a, h1, k.seq h2⟩⟩
theorem ok_z_value (T : Txt K mg) : ∀ n, FnOk P w K mg base CX0 (n + 2) T.f_z_value T.d_z_value ["w", "e", "frame"] (spLv K n) := by
  intro n
  induction n with
  | zero => exact T.F_z_value.ok sc_z_value (fun vs H Q E ⟨wd, v, lk, e, nm, en, h, _⟩ => by rw [h]; rfl) (fun cdv A outer s H vs Q E hr ⟨wd, v, lk, e, nm, en, _, _, _, _, _, _, h, _⟩ => absurd (Ex.dep_pos e) (by omega))
  | succ n G_z_value =>
    have G_z_compute := ok_z_compute (P := P) (w := w) (base := base) T
    refine T.F_z_value.ok sc_z_value (fun vs H Q E h => ?_) (fun cdv A outer s H vs Q E hr h => ?_)
    · obtain ⟨wd, v, lk, e, nm, en, rfl, _⟩ := h
      rfl
    · obtain ⟨wd, v, lk, e, nm, en, rfl, hv, he, hen, w1, w2, hd, hl, q⟩ := h
      have hr : Room (n + 2) _ := hr
      refine ⟨_, (pss_cons (ps_set (i := 3) sc_z_value.nd rfl (Or.inl rfl) (pe_ix ix_tup (pv 1) pe_int (fun _ _ => rfl)))
      (pss_cons (ps_if (pt_cmpR op_eq (pv 3) pe_str (nomark _))
        (pss_one (ps_ret (pe_ix ix_tup (pv 1) pe_int (fun _ _ => rfl))))
        pss_nil)
      (pss_cons (ps_if (pt_cmpR op_eq (pv 3) pe_str (nomark _))
        (pss_one (ps_ret (pe_ix ix_list (pe_dget (hu_of hr) (pv 2) (pe_ix ix_tup (pv 1) pe_int (fun _ _ => rfl)) (fun _ _ => rfl)) pe_int (fun _ _ => rfl))))
        pss_nil)
      (pss_cons (ps_if (pt_cmpR op_eq (pv 3) pe_str (nomark _))
        (pss_cons (ps_set (i := 4) sc_z_value.nd rfl (Or.inl rfl) (pe_dget (hu_of hr) (pv 2) (pe_ix ix_tup (pv 1) pe_int (fun _ _ => rfl)) (fun _ _ => rfl)))
        (pss_one (ps_ret (pe_ix ix_list (pv 4) (pe_op op_modN (pe_call G_z_value (hr.mono (by omega)) (by rfl) T.g_z_value T.F_z_value.kp T.b_z_value .nil pass0 (pa_cons (pv 0) (pa_cons (pe_ix ix_tup (pv 1) pe_int (fun _ _ => rfl)) (pa_cons (pv 2) pa_nil)))) (pe_callB call_len_seq (by rfl) T.m_len (by decide +kernel) (pa_cons (pv 4) pa_nil))) (fun _ _ => rfl)))))
        pss_nil)
      (pss_cons (ps_if (pt_cmpR op_eq (pv 3) pe_str (nomark _))
        (pss_one (ps_ret (pe_ifExp (pt_cmpR op_eq (pe_call G_z_value (hr.mono (by omega)) (by rfl) T.g_z_value T.F_z_value.kp T.b_z_value .nil pass0 (pa_cons (pv 0) (pa_cons (pe_ix ix_tup (pv 1) pe_int (fun _ _ => rfl)) (pa_cons (pv 2) pa_nil)))) pe_int (nomark _)) pe_int pe_int)))
        pss_nil)
      (pss_one (ps_ret (pe_call G_z_compute (hr.mono (by omega)) (by rfl) T.g_z_compute T.F_z_compute.kp T.b_z_compute .nil pass0 (pa_cons (pv 3) (pa_cons (pv 0) (pa_cons (pe_call G_z_value (hr.mono (by omega)) (by rfl) T.g_z_value T.F_z_value.kp T.b_z_value .nil pass0 (pa_cons (pv 0) (pa_cons (pe_ix ix_tup (pv 1) pe_int (fun _ _ => rfl)) (pa_cons (pv 2) pa_nil)))) (pa_cons (pe_call G_z_value (hr.mono (by omega)) (by rfl) T.g_z_value T.F_z_value.kp T.b_z_value .nil pass0 (pa_cons (pv 0) (pa_cons (pe_ix ix_tup (pv 1) pe_int (fun _ _ => rfl)) (pa_cons (pv 2) pa_nil)))) pa_nil)))))))))))), ?_⟩
      cases e with
      | int i =>
        obtain ⟨a, rfl, hs⟩ := rp_int hv
        have q := q H (.refl H)
        walk_at "go"
      | var x =>
        obtain ⟨a, rfl, hs⟩ := rp_var hv
        obtain ⟨kvs, hk, hx⟩ := _root_.id hl
        obtain ⟨l, hx2, hls⟩ := hx x 0 he
        have len := (hen x 0 he).2.1 rfl
        have at_ : atI ((en x).map V.int) 0 = some (.int ((en x).getD 0 0)) := by
          refine atI_nat (j := 0) ?_
          rw [List.getElem?_map, List.getElem?_eq_getElem (by omega), List.getD_eq_getElem?_getD, List.getElem?_eq_getElem (by omega)]
          rfl
        have q := q H (.refl H)
        walk_at "go"
      | cell x i =>
        obtain ⟨a, u, rfl, hs, hu⟩ := rp_cell hv
        obtain ⟨⟨sz, hsz, s0⟩, hei⟩ := _root_.id he
        obtain ⟨kvs, hk, hx⟩ := _root_.id hl
        obtain ⟨l, hx2, hls⟩ := hx x sz hsz
        have len := (hen x sz hsz).2.2 s0
        have hd2 : i.dep ≤ n := Nat.le_of_succ_le_succ hd
        have at_ := at_mod (f := V.int) (d := 0) (en x) (i.val wd en) (by omega)
        walk_at "go"
        intro H1 k1
        have hls1 := k1.seq hls
        walk_at "go"
        · show ((en x).map V.int).length ≠ (0 : Int)
          rw [List.length_map]
          omega
        · show atI ((en x).map V.int) ((i.val wd en).fmod (((en x).map V.int).length : Nat)) = some (.int ((Ex.cell x i).val wd en))
          rw [List.length_map, fmod_e (by omega)]
          exact at_
        · exact q H1 k1
      | not i =>
        obtain ⟨a, u, rfl, hs, hu⟩ := rp_not hv
        have hd2 : i.dep ≤ n := Nat.le_of_succ_le_succ hd
        have he2 : EOk wd nm i := he
        walk_at "go"
        intro H1 k1
        have q1 : Q (.int (if i.val wd en = 0 then 1 else 0)) H1 := q H1 k1
        walk_at "go"
        refine ite2 (fun e => ?_) (fun e => ?_)
        · rw [if_pos (int_eq e)] at q1
          exact q1
        · rw [if_neg (int_ne e)] at q1
          exact q1
      | op o x y =>
        obtain ⟨a, u, t, rfl, hs, hu, ht⟩ := rp_op hv
        obtain ⟨ho, hx, hy⟩ := _root_.id he
        obtain ⟨o1, o2, o3, o4⟩ := opl_ne ho
        have hd2 : x.dep ≤ n := by have : max x.dep y.dep + 1 ≤ n + 1 := hd; omega
        have hd3 : y.dep ≤ n := by have : max x.dep y.dep + 1 ≤ n + 1 := hd; omega
        have ⟨x0, x1⟩ := val_in w1 hen hx
        have ⟨y0, y1⟩ := val_in w1 hen hy
        have ho2 := opl_OPL ho
        walk_at "go"
        intro H1 k1
        have hs1 := (KT.of_same (S := []) k1).sqT hs
        have ht1 := ht.keep (KT.of_same (S := []) k1)
        have hl1 := hl.keep k1
        walk_at "go"
        intro H2 k2
        walk_at "go"
        intro H3 k3
        exact q H3 ((k1.trans k2).trans k3)
end
end My

set_option Elab.async false
set_option linter.all false
set_option maxRecDepth 100000
set_option maxHeartbeats 4000000
namespace My
open PySem PySem.Spec PyProof.Rows L2
local macro_rules | `(tactic| walk_at "asm") => `(tactic| (refine' of_eq_true (eq_true ?_); assumption))
local macro_rules | `(tactic| walk_at "go1") => `(tactic| first
  | (with_reducible rfl) | walk_at "asm" | (apply And.intro) | (apply Exists.intro)
  | (refine' ite_f (by decide +kernel) ?_) | (refine' ite_t (by decide +kernel) ?_) | (refine' ite_f (dstr_ne (by assumption)) ?_) | (refine' ite_t (dstr_eq (by assumption)) ?_)
  | (exact SqT.of upd_same) | (exact SqL.of upd_same) | (exact SqL.of (by assumption)) | (exact SqT.of (by assumption)) | (exact dget_s (by assumption) (by assumption)) | (exact dget_f (by assumption) (by assumption))
  | (exact Or.inl (by assumption)) | (exact Or.inr (by assumption)) | (exact Or.inl (SqL.of (by assumption))) | (exact Or.inr (SqT.of (by assumption))) | rfl)
local macro_rules | `(tactic| walk_at "go") => `(tactic| repeat' walk_at "go1")

section
variable {P : Program} {w : World} {K : PySem.W.Frag} {mg : Str → Option Value} {base : Heap}
theorem drawAt_isl {H : Hp} {p : Addr} (D : DrawAt H p) : ∃ xs, H p = some (.lst xs) := by
  obtain ⟨c, cells, pos, rest, seed, d⟩ := D
  exact ⟨_, d.hp⟩
theorem KT.of_but {H H' : Hp} {p : Addr} (D : DrawAt H p) (D' : DrawAt H' p) (k : KeepBut p H H') (cs : Cs p H H') : KT [p] H H' := by
  obtain ⟨xs, e⟩ := (drawAt_isl D)
  obtain ⟨ys, e'⟩ := (drawAt_isl D')
  have ne : ∀ b o, H b = some o → (∀ q, o ≠ .lst q) → b ≠ p := fun b o q n z => by rw [z, e] at q; exact n xs (Option.some.inj q).symm
  refine ⟨fun b o n q => k b o (fun z => n (by rw [z]; exact List.mem_singleton.mpr rfl)) q, fun b xs q => k b _ (ne b _ q fun _ z => by cases z) q, fun b o u q => k b _ (ne b _ q fun _ z => by cases z) q, fun b o q => ?_, fun b c t q => ?_⟩
  rotate_left
  · by_cases z : b = p
    · subst z
      exact cs c t q
    · exact ⟨t, k b _ z q⟩
  by_cases z : b = p
  · exact ⟨_, by rw [z]; exact e'⟩
  · exact ⟨o, k b o z q⟩
/-- the draw is led on: all else stays -/
structure GS (dr : Addr) (H H' : Hp) : Prop where
  k : KT [dr] H H'
  d : DrawAt H' dr
  c : Cs dr H H'
theorem GS.trans {dr : Addr} {H H1 H2 : Hp} (a : GS dr H H1) (b : GS dr H1 H2) : GS dr H H2 := ⟨a.k.trans b.k, b.d, a.c.trans b.c⟩
theorem GS.new {dr p : Addr} {H : Hp} {o : HO} (D : DrawAt H dr) (h : H p = none) : GS dr H (upd H p o) := ⟨KT.new _ h, D.upd h, .new h⟩
theorem GS.refl {dr : Addr} {H : Hp} (D : DrawAt H dr) : GS dr H H := ⟨KT.refl _ _, D, .refl _ _⟩
theorem sz1 : (1 : Nat) ≤ sizeLine := by decide
theorem sz2 : (2 : Nat) ≤ sizeLine := by decide
theorem sz3 : (3 : Nat) ≤ sizeLine := by decide
theorem sz4 : (4 : Nat) ≤ sizeLine := by decide
theorem sz5 : (5 : Nat) ≤ sizeLine := by decide
theorem atI_map {α β : Type} {f : α → β} {xs : List α} {i : Int} {y : α} (h : atI xs i = some y) : atI (xs.map f) i = some (f y) := by
  unfold atI at h ⊢
  rw [List.length_map]
  cases e : ixN xs.length i with
  | none => rw [e] at h; cases h
  | some j =>
    rw [e] at h
    have h : xs[j]? = some y := h
    show (xs.map f)[j]? = some (f y)
    rw [List.getElem?_map, h]
    rfl
def spTakeG : Sp := fun vs H Q _ => ∃ (p : Addr) (m : Int), vs = [.ref p, .int m] ∧ DrawAt H p ∧ 0 < m ∧ m ≤ 2 ^ 40 ∧ ∀ (r : Int) (H' : Hp), 0 ≤ r → r < m → GS p H H' → Q (.int r) H'
theorem okG_z_take (T : Txt K mg) : FnOk P w K mg base CX0 1 T.f_z_take T.d_z_take ["draw", "many"] spTakeG :=
  (ok_z_take T).imp fun vs H Q E ⟨p, m, h1, h2, h3, h4, h5⟩ => ⟨p, m, h1, h2, h3, h4, fun r H' r0 r1 k c D => h5 r H' r0 r1 ⟨KT.of_but h2 D k c, D, c⟩⟩
def spWordG : Sp := fun vs H Q _ => ∃ (p : Addr) (n : Nat), vs = [.ref p, .int n] ∧ DrawAt H p ∧ 1 ≤ n ∧ n ≤ 32 ∧ ∀ (r : Int) (H' : Hp), 0 ≤ r → r < 2 ^ n → GS p H H' → Q (.int r) H'
theorem okG_z_word (T : Txt K mg) : FnOk P w K mg base CX0 2 T.f_z_word T.d_z_word ["draw", "w"] spWordG :=
  (ok_z_word T).imp fun vs H Q E ⟨p, m, h1, h2, h3, h4, h5⟩ => ⟨p, m, h1, h2, h3, h4, fun r H' r0 r1 k c D => h5 r H' r0 r1 ⟨KT.of_but h2 D k c, D, c⟩⟩
/-- a dict of names and sizes -/
structure NmAt (H : Hp) (nd : Addr) (nm : Nm) : Prop where
  h : H nd = some (.dK (nmK nm))
  nd : (nm.map (·.1)).Nodup
  z : nm.length ≤ 1000
  s : ∀ p ∈ nm, 0 ≤ p.2
  l : ∀ p ∈ nm, (PyData.str p.1).canLay0 = true
/-- the dict p: the draw, the width, and what else it may hold -/
structure PdAt (H : Hp) (pd dr : Addr) (wd : Nat) : Prop where
  h : ∃ kvs, H pd = some (.dK kvs) ∧ valV kvs (.inr "draw") = some (.ref dr) ∧ valV kvs (.inr "width") = some (.int wd)
  w1 : 1 ≤ wd
  w2 : wd ≤ 32
  d : DrawAt H dr
theorem PdAt.ne {H : Hp} {pd dr : Addr} {wd : Nat} (h : PdAt H pd dr wd) : pd ∉ [dr] := by
  obtain ⟨kvs, e, _⟩ := h.h
  obtain ⟨xs, e'⟩ := (drawAt_isl h.d)
  intro z
  rw [List.mem_singleton.mp z, e'] at e
  cases e
theorem PdAt.keep {H H' : Hp} {pd dr : Addr} {wd : Nat} (h : PdAt H pd dr wd) (k : GS dr H H') : PdAt H' pd dr wd := by
  obtain ⟨kvs, e, e1, e2⟩ := h.h
  exact ⟨⟨kvs, k.k.kp _ _ h.ne e, e1, e2⟩, h.w1, h.w2, k.d⟩
theorem NmAt.ne {H : Hp} {nd dr : Addr} {nm : Nm} (h : NmAt H nd nm) (D : DrawAt H dr) : nd ∉ [dr] := by
  obtain ⟨xs, e'⟩ := (drawAt_isl D)
  have e := h.h
  intro z
  rw [List.mem_singleton.mp z, e'] at e
  cases e
theorem NmAt.keep {H H' : Hp} {nd dr : Addr} {nm : Nm} (h : NmAt H nd nm) (D : DrawAt H dr) (k : GS dr H H') : NmAt H' nd nm := ⟨k.k.kp _ _ (h.ne D) h.h, h.nd, h.z, h.s, h.l⟩
/-- a drawn expression over the names -/
def spExp (K : PySem.W.Frag) (n : Nat) : Sp := fun vs H Q _ => ∃ (pd nd dr : Addr) (d wd : Nat) (nm : Nm), vs = [.ref pd, .ref nd, .int d] ∧ d < n ∧ PdAt H pd dr wd ∧ NmAt H nd nm ∧
  ∀ (v : V) (e : Ex) (H' : Hp), GS dr H H' → Rp K H' v e.d → EOk wd nm e → e.dep ≤ d + 1 → Q v H'
theorem ok_z_expression (T : Txt K mg) : ∀ n, FnOk P w K mg base CX0 (n + 3) T.f_z_expression T.d_z_expression ["p", "names", "depth"] (spExp K n) := by
  intro n
  induction n with
  | zero => exact T.F_z_expression.ok sc_z_expression (fun vs H Q E ⟨pd, nd, dr, d, wd, nm, h, _⟩ => by rw [h]; rfl) (fun cdv A outer s H vs Q E hr ⟨pd, nd, dr, d, wd, nm, _, h, _⟩ => absurd h (Nat.not_lt_zero _))
  | succ n G_z_expression =>
    have G_z_take := okG_z_take (P := P) (w := w) (base := base) T
    have G_z_word := okG_z_word (P := P) (w := w) (base := base) T
    refine T.F_z_expression.ok sc_z_expression (fun vs H Q E h => ?_) (fun cdv A outer s H vs Q E hr h => ?_)
    · obtain ⟨pd, nd, dr, d, wd, nm, rfl, _⟩ := h
      rfl
    · obtain ⟨pd, nd, dr, d, wd, nm, rfl, hd, hp, hn, q⟩ := h
      have hr : Room (n + 3) _ := hr
      obtain ⟨kvs, hpd, hdr, hwd⟩ := hp.h
      refine ⟨_, (pss_cons (ps_set (i := 3) sc_z_expression.nd rfl (Or.inl rfl) (pe_dget (hu_of hr) (pv 0) pe_str (fun _ _ => rfl)))
      (pss_cons (ps_lock (ps_setLc (i := 4) (own := [("name", 9)]) (g := gName 9) rfl sc_z_expression.nd rfl rfl (sw_true rfl rfl rfl (by decide +kernel)) (pi_keys (pv 1)) (blkOk_by (own := [("name", 9)]) (N := N_z_expression) (sc := defScope s_z_expression) (by decide +kernel)) (fun _ _ _ _ _ => (pg_name (i := 9) sc_z_expression.nd rfl (Or.inl rfl))) (fun _ _ _ _ _ => (pts_one (pt_cmpR op_eq (pe_dget (hu_of hr) (pv 1) (pv 9) (fun _ _ => rfl)) pe_int (nomark _)))) (fun _ _ _ _ _ => (pv 9))))
      (pss_cons (ps_lock (ps_setLc (i := 5) (own := [("name", 9)]) (g := gName 9) rfl sc_z_expression.nd rfl rfl (sw_true rfl rfl rfl (by decide +kernel)) (pi_keys (pv 1)) (blkOk_by (own := [("name", 9)]) (N := N_z_expression) (sc := defScope s_z_expression) (by decide +kernel)) (fun _ _ _ _ _ => (pg_name (i := 9) sc_z_expression.nd rfl (Or.inl rfl))) (fun _ _ _ _ _ => (pts_one (pt_cmpR op_gt (pe_dget (hu_of hr) (pv 1) (pv 9) (fun _ _ => rfl)) pe_int (nomark _)))) (fun _ _ _ _ _ => (pv 9))))
      (pss_cons (ps_set (i := 6) sc_z_expression.nd rfl (Or.inl rfl) (pe_call G_z_take (hr.mono (by omega)) (by rfl) T.g_z_take T.F_z_take.kp T.b_z_take .nil pass0 (pa_cons (pv 3) (pa_cons pe_int pa_nil))))
      (pss_cons (ps_if (pt_cut (PW.pt (pw_or (pt_cmpR op_eq (pv 2) pe_int (nomark _)) (pw_or1 (pt_cmpR op_lt (pv 6) pe_int (nomark _))))))
        (pss_cons (ps_if (pt_cut (PW.pt (pw_or (pt_cmpR (op_eqD hr.units) (pv 4) (pe_lst pa_nil) (nomark _)) (pw_or1 (pt_cmpR op_eq (pe_call G_z_take (hr.mono (by omega)) (by rfl) T.g_z_take T.F_z_take.kp T.b_z_take .nil pass0 (pa_cons (pv 3) (pa_cons pe_int pa_nil))) pe_int (nomark _))))))
          (pss_one (ps_ret (pe_tup (pa_cons pe_str (pa_cons (pe_call G_z_word (hr.mono (by omega)) (by rfl) T.g_z_word T.F_z_word.kp T.b_z_word .nil pass0 (pa_cons (pv 3) (pa_cons (pe_dget (hu_of hr) (pv 0) pe_str (fun _ _ => rfl)) pa_nil))) pa_nil)))))
          pss_nil)
        (pss_one (ps_ret (pe_tup (pa_cons pe_str (pa_cons (pe_ix ix_list (pv 4) (pe_call G_z_take (hr.mono (by omega)) (by rfl) T.g_z_take T.F_z_take.kp T.b_z_take .nil pass0 (pa_cons (pv 3) (pa_cons (pe_callB call_len_seq (by rfl) T.m_len (by decide +kernel) (pa_cons (pv 4) pa_nil)) pa_nil))) (fun _ _ => rfl)) pa_nil))))))
        pss_nil)
      (pss_cons (ps_if (pt_cut (PW.pt (pw_and (pt_cmpR op_eq (pv 6) pe_int (nomark _)) (pw_and1 (pt_cmpR (op_neD hr.units) (pv 5) (pe_lst pa_nil) (nomark _))))))
        (pss_one (ps_ret (pe_tup (pa_cons pe_str (pa_cons (pe_ix ix_list (pv 5) (pe_call G_z_take (hr.mono (by omega)) (by rfl) T.g_z_take T.F_z_take.kp T.b_z_take .nil pass0 (pa_cons (pv 3) (pa_cons (pe_callB call_len_seq (by rfl) T.m_len (by decide +kernel) (pa_cons (pv 5) pa_nil)) pa_nil))) (fun _ _ => rfl)) (pa_cons (pe_call G_z_expression (hr.mono (by omega)) (by rfl) T.g_z_expression T.F_z_expression.kp T.b_z_expression .nil pass0 (pa_cons (pv 0) (pa_cons (pv 1) (pa_cons (pe_op op_sub (pv 2) pe_int) pa_nil)))) pa_nil))))))
        pss_nil)
      (pss_cons (ps_if (pt_cmpR op_eq (pv 6) pe_int (nomark _))
        (pss_one (ps_ret (pe_tup (pa_cons pe_str (pa_cons (pe_call G_z_expression (hr.mono (by omega)) (by rfl) T.g_z_expression T.F_z_expression.kp T.b_z_expression .nil pass0 (pa_cons (pv 0) (pa_cons (pv 1) (pa_cons (pe_op op_sub (pv 2) pe_int) pa_nil)))) pa_nil)))))
        pss_nil)
      (pss_cons (ps_set (i := 7) sc_z_expression.nd rfl (Or.inl rfl) (pe_lst (pa_cons pe_str (pa_cons pe_str (pa_cons pe_str (pa_cons pe_str (pa_cons pe_str (pa_cons pe_str (pa_cons pe_str (pa_cons pe_str (pa_cons pe_str (pa_cons pe_str pa_nil))))))))))))
      (pss_cons (ps_set (i := 8) sc_z_expression.nd rfl (Or.inl rfl) (pe_ix ix_list (pv 7) (pe_call G_z_take (hr.mono (by omega)) (by rfl) T.g_z_take T.F_z_take.kp T.b_z_take .nil pass0 (pa_cons (pv 3) (pa_cons pe_int pa_nil))) (fun _ _ => rfl)))
      (pss_one (ps_ret (pe_tup (pa_cons (pv 8) (pa_cons (pe_call G_z_expression (hr.mono (by omega)) (by rfl) T.g_z_expression T.F_z_expression.kp T.b_z_expression .nil pass0 (pa_cons (pv 0) (pa_cons (pv 1) (pa_cons (pe_op op_sub (pv 2) pe_int) pa_nil)))) (pa_cons (pe_call G_z_expression (hr.mono (by omega)) (by rfl) T.g_z_expression T.F_z_expression.kp T.b_z_expression .nil pass0 (pa_cons (pv 0) (pa_cons (pv 1) (pa_cons (pe_op op_sub (pv 2) pe_int) pa_nil)))) pa_nil))))))))))))))), ?_⟩
      refine ⟨_, rfl, _, _, rfl, dget_s hpd hdr, ?_⟩
      refine names_comp (fun s => decide (V.int s = V.int 0)) rfl hn.h hn.z rfl (fun od H1 x s hm h1 Q q => ?_) (fun l1 nl1 => ?_)
      · have hv : valV (nmK nm) (.inr x) = some (.int s) := by rw [valV_nm, lookup_mem hn.nd hm]; rfl
        walk_at "go"
      refine names_comp (fun s => decide (0 < s)) rfl (KT.new [] nl1 |>.kp _ _ (by simp) hn.h) hn.z rfl (fun od H1 x s hm h1 Q q => ?_) (fun l2 nl2 => ?_)
      · have hv : valV (nmK nm) (.inr x) = some (.int s) := by rw [valV_nm, lookup_mem hn.nd hm]; rfl
        walk_at "go"
      have g1 := GS.new (o := .lst ((pick (fun s => decide (V.int s = V.int 0)) nm).map V.str)) hp.d nl1
      have g2 := g1.trans (GS.new (o := .lst ((pick (fun s => decide (0 < s)) nm).map V.str)) g1.d nl2)
      have hv1 : (upd (upd H l1 (.lst ((pick (fun s => decide (V.int s = V.int 0)) nm).map V.str))) l2 (.lst ((pick (fun s => decide (0 < s)) nm).map V.str))) l1 = some (.lst ((pick (fun s => decide (V.int s = V.int 0)) nm).map V.str)) := by
        rw [upd_ne (ne_of_none upd_same nl2), upd_same]
      have hv2 : (upd (upd H l1 (.lst ((pick (fun s => decide (V.int s = V.int 0)) nm).map V.str))) l2 (.lst ((pick (fun s => decide (0 < s)) nm).map V.str))) l2 = some (.lst ((pick (fun s => decide (0 < s)) nm).map V.str)) := upd_same
      generalize upd (upd H l1 (.lst ((pick (fun s => decide (V.int s = V.int 0)) nm).map V.str))) l2 (.lst ((pick (fun s => decide (0 < s)) nm).map V.str)) = H2 at g2 hv1 hv2 ⊢
      have hvl := pick_length (fun s => decide (V.int s = V.int 0)) nm
      have hal := pick_length (fun s => decide (0 < s)) nm
      have hpk := fun x (h : x ∈ pick (fun s => decide (V.int s = V.int 0)) nm) => mem_pick h
      have hpk2 := fun x (h : x ∈ pick (fun s => decide (0 < s)) nm) => mem_pick h
      generalize pick (fun s => decide (V.int s = V.int 0)) nm = vars at hv1 hpk hvl ⊢
      generalize pick (fun s => decide (0 < s)) nm = arrs at hv2 hpk2 hal ⊢
      have D2 := g2.d
      have n1 : l1 ∉ [dr] := fun z => by
        obtain ⟨xs, e⟩ := drawAt_isl hp.d
        rw [List.mem_singleton.mp z, e] at nl1
        cases nl1
      have n2 : l2 ∉ [dr] := fun z => by
        obtain ⟨xs, e⟩ := drawAt_isl hp.d
        rw [List.mem_singleton.mp z, upd_ne (ne_of_none e nl1), e] at nl2
        cases nl2
      refine ⟨_, rfl, dr, 9, rfl, D2, by decide, by decide, fun k H3 k0 k1 g3 => ?_⟩
      have gA := g2.trans g3
      have hvA := g3.k.kp _ _ n1 hv1
      have hwA := g3.k.kp _ _ n2 hv2
      have pA := hp.keep gA
      have nA := hn.keep hp.d gA
      have vin : ∀ x ∈ vars, nm.lookup x = some 0 := fun x hx => by
        obtain ⟨s, h1, h2⟩ := hpk x hx
        rw [lookup_mem hn.nd h1, int_eq h2]
      have ain : ∀ x ∈ arrs, ∃ s, nm.lookup x = some s ∧ 0 < s := fun x hx => by
        obtain ⟨s, h1, h2⟩ := hpk2 x hx
        exact ⟨s, lookup_mem hn.nd h1, of_decide_eq_true h2⟩
      have lv : vars.length ≤ 1000 := Nat.le_trans hvl hn.z
      have la : arrs.length ≤ 1000 := Nat.le_trans hal hn.z
      have shv : SeqAt.shaped (.list (vars.map PyData.str)) = true := shaped_strs _ fun x hx => by
        obtain ⟨s, h1, _⟩ := hpk x hx
        exact hn.l _ h1
      have sha : SeqAt.shaped (.list (arrs.map PyData.str)) = true := shaped_strs _ fun x hx => by
        obtain ⟨s, h1, _⟩ := hpk2 x hx
        exact hn.l _ h1
      refine ⟨fun b H' => H3 = H' ∧ (b = false → 0 < d), ?_, ?_⟩
      · refine ⟨_, rfl, rfl, _, rfl, ite2 (fun e => ⟨rfl, fun z => by cases z⟩) (fun e => ?_)⟩
        have hd0 : ¬ (d : Int) = 0 := int_ne e
        refine ⟨_, rfl, _, _, rfl, rfl, _, rfl, rfl, fun _ => by omega⟩
      rintro b H' ⟨rfl, hb⟩
      refine ite2 (fun e => ?_) (fun e => ?_)
      · -- a number or a variable
        refine ⟨fun b H' => GS dr H3 H' ∧ (b = false → vars ≠ []), ?_, ?_⟩
        · refine ⟨_, rfl, by decide, fun l3 nl3 => ⟨_, _, .lst (SqL.of ((KT.new [] nl3).kp _ _ (by simp) hvA)) (dp_strL vars), .lst (SqL.of upd_same) .nil, shv, rfl, _, rfl, ?_⟩⟩
          rw [eqv_nil]
          refine ite2 (fun e => ⟨GS.new gA.d nl3, fun z => by cases z⟩) (fun e => ?_)
          refine ⟨_, rfl, dr, 4, rfl, (GS.new gA.d nl3).d, by decide, by decide, fun r H4 r0 r1 g4 => ⟨rfl, _, rfl, (GS.new gA.d nl3).trans g4, fun _ z => e (by rw [z]; rfl)⟩⟩
        rintro b H4 ⟨g4, hb4⟩
        have gB := gA.trans g4
        have pB := pA.keep g4
        obtain ⟨kvs4, hpd4, hdr4, hwd4⟩ := pB.h
        refine ite2 (fun e => ?_) (fun e => ?_)
        · refine ⟨_, rfl, _, rfl, _, _, rfl, dget_s hpd4 hwd4, dr, wd, rfl, pB.d, hp.w1, hp.w2, fun r H5 r0 r1 g5 => ⟨sz2, fun t nt => ?_⟩⟩
          exact q _ (.int r) _ ((gB.trans g5).trans (.new (gB.trans g5).d nt)) (.made nt (.cons (.str _) (.cons (.int _) .nil))) ⟨r0, r1⟩ (Nat.le_add_left ..)
        · have hne := hb4 (by cases b with | true => exact absurd rfl e | false => rfl)
          have hpos : 0 < vars.length := List.length_pos_iff.mpr hne
          have hvB := g4.k.kp _ _ n1 hvA
          refine ⟨_, rfl, _, rfl, _, rfl, _, _, rfl, .inl (SqL.of hvB), dr, _, rfl, gB.d, (by rw [List.length_map]; omega), (by rw [List.length_map]; exact Int.le_trans (by omega : (vars.length : Int) ≤ 1000) (by decide)), fun r H5 r0 r1 g5 => ?_⟩
          rw [List.length_map] at r1
          obtain ⟨y, hy, hm⟩ := atI_in (xs := vars) r0 r1
          have hvC := g5.k.kp _ _ n1 hvB
          refine ⟨_, _, _, _, rfl, rfl, SqL.of hvC, atI_map hy, sz2, fun t nt => ?_⟩
          exact q _ (.var y) _ ((gB.trans g5).trans (.new (gB.trans g5).d nt)) (.made nt (.cons (.str _) (.cons (.str _) .nil))) (vin y hm) (Nat.le_add_left ..)
      · have d0 := hb (by cases b with | true => exact absurd rfl e | false => rfl)
        have hd1 : ((d : Int) - 1) = ((d - 1 : Nat) : Int) := by omega
        have harg : [V.ref pd, V.ref nd, V.int ((d : Int) - 1)] = [V.ref pd, V.ref nd, V.int ((d - 1 : Nat) : Int)] := by rw [hd1]
        refine ⟨fun b H' => GS dr H3 H' ∧ (b = true → arrs ≠ []), ?_, ?_⟩
        · refine ⟨_, rfl, rfl, _, rfl, ite2 (fun e => ?_) (fun e => ⟨.refl gA.d, fun z => by cases z⟩)⟩
          refine ⟨_, rfl, by decide, fun l3 nl3 => ⟨_, _, .lst (SqL.of ((KT.new [] nl3).kp _ _ (by simp) hwA)) (dp_strL arrs), .lst (SqL.of upd_same) .nil, sha, rfl, _, rfl, GS.new gA.d nl3, fun z => ?_⟩⟩
          rw [eqv_nil] at z
          intro y
          rw [y] at z
          cases z
        rintro b H4 ⟨g4, hb4⟩
        have gB := gA.trans g4
        have pB := pA.keep g4
        have nB := nA.keep gA.d g4
        refine ite2 (fun e => ?_) (fun e => ?_)
        · have hne := hb4 e
          have hpos : 0 < arrs.length := List.length_pos_iff.mpr hne
          have hvB := g4.k.kp _ _ n2 hwA
          refine ⟨_, rfl, _, rfl, _, rfl, _, _, rfl, .inl (SqL.of hvB), dr, _, rfl, gB.d, (by rw [List.length_map]; omega), (by rw [List.length_map]; exact Int.le_trans (by omega : (arrs.length : Int) ≤ 1000) (by decide)), fun r H5 r0 r1 g5 => ?_⟩
          rw [List.length_map] at r1
          obtain ⟨y, hy, hm⟩ := atI_in (xs := arrs) r0 r1
          have hvC := g5.k.kp _ _ n2 hvB
          refine ⟨_, _, _, _, rfl, rfl, SqL.of hvC, atI_map hy, _, rfl, _, rfl, _, rfl, _, _, rfl, rfl, pd, nd, dr, d - 1, wd, nm, harg, by omega, pB.keep g5, nB.keep gB.d g5, fun v e H6 g6 he hk hdp => ⟨sz3, fun t nt => ?_⟩⟩
          have gC := (gB.trans g5).trans g6
          exact q _ (.cell y e) _ (gC.trans (.new gC.d nt)) (.made nt (.cons (.str _) (.cons (.str _) (.cons he .nil)))) ⟨ain y hm, hk⟩ (by show e.dep + 1 ≤ d + 1; omega)
        · refine ⟨_, rfl, rfl, _, rfl, ite2 (fun e => ?_) (fun e => ?_)⟩
          · refine ⟨_, rfl, _, rfl, _, rfl, _, _, rfl, rfl, pd, nd, dr, d - 1, wd, nm, harg, by omega, pB, nB, fun v e H6 g6 he hk hdp => ⟨sz2, fun t nt => ?_⟩⟩
            have gC := gB.trans g6
            exact q _ (.not e) _ (gC.trans (.new gC.d nt)) (.made nt (.cons (.str _) (.cons he .nil))) hk (by show e.dep + 1 ≤ d + 1; omega)
          · refine ⟨by decide, fun l3 nl3 => ⟨_, rfl, _, rfl, dr, 10, rfl, (GS.new gB.d nl3).d, by decide, by decide, fun r H5 r0 r1 g5 => ?_⟩⟩
            have gC0 := GS.new (o := .lst (opl.map V.str)) gB.d nl3
            have gC1 := gC0.trans g5
            have n3 : l3 ∉ [dr] := fun z => by
              obtain ⟨xs, e⟩ := drawAt_isl gB.d
              rw [List.mem_singleton.mp z, e] at nl3
              cases nl3
            obtain ⟨y, hy, hm⟩ := atI_in (xs := opl) r0 r1
            have hvC := g5.k.kp _ _ n3 (upd_same (H := H4) (a := l3) (o := .lst (opl.map V.str)))
            refine ⟨_, _, _, _, rfl, rfl, SqL.of hvC, atI_map hy, ?_⟩
            refine ⟨_, rfl, _, rfl, _, rfl, _, rfl, _, _, rfl, rfl, pd, nd, dr, d - 1, wd, nm, harg, by omega, pB.keep gC1, nB.keep gB.d gC1, fun v e H6 g6 he hk hdp => ?_⟩
            have gC2 := gC1.trans g6
            refine ⟨_, rfl, _, rfl, _, rfl, _, _, rfl, rfl, pd, nd, dr, d - 1, wd, nm, harg, by omega, pB.keep gC2, nB.keep gB.d gC2, fun v2 e2 H7 g7 he2 hk2 hdp2 => ⟨sz3, fun t nt => ?_⟩⟩
            have gC := (gB.trans gC2).trans g7
            exact q _ (.op y e e2) _ (gC.trans (.new gC.d nt)) (.made nt (.cons (.str _) (.cons (he.keep g7.k) (.cons he2 .nil)))) ⟨hm, hk, hk2⟩ (by show max e.dep e2.dep + 1 ≤ d + 1; omega)
end

end My

set_option Elab.async false
set_option linter.all false
set_option maxRecDepth 100000
set_option maxHeartbeats 4000000
namespace My
open PySem PySem.Spec PyProof.Rows L2
section
variable {P : Program} {w : World} {K : PySem.W.Frag} {mg : Str → Option Value} {base : Heap}
theorem flat_strs : ∀ xs : List Str, (xs.map V.str).all flatV = true
  | [] => rfl
  | x :: r => by rw [List.map_cons, List.all_cons, flat_strs r]; rfl
theorem inV_strs (x : Str) : ∀ xs : List Str, inV (V.str x) (xs.map V.str) = decide (x ∈ xs)
  | [] => by simp [inV]
  | y :: r => by
    have ih := inV_strs x r
    have e : inV (V.str x) ((y :: r).map V.str) = (eqV (V.str y) (V.str x) || inV (V.str x) (r.map V.str)) := rfl
    rw [e, ih]
    have : eqV (V.str y) (V.str x) = decide (x = y) := by
      show decide (y = x) = _
      by_cases h : x = y
      · rw [h]
      · rw [decide_eq_false h, decide_eq_false (fun z => h z.symm)]
    rw [this]
    by_cases h : x = y <;> simp [h]
theorem filt_snoc {fs : List Str} {pz : Str → Bool} {i : Nat} {x : Str} (h : fs[i]? = some x) : (fs.take (i + 1)).filter pz = if pz x = true then (fs.take i).filter pz ++ [x] else (fs.take i).filter pz := by
  rw [List.take_succ, h]
  show (fs.take i ++ [x]).filter pz = _
  rw [List.filter_append]
  cases hp : pz x <;> simp [List.filter, hp]
theorem filt_comp {σ : L2.St} {H : Hp} {fl : Addr} {fs : List Str} {a own : Nat} {tt : TT} {Q : VK} (pz : Str → Bool) (ha : σ[a]? = some (some (.ref fl))) (hf : H fl = some (.lst (fs.map V.str))) (hz : fs.length ≤ 1000) (ho : decide (own < σ.length) = true)
    (ht : ∀ H1 x, x ∈ fs → KT [] H H1 → ∀ Q : Bool → Hp → Prop, Q (pz x) H1 → tt ((wipe σ [own]).set own (some (.str x))) H1 Q)
    (hd : ∀ l, H l = none → Q (.ref l) (upd H l (.lst ((fs.filter pz).map V.str)))) : tLc (iList K (tVar a)) (gName own) tt (tVar own) [own] σ H Q := by
  refine ⟨_, ha, fl, rfl, ⟨_, SqL.of hf⟩, fun l hl => ?_⟩
  have ne : fl ≠ l := ne_of_none hf hl
  refine lc_it (walk_list (K := K) (a := fl) (xs := fs.map V.str)) (fun i H1 => H1 = upd H l (.lst (((fs.take i).filter pz).map V.str))) rfl (fun i H1 _ e => ?_) (fun i x H1 H2 hi e y => ?_) (fun H1 e => ?_)
  · rw [e]
    exact SqL.of (by rw [upd_ne ne]; exact hf)
  · obtain ⟨e2, hx⟩ := y
    rw [List.getElem?_map] at hx
    cases hfx : fs[i]? with
    | none => rw [hfx] at hx; cases hx
    | some y =>
      rw [hfx] at hx
      cases hx
      subst e2
      subst e
      have hwl : own < (wipe σ [own]).length := by rw [wipe_length]; exact of_decide_eq_true ho
      refine ⟨by simp [wipe, List.set_set], ?_⟩
      refine ht _ y (List.mem_of_getElem? hfx) (KT.new [] hl) _ ?_
      have fst := filt_snoc (pz := pz) hfx
      refine ite2 (fun hp => ?_) (fun hp => ?_)
      · refine ⟨_, List.getElem?_set_self hwl, _, upd_same, ?_, ?_⟩
        · rw [List.length_map]
          have := List.length_filter_le pz (fs.take i)
          rw [List.length_take] at this
          exact small1000 (by omega)
        · show upd _ l _ = _
          rw [upd_upd, fst, if_pos hp, List.map_append]
          rfl
      · show upd _ l _ = upd _ l _
        rw [fst, if_neg hp]
  · rw [List.length_map, List.take_length] at e
    rw [e]
    exact hd l hl
theorem nodup_without {fs : List Str} {x : Str} (nd : fs.Nodup) (h : x ∈ fs) : (fs.filter fun y => !decide (V.str y = V.str x)).length + 1 = fs.length := by
  induction fs with
  | nil => cases h
  | cons y r ih =>
    rw [List.nodup_cons] at nd
    rcases List.mem_cons.mp h with e | e
    · subst e
      have key : r.filter (fun y => !decide (V.str y = V.str x)) = r := by
        rw [List.filter_eq_self]
        intro z hz
        have : ¬ V.str z = V.str x := fun q => nd.1 (by cases q; exact hz)
        simp [this]
      have e0 : (!decide (V.str x = V.str x)) = false := by simp
      rw [List.filter_cons, e0]
      simp only [Bool.false_eq_true, if_false]
      rw [key]
      rfl
    · have ne : ¬ V.str y = V.str x := fun q => nd.1 (by cases q; exact e)
      rw [List.filter_cons]
      simp only [ne, decide_false, Bool.not_false, if_true, List.length_cons]
      have := ih nd.2 e
      omega
theorem GS.of0 {dr : Addr} {H H' : Hp} (D : DrawAt H dr) (k : KT [] H H') : GS dr H H' := ⟨k.mono (fun _ z => by cases z), by
  obtain ⟨cc, cells, pos, rest, seed, dd⟩ := D
  exact ⟨cc, cells, pos, rest, seed, ⟨k.kp _ _ (by simp) dd.hp, k.kp _ _ (by simp) dd.hc, dd.nn, dd.po, dd.re, dd.s0, dd.s1⟩⟩, fun c t e => ⟨t, k.kp _ _ (by simp) e⟩⟩
theorem atI_0 {α : Type} {v : α} {r : List α} : atI (v :: r) 0 = some v := atI_nat (j := 0) rfl
theorem atI_1 {α : Type} {v u : α} {r : List α} : atI (v :: u :: r) 1 = some u := atI_nat (j := 1) rfl
theorem filt_in {σ : L2.St} {H : Hp} {fl l : Addr} {fs : List Str} {own : Nat} {tt : TT} {Qd : Hp → Prop} (pz : Str → Bool) (hf : H fl = some (.lst (fs.map V.str))) (hz : fs.length ≤ 1001) (ho : decide (own < σ.length) = true) (hl : H l = none)
    (ht : ∀ H1 x, x ∈ fs → KT [] H H1 → ∀ Q : Bool → Hp → Prop, (∀ H2, KT [] H1 H2 → Q (pz x) H2) → tt ((wipe σ [own]).set own (some (.str x))) H1 Q)
    (hd : ∀ H', KT [] H H' → H' l = some (.lst ((fs.filter pz).map V.str)) → Qd H') :
    ∃ W : Nat → Nat → Hp → Prop, (∃ m, W 0 m (upd H l (.lst []))) ∧ ∀ i m H, W i m H →
      ((Itl K fl).stop i H ∧ Qd H) ∨ ((Itl K fl).go i H ∧ ∃ Nx : Hp → Prop, (∀ H', Nx H' → ∃ m', m' < m ∧ W (i + 1) m' H') ∧ ∀ x H', (Itl K fl).yld i H x H' → gName own x (wipe σ [own]) H' fun σ2 H2 => wipe σ2 [own] = wipe σ [own] ∧ tt σ2 H2 fun b H3 =>
        if b = true then tVar own σ2 H3 fun y H4 => ∃ acc, H4 l = some (.lst acc) ∧ acc.length < sizeLine ∧ Nx (upd H4 l (.lst (acc ++ [y]))) else Nx H3) := by
  have ne : fl ≠ l := ne_of_none hf hl
  refine lc_it (walk_list (K := K) (a := fl) (xs := fs.map V.str)) (fun i H1 => KT [] H H1 ∧ H1 l = some (.lst (((fs.take i).filter pz).map V.str))) ⟨KT.late (KT.refl [] H) hl, by simpa using upd_same⟩ (fun i H1 _ e => ?_) (fun i x H1 H2 hi e y => ?_) (fun H1 e => ?_)
  · exact SqL.of (e.1.kp _ _ (by simp) hf)
  · obtain ⟨e2, hx⟩ := y
    rw [List.getElem?_map] at hx
    cases hfx : fs[i]? with
    | none => rw [hfx] at hx; cases hx
    | some y =>
      rw [hfx] at hx
      cases hx
      subst e2
      obtain ⟨k1, hl1⟩ := e
      have hwl : own < (wipe σ [own]).length := by rw [wipe_length]; exact of_decide_eq_true ho
      refine ⟨by simp [wipe, List.set_set], ?_⟩
      refine ht _ y (List.mem_of_getElem? hfx) k1 _ fun H3 k3 => ?_
      have fst := filt_snoc (pz := pz) hfx
      have hl3 := k3.kp _ _ (by simp) hl1
      refine ite2 (fun hp => ?_) (fun hp => ?_)
      · refine ⟨_, List.getElem?_set_self hwl, _, hl3, ?_, ?_⟩
        · rw [List.length_map]
          have := List.length_filter_le pz (fs.take i)
          rw [List.length_take] at this
          exact Nat.lt_of_le_of_lt (by omega : _ ≤ 1001) (by decide)
        · refine ⟨(k1.trans k3).late hl, ?_⟩
          rw [upd_same, fst, if_pos hp, List.map_append]
          rfl
      · refine ⟨k1.trans k3, ?_⟩
        rw [fst, if_neg hp]
        exact hl3
  · rw [List.length_map, List.take_length] at e
    exact hd H1 e.1 e.2
theorem mk_tup {dr p : Addr} {H : Hp} {vs : List V} {ds : List PyData} (D : DrawAt H dr) (n : H p = none) (r : RpA K H vs ds) : GS dr H (upd H p (.tup vs)) ∧ Rp K (upd H p (.tup vs)) (.ref p) (.tuple ds) := ⟨.new D n, .made n r⟩
theorem cat_j {dr : Addr} {H : Hp} {x y : V} {ds es : List PyData} {J : V → Hp → Prop} (D : DrawAt H dr) (ha : Rp K H x (.tuple ds)) (hb : Rp K H y (.tuple es)) (hl : ds.length + es.length ≤ 1000)
    (hJ : ∀ v H', GS dr H H' → Rp K H' v (.tuple (ds ++ es)) → J v H') : rCatA K x y H J := by
  obtain ⟨a, xs, rfl, hs, hx⟩ := ha.inv
  obtain ⟨b, ys, rfl, ht, hy⟩ := hb.inv
  have l1 := hx.length
  have l2 := hy.length
  refine ⟨a, b, xs, ys, rfl, rfl, hs, ht, Nat.le_trans (by omega : _ ≤ 1000) (by decide), fun e => ?_, fun e1 e => ?_, fun e1 e2 p np => ?_⟩
  · subst e
    have : ds = [] := List.eq_nil_of_length_eq_zero l1.symm
    subst this
    exact hJ _ _ (.refl D) hb
  · subst e
    have : es = [] := List.eq_nil_of_length_eq_zero l2.symm
    subst this
    exact hJ _ _ (.refl D) (by rw [List.append_nil]; exact ha)
  · exact hJ _ _ (.new D np) (.made np (hx.app hy))
theorem drawAt_late {S : List Addr} {H H1 : Hp} {dr rl : Addr} {o : HO} (D : DrawAt H dr) (D1 : DrawAt H1 dr) (k : KT S H H1) (n : H rl = none) : DrawAt (upd H1 rl o) dr := by
  obtain ⟨c, cells, pos, rest, seed, d⟩ := D
  obtain ⟨c1, cells1, pos1, rest1, seed1, d1⟩ := D1
  obtain ⟨t', e⟩ := k.hd _ _ _ d.hp
  have ec : c1 = c := by
    rw [d1.hp] at e
    exact V.ref.inj (List.cons.inj (HO.lst.inj (Option.some.inj e))).1
  subst ec
  exact ⟨_, cells1, _, _, _, ⟨by rw [upd_ne (ne_of_none d.hp n)]; exact d1.hp, by rw [upd_ne (ne_of_none d.hc n)]; exact d1.hc, d1.nn, d1.po, d1.re, d1.s0, d1.s1⟩⟩
mutual
theorem rp_ofT {K : PySem.W.Frag} {H H' : Hp} (k : ∀ p xs, SqT K H p xs → SqT K H' p xs) : ∀ {d : PyData} {v : V}, Rp K H v d → Rp K H' v d
  | .none, _, h => by cases h; exact .non
  | .bool b, _, h => by cases h; exact .bl b
  | .int i, _, h => by cases h; exact .int i
  | .str x, _, h => by cases h; exact .str x
  | .list ds, _, h => by cases h
  | .dict ds, _, h => by cases h
  | .tuple ds, _, h => by
    cases h with
    | tup hs ha => exact .tup (k _ _ hs) (rpA_ofT k ha)
theorem rpA_ofT {K : PySem.W.Frag} {H H' : Hp} (k : ∀ p xs, SqT K H p xs → SqT K H' p xs) : ∀ {ds : List PyData} {vs : List V}, RpA K H vs ds → RpA K H' vs ds
  | [], _, h => by cases h; exact .nil
  | d :: ds, _, h => by
    cases h with
    | cons h1 h2 => exact .cons (rp_ofT k h1) (rpA_ofT k h2)
end
theorem sqT_putL {K : PySem.W.Frag} {H : Hp} {rl : Addr} {zs : List V} {o : HO} (e : H rl = some (.lst zs)) (p : Addr) (xs : List V) (h : SqT K H p xs) : SqT K (upd H rl o) p xs := by
  rcases h with (h | ⟨u, h⟩) | h
  · exact .inl (.inl (by rw [upd_ne (fun z => by rw [z, e] at h; cases h)]; exact h))
  · exact .inl (.inr ⟨u, by rw [upd_ne (fun z => by rw [z, e] at h; cases h)]; exact h⟩)
  · exact .inr h

end
theorem GS.kp {dr pd : Addr} {H H' : Hp} (k : GS dr H H') : KT [dr, pd] H H' := k.k.mono fun b hb => by simp at hb; simp [hb]
/-- the dict p -/
def plK (dr : Addr) (wd l : Nat) : List (Key × V) := [(.inr "draw", .ref dr), (.inr "width", .int wd), (.inr "left", .int l)]
theorem pl_left (dr : Addr) (wd l n : Nat) : putK (plK dr wd l) (.inr "left") (.int n) = plK dr wd n := by kernel_rfl
theorem pl_get_draw (dr : Addr) (wd l : Nat) : valV (plK dr wd l) (.inr "draw") = some (.ref dr) := by kernel_rfl
theorem pl_get_width (dr : Addr) (wd l : Nat) : valV (plK dr wd l) (.inr "width") = some (.int wd) := by kernel_rfl
theorem pl_get_left (dr : Addr) (wd l : Nat) : valV (plK dr wd l) (.inr "left") = some (.int l) := by kernel_rfl
structure PlS (H : Hp) (pd dr : Addr) (wd l : Nat) : Prop where
  h : H pd = some (.dK (plK dr wd l))
  d : DrawAt H dr
  w1 : 1 ≤ wd
  w2 : wd ≤ 32
section
variable {H H' : Hp} {pd dr fl : Addr} {wd l l' : Nat} {free : List Str}
theorem PlS.at_ (h : PlS H pd dr wd l) : PdAt H pd dr wd := ⟨⟨_, h.h, pl_get_draw .., pl_get_width ..⟩, h.w1, h.w2, h.d⟩
theorem PlS.keep (h : PlS H pd dr wd l) (k : GS dr H H') : PlS H' pd dr wd l := ⟨k.k.kp _ _ h.at_.ne h.h, k.d, h.w1, h.w2⟩
theorem PlS.put (h : PlS H pd dr wd l) (l' : Nat) : PlS (upd H pd (.dK (plK dr wd l'))) pd dr wd l' ∧ KT [dr, pd] H (upd H pd (.dK (plK dr wd l'))) := by
  have k : KT [dr, pd] H (upd H pd (.dK (plK dr wd l'))) := KT.put (by simp) h.h (fun _ z => by cases z) (fun _ _ z => by cases z) (fun _ z => by cases z)
  have ne : dr ≠ pd := fun z => h.at_.ne (by simp [z])
  refine ⟨⟨upd_same, ?_, h.w1, h.w2⟩, k⟩
  obtain ⟨cc, cells, pos, rest, seed, d⟩ := h.d
  refine ⟨cc, cells, pos, rest, seed, ⟨by rw [upd_ne ne]; exact d.hp, ?_, d.nn, d.po, d.re, d.s0, d.s1⟩⟩
  rw [upd_ne (fun z => by have := d.hc; rw [z, h.h] at this; cases this)]
  exact d.hc
theorem PlS.late {H1 : Hp} {rl : Addr} {l1 : Nat} {o : HO} (st : PlS H pd dr wd l) (s1 : PlS H1 pd dr wd l1) (k : KT [dr, pd] H H1) (n : H rl = none) : PlS (upd H1 rl o) pd dr wd l1 :=
  ⟨by rw [upd_ne (ne_of_none st.h n)]; exact s1.h, drawAt_late st.d s1.d k n, st.w1, st.w2⟩
/-- the names that may be set -/
structure FrP (H : Hp) (fl : Addr) (free : List Str) : Prop where
  h : H fl = some (.lst (free.map V.str))
  nd : free.Nodup
  i : ∀ x ∈ free, x ∈ four4
  z : free.length ≤ 4
theorem FrP.ne (h : FrP H fl free) (p : PlS H pd dr wd l) : fl ∉ [dr, pd] := by
  intro z
  simp only [List.mem_cons, List.not_mem_nil, or_false] at z
  rcases z with z | z
  · obtain ⟨c, cells, pos, rest, seed, d⟩ := p.d
    have e := h.h
    rw [z, d.hp] at e
    have e := HO.lst.inj (Option.some.inj e)
    cases free with
    | nil => cases e
    | cons x r => cases e
  · have e := h.h
    rw [z, p.h] at e
    cases e
theorem FrP.keep (h : FrP H fl free) (p : PlS H pd dr wd l) (k : KT [dr, pd] H H') : FrP H' fl free := ⟨k.kp _ _ (h.ne p) h.h, h.nd, h.i, h.z⟩
end
def Rz : Nat → Nat
  | 0 => 1
  | d + 1 => 6 * Rz d + 1
theorem Rz_pos (d : Nat) : 1 ≤ Rz d := by cases d <;> simp [Rz]
theorem Rz_le {d : Nat} (h : d ≤ 2) : Rz d ≤ 43 := by
  have : d = 0 ∨ d = 1 ∨ d = 2 := by omega
  rcases this with rfl | rfl | rfl <;> decide
def BdP (K : PySem.W.Frag) (Q : VK) (H : Hp) (dr pd : Addr) (wd d : Nat) : Prop :=
  ∀ (v : V) (bs : List PS) (H' : Hp) (l' : Nat), KT [dr, pd] H H' → PlS H' pd dr wd l' → Rp K H' v (.tuple (pbd bs)) → PBk wd bs → pdp bs ≤ d + 2 → psz bs ≤ 3 * Rz d → Q v H'
def spBd (K : PySem.W.Frag) (n : Nat) : Sp := fun vs H Q _ => ∃ (pd fl dr : Addr) (wd l d : Nat) (free : List Str), vs = [.ref pd, .ref fl, .int d] ∧ d < n ∧ d ≤ 2 ∧ PlS H pd dr wd l ∧ FrP H fl free ∧ d + 1 ≤ free.length ∧ BdP K Q H dr pd wd d
def spWh (K : PySem.W.Frag) (n : Nat) : Sp := fun vs H Q _ => ∃ (pd fl dr : Addr) (wd l d : Nat) (free : List Str), vs = [.ref pd, .ref fl, .int (d + 1 : Nat)] ∧ d < n ∧ d ≤ 1 ∧ PlS H pd dr wd l ∧ FrP H fl free ∧ d + 2 ≤ free.length ∧
  ∀ (a : Addr) (vs : List V) (bs : List PS) (H' : Hp) (l' : Nat), H a = none → KT [dr, pd] H H' → H' a = some (.lst vs) → PlS H' pd dr wd l' → RpA K H' vs (pbd bs) → PBk wd bs → pdp bs ≤ d + 3 → psz bs ≤ Rz (d + 1) → bs.length ≤ 3 → Q (.ref a) H'
theorem eo_var {wd : Nat} {x : Str} (h : x ∈ four4) : EO wd nm4 (.var x) := by
  have key : ∀ x ∈ four4, nm4.lookup x = some 0 := by decide +kernel
  exact ⟨key x h, by show 1 ≤ 4; decide⟩
theorem eo_int {wd : Nat} {i : Int} (h : 0 ≤ i) (h2 : i < 2 ^ wd) : EO wd nm4 (.int i) := ⟨⟨h, h2⟩, by show 1 ≤ 4; decide⟩
theorem eo_op {wd : Nat} {o : Str} {a b : Ex} (h : o ∈ opl) (h1 : EO wd nm4 a) (h2 : EO wd nm4 b) (d : max a.dep b.dep ≤ 3) : EO wd nm4 (.op o a b) := ⟨⟨h, h1.1, h2.1⟩, by show max a.dep b.dep + 1 ≤ 4; omega⟩

end My

set_option Elab.async false
set_option linter.all false
set_option maxRecDepth 100000
set_option maxHeartbeats 4000000
namespace My
open PySem PySem.Spec PyProof.Rows L2
local macro_rules | `(tactic| walk_at "asm") => `(tactic| (refine' of_eq_true (eq_true ?_); assumption))
local macro_rules | `(tactic| walk_at "go1") => `(tactic| first
  | (with_reducible rfl) | walk_at "asm" | (apply And.intro) | (apply Exists.intro)
  | (refine' ite_f (by decide +kernel) ?_) | (refine' ite_t (by decide +kernel) ?_) | (refine' ite_f (dstr_ne (by assumption)) ?_) | (refine' ite_t (dstr_eq (by assumption)) ?_)
  | (exact SqT.of upd_same) | (exact SqL.of upd_same) | (exact SqL.of (by assumption)) | (exact SqT.of (by assumption)) | (exact dget_s (by assumption) (by assumption)) | (exact dget_f (by assumption) (by assumption))
  | (exact Or.inl (by assumption)) | (exact Or.inr (by assumption)) | (exact Or.inl (SqL.of (by assumption))) | (exact Or.inr (SqT.of (by assumption))) | rfl)
local macro_rules | `(tactic| walk_at "go") => `(tactic| repeat' walk_at "go1")

section
variable {P : Program} {w : World} {K : PySem.W.Frag} {mg : Str → Option Value} {base : Heap}
theorem ok_z_while (T : Txt K mg) (n : Nat) (G_z_plain_body : FnOk P w K mg base CX0 (3 * n + 10) T.f_z_plain_body T.d_z_plain_body ["p", "names", "depth"] (spBd K n)) : FnOk P w K mg base CX0 (3 * n + 11) T.f_z_while T.d_z_while ["p", "names", "depth"] (spWh K n) := by
  have G_z_take := okG_z_take (P := P) (w := w) (base := base) T
  have G_z_top := ok_z_top (P := P) (w := w) (base := base) T
  refine T.F_z_while.ok sc_z_while (fun vs H Q E h => ?_) (fun cdv A outer s H vs Q E hr h => ?_)
  · obtain ⟨pd, fl, dr, wd, l, d, free, rfl, _⟩ := h
    rfl
  · obtain ⟨pd, fl, dr, wd, l, d, free, rfl, hd, d1, st, fr, hf, q⟩ := h
    have hr : Room (3 * n + 10) _ := hr
    have p2 := pow2_two st.w1
    refine ⟨_, (pss_cons (ps_set (i := 3) sc_z_while.nd rfl (Or.inl rfl) (pe_dget (hu_of hr) (pv 0) pe_str (fun _ _ => rfl)))
      (pss_cons (ps_set (i := 4) sc_z_while.nd rfl (Or.inl rfl) (pe_call G_z_top (hr.mono (by omega)) (by rfl) T.g_z_top T.F_z_top.kp T.b_z_top .nil pass0 (pa_cons (pe_dget (hu_of hr) (pv 0) pe_str (fun _ _ => rfl)) pa_nil)))
      (pss_cons (ps_set (i := 5) sc_z_while.nd rfl (Or.inr rfl) (pe_ix ix_list (pe_lst (pa_cons pe_str (pa_cons pe_str pa_nil))) (pe_call G_z_take (hr.mono (by omega)) (by rfl) T.g_z_take T.F_z_take.kp T.b_z_take .nil pass0 (pa_cons (pv 3) (pa_cons pe_int pa_nil))) (fun _ _ => rfl)))
      (pss_cons (ps_set (i := 6) sc_z_while.nd rfl (Or.inl rfl) (pe_call G_z_take (hr.mono (by omega)) (by rfl) T.g_z_take T.F_z_take.kp T.b_z_take .nil pass0 (pa_cons (pv 3) (pa_cons pe_int pa_nil))))
      (pss_cons (ps_if (pt_cmpR op_notIn_seq (pv 5) (pv 1) (by rfl))
        (pss_one (ps_ret (pe_lst pa_nil)))
        pss_nil)
      (pss_cons (ps_setLc (i := 7) (own := [("name", 15)]) (g := gName 15) rfl sc_z_while.nd rfl rfl (sw_true rfl rfl rfl (by decide +kernel)) (pi_list (pv 1)) (blkOk_by (own := [("name", 15)]) (N := N_z_while) (sc := defScope s_z_while) (by decide +kernel)) (fun _ _ _ _ _ => (pg_name (i := 15) sc_z_while.nd rfl (Or.inl rfl))) (fun _ _ _ _ _ => (pts_one (pt_cmpR op_ne (pv 15) (pv 5) (nomark _)))) (fun _ _ _ _ _ => (pv 15)))
      (pss_cons (ps_set (i := 8) sc_z_while.nd rfl (Or.inl rfl) (pe_tup (pa_cons pe_str (pa_cons (pv 5) (pa_cons (pe_tup (pa_cons pe_str (pa_cons (pe_tup (pa_cons pe_str (pa_cons (pv 5) pa_nil))) (pa_cons (pe_tup (pa_cons pe_str (pa_cons pe_int pa_nil))) pa_nil)))) pa_nil)))))
      (pss_cons (ps_set (i := 9) sc_z_while.nd rfl (Or.inl rfl) (pe_tup (pa_cons pe_str (pa_cons (pv 5) (pa_cons (pe_tup (pa_cons pe_str (pa_cons (pe_callB (call_min2 rfl) (by rfl) T.m_min (by decide +kernel) (pa_cons (pv 4) (pa_cons (pe_call G_z_take (hr.mono (by omega)) (by rfl) T.g_z_take T.F_z_take.kp T.b_z_take .nil pass0 (pa_cons (pv 3) (pa_cons pe_int pa_nil))) pa_nil))) pa_nil))) pa_nil)))))
      (pss_cons (ps_if (pt_cut (PW.pt (pw_and (pt_cmpR op_eq (pv 6) pe_int (nomark _)) (pw_and1 (pt_cmpR op_eq (pe_call G_z_take (hr.mono (by omega)) (by rfl) T.g_z_take T.F_z_take.kp T.b_z_take .nil pass0 (pa_cons (pv 3) (pa_cons pe_int pa_nil))) pe_int (nomark _))))))
        (pss_one (ps_ret (pe_lst (pa_cons (pe_tup (pa_cons pe_str (pa_cons (pe_tup (pa_cons pe_str (pa_cons pe_int pa_nil))) (pa_cons (pe_call G_z_plain_body (hr.mono (by omega)) (by rfl) T.g_z_plain_body T.F_z_plain_body.kp T.b_z_plain_body .nil pass0 (pa_cons (pv 0) (pa_cons (pv 1) (pa_cons pe_int pa_nil)))) pa_nil)))) pa_nil))))
        pss_nil)
      (pss_cons (ps_if (pt_cut (PW.pt (pw_and (pt_cmpR op_lt (pv 6) pe_int (nomark _)) (pw_and1 (pt_cmpR op_in_seq pe_str (pv 7) (by rfl))))))
        (pss_cons (ps_set (i := 10) sc_z_while.nd rfl (Or.inl rfl) (pe_tup (pa_cons pe_str (pa_cons pe_str (pa_cons (pe_tup (pa_cons pe_str (pa_cons (pe_tup (pa_cons pe_str (pa_cons pe_str pa_nil))) (pa_cons (pe_tup (pa_cons pe_str (pa_cons pe_int pa_nil))) pa_nil)))) pa_nil)))))
        (pss_cons (ps_set (i := 11) sc_z_while.nd rfl (Or.inl rfl) (pe_tup (pa_cons (pe_tup (pa_cons pe_str (pa_cons (pv 5) (pa_cons (pe_tup (pa_cons pe_str (pa_cons (pe_callB (call_min2 rfl) (by rfl) T.m_min (by decide +kernel) (pa_cons (pv 4) (pa_cons pe_int pa_nil))) pa_nil))) pa_nil)))) (pa_cons (pv 10) pa_nil))))
        (pss_cons (ps_set (i := 12) sc_z_while.nd rfl (Or.inl rfl) (pe_tup (pa_cons pe_str (pa_cons pe_str (pa_cons (pe_tup (pa_cons pe_str (pa_cons (pe_callB (call_min2 rfl) (by rfl) T.m_min (by decide +kernel) (pa_cons (pv 4) (pa_cons (pe_call G_z_take (hr.mono (by omega)) (by rfl) T.g_z_take T.F_z_take.kp T.b_z_take .nil pass0 (pa_cons (pv 3) (pa_cons pe_int pa_nil))) pa_nil))) pa_nil))) pa_nil)))))
        (pss_cons (ps_set (i := 13) sc_z_while.nd rfl (Or.inl rfl) (pe_tup (pa_cons (pe_tup (pa_cons pe_str (pa_cons (pe_tup (pa_cons pe_str (pa_cons (pv 5) pa_nil))) (pa_cons (pe_tup (pa_cons (pv 8) pa_nil)) (pa_cons (pv 11) pa_nil))))) pa_nil)))
        (pss_one (ps_ret (pe_lst (pa_cons (pv 9) (pa_cons (pv 12) (pa_cons (pe_tup (pa_cons pe_str (pa_cons (pe_tup (pa_cons pe_str (pa_cons (pe_tup (pa_cons pe_str (pa_cons (pv 5) pa_nil))) (pa_cons (pe_tup (pa_cons pe_str (pa_cons pe_str pa_nil))) pa_nil)))) (pa_cons (pv 13) pa_nil)))) pa_nil))))))))))
        pss_nil)
      (pss_cons (ps_set (i := 14) sc_z_while.nd rfl (Or.inl rfl) (pe_ix ix_list (pe_lst (pa_cons (pe_tup (pa_cons pe_str (pa_cons (pv 5) pa_nil))) (pa_cons (pe_tup (pa_cons pe_str (pa_cons (pe_tup (pa_cons pe_str (pa_cons pe_int pa_nil))) (pa_cons (pe_tup (pa_cons pe_str (pa_cons (pv 5) pa_nil))) pa_nil)))) (pa_cons (pe_tup (pa_cons pe_str (pa_cons (pe_tup (pa_cons pe_str (pa_cons (pe_tup (pa_cons pe_str (pa_cons (pv 5) pa_nil))) pa_nil))) pa_nil))) pa_nil)))) (pe_call G_z_take (hr.mono (by omega)) (by rfl) T.g_z_take T.F_z_take.kp T.b_z_take .nil pass0 (pa_cons (pv 3) (pa_cons pe_int pa_nil))) (fun _ _ => rfl)))
      (pss_one (ps_ret (pe_lst (pa_cons (pv 9) (pa_cons (pe_tup (pa_cons pe_str (pa_cons (pv 14) (pa_cons (pe_cut (pe_op op_catA (pe_call G_z_plain_body (hr.mono (by omega)) (by rfl) T.g_z_plain_body T.F_z_plain_body.kp T.b_z_plain_body .nil pass0 (pa_cons (pv 0) (pa_cons (pv 7) (pa_cons (pe_op op_sub (pv 2) pe_int) pa_nil)))) (pe_tup (pa_cons (pv 8) pa_nil)))) pa_nil)))) pa_nil)))))))))))))))), ?_⟩
    refine ⟨_, rfl, _, _, rfl, dget_s st.h (pl_get_draw ..), ?_⟩
    refine ⟨_, rfl, _, _, rfl, dget_s st.h (pl_get_width ..), wd, rfl, st.w2, ?_⟩
    -- the counter
    refine ⟨sz2, fun l1 nl1 => ?_⟩
    have g1 : GS dr H (upd H l1 (.lst [.str "n", .str "k"])) := .new st.d nl1
    have n1 : l1 ∉ [dr] := fun z => by
      obtain ⟨xs, e⟩ := drawAt_isl st.d
      rw [List.mem_singleton.mp z, e] at nl1
      cases nl1
    refine ⟨_, rfl, dr, 2, rfl, g1.d, by decide, by decide, fun r H2 r0 r1 g2 => ?_⟩
    obtain ⟨cv, hc1, hc2⟩ := atI_in (xs := [V.str "n", .str "k"]) r0 r1
    refine ⟨l1, _, r, _, rfl, rfl, SqL.of (g2.k.kp _ _ n1 upd_same), hc1, ?_⟩
    obtain ⟨c, rfl, c4⟩ : ∃ c : Str, cv = .str c ∧ c ∈ four4 := by
      simp only [List.mem_cons, List.not_mem_nil, or_false] at hc2
      rcases hc2 with rfl | rfl
      · exact ⟨_, rfl, by decide +kernel⟩
      · exact ⟨_, rfl, by decide +kernel⟩
    have g12 := g1.trans g2
    clear hc1 hc2
    have s2 := st.keep g12
    -- kind
    refine ⟨_, rfl, dr, 8, rfl, s2.d, by decide, by decide, fun kd H3 k0 k1 g3 => ?_⟩
    have g13 := g12.trans g3
    have s3 := s2.keep g3
    have f3 := fr.keep st g13.kp
    -- not among the names
    refine ⟨_, rfl, _, rfl, fl, _, rfl, .inl (SqL.of f3.h), rfl, flat_strs _, _, rfl, ?_⟩
    rw [if_pos rfl, inV_strs]
    refine ite2 (fun e => ?_) (fun e => ?_)
    · refine ⟨Nat.zero_le _, fun rl nrl => ?_⟩
      have g4 : GS dr H3 (upd H3 rl (.lst [])) := .new s3.d nrl
      exact q rl [] [] _ l (g13.k.free nrl) (GS.kp (g13.trans g4)) upd_same (s3.keep g4) .nil trivial (Nat.zero_le _) (Nat.zero_le _) (Nat.zero_le _)
    have cf : c ∈ free := by
      cases z : decide (c ∈ free) with
      | true => exact of_decide_eq_true z
      | false => rw [z] at e; exact absurd rfl e
    -- the others
    refine ⟨_, rfl, fl, rfl, ⟨_, SqL.of f3.h⟩, fun kl nk => ?_⟩
    refine filt_in (fun y => !decide (V.str y = V.str c)) f3.h (by have := fr.z; omega) (by rfl) nk (fun Hx y hy kx Q qx => ?_) (fun H4 k4 hk4 => ?_)
    · refine ⟨_, rfl, _, rfl, rfl, _, rfl, qx _ (.refl _ _)⟩
    have cnt := nodup_without fr.nd cf
    have g4 : GS dr H3 H4 := .of0 s3.d k4
    have s4 := s3.keep g4
    have f4 : FrP H4 fl free := f3.keep s3 g4.kp
    have fk : FrP H4 kl (free.filter fun y => !decide (V.str y = V.str c)) := ⟨hk4, fr.nd.sublist List.filter_sublist, fun x hx => fr.i x (List.mem_filter.mp hx).1, Nat.le_trans (List.length_filter_le ..) fr.z⟩
    generalize free.filter (fun y => !decide (V.str y = V.str c)) = kept at fk hk4 cnt
    have g14 := g13.trans g4
    -- one
    refine ⟨_, rfl, ?_⟩
    refine ⟨_, rfl, sz2, fun t1 n1 => ?_⟩
    obtain ⟨g5, r5⟩ := mk_tup (K := K) s4.d n1 (.cons (.str "var") (.cons (.str c) .nil))
    generalize upd _ t1 _ = H5 at g5 r5 ⊢
    refine ⟨sz2, fun t2 n2 => ?_⟩
    obtain ⟨g6, r6⟩ := mk_tup (K := K) g5.d n2 (.cons (.str "int") (.cons (.int 1) .nil))
    generalize upd _ t2 _ = H6 at g6 r6 ⊢
    refine ⟨sz3, fun t3 n3 => ?_⟩
    obtain ⟨g7, r7⟩ := mk_tup (K := K) g6.d n3 (.cons (.str "sub") (.cons (r5.keep g6.k) (.cons r6 .nil)))
    generalize upd _ t3 _ = H7 at g7 r7 ⊢
    refine ⟨sz3, fun one n4 => ?_⟩
    obtain ⟨g8, r8⟩ := mk_tup (K := K) g7.d n4 (.cons (.str "set") (.cons (.str c) (.cons r7 .nil)))
    generalize upd _ one _ = H8 at g8 r8 ⊢
    have r8 : Rp K H8 (.ref one) (PS.set c (.op "sub" (.var c) (.int 1))).d := r8
    have o8 : ∀ x, x ∈ four4 → POk wd (PS.set x (.op "sub" (.var x) (.int 1))) := fun x hx => ⟨hx, eo_op (by decide +kernel) (eo_var hx) (eo_int (by decide) p2) (by show max 1 1 ≤ 3; decide)⟩
    have g48 := ((g5.trans g6).trans g7).trans g8
    have g18 := g14.trans g48
    have s8 := s4.keep g48
    -- begin
    refine ⟨_, rfl, ?_⟩
    refine ⟨_, rfl, _, rfl, dr, 6, rfl, s8.d, by decide, by decide, fun r9 H9 r90 r91 g9 => ?_⟩
    refine ⟨_, _, rfl, ?_⟩
    have hm : ∃ m : Int, (if r9 < (2 : Int) ^ wd - 1 then r9 else (2 : Int) ^ wd - 1) = m ∧ 0 ≤ m ∧ m < 2 ^ wd := ⟨_, rfl, by split <;> omega, by split <;> omega⟩
    obtain ⟨m, em, m0, m1⟩ := hm
    rw [em]
    have s9 := s8.keep g9
    refine ⟨sz2, fun t1 n1 => ?_⟩
    obtain ⟨g10, r10⟩ := mk_tup (K := K) s9.d n1 (.cons (.str "int") (.cons (.int m) .nil))
    generalize upd _ t1 _ = H10 at g10 r10 ⊢
    refine ⟨sz3, fun bg n2 => ?_⟩
    obtain ⟨g11, r11⟩ := mk_tup (K := K) g10.d n2 (.cons (.str "set") (.cons (.str c) (.cons r10 .nil)))
    generalize upd _ bg _ = H11 at g11 r11 ⊢
    have r11 : Rp K H11 (.ref bg) (PS.set c (.int m)).d := r11
    have o11 : POk wd (PS.set c (.int m)) := ⟨c4, eo_int m0 m1⟩
    have g811 := (g9.trans g10).trans g11
    have gA := g18.trans g811
    have sA := s8.keep g811
    have fA : FrP H11 fl free := fr.keep st gA.kp
    have kA : FrP H11 kl kept := fk.keep s4 (g48.trans g811).kp
    have rOne := r8.keep g811.k
    -- a while without end
    refine ⟨fun b H' => GS dr H11 H', ?_, ?_⟩
    · refine ⟨_, rfl, rfl, _, rfl, ite2 (fun e => ?_) (fun e => .refl gA.d)⟩
      exact ⟨_, rfl, dr, 3, rfl, gA.d, by decide, by decide, fun r H4 r0 r1 g4 => ⟨rfl, _, rfl, g4⟩⟩
    rintro b H12 g12'
    have sB := sA.keep g12'
    have gB := gA.trans g12'
    have fB : FrP H12 fl free := fA.keep sA g12'.kp
    have kB : FrP H12 kl kept := kA.keep sA g12'.kp
    refine ite2 (fun e => ?_) (fun e => ?_)
    · refine ⟨sz2, fun t1 n1 => ?_⟩
      obtain ⟨h1, q1⟩ := mk_tup (K := K) sB.d n1 (.cons (.str "int") (.cons (.int 1) .nil))
      generalize upd _ t1 _ = H13 at h1 q1 ⊢
      refine ⟨_, rfl, _, rfl, pd, fl, dr, wd, l, 0, free, rfl, by omega, by omega, sB.keep h1, fB.keep sB h1.kp, by omega, fun v bs H14 l' k2 p2' r2 o2 m2 z2 => ?_⟩
      refine ⟨sz3, fun t2 n2 => ?_⟩
      obtain ⟨h3, q3⟩ := mk_tup (K := K) p2'.d n2 (.cons (.str "while") (.cons (q1.keep k2) (.cons r2 .nil)))
      generalize upd _ t2 _ = H15 at h3 q3 ⊢
      refine ⟨sz1, fun rl nrl => ?_⟩
      have h4 : GS dr H15 (upd H15 rl (.lst [.ref t2])) := .new h3.d nrl
      have kk : KT [dr, pd] H (upd H15 rl (.lst [.ref t2])) := (((gB.trans h1).kp).trans k2).trans ((h3.trans h4).kp)
      have q3 : Rp K H15 (.ref t2) (PS.whl (.int 1) bs).d := q3
      refine q rl [.ref t2] [PS.whl (.int 1) bs] _ l' (((gB.trans h1).kp (pd := pd) |>.trans k2 |>.trans h3.kp).free nrl) kk upd_same (p2'.keep (h3.trans h4)) (.cons (q3.keep h4.k) .nil) ?_ ?_ ?_ (by show 1 ≤ 3; decide)
      · exact ⟨⟨eo_int (by decide) p2, o2⟩, trivial⟩
      · show max (pdp bs + 1) 0 ≤ d + 3
        omega
      · show psz bs + 1 + 0 ≤ Rz (d + 1)
        have z2 : psz bs ≤ 3 := z2
        have := Rz_pos d
        show _ ≤ 6 * Rz d + 1
        omega
    -- two counts
    refine ⟨fun b H' => H' = H12 ∧ (b = true → ("y" : Str) ∈ kept), ?_, ?_⟩
    · refine ⟨_, rfl, _, _, rfl, rfl, _, rfl, ite2 (fun e => ?_) (fun e => ⟨rfl, fun z => by cases z⟩)⟩
      refine ⟨_, rfl, kl, _, rfl, .inl (SqL.of kB.h), rfl, flat_strs _, _, rfl, rfl, fun z => ?_⟩
      rw [if_neg Bool.false_ne_true, inV_strs] at z
      exact of_decide_eq_true z
    rintro b H12' ⟨rfl, hb⟩
    refine ite2 (fun e => ?_) (fun e => ?_)
    · have y4 : ("y" : Str) ∈ four4 := by decide +kernel
      refine ⟨sz2, fun t1 n1 => ?_⟩
      obtain ⟨h1, q1⟩ := mk_tup (K := K) sB.d n1 (.cons (.str "var") (.cons (.str "y") .nil))
      generalize upd _ t1 _ = J1 at h1 q1 ⊢
      refine ⟨sz2, fun t2 n2 => ?_⟩
      obtain ⟨h2, q2⟩ := mk_tup (K := K) h1.d n2 (.cons (.str "int") (.cons (.int 1) .nil))
      generalize upd _ t2 _ = J2 at h2 q2 ⊢
      refine ⟨sz3, fun t3 n3 => ?_⟩
      obtain ⟨h3, q3⟩ := mk_tup (K := K) h2.d n3 (.cons (.str "sub") (.cons (q1.keep h2.k) (.cons q2 .nil)))
      generalize upd _ t3 _ = J3 at h3 q3 ⊢
      refine ⟨sz3, fun ls n4 => ?_⟩
      obtain ⟨h4, q4⟩ := mk_tup (K := K) h3.d n4 (.cons (.str "set") (.cons (.str "y") (.cons q3 .nil)))
      generalize upd _ ls _ = J4 at h4 q4 ⊢
      have hh4 := ((h1.trans h2).trans h3).trans h4
      clear h1 h2 h3 q1 q2 q3
      -- again
      refine ⟨_, rfl, _, rfl, _, _, rfl, ?_⟩
      have hm3 : ∃ m : Int, (if (3 : Int) < (2 : Int) ^ wd - 1 then (3 : Int) else (2 : Int) ^ wd - 1) = m ∧ 0 ≤ m ∧ m < 2 ^ wd := ⟨_, rfl, by split <;> omega, by split <;> omega⟩
      obtain ⟨m3, em3, m30, m31⟩ := hm3
      rw [em3]
      refine ⟨sz2, fun t1 n1 => ?_⟩
      obtain ⟨h5, q5⟩ := mk_tup (K := K) hh4.d n1 (.cons (.str "int") (.cons (.int m3) .nil))
      generalize upd _ t1 _ = J5 at h5 q5 ⊢
      refine ⟨sz3, fun t2 n2 => ?_⟩
      obtain ⟨h6, q6⟩ := mk_tup (K := K) h5.d n2 (.cons (.str "set") (.cons (.str c) (.cons q5 .nil)))
      generalize upd _ t2 _ = J6 at h6 q6 ⊢
      refine ⟨_, rfl, sz2, fun ag n3 => ?_⟩
      obtain ⟨h7, q7⟩ := mk_tup (K := K) h6.d n3 (.cons q6 (.cons (q4.keep (h5.trans h6).k) .nil))
      generalize upd _ ag _ = J7 at h7 q7 ⊢
      have hh7 := ((hh4.trans h5).trans h6).trans h7
      clear h5 h6 q5 q6 q4
      -- second
      have sJ := sB.keep hh7
      refine ⟨_, rfl, _, rfl, dr, 4, rfl, sJ.d, by decide, by decide, fun r J8 r0 r1 h8 => ?_⟩
      refine ⟨_, _, rfl, ?_⟩
      have hm4 : ∃ m : Int, (if r < (2 : Int) ^ wd - 1 then r else (2 : Int) ^ wd - 1) = m ∧ 0 ≤ m ∧ m < 2 ^ wd := ⟨_, rfl, by split <;> omega, by split <;> omega⟩
      obtain ⟨m4, em4, m40, m41⟩ := hm4
      rw [em4]
      refine ⟨sz2, fun t1 n1 => ?_⟩
      obtain ⟨h9, q9⟩ := mk_tup (K := K) h8.d n1 (.cons (.str "int") (.cons (.int m4) .nil))
      generalize upd _ t1 _ = J9 at h9 q9 ⊢
      refine ⟨sz3, fun sc n2 => ?_⟩
      obtain ⟨h10, q10⟩ := mk_tup (K := K) h9.d n2 (.cons (.str "set") (.cons (.str "y") (.cons q9 .nil)))
      generalize upd _ sc _ = J10 at h10 q10 ⊢
      have hh10 := ((hh7.trans h8).trans h9).trans h10
      have k7 := (h8.trans h9).trans h10
      clear h9 q9
      -- the body
      refine ⟨_, rfl, sz2, fun t1 n1 => ?_⟩
      obtain ⟨h11, q11⟩ := mk_tup (K := K) h10.d n1 (.cons (.str "var") (.cons (.str c) .nil))
      generalize upd _ t1 _ = J11 at h11 q11 ⊢
      refine ⟨_, rfl, sz1, fun t2 n2 => ?_⟩
      obtain ⟨h12, q12⟩ := mk_tup (K := K) h11.d n2 (.cons (rOne.keep ((g12'.trans hh10).trans h11).k) .nil)
      generalize upd _ t2 _ = J12 at h12 q12 ⊢
      refine ⟨_, rfl, sz4, fun t3 n3 => ?_⟩
      obtain ⟨h13, q13⟩ := mk_tup (K := K) h12.d n3 (.cons (.str "if") (.cons (q11.keep h12.k) (.cons q12 (.cons (q7.keep ((k7.trans h11).trans h12).k) .nil))))
      generalize upd _ t3 _ = J13 at h13 q13 ⊢
      refine ⟨sz1, fun bd0 n4 => ?_⟩
      obtain ⟨h14, q14⟩ := mk_tup (K := K) h13.d n4 (.cons q13 .nil)
      generalize upd _ bd0 _ = J14 at h14 q14 ⊢
      have h1114 := ((h11.trans h12).trans h13).trans h14
      clear h11 h12 h13 q11 q12 q13
      -- the rows
      refine ⟨_, rfl, _, rfl, _, rfl, sz2, fun t1 n1 => ?_⟩
      obtain ⟨h15, q15⟩ := mk_tup (K := K) h14.d n1 (.cons (.str "var") (.cons (.str c) .nil))
      generalize upd _ t1 _ = J15 at h15 q15 ⊢
      refine ⟨sz2, fun t2 n2 => ?_⟩
      obtain ⟨h16, q16⟩ := mk_tup (K := K) h15.d n2 (.cons (.str "var") (.cons (.str "y") .nil))
      generalize upd _ t2 _ = J16 at h16 q16 ⊢
      refine ⟨sz3, fun t3 n3 => ?_⟩
      obtain ⟨h17, q17⟩ := mk_tup (K := K) h16.d n3 (.cons (.str "or") (.cons (q15.keep h16.k) (.cons q16 .nil)))
      generalize upd _ t3 _ = J17 at h17 q17 ⊢
      have h1517 := (h15.trans h16).trans h17
      refine ⟨_, rfl, sz3, fun t4 n4 => ?_⟩
      obtain ⟨h18, q18⟩ := mk_tup (K := K) h17.d n4 (.cons (.str "while") (.cons q17 (.cons (q14.keep h1517.k) .nil)))
      generalize upd _ t4 _ = J18 at h18 q18 ⊢
      have q18 : Rp K J18 (.ref t4) (PS.whl (.op "or" (.var c) (.var "y")) [.ite (.var c) [.set c (.op "sub" (.var c) (.int 1))] [.set c (.int m3), .set "y" (.op "sub" (.var "y") (.int 1))]]).d := q18
      have q10 : Rp K J10 (.ref sc) (PS.set "y" (.int m4)).d := q10
      refine ⟨sz3, fun rl nrl => ?_⟩
      have gL : GS dr J18 (upd J18 rl (.lst [.ref bg, .ref sc, .ref t4])) := .new h18.d nrl
      have gM := ((h1114.trans h1517).trans h18)
      have gT := (gB.trans hh10).trans gM
      refine q rl [.ref bg, .ref sc, .ref t4] [.set c (.int m), .set "y" (.int m4), .whl (.op "or" (.var c) (.var "y")) [.ite (.var c) [.set c (.op "sub" (.var c) (.int 1))] [.set c (.int m3), .set "y" (.op "sub" (.var "y") (.int 1))]]] _ l (gT.k.free nrl) ((gT.trans gL).kp) upd_same ((st.keep gT).keep gL) (.cons (r11.keep (((g12'.trans hh10).trans gM).trans gL).k) (.cons (q10.keep (gM.trans gL).k) (.cons (q18.keep gL.k) .nil))) ?_ ?_ ?_ (by show 3 ≤ 3; decide)
      · exact ⟨o11, ⟨y4, eo_int m40 m41⟩, ⟨eo_op (by decide +kernel) (eo_var c4) (eo_var y4) (by show max 1 1 ≤ 3; decide), ⟨eo_var c4, ⟨o8 c c4, trivial⟩, ⟨c4, eo_int m30 m31⟩, o8 "y" y4, trivial⟩, trivial⟩, trivial⟩
      · show 3 ≤ d + 3
        omega
      · have := Rz_pos d
        show 7 ≤ 6 * Rz d + 1
        omega
    -- by a count
    refine ⟨_, rfl, sz2, fun t1 n1 => ?_⟩
    obtain ⟨h1, q1⟩ := mk_tup (K := K) sB.d n1 (.cons (.str "var") (.cons (.str c) .nil))
    generalize upd _ t1 _ = J1 at h1 q1 ⊢
    refine ⟨sz2, fun t2 n2 => ?_⟩
    obtain ⟨h2, q2⟩ := mk_tup (K := K) h1.d n2 (.cons (.str "int") (.cons (.int 0) .nil))
    generalize upd _ t2 _ = J2 at h2 q2 ⊢
    refine ⟨_, rfl, sz2, fun t3 n3 => ?_⟩
    obtain ⟨h3, q3⟩ := mk_tup (K := K) h2.d n3 (.cons (.str "var") (.cons (.str c) .nil))
    generalize upd _ t3 _ = J3 at h3 q3 ⊢
    refine ⟨sz3, fun t4 n4 => ?_⟩
    obtain ⟨h4, q4⟩ := mk_tup (K := K) h3.d n4 (.cons (.str "less") (.cons (q2.keep h3.k) (.cons q3 .nil)))
    generalize upd _ t4 _ = J4 at h4 q4 ⊢
    refine ⟨_, rfl, sz2, fun t5 n5 => ?_⟩
    obtain ⟨h5, q5⟩ := mk_tup (K := K) h4.d n5 (.cons (.str "var") (.cons (.str c) .nil))
    generalize upd _ t5 _ = J5 at h5 q5 ⊢
    refine ⟨sz2, fun t6 n6 => ?_⟩
    obtain ⟨h6, q6⟩ := mk_tup (K := K) h5.d n6 (.cons (.str "not") (.cons q5 .nil))
    generalize upd _ t6 _ = J6 at h6 q6 ⊢
    refine ⟨sz2, fun t7 n7 => ?_⟩
    obtain ⟨h7, q7⟩ := mk_tup (K := K) h6.d n7 (.cons (.str "not") (.cons q6 .nil))
    generalize upd _ t7 _ = J7 at h7 q7 ⊢
    refine ⟨sz3, fun tl ntl => ?_⟩
    have h8 : GS dr J7 (upd J7 tl (.lst [.ref t1, .ref t4, .ref t7])) := .new h7.d ntl
    have h57 := ((h5.trans h6).trans h7).trans h8
    have h27 := ((h2.trans h3).trans h4).trans h57
    have e1 : Rp K (upd J7 tl (.lst [.ref t1, .ref t4, .ref t7])) (.ref t1) (Ex.var c).d := q1.keep h27.k
    have e2 : Rp K (upd J7 tl (.lst [.ref t1, .ref t4, .ref t7])) (.ref t4) (Ex.op "less" (.int 0) (.var c)).d := q4.keep h57.k
    have e3 : Rp K (upd J7 tl (.lst [.ref t1, .ref t4, .ref t7])) (.ref t7) (Ex.not (.not (.var c))).d := q7.keep h8.k
    have htl : (upd J7 tl (.lst [.ref t1, .ref t4, .ref t7])) tl = some (.lst [.ref t1, .ref t4, .ref t7]) := upd_same
    have gC := gB.trans (h1.trans h27)
    have g1C := h1.trans h27
    have ntd : tl ∉ [dr] := fun z => by
      obtain ⟨o, e⟩ := h7.d.some
      rw [List.mem_singleton.mp z, e] at ntl
      cases ntl
    generalize upd J7 tl (.lst [.ref t1, .ref t4, .ref t7]) = J8 at e1 e2 e3 htl gC g1C ⊢
    clear h8 h57 h27 h2 h3 h4 h5 h6 h7 h1
    refine ⟨_, rfl, dr, 3, rfl, gC.d, by decide, by decide, fun r J9 r0 r1 g9' => ?_⟩
    obtain ⟨tv, ht1, ht2⟩ := atI_in (xs := [V.ref t1, .ref t4, .ref t7]) r0 r1
    refine ⟨tl, _, r, _, rfl, rfl, SqL.of (g9'.k.kp _ _ ntd htl), ht1, ?_⟩
    obtain ⟨te, ht3, ht4⟩ : ∃ e : Ex, Rp K J8 tv e.d ∧ EO wd nm4 e := by
      have lo : ("less" : Str) ∈ opl := by decide +kernel
      simp only [List.mem_cons, List.not_mem_nil, or_false] at ht2
      rcases ht2 with rfl | rfl | rfl
      · exact ⟨_, e1, eo_var c4⟩
      · exact ⟨_, e2, eo_op lo (eo_int (by decide) (pow2_pos _)) (eo_var c4) (by show max 1 1 ≤ 3; decide)⟩
      · exact ⟨_, e3, ⟨(eo_var (wd := wd) c4).1, by show 3 ≤ 4; decide⟩⟩
    clear ht1 ht2 e1 e2 e3
    have gD := g1C.trans g9'
    have sD := sB.keep gD
    have harg : [V.ref pd, V.ref kl, V.int (((d + 1 : Nat) : Int) - 1)] = [V.ref pd, V.ref kl, V.int (d : Nat)] := by
      rw [show (((d + 1 : Nat) : Int) - 1) = (d : Nat) by omega]
    refine ⟨_, rfl, _, rfl, ?_⟩
    refine ⟨fun v H' => ∃ (bs : List PS) (l' : Nat), KT [dr, pd] J9 H' ∧ PlS H' pd dr wd l' ∧ Rp K H' v (.tuple (pbd (bs ++ [PS.set c (.op "sub" (.var c) (.int 1))]))) ∧ PBk wd bs ∧ pdp bs ≤ d + 2 ∧ psz bs ≤ 3 * Rz d, ?_, ?_⟩
    · refine ⟨_, rfl, _, rfl, _, rfl, _, _, rfl, rfl, pd, kl, dr, wd, l, d, kept, harg, by omega, by omega, sD, kB.keep sB gD.kp, by omega, fun v bs H' l' k' s' r' o' m' z' => ?_⟩
      have zl := psz_len bs
      have zr := Rz_le (d := d) (by omega)
      refine ⟨_, rfl, sz1, fun t1 n1 => ?_⟩
      obtain ⟨h1, q1⟩ := mk_tup (K := K) s'.d n1 (.cons (rOne.keep ((((g12'.trans gD).kp).trans k'))) .nil)
      generalize upd _ t1 _ = H'' at h1 q1 ⊢
      refine cat_j h1.d (r'.keep h1.k) q1 (by rw [pbd_map, List.length_map]; show bs.length + 1 ≤ 1000; omega) (fun v2 H3 h3 q3 => ⟨bs, l', k'.trans ((h1.trans h3).kp), s'.keep (h1.trans h3), ?_, o', m', z'⟩)
      rw [pbd_map, List.map_append, ← pbd_map]
      exact q3
    rintro v H' ⟨bs, l', k', s', r', o', m', z'⟩
    refine ⟨sz3, fun t1 n1 => ?_⟩
    obtain ⟨h1, q1⟩ := mk_tup (K := K) s'.d n1 (.cons (.str "while") (.cons ((ht3.keep g9'.k).keep k') (.cons r' .nil)))
    generalize upd _ t1 _ = J2 at h1 q1 ⊢
    have q1 : Rp K J2 (.ref t1) (PS.whl te (bs ++ [PS.set c (.op "sub" (.var c) (.int 1))])).d := q1
    refine ⟨sz2, fun rl nrl => ?_⟩
    have h2 : GS dr J2 (upd J2 rl (.lst [.ref bg, .ref t1])) := .new h1.d nrl
    have kT : KT [dr, pd] H J2 := (((gB.trans gD).kp).trans k').trans h1.kp
    refine q rl [.ref bg, .ref t1] [.set c (.int m), .whl te (bs ++ [PS.set c (.op "sub" (.var c) (.int 1))])] _ l' (kT.free nrl) (kT.trans h2.kp) upd_same (s'.keep (h1.trans h2)) (.cons (r11.keep ((((g12'.trans gD).kp).trans k').trans (h1.trans h2).kp)) (.cons (q1.keep h2.k) .nil)) ?_ ?_ ?_ (by show 2 ≤ 3; decide)
    · exact ⟨o11, ⟨ht4, pbk_app o' ⟨o8 c c4, trivial⟩⟩, trivial⟩
    · show max 1 (max (pdp (bs ++ _) + 1) 0) ≤ d + 3
      rw [pdp_app]
      show max 1 (max (max (pdp bs) (max 1 0) + 1) 0) ≤ d + 3
      omega
    · have := Rz_pos d
      show 1 + (psz (bs ++ _) + 1 + 0) ≤ 6 * Rz d + 1
      rw [psz_app]
      show 1 + (psz bs + (1 + 0) + 1 + 0) ≤ 6 * Rz d + 1
      omega
end

end My

set_option Elab.async false
set_option linter.all false
set_option maxRecDepth 100000
set_option maxHeartbeats 4000000
namespace My
open PySem PySem.Spec PyProof.Rows L2
local macro_rules | `(tactic| walk_at "asm") => `(tactic| (refine' of_eq_true (eq_true ?_); assumption))
local macro_rules | `(tactic| walk_at "go1") => `(tactic| first
  | (with_reducible rfl) | walk_at "asm" | (apply And.intro) | (apply Exists.intro)
  | (refine' ite_f (by decide +kernel) ?_) | (refine' ite_t (by decide +kernel) ?_) | (refine' ite_f (dstr_ne (by assumption)) ?_) | (refine' ite_t (dstr_eq (by assumption)) ?_)
  | (exact SqT.of upd_same) | (exact SqL.of upd_same) | (exact SqL.of (by assumption)) | (exact SqT.of (by assumption)) | (exact dget_s (by assumption) (by assumption)) | (exact dget_f (by assumption) (by assumption))
  | (exact Or.inl (by assumption)) | (exact Or.inr (by assumption)) | (exact Or.inl (SqL.of (by assumption))) | (exact Or.inr (SqT.of (by assumption))) | rfl)
local macro_rules | `(tactic| walk_at "go") => `(tactic| repeat' walk_at "go1")

theorem nm4_new : mergeK [] (nmK nm4) = nmK nm4 := by kernel_rfl
theorem pl_new (dr : Addr) (wd l : Nat) : mergeK [] (plK dr wd l) = plK dr wd l := by kernel_rfl
theorem nmAt_keepL {H H' : Hp} {nd pd dr : Addr} {wd l : Nat} {nm : Nm} (h : NmAt H nd nm) (p : PlS H pd dr wd l) (k : KT [dr, pd] H H') : NmAt H' nd nm := by
  refine ⟨k.kp _ _ (fun z => ?_) h.h, h.nd, h.z, h.s, h.l⟩
  simp only [List.mem_cons, List.not_mem_nil, or_false] at z
  rcases z with z | z
  · exact h.ne p.d (by simp [z])
  · have e := h.h
    rw [z, p.h] at e
    have e := HO.dK.inj (Option.some.inj e)
    cases nm with
    | nil => exact absurd (congrArg List.length e) (by show ¬ 3 = 0; decide)
    | cons x r =>
      have e3 : V.ref dr = V.int x.2 := congrArg Prod.snd (List.cons.inj e).1
      cases e3
section
variable {P : Program} {w : World} {K : PySem.W.Frag} {mg : Str → Option Value} {base : Heap}
theorem ok_z_plain_body (T : Txt K mg) : ∀ n, FnOk P w K mg base CX0 (3 * n + 10) T.f_z_plain_body T.d_z_plain_body ["p", "names", "depth"] (spBd K n) := by
  intro n
  induction n with
  | zero => exact T.F_z_plain_body.ok sc_z_plain_body (fun vs H Q E ⟨pd, fl, dr, wd, l, d, free, h, _⟩ => by rw [h]; rfl) (fun cdv A outer s H vs Q E hr ⟨pd, fl, dr, wd, l, d, free, _, h, _⟩ => absurd h (Nat.not_lt_zero _))
  | succ n G_z_plain_body =>
    have G_z_take := okG_z_take (P := P) (w := w) (base := base) T
    have G_z_while := ok_z_while (P := P) (w := w) (base := base) T n G_z_plain_body
    have G_z_expression := (ok_z_expression (P := P) (w := w) (base := base) T 3)
    refine T.F_z_plain_body.ok sc_z_plain_body (fun vs H Q E h => ?_) (fun cdv A outer s H vs Q E hr h => ?_)
    · obtain ⟨pd, fl, dr, wd, l, d, free, rfl, _⟩ := h
      rfl
    · obtain ⟨pd, fl, dr, wd, l, d, free, rfl, hd, d2, st, fr, hf, q⟩ := h
      have hr : Room (3 * n + 12) _ := hr
      have rz := Rz_pos d
      have rz2 := Rz_le d2
      refine ⟨_, (pss_cons (ps_set (i := 3) sc_z_plain_body.nd rfl (Or.inl rfl) (pe_dget (hu_of hr) (pv 0) pe_str (fun _ _ => rfl)))
      (pss_cons (ps_set (i := 4) sc_z_plain_body.nd rfl (Or.inl rfl) (pe_disp (pps_cons pe_str pe_int (pps_cons pe_str pe_int (pps_cons pe_str pe_int (pps_cons pe_str pe_int pps_nil)))) (by rfl) (by rfl) (fun z => by cases z) (by decide)))
      (pss_cons (ps_set (i := 5) sc_z_plain_body.nd rfl (Or.inl rfl) (pe_lst pa_nil))
      (pss_cons (ps_for PassesOwn.never rfl (pi_range1 (by rfl) T.m_range (pa_cons (pe_op op_add pe_int (pe_call G_z_take (hr.mono (by omega)) (by rfl) T.g_z_take T.F_z_take.kp T.b_z_take .nil pass0 (pa_cons (pv 3) (pa_cons pe_int pa_nil)))) pa_nil)) (pg_name (i := 6) sc_z_plain_body.nd rfl (Or.inl rfl))
        (pss_one (ps_if (pt_cmpR op_gt (pe_dget (hu_of hr) (pv 0) pe_str (fun _ _ => rfl)) pe_int (nomark _))
          (pss_cons (ps_dput (hu_of hr) (pv 0) pe_str (pe_op op_sub (pe_dget (hu_of hr) (pv 0) pe_str (fun _ _ => rfl)) pe_int) rfl)
          (pss_cons (ps_set (i := 7) sc_z_plain_body.nd rfl (Or.inl rfl) (pe_call G_z_take (hr.mono (by omega)) (by rfl) T.g_z_take T.F_z_take.kp T.b_z_take .nil pass0 (pa_cons (pv 3) (pa_cons pe_int pa_nil))))
          (pss_one (ps_if (pt_cut (PW.pt (pw_or (pt_cmpR op_lt (pv 7) pe_int (nomark _)) (pw_or1 (pt_cmpR op_lt (pv 2) pe_int (nomark _))))))
            (pss_one (ps_expr (pe_bm PySem.F.plainAttrs_list PySem.F.slot_list_append PySem.F.type_list_append mt_append (pv 5) (pa_cons (pe_tup (pa_cons pe_str (pa_cons (pe_ix ix_list (pv 1) (pe_call G_z_take (hr.mono (by omega)) (by rfl) T.g_z_take T.F_z_take.kp T.b_z_take .nil pass0 (pa_cons (pv 3) (pa_cons (pe_callB call_len_seq (by rfl) T.m_len (by decide +kernel) (pa_cons (pv 1) pa_nil)) pa_nil))) (fun _ _ => rfl)) (pa_cons (pe_call G_z_expression (hr.mono (by omega)) (by rfl) T.g_z_expression T.F_z_expression.kp T.b_z_expression .nil pass0 (pa_cons (pv 0) (pa_cons (pv 4) (pa_cons pe_int pa_nil)))) pa_nil)))) pa_nil))))
            (pss_one (ps_if (pt_cmpR op_lt (pv 7) pe_int (nomark _))
              (pss_cons (ps_set (i := 8) sc_z_plain_body.nd rfl (Or.inl rfl) (pe_call G_z_expression (hr.mono (by omega)) (by rfl) T.g_z_expression T.F_z_expression.kp T.b_z_expression .nil pass0 (pa_cons (pv 0) (pa_cons (pv 4) (pa_cons pe_int pa_nil)))))
              (pss_one (ps_expr (pe_bm PySem.F.plainAttrs_list PySem.F.slot_list_append PySem.F.type_list_append mt_append (pv 5) (pa_cons (pe_tup (pa_cons pe_str (pa_cons (pv 8) (pa_cons (pe_call G_z_plain_body (hr.mono (by omega)) (by rfl) T.g_z_plain_body T.F_z_plain_body.kp T.b_z_plain_body .nil pass0 (pa_cons (pv 0) (pa_cons (pv 1) (pa_cons (pe_op op_sub (pv 2) pe_int) pa_nil)))) (pa_cons (pe_call G_z_plain_body (hr.mono (by omega)) (by rfl) T.g_z_plain_body T.F_z_plain_body.kp T.b_z_plain_body .nil pass0 (pa_cons (pv 0) (pa_cons (pv 1) (pa_cons (pe_op op_sub (pv 2) pe_int) pa_nil)))) pa_nil))))) pa_nil)))))
              (pss_one (ps_set (i := 5) sc_z_plain_body.nd rfl (Or.inl rfl) (pe_op op_cat (pv 5) (pe_call G_z_while (hr.mono (by omega)) (by rfl) T.g_z_while T.F_z_while.kp T.b_z_while .nil pass0 (pa_cons (pv 0) (pa_cons (pv 1) (pa_cons (pv 2) pa_nil)))))))))))))
          pss_nil)))
      (pss_one (ps_ret (pe_callTy call_tuple_of (by rfl) T.m_tuple (by decide +kernel) (pa_cons (pv 5) pa_nil)))))))), ?_⟩
      refine ⟨_, rfl, _, _, rfl, dget_s st.h (pl_get_draw ..), ?_⟩
      refine fun nd nnd => ⟨upd_same, nmK nm4, rfl, (show 4 ≤ 15 by decide), ?_⟩
      rw [nm4_new, upd_upd]
      have gn : GS dr H (upd H nd (.dK (nmK nm4))) := .new st.d nnd
      have nm0 : NmAt (upd H nd (.dK (nmK nm4))) nd nm4 := ⟨upd_same, by decide +kernel, by decide +kernel, by decide +kernel, by decide +kernel⟩
      generalize upd H nd (.dK (nmK nm4)) = H1 at gn nm0 ⊢
      have s1 := st.keep gn
      refine ⟨Nat.zero_le _, fun rl nrl => ?_⟩
      have g2 : GS dr H1 (upd H1 rl (.lst [])) := .new s1.d nrl
      have nrl0 : H rl = none := gn.k.free nrl
      refine ⟨_, rfl, dr, 3, rfl, g2.d, by decide, by decide, fun r H2 r0 r1 g3 => ?_⟩
      have ndr : rl ∉ [dr] := fun z => by
        obtain ⟨o, e⟩ := s1.d.some
        rw [List.mem_singleton.mp z, e] at nrl
        cases nrl
      have hrl0 : H2 rl = some (.lst []) := g3.k.kp _ _ ndr upd_same
      have g13 := gn.trans (g2.trans g3)
      have nm2 := nm0.keep s1.d (g2.trans g3)
      generalize upd H1 rl (.lst []) = H1' at g2 g3
      have s2 := st.keep g13
      obtain ⟨m, rfl⟩ := int_nat r0
      have em : [V.int (1 + (m : Int))] = [V.int ((m + 1 : Nat) : Int)] := by rw [show 1 + (m : Int) = ((m + 1 : Nat) : Int) by omega]
      refine ⟨_, _, rfl, rfl, ((m + 1 : Nat) : Int), em, by omega, by omega, for_range (n := m + 1) (fun i σ Hs => ∃ x6 x7 x8 rl vs bs l1, σ = [some (.ref pd), some (.ref fl), some (.int d), some (.ref dr), some (.ref nd), some (.ref rl), x6, x7, x8] ∧ KT [dr, pd] H Hs ∧ PlS Hs pd dr wd l1 ∧ NmAt Hs nd nm4 ∧ H rl = none ∧ rl ∉ [dr, pd] ∧
        Hs rl = some (.lst vs) ∧ RpA K Hs vs (pbd bs) ∧ PBk wd bs ∧ pdp bs ≤ d + 2 ∧ psz bs ≤ i * Rz d ∧ bs.length ≤ 3 * i) ?_ ?_ ?_⟩
      · have nrp : rl ∉ [dr, pd] := fun z => by
          simp only [List.mem_cons, List.not_mem_nil, or_false] at z
          rcases z with z | z
          · exact ndr (by simp [z])
          · rw [z, st.h] at nrl0; cases nrl0
        exact ⟨_, _, _, rl, [], [], l, rfl, g13.kp, s2, nm2, nrl0, nrp, hrl0, .nil, trivial, Nat.zero_le _, Nat.zero_le _, Nat.zero_le _⟩
      · rintro i σ Hs hi ⟨x6, x7, x8, rl, vs, bs, l1, rfl, ks, ss, ns, nrl0, nrp, hrl, hv, ob, mb, zb, lb⟩
        have vl : vs.length ≤ 9 := by rw [hv.length, pbd_map, List.length_map]; omega
        have sm : vs.length < sizeLine := Nat.lt_of_le_of_lt vl (by decide)
        have mul : (i + 1) * Rz d = i * Rz d + Rz d := Nat.succ_mul ..
        have fin : ∀ {Hs' : Hp} {v : V} {s : PS} {l2 : Nat} {y6 y7 y8 : Option V}, KT [dr, pd] Hs Hs' → PlS Hs' pd dr wd l2 → Rp K Hs' v s.d → POk wd s → s.dp ≤ d + 2 → s.sz ≤ Rz d →
            ∃ x6 x7 x8 rl' vs' bs l1, [some (V.ref pd), some (V.ref fl), some (V.int d), some (V.ref dr), some (V.ref nd), some (V.ref rl), y6, y7, y8] = [some (V.ref pd), some (V.ref fl), some (V.int d), some (V.ref dr), some (V.ref nd), some (V.ref rl'), x6, x7, x8] ∧ KT [dr, pd] H (upd Hs' rl (.lst (vs ++ [v]))) ∧ PlS (upd Hs' rl (.lst (vs ++ [v]))) pd dr wd l1 ∧ NmAt (upd Hs' rl (.lst (vs ++ [v]))) nd nm4 ∧ H rl' = none ∧ rl' ∉ [dr, pd] ∧
              (upd Hs' rl (.lst (vs ++ [v]))) rl' = some (.lst vs') ∧ RpA K (upd Hs' rl (.lst (vs ++ [v]))) vs' (pbd bs) ∧ PBk wd bs ∧ pdp bs ≤ d + 2 ∧ psz bs ≤ (i + 1) * Rz d ∧ bs.length ≤ 3 * (i + 1) := by
          intro Hs' v s l2 y6 y7 y8 kk pp rr oo mm zz
          have hrl2 := kk.kp _ _ nrp hrl
          refine ⟨y6, y7, y8, rl, vs ++ [v], bs ++ [s], l2, rfl, (ks.trans kk).late nrl0, st.late pp (ks.trans kk) nrl0, ?_, nrl0, nrp, upd_same, ?_, pbk_app ob ⟨oo, trivial⟩, ?_, ?_, ?_⟩
          · have nn := nmAt_keepL ns ss kk
            exact ⟨by rw [upd_ne (fun z => by have := nn.h; rw [z, hrl2] at this; cases this)]; exact nn.h, nn.nd, nn.z, nn.s, nn.l⟩
          · rw [pbd_map, List.map_append, ← pbd_map]
            refine RpA.app ?_ (.cons ?_ .nil)
            · exact rpA_ofT (sqT_putL hrl2) (hv.keep kk)
            · exact rp_ofT (sqT_putL hrl2) rr
          · rw [pdp_app]
            show max (pdp bs) (max s.dp 0) ≤ d + 2
            omega
          · rw [psz_app, mul]
            show psz bs + (s.sz + 0) ≤ _
            omega
          · rw [List.length_append]
            show bs.length + 1 ≤ _
            omega
        have ak : ∀ {Hs' : Hp}, KT [dr, pd] Hs Hs' → Hs' rl = some (.lst vs) := fun kk => kk.kp _ _ nrp hrl
        refine ⟨_, rfl, _, _, rfl, dget_s ss.h (pl_get_left ..), _, _, rfl, rfl, _, rfl, ite2 (fun e0 => ?_) (fun e0 => ?_)⟩
        rotate_left
        · exact ⟨_, _, _, rl, vs, bs, l1, rfl, ks, ss, ns, nrl0, nrp, hrl, hv, ob, mb, by rw [mul]; omega, by omega⟩
        have l0 : 0 < l1 := by
          have : (0 : Int) < (l1 : Int) := of_decide_eq_true e0
          omega
        obtain ⟨p2, k2⟩ := ss.put (l1 - 1)
        have hl1 : ((l1 : Int) - 1) = ((l1 - 1 : Nat) : Int) := by omega
        refine ⟨_, rfl, _, _, rfl, dget_s ss.h (pl_get_left ..), _, _, rfl, rfl, _, rfl, pd, _, rfl, DPut.k (k := Sum.inr "left") ss.h (show 3 < sizeLine by decide), ?_⟩
        have e5 : putK (plK dr wd l1) (.inr "left") ((fun i j => V.int (i - j)) (l1 : Int) 1) = plK dr wd (l1 - 1) := by
          show putK _ _ (.int ((l1 : Int) - 1)) = _
          rw [hl1]
          exact pl_left ..
        rw [e5]
        generalize upd Hs pd (.dK (plK dr wd (l1 - 1))) = H3 at p2 k2 ⊢
        refine ⟨_, rfl, dr, 8, rfl, p2.d, by decide, by decide, fun what H4 r0 r1 g4 => ?_⟩
        have p4 := p2.keep g4
        have k4 : KT [dr, pd] Hs H4 := k2.trans g4.kp
        have n4 := nmAt_keepL ns ss k4
        have f4 : FrP H4 fl free := fr.keep st (ks.trans k4)
        have ks4 := ks.trans k4
        have fpos : 0 < free.length := by omega
        have fz := fr.z
        refine ⟨fun b H' => H' = H4 ∧ (b = false → 1 ≤ d), ?_, ?_⟩
        · refine ⟨_, rfl, _, _, rfl, rfl, _, rfl, ite2 (fun e => ⟨rfl, fun z => by cases z⟩) (fun e => ?_)⟩
          refine ⟨_, rfl, _, _, rfl, rfl, _, rfl, rfl, fun z => ?_⟩
          have := of_decide_eq_false z
          omega
        rintro b H4' ⟨rfl, hb⟩
        refine ite2 (fun e1 => ?_) (fun e1 => ?_)
        · -- a set
          refine ⟨_, rfl, .inl ⟨rfl, _, SqL.of (ak k4)⟩, ?_⟩
          refine ⟨_, rfl, _, rfl, _, rfl, _, _, rfl, .inl (SqL.of f4.h), dr, _, rfl, p4.d, (by rw [List.length_map]; omega), (by rw [List.length_map]; exact Int.le_trans (by omega : (free.length : Int) ≤ 1000) (by decide)), fun r H5 r0 r1 g5 => ?_⟩
          rw [List.length_map] at r1
          obtain ⟨x, hx, hm⟩ := atI_in (xs := free) r0 r1
          have p5 := p4.keep g5
          have f5 : FrP H5 fl free := f4.keep p4 g5.kp
          have n5 := nmAt_keepL n4 p4 (g5.kp)
          refine ⟨_, _, _, _, rfl, rfl, SqL.of f5.h, atI_map hx, ?_⟩
          refine ⟨_, rfl, _, rfl, pd, nd, dr, 2, wd, nm4, rfl, by decide, p5.at_, n5, fun ve ex H6 g6 r6 o6 m6 => ?_⟩
          refine ⟨sz3, fun t1 n1 => ?_⟩
          obtain ⟨g7, r7⟩ := mk_tup (K := K) g6.d n1 (.cons (.str "set") (.cons (.str x) (.cons r6 .nil)))
          generalize upd _ t1 _ = H7 at g7 r7 ⊢
          have kk := k4.trans ((g5.trans (g6.trans g7)).kp)
          refine ⟨rl, vs, _, rfl, rfl, ak kk, sm, ?_⟩
          exact fin (s := .set x ex) kk (p5.keep (g6.trans g7)) r7 ⟨fr.i x hm, o6, by omega⟩ (by show 1 ≤ d + 2; omega) (by show 1 ≤ Rz d; omega)
        have d1 : 1 ≤ d := hb (by cases b with | true => exact absurd rfl e1 | false => rfl)
        obtain ⟨d', rfl⟩ : ∃ d', d = d' + 1 := ⟨d - 1, by omega⟩
        have harg : [V.ref pd, V.ref fl, V.int (((d' + 1 : Nat) : Int) - 1)] = [V.ref pd, V.ref fl, V.int (d' : Nat)] := by rw [show ((d' + 1 : Nat) : Int) - 1 = (d' : Nat) by omega]
        refine ⟨_, rfl, _, _, rfl, rfl, _, rfl, ite2 (fun e2 => ?_) (fun e2 => ?_)⟩
        · -- an if
          refine ⟨_, rfl, _, rfl, pd, nd, dr, 2, wd, nm4, rfl, by decide, p4.at_, n4, fun ve ex H6 g6 r6 o6 m6 => ?_⟩
          have p6 := p4.keep g6
          have k6 := k4.trans g6.kp
          refine ⟨_, rfl, .inl ⟨rfl, _, SqL.of (ak k6)⟩, ?_⟩
          refine ⟨_, rfl, _, rfl, _, rfl, _, rfl, _, _, rfl, rfl, pd, fl, dr, wd, l1 - 1, d', free, harg, by omega, by omega, p6, f4.keep p4 g6.kp, by omega, fun v1 b1 H7 l7 k7 p7 r7 o7 m7 z7 => ?_⟩
          refine ⟨_, rfl, _, rfl, _, rfl, _, _, rfl, rfl, pd, fl, dr, wd, l7, d', free, harg, by omega, by omega, p7, (f4.keep p4 g6.kp).keep p6 k7, by omega, fun v2 b2 H8 l8 k8 p8 r8 o8 m8 z8 => ?_⟩
          refine ⟨sz4, fun t1 n1 => ?_⟩
          obtain ⟨g9, r9⟩ := mk_tup (K := K) p8.d n1 (.cons (.str "if") (.cons ((r6.keep k7).keep k8) (.cons (r7.keep k8) (.cons r8 .nil))))
          generalize upd _ t1 _ = H9 at g9 r9 ⊢
          have kk := ((k6.trans k7).trans k8).trans g9.kp
          refine ⟨rl, vs, _, rfl, rfl, ak kk, sm, ?_⟩
          exact fin (s := .ite ex b1 b2) kk (p8.keep g9) r9 ⟨⟨o6, by omega⟩, o7, o8⟩ (by show max (pdp b1) (pdp b2) + 1 ≤ d' + 1 + 2; omega) (by show psz b1 + psz b2 + 1 ≤ 6 * Rz d' + 1; omega)
        · -- a while
          refine ⟨_, rfl, _, rfl, _, rfl, _, rfl, pd, fl, dr, wd, l1 - 1, d', free, rfl, by omega, by omega, p4, f4, by omega, fun a us b1 H7 l7 na k7 h7 p7 r7 o7 m7 z7 y7 => ?_⟩
          have kk := k4.trans k7
          have ul : us.length ≤ 3 := by rw [r7.length, pbd_map, List.length_map]; exact y7
          refine ⟨rl, a, vs, us, rfl, rfl, ak kk, h7, Nat.le_trans (by omega : vs.length + us.length ≤ 12) (by decide), fun p np => ?_⟩
          have nn := nmAt_keepL n4 p4 k7
          have g8 : GS dr H7 (upd H7 p (.lst (vs ++ us))) := .new p7.d np
          have np0 : H p = none := (ks.trans kk).free np
          have npp : p ∉ [dr, pd] := fun z => by
            simp only [List.mem_cons, List.not_mem_nil, or_false] at z
            rcases z with z | z
            · obtain ⟨o, e⟩ := st.d.some
              rw [z, e] at np0
              cases np0
            · rw [z, st.h] at np0; cases np0
          refine ⟨_, _, _, p, vs ++ us, bs ++ b1, l7, rfl, (ks.trans kk).trans g8.kp, p7.keep g8, nmAt_keepL nn p7 g8.kp, np0, npp, upd_same, ?_, pbk_app ob o7, ?_, ?_, ?_⟩
          · rw [pbd_map, List.map_append, ← pbd_map, ← pbd_map]
            exact RpA.app ((hv.keep kk).keep g8.k) (r7.keep g8.k)
          · rw [pdp_app]
            omega
          · rw [psz_app, mul]
            omega
          · rw [List.length_append]
            omega
      · rintro σ Hs ⟨x6, x7, x8, rl, vs, bs, l1, rfl, ks, ss, ns, nrl0, nrp, hrl, hv, ob, mb, zb, lb⟩
        refine ⟨_, rfl, rl, vs, rfl, .inl ⟨SqL.of hrl, fun t nt => ?_⟩⟩
        obtain ⟨g5, r5⟩ := mk_tup (K := K) ss.d nt hv
        generalize upd _ t _ = H5 at g5 r5 ⊢
        refine q _ bs _ l1 (ks.trans g5.kp) (ss.keep g5) r5 ob mb (Nat.le_trans zb (Nat.mul_le_mul_right _ (by omega)))
end

end My

set_option Elab.async false
set_option linter.all false
set_option maxRecDepth 100000
set_option maxHeartbeats 4000000
namespace My
open PySem PySem.Spec PyProof.Rows L2
local macro_rules | `(tactic| walk_at "asm") => `(tactic| (refine' of_eq_true (eq_true ?_); assumption))
local macro_rules | `(tactic| walk_at "go1") => `(tactic| first
  | (with_reducible rfl) | walk_at "asm" | (apply And.intro) | (apply Exists.intro)
  | (refine' ite_f (by decide +kernel) ?_) | (refine' ite_t (by decide +kernel) ?_) | (refine' ite_f (dstr_ne (by assumption)) ?_) | (refine' ite_t (dstr_eq (by assumption)) ?_)
  | (exact SqT.of upd_same) | (exact SqL.of upd_same) | (exact SqL.of (by assumption)) | (exact SqT.of (by assumption)) | (exact dget_s (by assumption) (by assumption)) | (exact dget_f (by assumption) (by assumption))
  | (exact Or.inl (by assumption)) | (exact Or.inr (by assumption)) | (exact Or.inl (SqL.of (by assumption))) | (exact Or.inr (SqT.of (by assumption))) | rfl)
local macro_rules | `(tactic| walk_at "go") => `(tactic| repeat' walk_at "go1")

theorem KT.drop {dr pd : Addr} {H0 Hb H : Hp} (a : KT [dr] H0 Hb) (b : KT [dr, pd] Hb H) (n : H0 pd = none) : KT [dr] H0 H := by
  have t : KT [dr, pd] H0 H := (a.mono (fun x hx => by simp at hx; simp [hx])).trans b
  refine ⟨fun x o nx e => ?_, t.tp, t.fz, t.th, t.hd⟩
  have : x ≠ pd := ne_of_none e n
  exact t.kp x o (by simp at nx; simp [nx, this]) e
def insL : List (List Str) := [["x"], ["y", "x"], []]
def outsL : List (List Str) := [["y"], ["x", "n"], [], ["n", "y", "x"]]
def sD (xs : List Str) : PyData := .tuple (xs.map PyData.str)
def prD (wd : Nat) (ins outs : List Str) (bs : List PS) : PyData := .tuple [.int wd, sD four4, sD ins, sD outs, .tuple (pbd bs)]
structure OrdOk (wd : Nat) (ins outs : List Str) (bs : List PS) : Prop where
  w1 : 1 ≤ wd
  w2 : wd ≤ 32
  i : ins ∈ insL
  o : outs ∈ outsL
  b : PBk wd bs
  p : pdp bs ≤ 4
  z : psz bs ≤ 129
def FzE (K : PySem.W.Frag) (H : Hp) (a : Addr) (xs : List Str) : Prop := xs = [] ∧ SqT K H a [] ∨ FzT H a (xs.map V.str)
theorem FzE.sq {K : PySem.W.Frag} {H : Hp} {a : Addr} {xs : List Str} (h : FzE K H a xs) : SqT K H a (xs.map V.str) := by
  rcases h with ⟨rfl, h⟩ | h
  · exact h
  · exact h.sq
theorem FzE.keep {K : PySem.W.Frag} {S : List Addr} {H H' : Hp} (k : KT S H H') {a : Addr} {xs : List Str} (h : FzE K H a xs) : FzE K H' a xs := by
  rcases h with ⟨rfl, h⟩ | h
  · exact .inl ⟨rfl, k.sqT h⟩
  · exact .inr (k.fzT h)
theorem rp_nil {K : PySem.W.Frag} {H : Hp} {a : Addr} (h : Rp K H (.ref a) (.tuple [])) : SqT K H a [] := by
  obtain ⟨b, xs, e, hs, ha⟩ := h.inv
  cases e
  rw [ha.inv0] at hs
  exact hs
theorem mk_tupF {K : PySem.W.Frag} {dr p : Addr} {H : Hp} {o : Obj} {vs : List V} {ds : List PyData} (D : DrawAt H dr) (n : H p = none) (d : o.dict = none) (r : RpA K H vs ds) : GS dr H (upd H p (.frz o (.tup vs))) ∧ Rp K (upd H p (.frz o (.tup vs))) (.ref p) (.tuple ds) ∧ FzT (upd H p (.frz o (.tup vs))) p vs :=
  ⟨.new D n, .tup (FzT.new d).sq (r.keep (KT.new [] n)), FzT.new d⟩
def spOrd (K : PySem.W.Frag) : Sp := fun vs H Q _ => ∃ (dr : Addr), vs = [.ref dr] ∧ DrawAt H dr ∧ ∀ (v : V) (wd : Nat) (ins outs : List Str) (bs : List PS) (H' : Hp), GS dr H H' → Rp K H' v (prD wd ins outs bs) → OrdOk wd ins outs bs → (∃ a n i o b, v = .ref a ∧ SqT K H' a [.int wd, .ref n, .ref i, .ref o, b] ∧ FzE K H' n four4 ∧ FzE K H' i ins ∧ FzE K H' o outs ∧ Rp K H' b (.tuple (pbd bs))) → Q v H'
section
variable {P : Program} {w : World} {K : PySem.W.Frag} {mg : Str → Option Value} {base : Heap}
theorem ok_z_ordinary (T : Txt K mg) : FnOk P w K mg base CX0 20 T.f_z_ordinary T.d_z_ordinary ["draw"] (spOrd K) := by
  have G_z_take := okG_z_take (P := P) (w := w) (base := base) T
  have G_z_plain_body := ok_z_plain_body (P := P) (w := w) (base := base) T 3
  refine T.F_z_ordinary.ok sc_z_ordinary (fun vs H Q E h => ?_) (fun cdv A outer s H vs Q E hr h => ?_)
  · obtain ⟨dr, rfl, _⟩ := h
    rfl
  · obtain ⟨dr, rfl, D, q⟩ := h
    have hr : Room 19 _ := hr
    refine ⟨_, (pss_cons (ps_set (i := 1) sc_z_ordinary.nd rfl (Or.inl rfl) (pe_ix ix_list (pe_lst (pa_cons pe_int (pa_cons pe_int (pa_cons pe_int (pa_cons pe_int (pa_cons pe_int (pa_cons (pe_op op_add pe_int (pe_call G_z_take (hr.mono (by omega)) (by rfl) T.g_z_take T.F_z_take.kp T.b_z_take .nil pass0 (pa_cons (pv 0) (pa_cons pe_int pa_nil)))) pa_nil))))))) (pe_call G_z_take (hr.mono (by omega)) (by rfl) T.g_z_take T.F_z_take.kp T.b_z_take .nil pass0 (pa_cons (pv 0) (pa_cons pe_int pa_nil))) (fun _ _ => rfl)))
      (pss_cons (ps_set (i := 2) sc_z_ordinary.nd rfl (Or.inl rfl) (pe_disp (pps_cons pe_str (pv 0) (pps_cons pe_str (pv 1) (pps_cons pe_str pe_int pps_nil))) (by rfl) (by rfl) (fun z => by cases z) (by decide)))
      (pss_cons (ps_set (i := 3) sc_z_ordinary.nd rfl (Or.inl rfl) (pe_tupF (pa_cons pe_str (pa_cons pe_str (pa_cons pe_str (pa_cons pe_str pa_nil))))))
      (pss_cons (ps_set (i := 4) sc_z_ordinary.nd rfl (Or.inl rfl) (pe_ix ix_list (pe_lst (pa_cons (pe_tupF (pa_cons pe_str pa_nil)) (pa_cons (pe_tupF (pa_cons pe_str (pa_cons pe_str pa_nil))) (pa_cons (pe_tup pa_nil) pa_nil)))) (pe_call G_z_take (hr.mono (by omega)) (by rfl) T.g_z_take T.F_z_take.kp T.b_z_take .nil pass0 (pa_cons (pv 0) (pa_cons pe_int pa_nil))) (fun _ _ => rfl)))
      (pss_cons (ps_set (i := 5) sc_z_ordinary.nd rfl (Or.inl rfl) (pe_ix ix_list (pe_lst (pa_cons (pe_tupF (pa_cons pe_str pa_nil)) (pa_cons (pe_tupF (pa_cons pe_str (pa_cons pe_str pa_nil))) (pa_cons (pe_tup pa_nil) (pa_cons (pe_tupF (pa_cons pe_str (pa_cons pe_str (pa_cons pe_str pa_nil)))) pa_nil))))) (pe_call G_z_take (hr.mono (by omega)) (by rfl) T.g_z_take T.F_z_take.kp T.b_z_take .nil pass0 (pa_cons (pv 0) (pa_cons pe_int pa_nil))) (fun _ _ => rfl)))
      (pss_one (ps_ret (pe_tup (pa_cons (pv 1) (pa_cons (pv 3) (pa_cons (pv 4) (pa_cons (pv 5) (pa_cons (pe_call G_z_plain_body (hr.mono (by omega)) (by rfl) T.g_z_plain_body T.F_z_plain_body.kp T.b_z_plain_body .nil pass0 (pa_cons (pv 2) (pa_cons (pe_callTy call_list_of (by rfl) T.m_list (by decide +kernel) (pa_cons (pv 3) pa_nil)) (pa_cons pe_int pa_nil)))) pa_nil))))))))))))), ?_⟩
    refine ⟨_, rfl, dr, 32, rfl, D, by decide, by decide, fun r H1 r0 r1 g1 => ?_⟩
    refine ⟨_, _, rfl, rfl, (show 6 ≤ sizeLine by decide), fun l nl => ?_⟩
    have g2 : GS dr H1 (upd H1 l (.lst [.int 1, .int 2, .int 3, .int 8, .int 32, .int (1 + r)])) := .new g1.d nl
    refine ⟨_, rfl, dr, 6, rfl, g2.d, by decide, by decide, fun r2 H2 q0 q1 g3 => ?_⟩
    obtain ⟨wv, hw1, hw2⟩ := atI_in (xs := [V.int 1, .int 2, .int 3, .int 8, .int 32, .int (1 + r)]) q0 q1
    have nld : l ∉ [dr] := fun z => by
      obtain ⟨o, e⟩ := g1.d.some
      rw [List.mem_singleton.mp z, e] at nl
      cases nl
    refine ⟨l, _, r2, _, rfl, rfl, SqL.of (g3.k.kp _ _ nld upd_same), hw1, ?_⟩
    obtain ⟨wd, rfl, w1, w2⟩ : ∃ n : Nat, wv = .int n ∧ 1 ≤ n ∧ n ≤ 32 := by
      obtain ⟨m, rfl⟩ := int_nat r0
      simp only [List.mem_cons, List.not_mem_nil, or_false] at hw2
      rcases hw2 with rfl | rfl | rfl | rfl | rfl | rfl
      · exact ⟨1, rfl, by decide, by decide⟩
      · exact ⟨2, rfl, by decide, by decide⟩
      · exact ⟨3, rfl, by decide, by decide⟩
      · exact ⟨8, rfl, by decide, by decide⟩
      · exact ⟨32, rfl, by decide, by decide⟩
      · exact ⟨1 + m, congrArg V.int (by omega), by omega, by omega⟩
    have g0 := (g1.trans g2).trans g3
    clear hw1 hw2 g1 g2 g3 nl nld
    refine fun pd npd => ⟨_, rfl, _, rfl, upd_same, plK dr wd 9, rfl, (show 3 ≤ 15 by decide), ?_⟩
    rw [pl_new, upd_upd]
    have gp : GS dr H2 (upd H2 pd (.dK (plK dr wd 9))) := .new g0.d npd
    have sp : PlS (upd H2 pd (.dK (plK dr wd 9))) pd dr wd 9 := ⟨upd_same, gp.d, w1, w2⟩
    have npd0 := g0.k.free npd
    have g1 := g0.trans gp
    generalize upd H2 pd (.dK (plK dr wd 9)) = H3 at gp sp g1 ⊢
    -- names
    refine ⟨sz4, fun tn o1 n1 d1 => ?_⟩
    obtain ⟨g4, q4, zq4⟩ := mk_tupF (K := K) g1.d n1 d1 (.cons (.str "x") (.cons (.str "y") (.cons (.str "n") (.cons (.str "k") .nil))))
    generalize upd _ tn _ = H4 at g4 q4 zq4 ⊢
    have q4 : Rp K H4 (.ref tn) (sD four4) := q4
    -- inputs
    refine ⟨sz1, fun t1 o1 n1 d1 => ?_⟩
    obtain ⟨h1, q1, zq1⟩ := mk_tupF (K := K) g4.d n1 d1 (.cons (.str "x") .nil)
    generalize upd _ t1 _ = J1 at h1 q1 zq1 ⊢
    refine ⟨sz2, fun t2 o2 n2 d2 => ?_⟩
    obtain ⟨h2, q2, zq2⟩ := mk_tupF (K := K) h1.d n2 d2 (.cons (.str "y") (.cons (.str "x") .nil))
    generalize upd _ t2 _ = J2 at h2 q2 zq2 ⊢
    refine ⟨Nat.zero_le _, fun t3 n3 => ?_⟩
    obtain ⟨h3, q3⟩ := mk_tup (K := K) h2.d n3 .nil
    generalize upd _ t3 _ = J3 at h3 q3 ⊢
    refine ⟨sz3, fun tl ntl => ?_⟩
    have h4 : GS dr J3 (upd J3 tl (.lst [.ref t1, .ref t2, .ref t3])) := .new h3.d ntl
    have ntd : tl ∉ [dr] := fun z => by
      obtain ⟨o, e⟩ := h3.d.some
      rw [List.mem_singleton.mp z, e] at ntl
      cases ntl
    refine ⟨_, rfl, dr, 3, rfl, h4.d, by decide, by decide, fun r J4 r0 r1 h5 => ?_⟩
    obtain ⟨vi, hi1, hi2⟩ := atI_in (xs := [V.ref t1, .ref t2, .ref t3]) r0 r1
    refine ⟨tl, _, r, _, rfl, rfl, SqL.of (h5.k.kp _ _ ntd upd_same), hi1, ?_⟩
    obtain ⟨ins, hin, ri, ti, rfl, fi⟩ : ∃ ins ∈ insL, Rp K J4 vi (sD ins) ∧ ∃ i, vi = .ref i ∧ FzE K J4 i ins := by
      simp only [List.mem_cons, List.not_mem_nil, or_false] at hi2
      rcases hi2 with rfl | rfl | rfl
      · exact ⟨["x"], by decide +kernel, (((q1.keep h2.k).keep h3.k).keep h4.k).keep h5.k, _, rfl, .inr (h5.k.fzT (h4.k.fzT (h3.k.fzT (h2.k.fzT zq1))))⟩
      · exact ⟨["y", "x"], by decide +kernel, ((q2.keep h3.k).keep h4.k).keep h5.k, _, rfl, .inr (h5.k.fzT (h4.k.fzT (h3.k.fzT zq2)))⟩
      · exact ⟨[], by decide +kernel, (q3.keep h4.k).keep h5.k, _, rfl, .inl ⟨rfl, rp_nil ((q3.keep h4.k).keep h5.k)⟩⟩
    have hA := (((h1.trans h2).trans h3).trans h4).trans h5
    clear h1 h2 h3 h4 h5 q1 q2 q3 hi1 hi2 ntd
    -- outputs
    refine ⟨sz1, fun t1 o1 n1 d1 => ?_⟩
    obtain ⟨h1, q1, zq1⟩ := mk_tupF (K := K) hA.d n1 d1 (.cons (.str "y") .nil)
    generalize upd _ t1 _ = J5 at h1 q1 zq1 ⊢
    refine ⟨sz2, fun t2 o2 n2 d2 => ?_⟩
    obtain ⟨h2, q2, zq2⟩ := mk_tupF (K := K) h1.d n2 d2 (.cons (.str "x") (.cons (.str "n") .nil))
    generalize upd _ t2 _ = J6 at h2 q2 zq2 ⊢
    refine ⟨Nat.zero_le _, fun t3 n3 => ?_⟩
    obtain ⟨h3, q3⟩ := mk_tup (K := K) h2.d n3 .nil
    generalize upd _ t3 _ = J7 at h3 q3 ⊢
    refine ⟨sz3, fun t4 o4 n4 d4 => ?_⟩
    obtain ⟨h3', q3', zq3'⟩ := mk_tupF (K := K) h3.d n4 d4 (.cons (.str "n") (.cons (.str "y") (.cons (.str "x") .nil)))
    generalize upd _ t4 _ = J7' at h3' q3' zq3' ⊢
    refine ⟨sz4, fun tl ntl => ?_⟩
    have h4 : GS dr J7' (upd J7' tl (.lst [.ref t1, .ref t2, .ref t3, .ref t4])) := .new h3'.d ntl
    have ntd : tl ∉ [dr] := fun z => by
      obtain ⟨o, e⟩ := h3'.d.some
      rw [List.mem_singleton.mp z, e] at ntl
      cases ntl
    refine ⟨_, rfl, dr, 4, rfl, h4.d, by decide, by decide, fun r J8 r0 r1 h5 => ?_⟩
    obtain ⟨vo, ho1, ho2⟩ := atI_in (xs := [V.ref t1, .ref t2, .ref t3, .ref t4]) r0 r1
    refine ⟨tl, _, r, _, rfl, rfl, SqL.of (h5.k.kp _ _ ntd upd_same), ho1, ?_⟩
    obtain ⟨outs, hout, ro, to, rfl, fo⟩ : ∃ outs ∈ outsL, Rp K J8 vo (sD outs) ∧ ∃ i, vo = .ref i ∧ FzE K J8 i outs := by
      simp only [List.mem_cons, List.not_mem_nil, or_false] at ho2
      rcases ho2 with rfl | rfl | rfl | rfl
      · exact ⟨["y"], by decide +kernel, ((((q1.keep h2.k).keep h3.k).keep h3'.k).keep h4.k).keep h5.k, _, rfl, .inr (h5.k.fzT (h4.k.fzT (h3'.k.fzT (h3.k.fzT (h2.k.fzT zq1)))))⟩
      · exact ⟨["x", "n"], by decide +kernel, (((q2.keep h3.k).keep h3'.k).keep h4.k).keep h5.k, _, rfl, .inr (h5.k.fzT (h4.k.fzT (h3'.k.fzT (h3.k.fzT zq2))))⟩
      · exact ⟨[], by decide +kernel, ((q3.keep h3'.k).keep h4.k).keep h5.k, _, rfl, .inl ⟨rfl, rp_nil (((q3.keep h3'.k).keep h4.k).keep h5.k)⟩⟩
      · exact ⟨["n", "y", "x"], by decide +kernel, (q3'.keep h4.k).keep h5.k, _, rfl, .inr (h5.k.fzT (h4.k.fzT zq3'))⟩
    have hB := ((((h1.trans h2).trans h3).trans h3').trans h4).trans h5
    clear h1 h2 h3 h4 h5 q1 q2 q3 ho1 ho2 ntd
    have hC := hA.trans hB
    have sB := (sp.keep g4).keep hC
    have htn2 : FzT J8 tn [V.str "x", .str "y", .str "n", .str "k"] := hC.k.fzT zq4
    refine ⟨_, rfl, _, rfl, _, rfl, _, rfl, _, rfl, _, rfl, tn, _, rfl, .inr htn2.sq, fun ll nll => ?_⟩
    have g5 : GS dr J8 (upd J8 ll (.lst [V.str "x", .str "y", .str "n", .str "k"])) := .new sB.d nll
    have fA : FrP (upd J8 ll (.lst [V.str "x", .str "y", .str "n", .str "k"])) ll four4 := ⟨upd_same, by decide +kernel, fun x h => h, by decide⟩
    generalize upd J8 ll (.lst [V.str "x", .str "y", .str "n", .str "k"]) = J9 at g5 fA ⊢
    refine ⟨pd, ll, dr, wd, 9, 2, four4, rfl, by decide, by decide, sB.keep g5, fA, by decide, fun v bs H' l' k' s' r' o' m' z' => ?_⟩
    refine ⟨sz5, fun t nt => ?_⟩
    have q4' := ((q4.keep hC.k).keep g5.k).keep k'
    obtain ⟨g6, q6⟩ := mk_tup (K := K) s'.d nt (.cons (.int wd) (.cons q4' (.cons (((ri.keep hB.k).keep g5.k).keep k') (.cons ((ro.keep g5.k).keep k') (.cons r' .nil)))))
    have kz : KT [dr] H (upd H' t (.tup [.int wd, .ref tn, .ref ti, .ref to, v])) := g1.k.drop ((((g4.trans (hC.trans g5)).kp).trans k').trans g6.kp) npd0
    exact q _ wd ins outs bs _ ⟨kz, g6.d, fun c' t e => kz.hd _ _ _ e⟩ q6 ⟨w1, w2, hin, hout, o', m', Nat.le_trans z' (by decide)⟩
      ⟨t, tn, ti, to, v, rfl, SqT.of upd_same, .inr (g6.k.fzT (k'.fzT (g5.k.fzT htn2))), (((fi.keep hB.k).keep g5.k).keep k').keep g6.k, ((fo.keep g5.k).keep k').keep g6.k, r'.keep g6.k⟩
end

end My

set_option Elab.async false
set_option linter.all false
set_option maxRecDepth 100000
set_option maxHeartbeats 4000000
namespace My
open PySem PySem.Spec PyProof.Rows L2
local macro_rules | `(tactic| walk_at "asm") => `(tactic| (refine' of_eq_true (eq_true ?_); assumption))
local macro_rules | `(tactic| walk_at "go1") => `(tactic| first
  | (with_reducible rfl) | walk_at "asm" | (apply And.intro) | (apply Exists.intro)
  | (refine' ite_f (by decide +kernel) ?_) | (refine' ite_t (by decide +kernel) ?_) | (refine' ite_f (dstr_ne (by assumption)) ?_) | (refine' ite_t (dstr_eq (by assumption)) ?_)
  | (exact SqT.of upd_same) | (exact SqL.of upd_same) | (exact SqL.of (by assumption)) | (exact SqT.of (by assumption)) | (exact dget_s (by assumption) (by assumption)) | (exact dget_f (by assumption) (by assumption))
  | (exact Or.inl (by assumption)) | (exact Or.inr (by assumption)) | (exact Or.inl (SqL.of (by assumption))) | (exact Or.inr (SqT.of (by assumption))) | rfl)
local macro_rules | `(tactic| walk_at "go") => `(tactic| repeat' walk_at "go1")

section
variable {K : PySem.W.Frag} {H : Hp} {v : V}
theorem rp_set {x : Str} {e : Ex} (h : Rp K H v (PS.set x e).d) : ∃ a u, v = .ref a ∧ SqT K H a [.str "set", .str x, u] ∧ Rp K H u e.d := by
  obtain ⟨a, xs, rfl, hs, ha⟩ := Rp.inv (ds := [.str "set", .str x, e.d]) h
  obtain ⟨v1, r1, rfl, h1, ha⟩ := ha.inv
  obtain ⟨v2, r2, rfl, h2, ha⟩ := ha.inv
  obtain ⟨v3, r3, rfl, h3, ha⟩ := ha.inv
  rw [ha.inv0, h1.sInv, h2.sInv] at hs
  exact ⟨a, v3, rfl, hs, h3⟩
theorem rp_ite {e : Ex} {b c : List PS} (h : Rp K H v (PS.ite e b c).d) : ∃ a u t f, v = .ref a ∧ SqT K H a [.str "if", u, t, f] ∧ Rp K H u e.d ∧ Rp K H t (.tuple (pbd b)) ∧ Rp K H f (.tuple (pbd c)) := by
  obtain ⟨a, xs, rfl, hs, ha⟩ := Rp.inv (ds := [.str "if", e.d, .tuple (pbd b), .tuple (pbd c)]) h
  obtain ⟨v1, r1, rfl, h1, ha⟩ := ha.inv
  obtain ⟨v2, r2, rfl, h2, ha⟩ := ha.inv
  obtain ⟨v3, r3, rfl, h3, ha⟩ := ha.inv
  obtain ⟨v4, r4, rfl, h4, ha⟩ := ha.inv
  rw [ha.inv0, h1.sInv] at hs
  exact ⟨a, v2, v3, v4, rfl, hs, h2, h3, h4⟩
theorem rp_whl {e : Ex} {b : List PS} (h : Rp K H v (PS.whl e b).d) : ∃ a u t, v = .ref a ∧ SqT K H a [.str "while", u, t] ∧ Rp K H u e.d ∧ Rp K H t (.tuple (pbd b)) := by
  obtain ⟨a, xs, rfl, hs, ha⟩ := Rp.inv (ds := [.str "while", e.d, .tuple (pbd b)]) h
  obtain ⟨v1, r1, rfl, h1, ha⟩ := ha.inv
  obtain ⟨v2, r2, rfl, h2, ha⟩ := ha.inv
  obtain ⟨v3, r3, rfl, h3, ha⟩ := ha.inv
  rw [ha.inv0, h1.sInv] at hs
  exact ⟨a, v2, v3, rfl, hs, h2, h3⟩
end
/-- the dict m -/
def mK (wd F st mx : Nat) (fa : Addr) (out : Bool) : List (Key × V) := [(.inr "width", .int wd), (.inr "frame", .ref fa), (.inr "fuel", .int F), (.inr "steps", .int st), (.inr "marks", .int mx), (.inr "out", .bl out)]
def frK (a : Str → Addr) : List (Key × V) := [(.inr "x", .ref (a "x")), (.inr "y", .ref (a "y")), (.inr "n", .ref (a "n")), (.inr "k", .ref (a "k"))]
section
variable {wd F st mx : Nat} {fa : Addr} {out : Bool} {a : Str → Addr}
theorem m_width : valV (mK wd F st mx fa out) (.inr "width") = some (.int wd) := by kernel_rfl
theorem m_frame : valV (mK wd F st mx fa out) (.inr "frame") = some (.ref fa) := by kernel_rfl
theorem m_fuel : valV (mK wd F st mx fa out) (.inr "fuel") = some (.int F) := by kernel_rfl
theorem m_steps : valV (mK wd F st mx fa out) (.inr "steps") = some (.int st) := by kernel_rfl
theorem m_marks : valV (mK wd F st mx fa out) (.inr "marks") = some (.int mx) := by kernel_rfl
theorem m_out : valV (mK wd F st mx fa out) (.inr "out") = some (.bl out) := by kernel_rfl
theorem m_put_out (b : Bool) : putK (mK wd F st mx fa out) (.inr "out") (.bl b) = mK wd F st mx fa b := by kernel_rfl
theorem m_put_steps (n : Nat) : putK (mK wd F st mx fa out) (.inr "steps") (.int n) = mK wd F n mx fa out := by kernel_rfl
theorem m_put_marks (n : Nat) : putK (mK wd F st mx fa out) (.inr "marks") (.int n) = mK wd F st n fa out := by kernel_rfl
theorem four_in {x : Str} (h : x ∈ four4) : x = "x" ∨ x = "y" ∨ x = "n" ∨ x = "k" := by
  unfold four4 at h
  simpa using h
theorem fr_get {x : Str} (h : x ∈ four4) : valV (frK a) (.inr x) = some (.ref (a x)) := by
  rcases four_in h with rfl | rfl | rfl | rfl
  · kernel_rfl
  · kernel_rfl
  · kernel_rfl
  · kernel_rfl
end
theorem kt_cell {S : List Addr} {H : Hp} {p : Addr} {i : Int} {o : HO} (hp : p ∈ S) (h : H p = some (.lst [.int i])) : KT S H (upd H p o) := by
  refine ⟨fun b x n e => ?_, fun b x e => ?_, fun b x u e => ?_, fun b x e => ?_, fun b c t e => ?_⟩
  · rw [upd_ne (fun z => n (by rw [z]; exact hp))]
    exact e
  · rw [upd_ne (fun z => by rw [z, h] at e; cases e)]
    exact e
  · rw [upd_ne (fun z => by rw [z, h] at e; cases e)]
    exact e
  · by_cases z : b = p
    · exact ⟨o, by rw [z, upd_same]⟩
    · exact ⟨x, by rw [upd_ne z]; exact e⟩
  · exact ⟨t, by rw [upd_ne (fun z => by rw [z, h] at e; cases e)]; exact e⟩
structure MSt (H : Hp) (md fa : Addr) (a : Str → Addr) (wd F : Nat) (s : PSt) : Prop where
  h : H md = some (.dK (mK wd F s.st s.mx fa s.out))
  f : H fa = some (.dK (frK a))
  c : ∀ x ∈ four4, H (a x) = some (.lst [.int (s.lk x)])
  i : ∀ x ∈ four4, ∀ y ∈ four4, a x = a y → x = y
  ne : fa ≠ md
def mS (md : Addr) (a : Str → Addr) : List Addr := [md, a "x", a "y", a "n", a "k"]
def LkOk (wd : Nat) (lk : Lk) : Prop := ∀ x ∈ four4, 0 ≤ lk x ∧ lk x < 2 ^ wd
theorem mS_in {md : Addr} {a : Str → Addr} {x : Str} (h : x ∈ four4) : a x ∈ mS md a := by
  unfold mS
  rcases four_in h with rfl | rfl | rfl | rfl <;> simp
theorem nm4_in {x : Str} {s : Int} (h : nm4.lookup x = some s) : x ∈ four4 ∧ s = 0 := by
  have key : ∀ p ∈ nm4, p.1 ∈ four4 ∧ p.2 = 0 := by decide +kernel
  exact key _ (mem_of_lookup' h)
theorem LkOk.en {wd : Nat} {lk : Lk} (h : LkOk wd lk) : EnOk wd nm4 lk.en := by
  intro x s hs
  obtain ⟨h1, rfl⟩ := nm4_in hs
  refine ⟨fun i hi => ?_, fun _ => rfl, fun z => absurd z (by decide)⟩
  rw [List.mem_singleton.mp hi]
  exact h x h1
theorem LkOk.put {wd : Nat} {lk : Lk} {x : Str} {v : Int} (h : LkOk wd lk) (h1 : 0 ≤ v) (h2 : v < 2 ^ wd) : LkOk wd (lk.put x v) := by
  intro y hy
  unfold Lk.put
  split
  · exact ⟨h1, h2⟩
  · exact h y hy
section
variable {K : PySem.W.Frag} {H H' : Hp} {md fa : Addr} {a : Str → Addr} {wd F : Nat} {s : PSt}
theorem MSt.look (m : MSt H md fa a wd F s) : LookF K H fa nm4 s.lk.en := ⟨_, m.f, fun x z hz => by
  obtain ⟨h1, rfl⟩ := nm4_in hz
  exact ⟨a x, fr_get h1, SqL.of (m.c x h1)⟩⟩
theorem MSt.same (m : MSt H md fa a wd F s) (k : Same H H') : MSt H' md fa a wd F s := ⟨k _ _ m.h, k _ _ m.f, fun x h => k _ _ (m.c x h), m.i, m.ne⟩
theorem MSt.put (m : MSt H md fa a wd F s) {st mx : Nat} {out : Bool} : MSt (upd H md (.dK (mK wd F st mx fa out))) md fa a wd F ⟨s.lk, st, mx, out⟩ ∧ KT (mS md a) H (upd H md (.dK (mK wd F st mx fa out))) := by
  refine ⟨⟨upd_same, by rw [upd_ne m.ne]; exact m.f, fun x h => ?_, m.i, m.ne⟩, KT.put (by unfold mS; simp) m.h (fun _ z => by cases z) (fun _ _ z => by cases z) (fun _ z => by cases z)⟩
  rw [upd_ne (fun z => by have := m.c x h; rw [z, m.h] at this; cases this)]
  exact m.c x h
theorem MSt.cell (m : MSt H md fa a wd F s) {x : Str} {v : Int} (hx : x ∈ four4) : MSt (upd H (a x) (.lst [.int v])) md fa a wd F { s with lk := s.lk.put x v } ∧ KT (mS md a) H (upd H (a x) (.lst [.int v])) := by
  refine ⟨⟨?_, ?_, fun y h => ?_, m.i, m.ne⟩, ?_⟩
  · rw [upd_ne (fun z => by have := m.c x hx; rw [← z, m.h] at this; cases this)]
    exact m.h
  · rw [upd_ne (fun z => by have := m.c x hx; rw [← z, m.f] at this; cases this)]
    exact m.f
  · show _ = some (HO.lst [.int (if y = x then v else s.lk y)])
    by_cases z : y = x
    · subst z
      rw [if_pos rfl, upd_same]
    · rw [if_neg z, upd_ne (fun q => z (m.i y h x hx q))]
      exact m.c y h
  · exact kt_cell (mS_in hx) (m.c x hx)
end
/-- tuples stay -/
def TKeep (K : PySem.W.Frag) (H H' : Hp) : Prop := ∀ p xs, SqT K H p xs → SqT K H' p xs
theorem KT.s0 {H H' : Hp} (k : KT [] H H') {b : Addr} {o : HO} (e : H b = some o) : H' b = some o := k.kp _ _ (by simp) e

end My

set_option Elab.async false
set_option linter.all false
set_option maxRecDepth 100000
set_option maxHeartbeats 4000000
namespace My
open PySem PySem.Spec PyProof.Rows L2
local macro_rules | `(tactic| walk_at "asm") => `(tactic| (refine' of_eq_true (eq_true ?_); assumption))
local macro_rules | `(tactic| walk_at "go1") => `(tactic| first
  | (with_reducible rfl) | walk_at "asm" | (apply And.intro) | (apply Exists.intro)
  | (refine' ite_f (by decide +kernel) ?_) | (refine' ite_t (by decide +kernel) ?_) | (refine' ite_f (dstr_ne (by assumption)) ?_) | (refine' ite_t (dstr_eq (by assumption)) ?_)
  | (exact SqT.of upd_same) | (exact SqL.of upd_same) | (exact SqL.of (by assumption)) | (exact SqT.of (by assumption)) | (exact dget_s (by assumption) (by assumption)) | (exact dget_f (by assumption) (by assumption))
  | (exact Or.inl (by assumption)) | (exact Or.inr (by assumption)) | (exact Or.inl (SqL.of (by assumption))) | (exact Or.inr (SqT.of (by assumption))) | rfl)
local macro_rules | `(tactic| walk_at "go") => `(tactic| repeat' walk_at "go1")

theorem begP_st {w : Nat} {p : PS} {c : PMc} : (begP w p c).st = c.st := by
  cases p with
  | set x e => rfl
  | ite e a b => rfl
  | whl e a =>
    show PMc.st (if e.val w c.lk.en ≠ 0 then _ else _) = _
    split <;> rfl
theorem Stp.mono {w F : Nat} {c d : PMc} (h : Stp w F c d) : c.st ≤ d.st := by
  cases h with
  | pop => exact Nat.le_refl _
  | next => rw [begP_st]; exact Nat.le_succ _
  | again => rw [begP_st]; exact Nat.le_succ _
theorem Gos.mono {w F n : Nat} {c d : PMc} (h : Gos w F n c d) : c.st ≤ d.st := by
  induction h with
  | refl => exact Nat.le_refl _
  | step s _ ih => exact Nat.le_trans s.mono ih
theorem DoB.mono {w F i : Nat} {all : List PS} {s s' : PSt} (h : DoB w F all i s s') : s.st ≤ s'.st := by
  have h := h none []
  by_cases z : s'.out = true
  · rw [z] at h
    obtain ⟨c, ⟨n, g⟩, _, _, e, _⟩ := h
    rw [← e]
    exact g.mono
  · rw [Bool.not_eq_true] at z
    rw [z] at h
    obtain ⟨n, g⟩ := h
    exact g.mono
def spDo (K : PySem.W.Frag) (n : Nat) : Sp := fun vs H Q _ => ∃ (md fa : Addr) (a : Str → Addr) (wd F : Nat) (s : PSt) (v : V) (bs : List PS), vs = [.ref md, v] ∧ Rp K H v (.tuple (pbd bs)) ∧ PBk wd bs ∧ pdp bs < n ∧ 1 ≤ wd ∧ wd ≤ 32 ∧ MSt H md fa a wd F s ∧ s.out = false ∧ LkOk wd s.lk ∧ s.st ≤ F ∧
  ∀ (s' : PSt) (H' : Hp), DoB wd F bs 0 s s' → KT (mS md a) H H' → MSt H' md fa a wd F s' → LkOk wd s'.lk → s'.st ≤ F → (s'.out = true → F ≤ s'.st) → Q .non H'
theorem pbk_get {w : Nat} {bs : List PS} {i : Nat} {p : PS} (h : PBk w bs) (e : bs[i]? = some p) : POk w p := pbk_mem.mp h p (List.mem_of_getElem? e)
section
variable {P : Program} {w : World} {K : PySem.W.Frag} {mg : Str → Option Value} {base : Heap}
theorem ok_z_plain_do (T : Txt K mg) : ∀ n, FnOk P w K mg base CX0 (n + 8) T.f_z_plain_do T.d_z_plain_do ["m", "body"] (spDo K n) := by
  intro n
  induction n with
  | zero => exact T.F_z_plain_do.ok sc_z_plain_do (fun vs H Q E ⟨md, fa, a, wd, F, s, v, bs, h, _⟩ => by rw [h]; rfl) (fun cdv A outer sx H vs Q E hr ⟨md, fa, a, wd, F, s, v, bs, _, _, _, h, _⟩ => absurd h (Nat.not_lt_zero _))
  | succ n G_z_plain_do =>
    have G_z_value := ok_z_value (P := P) (w := w) (base := base) T 4
    refine T.F_z_plain_do.ok sc_z_plain_do (fun vs H Q E h => ?_) (fun cdv A outer sx H vs Q E hr h => ?_)
    · obtain ⟨md, fa, a, wd, F, s, v, bs, rfl, _⟩ := h
      rfl
    · obtain ⟨md, fa, a, wd, F, s, v, bs, rfl, hv, ob, hn, w1, w2, st, so, lo, sF, q⟩ := h
      have hr : Room (n + 8) _ := hr
      refine ⟨_, (pss_one (ps_for PassesOwn.never rfl (pi_tup (pv 1)) (pg_name (i := 2) sc_z_plain_do.nd rfl (Or.inl rfl))
        (pss_cons (ps_cut (ps_if (pt_cmpR op_ge (pe_dget (hu_of hr) (pv 0) pe_str (fun _ _ => rfl)) (pe_dget (hu_of hr) (pv 0) pe_str (fun _ _ => rfl)) (nomark _))
          (pss_one (ps_dput (hu_of hr) (pv 0) pe_str pe_bl rfl))
          pss_nil))
        (pss_cons (ps_if (pt_val (pe_dget (hu_of hr) (pv 0) pe_str (fun _ _ => rfl)))
          (pss_one ps_retN)
          pss_nil)
        (pss_cons (ps_dput (hu_of hr) (pv 0) pe_str (pe_op op_add (pe_dget (hu_of hr) (pv 0) pe_str (fun _ _ => rfl)) pe_int) rfl)
        (pss_cons (ps_cut (ps_if (pt_cmpR op_eq (pe_ix ix_tup (pv 2) pe_int (fun _ _ => rfl)) pe_str (nomark _))
          (pss_one (ps_asg (pe_call G_z_value (hr.mono (by omega)) (by rfl) T.g_z_value T.F_z_value.kp T.b_z_value .nil pass0 (pa_cons (pe_dget (hu_of hr) (pv 0) pe_str (fun _ _ => rfl)) (pa_cons (pe_ix ix_tup (pv 2) pe_int (fun _ _ => rfl)) (pa_cons (pe_dget (hu_of hr) (pv 0) pe_str (fun _ _ => rfl)) pa_nil)))) (pg_sub (pe_dget (hu_of hr) (pe_dget (hu_of hr) (pv 0) pe_str (fun _ _ => rfl)) (pe_ix ix_tup (pv 2) pe_int (fun _ _ => rfl)) (fun _ _ => rfl)) pe_int set_list)))
          (pss_one (ps_if (pt_cmpR op_eq (pe_ix ix_tup (pv 2) pe_int (fun _ _ => rfl)) pe_str (nomark _))
            (pss_one (ps_expr (pe_call G_z_plain_do (hr.mono (by omega)) (by rfl) T.g_z_plain_do T.F_z_plain_do.kp T.b_z_plain_do .nil pass0 (pa_cons (pv 0) (pa_cons (pe_ifExp (pt_cmpR op_ne (pe_call G_z_value (hr.mono (by omega)) (by rfl) T.g_z_value T.F_z_value.kp T.b_z_value .nil pass0 (pa_cons (pe_dget (hu_of hr) (pv 0) pe_str (fun _ _ => rfl)) (pa_cons (pe_ix ix_tup (pv 2) pe_int (fun _ _ => rfl)) (pa_cons (pe_dget (hu_of hr) (pv 0) pe_str (fun _ _ => rfl)) pa_nil)))) pe_int (nomark _)) (pe_ix ix_tup (pv 2) pe_int (fun _ _ => rfl)) (pe_ix ix_tup (pv 2) pe_int (fun _ _ => rfl))) pa_nil)))))
            (pss_one (ps_while PassesOwn.never (PW.pt (pw_and (pt_not (pt_val (pe_dget (hu_of hr) (pv 0) pe_str (fun _ _ => rfl)))) (pw_and1 (pt_cmpR op_ne (pe_call G_z_value (hr.mono (by omega)) (by rfl) T.g_z_value T.F_z_value.kp T.b_z_value .nil pass0 (pa_cons (pe_dget (hu_of hr) (pv 0) pe_str (fun _ _ => rfl)) (pa_cons (pe_ix ix_tup (pv 2) pe_int (fun _ _ => rfl)) (pa_cons (pe_dget (hu_of hr) (pv 0) pe_str (fun _ _ => rfl)) pa_nil)))) pe_int (nomark _)))))
              (pss_cons (ps_expr (pe_call G_z_plain_do (hr.mono (by omega)) (by rfl) T.g_z_plain_do T.F_z_plain_do.kp T.b_z_plain_do .nil pass0 (pa_cons (pv 0) (pa_cons (pe_ix ix_tup (pv 2) pe_int (fun _ _ => rfl)) pa_nil))))
              (pss_one (ps_if (pt_not (pt_val (pe_dget (hu_of hr) (pv 0) pe_str (fun _ _ => rfl))))
                (pss_cons (ps_dput (hu_of hr) (pv 0) pe_str (pe_cmpR op_ge (pe_dget (hu_of hr) (pv 0) pe_str (fun _ _ => rfl)) (pe_dget (hu_of hr) (pv 0) pe_str (fun _ _ => rfl)) (nomark _)) rfl)
                (pss_one (ps_dput (hu_of hr) (pv 0) pe_str (pe_op op_add (pe_dget (hu_of hr) (pv 0) pe_str (fun _ _ => rfl)) (pe_ifExp (pt_val (pe_dget (hu_of hr) (pv 0) pe_str (fun _ _ => rfl))) pe_int pe_int)) rfl)))
                pss_nil)))))))))
        (pss_cons (ps_if (pt_val (pe_dget (hu_of hr) (pv 0) pe_str (fun _ _ => rfl)))
          (pss_one ps_retN)
          pss_nil)
        (pss_one (ps_dput (hu_of hr) (pv 0) pe_str (pe_op op_add (pe_dget (hu_of hr) (pv 0) pe_str (fun _ _ => rfl)) pe_int) rfl))))))))), ?_⟩
      obtain ⟨b, xs, rfl, hb, hxs⟩ := Rp.inv hv
      refine ⟨_, rfl, b, rfl, ⟨_, hb⟩, for_tup (K := K) (xs := xs) (fun i σ Hs => ∃ x2 sc, σ = [some (.ref md), some (.ref b), x2] ∧ KT (mS md a) H Hs ∧ MSt Hs md fa a wd F sc ∧ sc.out = false ∧ LkOk wd sc.lk ∧ sc.st ≤ F ∧ ∀ s', DoB wd F bs i sc s' → DoB wd F bs 0 s s') ?_ ?_ ?_ ?_⟩
      · exact ⟨_, s, rfl, .refl _ _, st, so, lo, sF, fun s' h => h⟩
      · rintro i σ Hs _ ⟨_, _, _, ks, _⟩
        exact ks.sqT hb
      · rintro i x σ Hs hx ⟨x2, sc, rfl, ks, sm, sco, sl, scF, back⟩
        obtain ⟨pd, hpd, rx⟩ := hxs.get hx
        obtain ⟨p, hp, rfl⟩ : ∃ p, bs[i]? = some p ∧ pd = p.d := by
          rw [pbd_map, List.getElem?_map] at hpd
          cases e : bs[i]? with
          | none => rw [e] at hpd; cases hpd
          | some p => rw [e] at hpd; exact ⟨p, rfl, (Option.some.inj hpd).symm⟩
        have hi : i < bs.length := (List.getElem?_eq_some_iff.mp hp).1
        have po := pbk_get ob hp
        have pn : p.dp ≤ n := Nat.le_trans (pdp_mem (List.mem_of_getElem? hp)) (by omega)
        have rx := rx.keep ks
        -- is there fuel
        refine ⟨fun σ H1 => σ = [some (.ref md), some (.ref b), some x] ∧ KT (mS md a) Hs H1 ∧ MSt H1 md fa a wd F { sc with out := decide (F ≤ sc.st) }, ?_, ?_⟩
        · refine ⟨_, rfl, _, _, rfl, dget_s sm.h m_steps, _, rfl, _, _, rfl, dget_s sm.h m_fuel, _, _, rfl, rfl, _, rfl, ite2 (fun e => ?_) (fun e => ?_)⟩
          · have e2 := of_decide_eq_true e
            refine ⟨_, rfl, md, _, rfl, DPut.k (k := Sum.inr "out") sm.h (show 6 < sizeLine by decide), ?_⟩
            rw [m_put_out]
            obtain ⟨m2, k2⟩ := sm.put (st := sc.st) (mx := sc.mx) (out := true)
            refine ⟨rfl, k2, ?_⟩
            rw [decide_eq_true (by omega : F ≤ sc.st)]
            exact m2
          · have e2 : ¬ (F : Int) ≤ sc.st := fun z => e (decide_eq_true z)
            refine ⟨rfl, .refl _ _, ?_⟩
            rw [decide_eq_false (by omega : ¬ F ≤ sc.st), ← sco]
            exact sm
        rintro σ H1 ⟨rfl, k1, m1⟩
        refine ⟨_, rfl, _, _, rfl, dget_s m1.h m_out, _, rfl, ite2 (fun e => ?_) (fun e => ?_)⟩
        · have e2 := of_decide_eq_true e
          refine q _ _ (back _ (dob_dry hi e2)) (ks.trans k1) (by rw [decide_eq_true e2] at m1; exact m1) sl scF (fun _ => e2)
        have e2 : sc.st < F := by
          have : ¬ decide (F ≤ sc.st) = true := e
          rw [decide_eq_true_eq] at this
          omega
        rw [decide_eq_false (by omega : ¬ F ≤ sc.st)] at m1
        refine ⟨_, rfl, _, _, rfl, dget_s m1.h m_steps, _, _, rfl, rfl, _, rfl, md, _, rfl, DPut.k (k := Sum.inr "steps") m1.h (show 6 < sizeLine by decide), ?_⟩
        obtain ⟨m2, k2⟩ := m1.put (st := sc.st + 1) (mx := sc.mx) (out := false)
        have e3 : putK (mK wd F sc.st sc.mx fa false) (.inr "steps") ((fun i j => V.int (i + j)) (sc.st : Int) 1) = mK wd F (sc.st + 1) sc.mx fa false := m_put_steps (sc.st + 1)
        rw [e3]
        generalize upd H1 md (.dK (mK wd F (sc.st + 1) sc.mx fa false)) = H2 at m2 k2 ⊢
        have k12 := k1.trans k2
        have rx2 := rx.keep k12
        -- the statement
        refine ⟨fun σ H3 => ∃ s1, σ = [some (.ref md), some (.ref b), some x] ∧ KT (mS md a) H2 H3 ∧ MSt H3 md fa a wd F s1 ∧ LkOk wd s1.lk ∧ s1.st ≤ F ∧ (s1.out = true → F ≤ s1.st) ∧ DoS wd F p ⟨sc.lk, sc.st + 1, sc.mx, false⟩ s1, ?_, ?_⟩
        · have lk2 := MSt.look (K := K) m2
          have dw : DGet H2 md (.str "width") (some (.int wd)) := dget_s m2.h m_width
          have df : DGet H2 md (.str "frame") (some (.ref fa)) := dget_s m2.h m_frame
          have en2 : EnOk wd nm4 sc.lk.en := sl.en
          have lk2 : LookF K H2 fa nm4 sc.lk.en := lk2
          cases p with
          | set x ex =>
            obtain ⟨t, u, rfl, hs, hu⟩ := rp_set rx2
            obtain ⟨hx4, eo, ed⟩ := po
            have vi := val_in w1 sl.en eo
            walk_at "go"
            intro H3 k3
            have m3 := m2.same k3
            have df3 : DGet H3 md (.str "frame") (some (.ref fa)) := dget_s m3.h m_frame
            have hs3 := (KT.of_same (S := []) k3).sqT hs
            have dx3 : DGet H3 fa (.str x) (some (.ref (a x))) := dget_s m3.f (fr_get hx4)
            have hc3 := m3.c x hx4
            refine ⟨_, rfl, _, _, rfl, df3, _, rfl, _, _, _, _, rfl, rfl, hs3, atI_1, _, _, rfl, dx3, a x, _, 0, 0, rfl, rfl, hc3, rfl, ?_⟩
            obtain ⟨m4, k4⟩ := m3.cell (v := ex.val wd sc.lk.en) hx4
            exact ⟨_, rfl, (KT.of_same k3).trans k4, m4, sl.put vi.1 vi.2, e2, (fun z => by cases z), dos_set rfl⟩
          | ite ex b1 b2 =>
            obtain ⟨t, u, t1, t2, rfl, hs, hu, ht1, ht2⟩ := rp_ite rx2
            obtain ⟨⟨eo, ed⟩, o1, o2⟩ := po
            have pn : max (pdp b1) (pdp b2) + 1 ≤ n := pn
            walk_at "go"
            intro H3 k3
            have m3 := m2.same k3
            have hs3 := (KT.of_same (S := []) k3).sqT hs
            have at2 : atI [V.str "if", u, t1, t2] 2 = some t1 := atI_nat (j := 2) rfl
            have at3 : atI [V.str "if", u, t1, t2] 3 = some t2 := atI_nat (j := 3) rfl
            refine ⟨rfl, _, rfl, ite2 (fun e => ?_) (fun e => ?_)⟩
            · have ne : ex.val wd sc.lk.en ≠ 0 := fun z => by rw [z] at e; exact absurd e (by decide)
              refine ⟨_, rfl, _, _, _, _, rfl, rfl, hs3, at2, md, fa, a, wd, F, ⟨sc.lk, sc.st + 1, sc.mx, false⟩, t1, b1, rfl, ht1.keep (KT.of_same (S := []) k3), o1, by omega, w1, w2, m3, rfl, sl, e2, fun s' H4 db k4 m4 l4 f4 o4 => ?_⟩
              exact ⟨s', rfl, (KT.of_same k3).trans k4, m4, l4, f4, o4, dos_ite (by rw [if_pos ne]; exact db)⟩
            · have ne : ¬ ex.val wd sc.lk.en ≠ 0 := fun z => e (by simpa using z)
              refine ⟨_, rfl, _, _, _, _, rfl, rfl, hs3, at3, md, fa, a, wd, F, ⟨sc.lk, sc.st + 1, sc.mx, false⟩, t2, b2, rfl, ht2.keep (KT.of_same (S := []) k3), o2, by omega, w1, w2, m3, rfl, sl, e2, fun s' H4 db k4 m4 l4 f4 o4 => ?_⟩
              exact ⟨s', rfl, (KT.of_same k3).trans k4, m4, l4, f4, o4, dos_ite (by rw [if_neg ne]; exact db)⟩
          | whl ex b1 =>
            obtain ⟨t, u, t1, rfl, hs, hu, ht1⟩ := rp_whl rx2
            obtain ⟨⟨eo, ed⟩, o1⟩ := po
            have pn : pdp b1 + 1 ≤ n := pn
            refine ⟨_, rfl, _, _, _, _, rfl, rfl, hs, atI_0, rfl, _, rfl, ite_f (by decide +kernel) ?_⟩
            refine ⟨_, rfl, _, _, _, _, rfl, rfl, hs, atI_0, rfl, _, rfl, ite_f (by decide +kernel) ?_⟩
            refine ⟨fun mm σ Hw => ∃ s1, σ = [some (.ref md), some (.ref b), some (.ref t)] ∧ KT (mS md a) H2 Hw ∧ MSt Hw md fa a wd F s1 ∧ LkOk wd s1.lk ∧ s1.st ≤ F ∧ (s1.out = true → F ≤ s1.st) ∧ mm = (F - s1.st) + (if s1.out then 0 else 1) ∧
              (s1.out = true → DoS wd F (.whl ex b1) ⟨sc.lk, sc.st + 1, sc.mx, false⟩ s1) ∧ (s1.out = false → ∀ s', DoS wd F (.whl ex b1) s1 s' → DoS wd F (.whl ex b1) ⟨sc.lk, sc.st + 1, sc.mx, false⟩ s'), ⟨_, ⟨sc.lk, sc.st + 1, sc.mx, false⟩, rfl, .refl _ _, m2, sl, e2, (fun z => by cases z), rfl, (fun z => by cases z), fun _ s' h => h⟩, ?_⟩
            rintro mm σ Hw ⟨s1, rfl, kw, mw, lw, fw, ow, emm, dt, df⟩
            refine ⟨_, rfl, _, _, rfl, dget_s mw.h m_out, _, rfl, ?_⟩
            by_cases so1 : s1.out = true
            · rw [so1]
              exact ⟨s1, rfl, kw, mw, lw, fw, ow, dt so1⟩
            rw [Bool.not_eq_true] at so1
            rw [so1]
            have hsw := kw.sqT hs
            have enw : EnOk wd nm4 s1.lk.en := lw.en
            have dww : DGet Hw md (.str "width") (some (.int wd)) := dget_s mw.h m_width
            have dfw : DGet Hw md (.str "frame") (some (.ref fa)) := dget_s mw.h m_frame
            have lkw : LookF K Hw fa nm4 s1.lk.en := mw.look
            have huw := hu.keep kw
            walk_at "go"
            intro H3 k3
            refine ⟨rfl, _, rfl, ?_⟩
            have m3 := mw.same k3
            have k23 := kw.trans (KT.of_same k3)
            have hs3 := k23.sqT hs
            have at2 : atI [V.str "while", u, t1] 2 = some t1 := atI_nat (j := 2) rfl
            refine ite2 (fun e => ?_) (fun e => ?_)
            rotate_left
            · have ne : ex.val wd s1.lk.en = 0 := by
                by_cases z : ex.val wd s1.lk.en = 0
                · exact z
                · exact absurd (by simpa using z) e
              exact ⟨s1, rfl, k23, m3, lw, fw, (fun z => by rw [so1] at z; cases z), df so1 _ (dos_stop so1 ne)⟩
            have ne : ex.val wd s1.lk.en ≠ 0 := fun z => by rw [z] at e; exact absurd e (by decide)
            refine ⟨_, fun _ _ h => h, ?_⟩
            refine ⟨_, rfl, _, rfl, _, _, _, _, rfl, rfl, hs3, at2, md, fa, a, wd, F, s1, t1, b1, rfl, ht1.keep k23, o1, by omega, w1, w2, m3, so1, lw, fw, fun s4 H4 db k4 m4 l4 f4 o4 => ?_⟩
            have k24 := k23.trans k4
            refine ⟨_, rfl, _, _, rfl, dget_s m4.h m_out, _, rfl, ?_⟩
            by_cases so4 : s4.out = true
            · rw [so4]
              refine ⟨_, ?_, s4, rfl, k24, m4, l4, f4, o4, rfl, (fun _ => df so1 _ (dos_wout ne db so4)), fun z => by rw [so4] at z; cases z⟩
              rw [emm, so4, so1]
              have := o4 so4
              simp
              omega
            rw [Bool.not_eq_true] at so4
            rw [so4]
            -- out, steps
            refine ⟨_, rfl, _, _, rfl, dget_s m4.h m_steps, _, rfl, _, _, rfl, dget_s m4.h m_fuel, _, _, rfl, rfl, _, rfl, md, _, rfl, DPut.k (k := Sum.inr "out") m4.h (show 6 < sizeLine by decide), ?_⟩
            have e5 : putK (mK wd F s4.st s4.mx fa s4.out) (.inr "out") ((fun i j => V.bl (decide (j ≤ i))) (s4.st : Int) (F : Int)) = mK wd F s4.st s4.mx fa (decide ((F : Int) ≤ s4.st)) := m_put_out _
            rw [e5]
            obtain ⟨m5, k5⟩ := m4.put (st := s4.st) (mx := s4.mx) (out := decide ((F : Int) ≤ s4.st))
            generalize upd H4 md _ = H5 at m5 k5 ⊢
            have k25 := k24.trans k5
            by_cases dry : F ≤ s4.st
            · rw [decide_eq_true (show (F : Int) ≤ s4.st by omega)] at m5
              refine ⟨_, rfl, _, _, rfl, dget_s m5.h m_steps, _, rfl, _, _, rfl, dget_s m5.h m_out, _, rfl, _, _, rfl, rfl, _, rfl, md, _, rfl, DPut.k (k := Sum.inr "steps") m5.h (show 6 < sizeLine by decide), ?_⟩
              have e6 : putK (mK wd F s4.st s4.mx fa true) (.inr "steps") ((fun i j => V.int (i + j)) (s4.st : Int) 0) = mK wd F s4.st s4.mx fa true := by
                show putK _ _ (.int ((s4.st : Int) + 0)) = _
                rw [Int.add_zero]
                exact m_put_steps _
              rw [e6]
              obtain ⟨m6, k6⟩ := m5.put (st := s4.st) (mx := s4.mx) (out := true)
              refine ⟨_, ?_, { s4 with out := true }, rfl, k25.trans k6, m6, l4, f4, (fun _ => dry), rfl, (fun _ => df so1 _ (dos_wdry ne db so4 dry)), fun z => by cases z⟩
              rw [emm, so1]
              simp
              omega
            · rw [decide_eq_false (show ¬ (F : Int) ≤ s4.st by omega)] at m5
              refine ⟨_, rfl, _, _, rfl, dget_s m5.h m_steps, _, rfl, _, _, rfl, dget_s m5.h m_out, _, rfl, _, _, rfl, rfl, _, rfl, md, _, rfl, DPut.k (k := Sum.inr "steps") m5.h (show 6 < sizeLine by decide), ?_⟩
              have e6 : putK (mK wd F s4.st s4.mx fa false) (.inr "steps") ((fun i j => V.int (i + j)) (s4.st : Int) 1) = mK wd F (s4.st + 1) s4.mx fa false := m_put_steps _
              rw [e6]
              obtain ⟨m6, k6⟩ := m5.put (st := s4.st + 1) (mx := s4.mx) (out := false)
              have es : ({ s4 with st := s4.st + 1 } : PSt) = ⟨s4.lk, s4.st + 1, s4.mx, false⟩ := by rw [← so4]
              refine ⟨_, ?_, ⟨s4.lk, s4.st + 1, s4.mx, false⟩, rfl, k25.trans k6, m6, l4, by show s4.st + 1 ≤ F; omega, (fun z => by cases z), rfl, (fun z => by cases z), fun _ s' hs' => df so1 _ (dos_wgo ne db so4 (by omega) (by rw [es]; exact hs'))⟩
              rw [emm, so1]
              have := db.mono
              simp
              omega
        rintro σ H3 ⟨s1, rfl, k3, m3, l3, f3, o3, d3⟩
        refine ⟨_, rfl, _, _, rfl, dget_s m3.h m_out, _, rfl, ite2 (fun e => ?_) (fun e => ?_)⟩
        · have d3' : DoS wd F p { sc with st := sc.st + 1 } s1 := by
            have : ({ sc with st := sc.st + 1 } : PSt) = ⟨sc.lk, sc.st + 1, sc.mx, false⟩ := by rw [← sco]
            rw [this]
            exact d3
          exact q _ _ (back _ (dob_out hp e2 d3' e)) ((ks.trans k12).trans k3) m3 l3 f3 o3
        · have so3 : s1.out = false := by
            cases z : s1.out with
            | true => rw [z] at e; exact absurd rfl e
            | false => rfl
          have es : ({ sc with st := sc.st + 1 } : PSt) = ⟨sc.lk, sc.st + 1, sc.mx, false⟩ := by rw [← sco]
          refine ⟨_, rfl, _, _, rfl, dget_s m3.h m_marks, _, _, rfl, rfl, _, rfl, md, _, rfl, DPut.k (k := Sum.inr "marks") m3.h (show 6 < sizeLine by decide), ?_⟩
          have e6 : putK (mK wd F s1.st s1.mx fa s1.out) (.inr "marks") ((fun i j => V.int (i + j)) (s1.mx : Int) 1) = mK wd F s1.st (s1.mx + 1) fa s1.out := m_put_marks _
          rw [e6]
          obtain ⟨m4, k4⟩ := m3.put (st := s1.st) (mx := s1.mx + 1) (out := s1.out)
          exact ⟨_, { s1 with mx := s1.mx + 1 }, rfl, ((ks.trans k12).trans k3).trans k4, m4, so3, l3, f3, fun s' hs' => back _ (dob_go hp e2 (by rw [es]; exact d3) so3 hs')⟩
      · rintro σ Hs ⟨x2, sc, rfl, ks, sm, sco, sl, scF, back⟩
        have hl : xs.length = bs.length := by rw [hxs.length, pbd_map, List.length_map]
        exact q _ _ (back _ (dob_nil hl.symm sco)) ks sm sl scF (fun z => by rw [sco] at z; cases z)
end

end My

set_option Elab.async false
set_option linter.all false
set_option maxRecDepth 100000
set_option maxHeartbeats 4000000
namespace My
open PySem PySem.Spec PyProof.Rows L2
local macro_rules | `(tactic| walk_at "asm") => `(tactic| (refine' of_eq_true (eq_true ?_); assumption))
local macro_rules | `(tactic| walk_at "go1") => `(tactic| first
  | (with_reducible rfl) | walk_at "asm" | (apply And.intro) | (apply Exists.intro)
  | (refine' ite_f (by decide +kernel) ?_) | (refine' ite_t (by decide +kernel) ?_) | (refine' ite_f (dstr_ne (by assumption)) ?_) | (refine' ite_t (dstr_eq (by assumption)) ?_)
  | (exact SqT.of upd_same) | (exact SqL.of upd_same) | (exact SqL.of (by assumption)) | (exact SqT.of (by assumption)) | (exact dget_s (by assumption) (by assumption)) | (exact dget_f (by assumption) (by assumption))
  | (exact Or.inl (by assumption)) | (exact Or.inr (by assumption)) | (exact Or.inl (SqL.of (by assumption))) | (exact Or.inr (SqT.of (by assumption))) | rfl)
local macro_rules | `(tactic| walk_at "go") => `(tactic| repeat' walk_at "go1")

/-! ### the object of a run -/
structure TxC (K : PySem.W.Frag) (C : Addr) : Prop where
  cl : Cls K C
  nw : NoAttr K C "width"
  nl : NoAttr K C "look"
  nf : NoAttr K C "fuel"
  ns : NoAttr K C "steps"
  nm : NoAttr K C "marks"
  nu : NoAttr K C "under_way"
structure TxC2 (K : PySem.W.Frag) (C : Addr) : Prop where
  cl : Cls K C
  nb : NoAttr K C "body"
  no : NoAttr K C "owner"
  ng : NoAttr K C "begun"
def rnF (wd F st mx : Nat) (la ua : Addr) : List (Str × V) := [("width", .int wd), ("look", .ref la), ("fuel", .int F), ("steps", .int st), ("marks", .int mx), ("under_way", .ref ua)]
def frF (bv ov : V) (i : Int) : List (Str × V) := [("body", bv), ("owner", ov), ("begun", .int i)]
section
variable {wd F st mx : Nat} {la ua : Addr} {bv ov : V} {i j : Int}
theorem rn_w : (rnF wd F st mx la ua).lookup ("width" : Str) = some (.int wd) := by kernel_rfl
theorem rn_l : (rnF wd F st mx la ua).lookup ("look" : Str) = some (.ref la) := by kernel_rfl
theorem rn_f : (rnF wd F st mx la ua).lookup ("fuel" : Str) = some (.int F) := by kernel_rfl
theorem rn_s : (rnF wd F st mx la ua).lookup ("steps" : Str) = some (.int st) := by kernel_rfl
theorem rn_m : (rnF wd F st mx la ua).lookup ("marks" : Str) = some (.int mx) := by kernel_rfl
theorem rn_u : (rnF wd F st mx la ua).lookup ("under_way" : Str) = some (.ref ua) := by kernel_rfl
theorem rn_value : (rnF wd F st mx la ua).lookup ("value" : Str) = none := by kernel_rfl
theorem rn_begin : (rnF wd F st mx la ua).lookup ("begin" : Str) = none := by kernel_rfl
theorem rn_end : (rnF wd F st mx la ua).lookup ("end" : Str) = none := by kernel_rfl
theorem rn_put_s (n : Nat) : putF "steps" (.int n) (rnF wd F st mx la ua) = rnF wd F n mx la ua := by kernel_rfl
theorem rn_put_m (n : Nat) : putF "marks" (.int n) (rnF wd F st mx la ua) = rnF wd F st n la ua := by kernel_rfl
theorem fr_b : (frF bv ov i).lookup ("body" : Str) = some bv := by kernel_rfl
theorem fr_o : (frF bv ov i).lookup ("owner" : Str) = some ov := by kernel_rfl
theorem fr_g : (frF bv ov i).lookup ("begun" : Str) = some (.int i) := by kernel_rfl
theorem fr_put : putF "begun" (.int j) (frF bv ov i) = frF bv ov j := by kernel_rfl
end
def OwV (K : PySem.W.Frag) (H : Hp) (v : V) : Option PS → Prop
  | none => v = .non
  | some p => Rp K H v p.d
def FrV (K : PySem.W.Frag) (C2 : Addr) (H : Hp) (a : Addr) (f : PFr) : Prop := ∃ dx bv ov, H a = some (.ins C2 dx (frF bv ov f.i)) ∧ Rp K H bv (.tuple (pbd f.all)) ∧ OwV K H ov f.own
def FrsV (K : PySem.W.Frag) (C2 : Addr) (H : Hp) : List Addr → List PFr → Prop
  | [], [] => True
  | a :: as, f :: fs => FrV K C2 H a f ∧ FrsV K C2 H as fs
  | _, _ => False
section
variable {K : PySem.W.Frag} {C C2 : Addr} {H H' : Hp}
theorem tkeep_upd {a : Addr} {o : HO} (n1 : ∀ xs, H a ≠ some (.tup xs)) (n2 : ∀ o u, H a ≠ some (.frz o u)) : TKeep K H (upd H a o) := by
  intro p xs h
  rcases h with (h | ⟨u, h⟩) | h
  · exact .inl (.inl (by rw [upd_ne (fun z => n1 xs (by rw [← z]; exact h))]; exact h))
  · exact .inl (.inr ⟨u, by rw [upd_ne (fun z => n2 _ _ (by rw [← z]; exact h))]; exact h⟩)
  · exact .inr h
theorem OwV.keep (k : TKeep K H H') {v : V} : ∀ {o : Option PS}, OwV K H v o → OwV K H' v o
  | none, h => h
  | some p, h => rp_ofT k h
theorem FrsV.keep (k : TKeep K H H') : ∀ {as : List Addr} {fs : List PFr}, (∀ a ∈ as, H' a = H a) → FrsV K C2 H as fs → FrsV K C2 H' as fs
  | [], [], _, _ => trivial
  | a :: as, f :: fs, e, ⟨⟨dx, bv, ov, h1, h2, h3⟩, h⟩ => ⟨⟨dx, bv, ov, by rw [e a (List.mem_cons_self ..)]; exact h1, rp_ofT k h2, h3.keep k⟩, FrsV.keep k (fun b hb => e b (List.mem_cons_of_mem _ hb)) h⟩
  | [], _ :: _, _, h => h.elim
  | _ :: _, [], _, h => h.elim
theorem FrsV.len : ∀ {as : List Addr} {fs : List PFr}, FrsV K C2 H as fs → as.length = fs.length
  | [], [], _ => rfl
  | a :: as, f :: fs, ⟨_, h⟩ => congrArg (· + 1) h.len
  | [], _ :: _, h => h.elim
  | _ :: _, [], h => h.elim
theorem FrsV.ins : ∀ {as : List Addr} {fs : List PFr}, FrsV K C2 H as fs → ∀ a ∈ as, ∃ dx fs, H a = some (.ins C2 dx fs)
  | [], [], _, _, h => by cases h
  | a :: as, f :: fs, ⟨⟨dx, bv, ov, h1, _⟩, h⟩, b, hb => by
    rcases List.mem_cons.mp hb with rfl | hb
    · exact ⟨_, _, h1⟩
    · exact h.ins b hb
  | [], _ :: _, h, _, _ => h.elim
  | _ :: _, [], h, _, _ => h.elim
end
def lkK (lk : Lk) : List (Key × V) := [(.inr "x", .int (lk "x")), (.inr "y", .int (lk "y")), (.inr "n", .int (lk "n")), (.inr "k", .int (lk "k"))]
theorem lk_get {lk : Lk} {x : Str} (h : x ∈ four4) : valV (lkK lk) (.inr x) = some (.int (lk x)) := by
  rcases four_in h with rfl | rfl | rfl | rfl
  · kernel_rfl
  · kernel_rfl
  · kernel_rfl
  · kernel_rfl
theorem lk_put {lk : Lk} {x : Str} {v : Int} (h : x ∈ four4) : putK (lkK lk) (.inr x) (.int v) = lkK (lk.put x v) := by
  rcases four_in h with rfl | rfl | rfl | rfl
  · kernel_rfl
  · kernel_rfl
  · kernel_rfl
  · kernel_rfl
structure RnV (K : PySem.W.Frag) (C C2 : Addr) (H0 H : Hp) (p la ua : Addr) (as : List Addr) (wd F : Nat) (c : PMc) : Prop where
  k : KT [] H0 H
  z : H0 p = none ∧ H0 la = none ∧ H0 ua = none ∧ ∀ a ∈ as, H0 a = none
  o : ∃ dx, H p = some (.ins C dx (rnF wd F c.st c.mx la ua))
  l : H la = some (.dK (lkK c.lk))
  u : H ua = some (.lst (as.reverse.map V.ref))
  f : FrsV K C2 H as c.fr
  nd : as.Nodup
  np : p ∉ as
def RnE (K : PySem.W.Frag) (C C2 : Addr) (H0 H : Hp) (p : Addr) (wd F : Nat) (c : PMc) : Prop := ∃ la ua as, RnV K C C2 H0 H p la ua as wd F c
section
variable {K : PySem.W.Frag} {C C2 : Addr} {H0 H H' : Hp} {p la ua : Addr} {as : List Addr} {wd F : Nat} {c : PMc}
theorem RnV.keep (h : RnV K C C2 H0 H p la ua as wd F c) (k : KT [] H H') : RnV K C C2 H0 H' p la ua as wd F c :=
  ⟨h.k.trans k, h.z, let ⟨dx, e⟩ := h.o; ⟨dx, k.s0 e⟩, k.s0 h.l, k.s0 h.u, h.f.keep (fun _ _ => k.sqT) (fun a ha => by
    obtain ⟨dx, fs, e⟩ := h.f.ins a ha
    rw [e]
    exact k.s0 e), h.nd, h.np⟩
theorem RnV.look (h : RnV K C C2 H0 H p la ua as wd F c) : LookV K H la nm4 c.lk.en := by
  refine ⟨_, h.l, fun x s hs => ?_⟩
  obtain ⟨h1, rfl⟩ := nm4_in hs
  exact ⟨fun _ => lk_get h1, fun z => absurd z (by decide)⟩
/-- the numbers change -/
theorem RnV.num (h : RnV K C C2 H0 H p la ua as wd F c) (dx : Addr) (st mx : Nat) : RnV K C C2 H0 (upd H p (.ins C dx (rnF wd F st mx la ua))) p la ua as wd F { c with st := st, mx := mx } := by
  obtain ⟨dx0, e⟩ := h.o
  have el := h.l
  refine ⟨h.k.late h.z.1, h.z, ⟨dx, upd_same⟩, by rw [upd_ne (fun z => by rw [z, e] at el; cases el)]; exact el, ?_, ?_, h.nd, h.np⟩
  · have := h.u
    rw [upd_ne (fun z => by rw [z, e] at this; cases this)]
    exact this
  · refine h.f.keep (tkeep_upd (fun xs z => by rw [e] at z; cases z) (fun o u z => by rw [e] at z; cases z)) (fun a ha => upd_ne (fun z => h.np (by rw [← z]; exact ha)))
/-- a name is set -/
theorem RnV.set (h : RnV K C C2 H0 H p la ua as wd F c) {x : Str} {v : Int} (hx : x ∈ four4) : RnV K C C2 H0 (upd H la (.dK (lkK (c.lk.put x v)))) p la ua as wd F { c with lk := c.lk.put x v } := by
  obtain ⟨dx0, e⟩ := h.o
  have el := h.l
  refine ⟨h.k.late h.z.2.1, h.z, ⟨dx0, by rw [upd_ne (fun z => by rw [z, el] at e; cases e)]; exact e⟩, upd_same, ?_, ?_, h.nd, h.np⟩
  · have := h.u
    rw [upd_ne (fun z => by rw [z, el] at this; cases this)]
    exact this
  · refine h.f.keep (tkeep_upd (fun xs z => by rw [el] at z; cases z) (fun o u z => by rw [el] at z; cases z)) (fun a ha => upd_ne (fun z => by
      obtain ⟨dx, fs, e⟩ := h.f.ins a ha
      rw [z, el] at e
      cases e))
/-- the top is left -/
theorem RnV.pop {a : Addr} {f : PFr} {r : List PFr} (h : RnV K C C2 H0 H p la ua (a :: as) wd F ⟨c.lk, c.st, c.mx, f :: r⟩) : RnV K C C2 H0 (upd H ua (.lst (as.reverse.map V.ref))) p la ua as wd F ⟨c.lk, c.st, c.mx, r⟩ := by
  obtain ⟨dx0, e⟩ := h.o
  have el := h.l
  have eu := h.u
  refine ⟨h.k.late h.z.2.2.1, ⟨h.z.1, h.z.2.1, h.z.2.2.1, fun b hb => h.z.2.2.2 b (List.mem_cons_of_mem _ hb)⟩, ⟨dx0, by rw [upd_ne (fun z => by rw [z, eu] at e; cases e)]; exact e⟩, ?_, upd_same, ?_, (List.nodup_cons.mp h.nd).2, fun z => h.np (List.mem_cons_of_mem _ z)⟩
  · rw [upd_ne (fun z => by rw [z, eu] at el; cases el)]
    exact el
  · refine h.f.2.keep (tkeep_upd (fun xs z => by rw [eu] at z; cases z) (fun o u z => by rw [eu] at z; cases z)) (fun a ha => upd_ne (fun z => by
      obtain ⟨dx, fs, e⟩ := h.f.2.ins a ha
      rw [z, eu] at e
      cases e))
/-- the top goes on -/
theorem RnV.tick {a dx : Addr} {f : PFr} {r : List PFr} {bv ov : V} (h : RnV K C C2 H0 H p la ua (a :: as) wd F ⟨c.lk, c.st, c.mx, f :: r⟩) (e : H a = some (.ins C2 dx (frF bv ov f.i))) (h1 : Rp K H bv (.tuple (pbd f.all))) (h2 : OwV K H ov f.own) :
    RnV K C C2 H0 (upd H a (.ins C2 dx (frF bv ov (f.i + 1 : Nat)))) p la ua (a :: as) wd F ⟨c.lk, c.st, c.mx, ⟨f.all, f.i + 1, f.own⟩ :: r⟩ := by
  obtain ⟨dx0, eo⟩ := h.o
  have el := h.l
  have eu := h.u
  have tk : TKeep K H (upd H a (.ins C2 dx (frF bv ov (f.i + 1 : Nat)))) := tkeep_upd (fun xs z => by rw [e] at z; cases z) (fun o u z => by rw [e] at z; cases z)
  refine ⟨h.k.late (h.z.2.2.2 a (List.mem_cons_self ..)), h.z, ⟨dx0, by rw [upd_ne (fun z => h.np (by rw [z]; exact List.mem_cons_self ..))]; exact eo⟩, ?_, ?_, ⟨⟨dx, bv, ov, upd_same, rp_ofT tk h1, h2.keep tk⟩, ?_⟩, h.nd, h.np⟩
  · rw [upd_ne (fun z => by rw [z, e] at el; cases el)]
    exact el
  · rw [upd_ne (fun z => by rw [z, e] at eu; cases eu)]
    exact eu
  · exact h.f.2.keep tk (fun b hb => upd_ne (fun z => (List.nodup_cons.mp h.nd).1 (by rw [← z]; exact hb)))
/-- a body more -/
theorem RnV.push {a dx : Addr} {f : PFr} {bv ov : V} (h : RnV K C C2 H0 H p la ua as wd F c) (na : H0 a = none) (pa : a ∉ as) (pp : p ≠ a) (e : H a = some (.ins C2 dx (frF bv ov f.i))) (h1 : Rp K H bv (.tuple (pbd f.all))) (h2 : OwV K H ov f.own) :
    RnV K C C2 H0 (upd H ua (.lst (as.reverse.map V.ref ++ [.ref a]))) p la ua (a :: as) wd F ⟨c.lk, c.st, c.mx, f :: c.fr⟩ := by
  obtain ⟨dx0, eo⟩ := h.o
  have el := h.l
  have eu := h.u
  have tk : TKeep K H (upd H ua (.lst (as.reverse.map V.ref ++ [.ref a]))) := tkeep_upd (fun xs z => by rw [eu] at z; cases z) (fun o u z => by rw [eu] at z; cases z)
  refine ⟨h.k.late h.z.2.2.1, ⟨h.z.1, h.z.2.1, h.z.2.2.1, fun b hb => ?_⟩, ⟨dx0, by rw [upd_ne (fun z => by rw [z, eu] at eo; cases eo)]; exact eo⟩, ?_, ?_, ⟨⟨dx, bv, ov, by rw [upd_ne (fun z => by rw [z, eu] at e; cases e)]; exact e, rp_ofT tk h1, h2.keep tk⟩, ?_⟩, List.nodup_cons.mpr ⟨pa, h.nd⟩, fun z => ?_⟩
  · rcases List.mem_cons.mp hb with rfl | hb
    · exact na
    · exact h.z.2.2.2 b hb
  · rw [upd_ne (fun z => by rw [z, eu] at el; cases el)]
    exact el
  · rw [upd_same, List.reverse_cons, List.map_append]
    rfl
  · refine h.f.keep tk (fun b hb => upd_ne (fun z => by
      obtain ⟨dx, fs, e⟩ := h.f.ins b hb
      rw [z, eu] at e
      cases e))
  · rcases List.mem_cons.mp z with z | z
    · exact pp z
    · exact h.np z
end
/-! how deep -/
def FOk (wd h : Nat) (f : PFr) : Prop := PBk wd f.all ∧ pdp f.all + h ≤ 4 ∧ ∀ p, f.own = some p → POk wd p ∧ p.dp + h ≤ 5 ∧ ∀ x e, p ≠ .set x e
def FrsOk (wd : Nat) : List PFr → Prop
  | [] => True
  | f :: r => FOk wd r.length f ∧ FrsOk wd r
theorem FrsOk.len {wd : Nat} : ∀ {fs : List PFr}, FrsOk wd fs → fs.length ≤ 5
  | [], _ => Nat.zero_le _
  | f :: r, ⟨⟨_, h, _⟩, _⟩ => by show r.length + 1 ≤ 5; omega
theorem begP_ok {wd : Nat} {p : PS} {c : PMc} (w1 : 1 ≤ wd) (po : POk wd p) (pd : p.dp + c.fr.length ≤ 5) (l : LkOk wd c.lk) (f : FrsOk wd c.fr) : LkOk wd (begP wd p c).lk ∧ FrsOk wd (begP wd p c).fr := by
  cases p with
  | set x e =>
    obtain ⟨_, eo⟩ := po
    have vi := val_in w1 l.en eo.1
    exact ⟨l.put vi.1 vi.2, f⟩
  | ite e a b =>
    obtain ⟨eo, oa, ob⟩ := id po
    have pd2 : max (pdp a) (pdp b) + 1 + c.fr.length ≤ 5 := pd
    refine ⟨l, ⟨?_, ?_, fun q hq => ?_⟩, f⟩
    · show PBk wd (if _ then a else b)
      split
      · exact oa
      · exact ob
    · show pdp (if _ then a else b) + c.fr.length ≤ 4
      split <;> omega
    · cases hq
      exact ⟨po, pd, fun _ _ z => by cases z⟩
  | whl e a =>
    obtain ⟨eo, oa⟩ := id po
    have pd2 : pdp a + 1 + c.fr.length ≤ 5 := pd
    show LkOk wd (PMc.lk (if _ then _ else _)) ∧ FrsOk wd (PMc.fr (if _ then _ else _))
    split
    · refine ⟨l, ⟨oa, by show pdp a + c.fr.length ≤ 4; omega, fun q hq => ?_⟩, f⟩
      cases hq
      exact ⟨po, pd, fun _ _ z => by cases z⟩
    · exact ⟨l, f⟩

end My

set_option Elab.async false
set_option linter.all false
set_option maxRecDepth 100000
set_option maxHeartbeats 4000000
namespace My
open PySem PySem.Spec PyProof.Rows L2
local macro_rules | `(tactic| walk_at "asm") => `(tactic| (refine' of_eq_true (eq_true ?_); assumption))
local macro_rules | `(tactic| walk_at "go1") => `(tactic| first
  | (with_reducible rfl) | walk_at "asm" | (apply And.intro) | (apply Exists.intro)
  | (refine' ite_f (by decide +kernel) ?_) | (refine' ite_t (by decide +kernel) ?_) | (refine' ite_f (dstr_ne (by assumption)) ?_) | (refine' ite_t (dstr_eq (by assumption)) ?_)
  | (exact SqT.of upd_same) | (exact SqL.of upd_same) | (exact SqL.of (by assumption)) | (exact SqT.of (by assumption)) | (exact dget_s (by assumption) (by assumption)) | (exact dget_f (by assumption) (by assumption))
  | (exact Or.inl (by assumption)) | (exact Or.inr (by assumption)) | (exact Or.inl (SqL.of (by assumption))) | (exact Or.inr (SqT.of (by assumption))) | rfl)
local macro_rules | `(tactic| walk_at "go") => `(tactic| repeat' walk_at "go1")

section
variable {P : Program} {w : World} {K : PySem.W.Frag} {mg : Str → Option Value} {base : Heap} {C C2 : Addr}
def spBody0 (C2 : Addr) : Sp := fun vs H Q _ => ∃ (x dx : Addr) (bv ov : V), vs = [.ref x, bv, ov] ∧ H x = some (.ins C2 dx []) ∧ Q .non (upd H x (.ins C2 dx (frF bv ov 0)))
theorem ok_body0 (T : Txt K mg) (TC2 : TxC2 K C2) (TM2 : TxM2 K mg C2) : FnOk P w K mg base CX0 1 TM2.f_PlainBody___init__ TM2.d_PlainBody___init__ ["self", "body", "owner"] (spBody0 C2) := by
  refine TM2.F_PlainBody___init__.ok sc_PlainBody___init__ (fun vs H Q E h => ?_) (fun cdv A outer s H vs Q E hr h => ?_)
  · obtain ⟨x, dx, bv, ov, rfl, _⟩ := h
    rfl
  · obtain ⟨x, dx, bv, ov, rfl, hx, q⟩ := h
    refine ⟨_, (pss_cons (ps_fld (pv 0) (pv 1) rfl)
      (pss_cons (ps_fld (pv 0) (pv 2) rfl)
      (pss_one (ps_fld (pv 0) pe_int rfl)))), ?_⟩
    refine ⟨_, rfl, _, rfl, x, C2, dx, _, rfl, hx, TC2.cl, TC2.nb, (by decide), ?_⟩
    refine ⟨_, rfl, _, rfl, x, C2, dx, _, rfl, upd_same, TC2.cl, TC2.no, (by show 1 < 1000; decide), ?_⟩
    rw [upd_upd]
    refine ⟨_, rfl, x, C2, dx, _, rfl, upd_same, TC2.cl, TC2.ng, (by show 2 < 1000; decide), ?_⟩
    rw [upd_upd]
    exact q
def spVal0 (K : PySem.W.Frag) (C C2 : Addr) : Sp := fun vs H Q _ => ∃ (H0 : Hp) (p : Addr) (v : V) (wd F : Nat) (c : PMc) (e : Ex), vs = [.ref p, v] ∧ RnE K C C2 H0 H p wd F c ∧ Rp K H v e.d ∧ EO wd nm4 e ∧ LkOk wd c.lk ∧ 1 ≤ wd ∧ wd ≤ 32 ∧ Q (.int (e.val wd c.lk.en)) H
theorem ok_val0 (T : Txt K mg) (TC : TxC K C) (TM : TxM K mg C) : FnOk P w K mg base CX0 13 TM.f_PlainRun_value TM.d_PlainRun_value ["self", "expression"] (spVal0 K C C2) := by
  have G_value_of := ok_value_of (P := P) (w := w) (base := base) T 4
  refine TM.F_PlainRun_value.ok sc_PlainRun_value (fun vs H Q E h => ?_) (fun cdv A outer s H vs Q E hr h => ?_)
  · obtain ⟨H0, p, v, wd, F, c, e, rfl, _⟩ := h
    rfl
  · obtain ⟨H0, p, v, wd, F, c, e, rfl, ⟨la, ua, as, R⟩, hv, eo, lo, w1, w2, q⟩ := h
    have hr : Room 12 _ := hr
    obtain ⟨dx, ho⟩ := R.o
    refine ⟨_, (pss_one (ps_ret (pe_call G_value_of (hr.mono (by omega)) (by rfl) T.g_value_of T.F_value_of.kp T.b_value_of .nil pass0 (pa_cons (pe_fld (pv 0) rfl) (pa_cons (pv 1) (pa_cons (pe_fld (pv 0) rfl) pa_nil)))))), ?_⟩
    refine ⟨_, rfl, p, C, dx, _, _, rfl, ho, TC.cl, TC.nw, rn_w, _, rfl, _, rfl, p, C, dx, _, _, rfl, ho, TC.cl, TC.nl, rn_l, ?_⟩
    exact ⟨wd, v, la, e, nm4, c.lk.en, rfl, hv, eo.1, lo.en, w1, w2, eo.2, R.look, q⟩
theorem RnV.more {H0 H : Hp} {p la ua x dx : Addr} {as : List Addr} {wd F : Nat} {c : PMc} {bv ov : V} {b : List PS} {own : Option PS} (R : RnV K C C2 H0 H p la ua as wd F c) (nx : H x = none) (nd : H dx = none) (ne : dx ≠ x) (h1 : Rp K H bv (.tuple (pbd b))) (h2 : OwV K H ov own) :
    upd (upd (upd H dx (.own x)) x (.ins C2 dx [])) x (.ins C2 dx (frF bv ov 0)) ua = some (.lst (as.reverse.map V.ref)) ∧ RnV K C C2 H0 (upd (upd (upd (upd H dx (.own x)) x (.ins C2 dx [])) x (.ins C2 dx (frF bv ov 0))) ua (.lst (as.reverse.map V.ref ++ [.ref x]))) p la ua (x :: as) wd F ⟨c.lk, c.st, c.mx, ⟨b, 0, own⟩ :: c.fr⟩ := by
  rw [upd_upd]
  have k1 : KT [] H (upd H dx (.own x)) := KT.new _ nd
  have nx2 : (upd H dx (.own x)) x = none := by rw [upd_ne (Ne.symm ne)]; exact nx
  have k2 : KT [] H (upd (upd H dx (.own x)) x (.ins C2 dx (frF bv ov 0))) := k1.trans (KT.new _ nx2)
  have R2 := R.keep k2
  refine ⟨R2.u, ?_⟩
  refine R2.push (f := ⟨b, 0, own⟩) (dx := dx) (bv := bv) (ov := ov) (R.k.free nx) (fun z => ?_) (fun z => ?_) upd_same (h1.keep k2) (h2.keep (fun _ _ => k2.sqT))
  · obtain ⟨d2, fs, e⟩ := R.f.ins x z
    rw [nx] at e
    cases e
  · obtain ⟨d2, e⟩ := R.o
    rw [z, nx] at e
    cases e
theorem put_mx {wd F st mx : Nat} {la ua : Addr} : putF "marks" (.int ((mx : Int) + 1)) (rnF wd F st mx la ua) = rnF wd F st (mx + 1) la ua := rn_put_m (mx + 1)
theorem put_st {wd F st mx : Nat} {la ua : Addr} : putF "steps" (.int ((st : Int) + 1)) (rnF wd F st mx la ua) = rnF wd F (st + 1) mx la ua := rn_put_s (st + 1)
def spBeg (K : PySem.W.Frag) (C C2 : Addr) : Sp := fun vs H Q _ => ∃ (H0 : Hp) (p : Addr) (v : V) (wd F : Nat) (c : PMc) (q : PS), vs = [.ref p, v] ∧ RnE K C C2 H0 H p wd F c ∧ Rp K H v q.d ∧ POk wd q ∧ q.dp + c.fr.length ≤ 5 ∧ LkOk wd c.lk ∧ FrsOk wd c.fr ∧ 1 ≤ wd ∧ wd ≤ 32 ∧ ∀ H', RnE K C C2 H0 H' p wd F (begP wd q c) → Q .non H'
theorem ok_beg (T : Txt K mg) (TC : TxC K C) (TM : TxM K mg C) (TC2 : TxC2 K C2) (TM2 : TxM2 K mg C2) : FnOk P w K mg base CX0 14 TM.f_PlainRun_begin TM.d_PlainRun_begin ["self", "statement"] (spBeg K C C2) := by
  have G_PlainRun_value := ok_val0 (P := P) (w := w) (base := base) (C2 := C2) T TC TM
  have G_PlainBody___init__ := ok_body0 (P := P) (w := w) (base := base) T TC2 TM2
  refine TM.F_PlainRun_begin.ok sc_PlainRun_begin (fun vs H Q E h => ?_) (fun cdv A outer s H vs Q E hr h => ?_)
  · obtain ⟨H0, p, v, wd, F, c, q, rfl, _⟩ := h
    rfl
  · obtain ⟨H0, p, v, wd, F, c, pq, rfl, R0, hv, po, dpo, lo, fo, w1, w2, q⟩ := h
    have hr : Room 13 _ := hr
    obtain ⟨la, ua, as, R⟩ := id R0
    obtain ⟨dx, ho⟩ := R.o
    have ul : (as.reverse.map V.ref).length < sizeLine := by
      rw [List.length_map, List.length_reverse, R.f.len]
      exact Nat.lt_of_le_of_lt fo.len (by decide)
    refine ⟨_, (pss_one (ps_if (pt_cmpR op_eq (pe_ix ix_tup (pv 1) pe_int (fun _ _ => rfl)) pe_str (nomark _))
        (pss_cons (ps_dput (hu_of hr) (pe_fld (pv 0) rfl) (pe_ix ix_tup (pv 1) pe_int (fun _ _ => rfl)) (pe_meth (pv 0) TC.cl TM.m_PlainRun_value G_PlainRun_value (hr.mono (by omega)) TM.b_PlainRun_value .nil pass0 (pa_cons (pe_ix ix_tup (pv 1) pe_int (fun _ _ => rfl)) pa_nil)) rfl)
        (pss_one (ps_fldaug (pv 0) pe_int in_add)))
        (pss_one (ps_if (pt_cmpR op_eq (pe_ix ix_tup (pv 1) pe_int (fun _ _ => rfl)) pe_str (nomark _))
          (pss_cons (ps_set (i := 2) sc_PlainRun_begin.nd rfl (Or.inl rfl) (pe_cmpR op_ne (pe_meth (pv 0) TC.cl TM.m_PlainRun_value G_PlainRun_value (hr.mono (by omega)) TM.b_PlainRun_value .nil pass0 (pa_cons (pe_ix ix_tup (pv 1) pe_int (fun _ _ => rfl)) pa_nil)) pe_int (nomark _)))
          (pss_one (ps_expr (pe_bm PySem.F.plainAttrs_list PySem.F.slot_list_append PySem.F.type_list_append mt_append (pe_fld (pv 0) rfl) (pa_cons (pe_make TM2.mkc G_PlainBody___init__ (hr.mono (by omega)) (by rfl) TM2.gC TM2.b_PlainBody___init__ .nil pass0 (pa_cons (pe_ifExp (pt_val (pv 2)) (pe_ix ix_tup (pv 1) pe_int (fun _ _ => rfl)) (pe_ix ix_tup (pv 1) pe_int (fun _ _ => rfl))) (pa_cons (pv 1) pa_nil))) pa_nil)))))
          (pss_one (ps_if (pt_cmpR op_ne (pe_meth (pv 0) TC.cl TM.m_PlainRun_value G_PlainRun_value (hr.mono (by omega)) TM.b_PlainRun_value .nil pass0 (pa_cons (pe_ix ix_tup (pv 1) pe_int (fun _ _ => rfl)) pa_nil)) pe_int (nomark _))
            (pss_one (ps_expr (pe_bm PySem.F.plainAttrs_list PySem.F.slot_list_append PySem.F.type_list_append mt_append (pe_fld (pv 0) rfl) (pa_cons (pe_make TM2.mkc G_PlainBody___init__ (hr.mono (by omega)) (by rfl) TM2.gC TM2.b_PlainBody___init__ .nil pass0 (pa_cons (pe_ix ix_tup (pv 1) pe_int (fun _ _ => rfl)) (pa_cons (pv 1) pa_nil))) pa_nil))))
            (pss_one (ps_fldaug (pv 0) pe_int in_add)))))))), ?_⟩
    cases pq with
    | set x e =>
      obtain ⟨t, u, rfl, hs, hu⟩ := rp_set hv
      obtain ⟨hx4, eo⟩ := po
      refine ⟨_, rfl, _, _, _, _, rfl, rfl, hs, atI_0, rfl, _, rfl, ite_t (by decide +kernel) ?_⟩
      refine ⟨_, rfl, p, dx, _, rfl, ho, rn_value, _, rfl, _, _, _, _, rfl, rfl, hs, atI_nat (j := 2) rfl, ?_⟩
      refine ⟨H0, p, u, wd, F, c, e, rfl, R0, hu, eo, lo, w1, w2, ?_⟩
      refine ⟨_, rfl, p, C, dx, _, _, rfl, ho, TC.cl, TC.nl, rn_l, _, rfl, _, _, _, _, rfl, rfl, hs, atI_1, la, _, rfl, DPut.k (k := Sum.inr x) R.l (show 4 < sizeLine by decide), ?_⟩
      have R1 := R.set (v := e.val wd c.lk.en) hx4
      rw [lk_put hx4]
      generalize upd H la _ = H1 at R1 ⊢
      obtain ⟨dx1, ho1⟩ := R1.o
      refine ⟨_, rfl, p, C, dx1, _, _, rfl, ho1, TC.cl, TC.nm, rn_m, _, _, rfl, rfl, dx1, _, ho1, (by show 6 < 1000; decide), ?_⟩
      have R2 := R1.num dx1 c.st (c.mx + 1)
      exact q _ ⟨la, ua, as, R2⟩
    | ite e b1 b2 =>
      obtain ⟨t, u, t1, t2, rfl, hs, hu, h1, h2⟩ := rp_ite hv
      obtain ⟨eo, o1, o2⟩ := id po
      refine ⟨_, rfl, _, _, _, _, rfl, rfl, hs, atI_0, rfl, _, rfl, ite_f (by decide +kernel) ?_⟩
      refine ⟨_, rfl, _, _, _, _, rfl, rfl, hs, atI_0, rfl, _, rfl, ite_t (by decide +kernel) ?_⟩
      refine ⟨_, rfl, p, dx, _, rfl, ho, rn_value, _, rfl, _, _, _, _, rfl, rfl, hs, atI_1, ?_⟩
      refine ⟨H0, p, u, wd, F, c, e, rfl, R0, hu, eo, lo, w1, w2, ?_⟩
      refine ⟨rfl, ?_⟩
      refine ⟨_, rfl, p, C, dx, _, _, rfl, ho, TC.cl, TC.nu, rn_u, ?_⟩
      have nel : ∀ {b : Bool}, (!decide (V.int (e.val wd c.lk.en) = V.int 0)) = b → (b = true ↔ e.val wd c.lk.en ≠ 0) := fun h => by
        rw [← h]
        simp
      refine ⟨.inl ⟨rfl, _, SqL.of R.u⟩, ?_⟩
      refine ⟨_, rfl, _, rfl, ?_⟩
      refine ite2 (fun z => ?_) (fun z => ?_)
      · have vn := (nel rfl).mp z
        refine ⟨_, rfl, _, _, _, _, rfl, rfl, hs, atI_nat (j := 2) rfl, _, rfl, fun x dx2 nx ndx ne => ⟨x, dx2, _, _, rfl, upd_same, rfl, ?_⟩⟩
        obtain ⟨e1, R2⟩ := R.more (b := b1) (own := some (PS.ite e b1 b2)) nx ndx ne h1 hv
        refine ⟨ua, _, _, rfl, rfl, e1, ul, q _ ⟨la, ua, x :: as, ?_⟩⟩
        show RnV _ _ _ _ _ _ _ _ _ _ _ { c with fr := ⟨if e.val wd c.lk.en ≠ 0 then b1 else b2, 0, _⟩ :: c.fr }
        rw [if_pos vn]
        exact R2
      · have vn : ¬ e.val wd c.lk.en ≠ 0 := fun w => z ((nel rfl).mpr w)
        refine ⟨_, rfl, _, _, _, _, rfl, rfl, hs, atI_nat (j := 3) rfl, _, rfl, fun x dx2 nx ndx ne => ⟨x, dx2, _, _, rfl, upd_same, rfl, ?_⟩⟩
        obtain ⟨e1, R2⟩ := R.more (b := b2) (own := some (PS.ite e b1 b2)) nx ndx ne h2 hv
        refine ⟨ua, _, _, rfl, rfl, e1, ul, q _ ⟨la, ua, x :: as, ?_⟩⟩
        show RnV _ _ _ _ _ _ _ _ _ _ _ { c with fr := ⟨if e.val wd c.lk.en ≠ 0 then b1 else b2, 0, _⟩ :: c.fr }
        rw [if_neg vn]
        exact R2
    | whl e b1 =>
      obtain ⟨t, u, t1, rfl, hs, hu, h1⟩ := rp_whl hv
      obtain ⟨eo, o1⟩ := id po
      refine ⟨_, rfl, _, _, _, _, rfl, rfl, hs, atI_0, rfl, _, rfl, ite_f (by decide +kernel) ?_⟩
      refine ⟨_, rfl, _, _, _, _, rfl, rfl, hs, atI_0, rfl, _, rfl, ite_f (by decide +kernel) ?_⟩
      refine ⟨_, rfl, p, dx, _, rfl, ho, rn_value, _, rfl, _, _, _, _, rfl, rfl, hs, atI_1, ?_⟩
      refine ⟨H0, p, u, wd, F, c, e, rfl, R0, hu, eo, lo, w1, w2, ?_⟩
      refine ⟨rfl, _, rfl, ?_⟩
      refine ite2 (fun z => ?_) (fun z => ?_)
      · have vn : e.val wd c.lk.en ≠ 0 := fun w => by rw [w] at z; exact absurd z (by decide)
        refine ⟨_, rfl, p, C, dx, _, _, rfl, ho, TC.cl, TC.nu, rn_u, ?_⟩
        refine ⟨.inl ⟨rfl, _, SqL.of R.u⟩, ?_⟩
        refine ⟨_, rfl, _, _, _, _, rfl, rfl, hs, atI_nat (j := 2) rfl, _, rfl, fun x dx2 nx ndx ne => ⟨x, dx2, _, _, rfl, upd_same, rfl, ?_⟩⟩
        obtain ⟨e1, R2⟩ := R.more (b := b1) (own := some (PS.whl e b1)) nx ndx ne h1 hv
        refine ⟨ua, _, _, rfl, rfl, e1, ul, q _ ⟨la, ua, x :: as, ?_⟩⟩
        show RnV _ _ _ _ _ _ _ _ _ _ _ (if e.val wd c.lk.en ≠ 0 then _ else _)
        rw [if_pos vn]
        exact R2
      · have vn : ¬ e.val wd c.lk.en ≠ 0 := fun w => z (by simpa using w)
        refine ⟨_, rfl, p, C, dx, _, _, rfl, ho, TC.cl, TC.nm, rn_m, _, _, rfl, rfl, dx, _, ho, (by show 6 < 1000; decide), ?_⟩
        have R2 := R.num dx c.st (c.mx + 1)
        refine q _ ⟨la, ua, as, ?_⟩
        show RnV _ _ _ _ _ _ _ _ _ _ _ (if e.val wd c.lk.en ≠ 0 then _ else _)
        rw [if_neg vn]
        exact R2
end

end My

set_option Elab.async false
set_option linter.all false
set_option maxRecDepth 100000
set_option maxHeartbeats 4000000
namespace My
open PySem PySem.Spec PyProof.Rows L2
local macro_rules | `(tactic| walk_at "asm") => `(tactic| (refine' of_eq_true (eq_true ?_); assumption))
local macro_rules | `(tactic| walk_at "go1") => `(tactic| first
  | (with_reducible rfl) | walk_at "asm" | (apply And.intro) | (apply Exists.intro)
  | (refine' ite_f (by decide +kernel) ?_) | (refine' ite_t (by decide +kernel) ?_) | (refine' ite_f (dstr_ne (by assumption)) ?_) | (refine' ite_t (dstr_eq (by assumption)) ?_)
  | (exact SqT.of upd_same) | (exact SqL.of upd_same) | (exact SqL.of (by assumption)) | (exact SqT.of (by assumption)) | (exact dget_s (by assumption) (by assumption)) | (exact dget_f (by assumption) (by assumption))
  | (exact Or.inl (by assumption)) | (exact Or.inr (by assumption)) | (exact Or.inl (SqL.of (by assumption))) | (exact Or.inr (SqT.of (by assumption))) | rfl)
local macro_rules | `(tactic| walk_at "go") => `(tactic| repeat' walk_at "go1")

section
variable {P : Program} {w : World} {K : PySem.W.Frag} {mg : Str → Option Value} {base : Heap} {C C2 : Addr}
theorem gos_nil {w F n : Nat} {c d : PMc} (g : Gos w F n c d) (e : c.fr = []) : d = c := by
  cases g with
  | refl => rfl
  | step s _ => cases s <;> cases e
theorem gos_dry {w F n : Nat} {lk : Lk} {st mx : Nat} {f : PFr} {r : List PFr} {d : PMc} (g : Gos w F n ⟨lk, st, mx, f :: r⟩ d) (e : F ≤ st) (h : ¬ (f.fin ∧ f.soft)) : d = ⟨lk, st, mx, f :: r⟩ := by
  cases g with
  | refl => rfl
  | step s _ =>
    cases s with
    | pop h1 h2 => exact absurd ⟨h1, h2⟩ h
    | next h1 _ => omega
    | again h1 _ => omega
def endD (d : PMc) : PyData := .tuple [.str (if d.fr.isEmpty then "done" else "none")]
def spEnd (K : PySem.W.Frag) (C C2 : Addr) : Sp := fun vs H Q _ => ∃ (H0 : Hp) (p : Addr) (wd F n : Nat) (c d : PMc), vs = [.ref p] ∧ RnE K C C2 H0 H p wd F c ∧ LkOk wd c.lk ∧ FrsOk wd c.fr ∧ 1 ≤ wd ∧ wd ≤ 32 ∧ Gos wd F n c d ∧ (d.fr = [] ∨ Dry F d) ∧ ∀ H' v, RnE K C C2 H0 H' p wd F d → Rp K H' v (endD d) → Q v H'
theorem ok_end (T : Txt K mg) (TC : TxC K C) (TM : TxM K mg C) (TC2 : TxC2 K C2) (TM2 : TxM2 K mg C2) : FnOk P w K mg base CX0 15 TM.f_PlainRun_end TM.d_PlainRun_end ["self"] (spEnd K C C2) := by
  have G_PlainRun_begin := ok_beg (P := P) (w := w) (base := base) T TC TM TC2 TM2
  refine TM.F_PlainRun_end.ok sc_PlainRun_end (fun vs H Q E h => ?_) (fun cdv A outer s H vs Q E hr h => ?_)
  · obtain ⟨H0, p, wd, F, n, c, d, rfl, _⟩ := h
    rfl
  · obtain ⟨H0, p, wd, F, n, c, d, rfl, R0, lo, fo, w1, w2, gos, fin, q⟩ := h
    have hr : Room 14 _ := hr
    refine ⟨_, (pss_cons (ps_while PassesOwn.never (pt_truth (pe_fld (pv 0) rfl) (by intro _; rfl))
        (pss_cons (ps_set (i := 1) sc_PlainRun_end.nd rfl (Or.inl rfl) (pe_ix ix_list (pe_fld (pv 0) rfl) (pe_un un_neg pe_int) (fun _ _ => rfl)))
        (pss_cons (ps_set (i := 2) sc_PlainRun_end.nd rfl (Or.inl rfl) (pe_cmpR op_lt (pe_fld (pv 1) rfl) (pe_callB call_len_seq (by rfl) T.m_len (by decide +kernel) (pa_cons (pe_fld (pv 1) rfl) pa_nil)) (nomark _)))
        (pss_one (ps_if (pt_cut (PW.pt (pw_and (pt_not (pt_val (pv 2))) (pw_and1 (PW.pt (pw_or (pt_cmpR op_isN (pe_fld (pv 1) rfl) pe_non (nomark _)) (pw_or1 (pt_cmpR op_eq (pe_ix ix_tup (pe_fld (pv 1) rfl) pe_int (fun _ _ => rfl)) pe_str (nomark _)))))))))
          (pss_cons (ps_expr (pe_bm0 PySem.F.plainAttrs_list PySem.F.slot_list_pop PySem.F.type_list_pop mt_pop (pe_fld (pv 0) rfl)))
          (pss_one (ps_fldaug (pv 0) (pe_ifExp (pt_cmpR op_isN (pe_fld (pv 1) rfl) pe_non (nomark _)) pe_int pe_int) in_add)))
          (pss_one (ps_if (pt_cmpR op_ge (pe_fld (pv 0) rfl) (pe_fld (pv 0) rfl) (nomark _))
            (pss_one (ps_ret (pe_tup (pa_cons pe_str pa_nil))))
            (pss_one (ps_if (pt_val (pv 2))
              (pss_cons (ps_fldaug (pv 0) pe_int in_add)
              (pss_cons (ps_fldaug (pv 1) pe_int in_add)
              (pss_one (ps_expr (pe_meth (pv 0) TC.cl TM.m_PlainRun_begin G_PlainRun_begin (hr.mono (by omega)) TM.b_PlainRun_begin .nil pass0 (pa_cons (pe_ix ix_tup (pe_fld (pv 1) rfl) (pe_op op_sub (pe_fld (pv 1) rfl) pe_int) (fun _ _ => rfl)) pa_nil))))))
              (pss_cons (ps_fldaug (pv 0) pe_int in_add)
              (pss_cons (ps_expr (pe_bm0 PySem.F.plainAttrs_list PySem.F.slot_list_pop PySem.F.type_list_pop mt_pop (pe_fld (pv 0) rfl)))
              (pss_one (ps_expr (pe_meth (pv 0) TC.cl TM.m_PlainRun_begin G_PlainRun_begin (hr.mono (by omega)) TM.b_PlainRun_begin .nil pass0 (pa_cons (pe_fld (pv 1) rfl) pa_nil)))))))))))))))
      (pss_one (ps_ret (pe_tup (pa_cons pe_str pa_nil))))), ?_⟩
    refine ⟨fun m σ H1 => ∃ c x1 x2, σ = [some (.ref p), x1, x2] ∧ RnE K C C2 H0 H1 p wd F c ∧ LkOk wd c.lk ∧ FrsOk wd c.fr ∧ Gos wd F m c d, ⟨n, c, _, _, rfl, R0, lo, fo, gos⟩, ?_⟩
    rintro m σ H1 ⟨c1, x1, x2, rfl, R1, l1, f1, g1⟩
    obtain ⟨la, ua, as, R⟩ := id R1
    obtain ⟨dx, ho⟩ := R.o
    refine ⟨_, rfl, p, C, dx, _, _, rfl, ho, TC.cl, TC.nu, rn_u, ?_⟩
    obtain ⟨lk1, st1, mx1, fr1⟩ := c1
    cases as with
    | nil =>
      have e1 : fr1 = [] := List.eq_nil_of_length_eq_zero R.f.len.symm
      subst e1
      have hd := gos_nil g1 rfl
      subst hd
      refine ⟨false, .inl ⟨_, SqL.of R.u, rfl⟩, sz1, fun t nt => ?_⟩
      exact q _ _ ⟨la, ua, [], R.keep (KT.new [] nt)⟩ (.made nt (.cons (.str _) .nil))
    | cons a as =>
    cases fr1 with
    | nil => exact R.f.elim
    | cons f r =>
    have ho : H1 p = some (.ins C dx (rnF wd F st1 mx1 la ua)) := ho
    obtain ⟨⟨dxa, bv, ov, ha, hb, hov⟩, hfr⟩ := R.f
    obtain ⟨fo1, fo2⟩ := id f1
    have eu : (a :: as).reverse.map V.ref = as.reverse.map V.ref ++ [V.ref a] := by rw [List.reverse_cons, List.map_append]; rfl
    have hu := R.u
    rw [eu] at hu
    refine ⟨true, .inl ⟨_, SqL.of hu, by simp⟩, ?_⟩
    refine ⟨_, fun _ _ h => h, ?_⟩
    refine ⟨_, rfl, p, C, dx, _, _, rfl, ho, TC.cl, TC.nu, rn_u, _, rfl, _, _, _, _, rfl, rfl, SqL.of hu, atI_last _ _, ?_⟩
    obtain ⟨b, xs, rfl, hsb, hxs⟩ := Rp.inv hb
    have hlen : xs.length = f.all.length := by rw [hxs.length, pbd_map, List.length_map]
    refine ⟨_, rfl, a, C2, dxa, _, _, rfl, ha, TC2.cl, TC2.ng, fr_g, _, rfl, a, C2, dxa, _, _, rfl, ha, TC2.cl, TC2.nb, fr_b, b, xs, rfl, .inr hsb, _, _, rfl, rfl, ?_⟩
    have hn : decide ((f.i : Int) < (xs.length : Nat)) = decide (f.i < f.all.length) := by
      rw [hlen]
      by_cases z : f.i < f.all.length
      · rw [decide_eq_true z, decide_eq_true (by omega)]
      · rw [decide_eq_false z, decide_eq_false (by omega)]
    dsimp only
    rw [hn]
    refine ⟨fun b H' => H' = H1 ∧ (b = true ↔ f.fin ∧ f.soft), ?_, ?_⟩
    · refine ⟨_, rfl, _, rfl, ?_⟩
      by_cases z : f.i < f.all.length
      · rw [decide_eq_true z]
        refine ⟨rfl, (fun z => by cases z), fun ⟨z1, _⟩ => ?_⟩
        have : f.all.length ≤ f.i := z1
        omega
      · rw [decide_eq_false z]
        have zf : f.fin := by show f.all.length ≤ f.i; omega
        refine ⟨_, rfl, a, C2, dxa, _, _, rfl, ha, TC2.cl, TC2.no, fr_o, rfl, _, rfl, ?_⟩
        cases eo : f.own with
        | none =>
          rw [eo] at hov
          have hov : ov = .non := hov
          subst hov
          refine ite_t (by decide +kernel) ⟨rfl, fun _ => ⟨zf, by unfold PFr.soft; rw [eo]; trivial⟩, fun _ => rfl⟩
        | some pq =>
          rw [eo] at hov
          have hov : Rp K H1 ov pq.d := hov
          obtain ⟨po1, po2, po3⟩ := fo1.2.2 pq eo
          cases pq with
          | set x e => exact absurd rfl (po3 x e)
          | ite e b1 b2 =>
            obtain ⟨t, u, t1, t2, rfl, hs, _, _, _⟩ := rp_ite hov
            refine ite_f (by simp) ?_
            refine ⟨_, rfl, a, C2, dxa, _, _, rfl, ha, TC2.cl, TC2.no, fr_o, _, _, _, _, rfl, rfl, hs, atI_0, rfl, _, rfl, ?_⟩
            exact ⟨rfl, fun _ => ⟨zf, by unfold PFr.soft; rw [eo]; trivial⟩, fun _ => by decide +kernel⟩
          | whl e b1 =>
            obtain ⟨t, u, t1, rfl, hs, _, _⟩ := rp_whl hov
            refine ite_f (by simp) ?_
            refine ⟨_, rfl, a, C2, dxa, _, _, rfl, ha, TC2.cl, TC2.no, fr_o, _, _, _, _, rfl, rfl, hs, atI_0, rfl, _, rfl, ?_⟩
            refine ⟨rfl, fun w => absurd w (by decide +kernel), fun ⟨_, z2⟩ => ?_⟩
            unfold PFr.soft at z2
            rw [eo] at z2
            exact z2.elim
    rintro bb H1' ⟨rfl, hb0⟩
    refine ite2 (fun z => ?_) (fun z => ?_)
    · -- a body is left
      obtain ⟨zf, zs⟩ := hb0.mp z
      refine ⟨_, rfl, p, C, dx, _, _, rfl, ho, TC.cl, TC.nu, rn_u, .inl ⟨rfl, _, SqL.of hu⟩, ua, _, .ref a, rfl, rfl, hu, ?_, ?_⟩
      · rw [List.length_append, List.length_singleton, Nat.add_sub_cancel, List.getElem?_append_right (Nat.le_refl _), Nat.sub_self]
        rfl
      have R2 := RnV.pop (c := ⟨lk1, st1, mx1, f :: r⟩) R
      rw [List.dropLast_concat]
      have hav : ∃ dxa, (upd H1' ua (.lst (as.reverse.map V.ref))) a = some (.ins C2 dxa (frF (.ref b) ov f.i)) := ⟨dxa, by rw [upd_ne (fun z => by rw [z, hu] at ha; cases ha)]; exact ha⟩
      generalize upd H1' ua (.lst (as.reverse.map V.ref)) = H2 at R2 hav ⊢
      obtain ⟨dxb, ha2⟩ := hav
      obtain ⟨dx2, ho2⟩ := R2.o
      have R3 := R2.num dx2 st1 (mx1 + (if f.own.isNone then 0 else 1))
      obtain ⟨m', rfl, g2⟩ : ∃ m', m = m' + 1 ∧ Gos wd F m' ⟨lk1, st1, mx1 + (if f.own.isNone then 0 else 1), r⟩ d := by
        cases g1 with
        | refl =>
          rcases fin with fin | ⟨_, f0, r0, e0, fin⟩
          · cases fin
          · cases e0
            rcases fin with fin | fin
            · exact absurd zf fin
            · exact absurd zs fin
        | step sp g2 =>
          cases sp with
          | pop => exact ⟨_, rfl, g2⟩
          | next h1 h2 =>
            have := (List.getElem?_eq_some_iff.mp h2).1
            exact absurd this (Nat.not_lt_of_le zf)
          | again h1 h2 => exact zs.elim
      refine ⟨_, rfl, p, C, dx2, _, _, rfl, ho2, TC.cl, TC.nm, rn_m, ?_⟩
      refine ⟨_, rfl, a, C2, dxb, _, _, rfl, ha2, TC2.cl, TC2.no, fr_o, rfl, _, rfl, ?_⟩
      cases eo : f.own with
      | none =>
        rw [eo] at hov R3 g2
        have hov : ov = .non := hov
        subst hov
        refine ite_t (by decide +kernel) ⟨_, _, rfl, rfl, dx2, _, ho2, (by show 6 < 1000; decide), ?_⟩
        have e : putF "marks" (.int ((mx1 : Int) + 0)) (rnF wd F st1 mx1 la ua) = rnF wd F st1 (mx1 + 0) la ua := rn_put_m (mx1 + 0)
        exact ⟨m', Nat.lt_succ_self _, _, _, _, rfl, ⟨la, ua, as, R3⟩, l1, fo2, g2⟩
      | some pq =>
        rw [eo] at hov R3 g2
        have hov : Rp K H1' ov pq.d := hov
        have hno : ∃ t, ov = .ref t := by
          cases pq with
          | set x e => exact let ⟨t, _, h, _⟩ := rp_set hov; ⟨t, h⟩
          | ite e b1 b2 => exact let ⟨t, _, _, _, h, _⟩ := rp_ite hov; ⟨t, h⟩
          | whl e b1 => exact let ⟨t, _, _, h, _⟩ := rp_whl hov; ⟨t, h⟩
        obtain ⟨t, rfl⟩ := hno
        refine ite_f (by simp) ⟨_, _, rfl, rfl, dx2, _, ho2, (by show 6 < 1000; decide), ?_⟩
        exact ⟨m', Nat.lt_succ_self _, _, _, _, rfl, ⟨la, ua, as, R3⟩, l1, fo2, g2⟩
    -- on
    have zb : ¬ (f.fin ∧ f.soft) := fun w => z (hb0.mpr w)
    refine ⟨_, rfl, p, C, dx, _, _, rfl, ho, TC.cl, TC.ns, rn_s, _, rfl, p, C, dx, _, _, rfl, ho, TC.cl, TC.nf, rn_f, _, _, rfl, rfl, _, rfl, ite2 (fun zd => ?_) (fun zd => ?_)⟩
    · have zd : F ≤ st1 := by have : (F : Int) ≤ (st1 : Int) := of_decide_eq_true zd; omega
      have hd := gos_dry g1 zd zb
      subst hd
      refine ⟨sz1, fun t nt => ?_⟩
      exact q _ _ ⟨la, ua, _, R.keep (KT.new [] nt)⟩ (.made nt (.cons (.str _) .nil))
    have zd : st1 < F := by
      by_cases w : st1 < F
      · exact w
      · exact absurd (decide_eq_true (show (F : Int) ≤ (st1 : Int) by omega)) zd
    refine ⟨_, rfl, _, rfl, ite2 (fun zn => ?_) (fun zn => ?_)⟩
    · -- the next statement
      have zn := of_decide_eq_true zn
      have hpx : f.all[f.i]? = some f.all[f.i] := List.getElem?_eq_getElem zn
      obtain ⟨y, hy⟩ : ∃ y, xs[f.i]? = some y := ⟨_, List.getElem?_eq_getElem (by omega)⟩
      obtain ⟨dd, hdd, ry⟩ := hxs.get hy
      have edd : dd = (f.all[f.i]).d := by
        rw [pbd_map, List.getElem?_map, hpx] at hdd
        exact (Option.some.inj hdd).symm
      subst edd
      generalize hpp : f.all[f.i] = pq at hpx ry
      have po := pbk_get fo1.1 hpx
      have pdp' : pq.dp ≤ pdp f.all := pdp_mem (List.mem_of_getElem? hpx)
      refine ⟨_, rfl, p, C, dx, _, _, rfl, ho, TC.cl, TC.ns, rn_s, _, _, rfl, rfl, dx, _, ho, (by show 6 < 1000; decide), ?_⟩
      have R2 := R.num dx (st1 + 1) mx1
      have tk : TKeep K H1' (upd H1' p (.ins C dx (rnF wd F (st1 + 1) mx1 la ua))) := tkeep_upd (fun xs z => by rw [ho] at z; cases z) (fun o u z => by rw [ho] at z; cases z)
      have ha2 : (upd H1' p (.ins C dx (rnF wd F (st1 + 1) mx1 la ua))) a = some (.ins C2 dxa (frF (.ref b) ov f.i)) := by
        rw [upd_ne (fun w => R.np (by rw [← w]; exact List.mem_cons_self ..))]
        exact ha
      rw [put_st]
      generalize upd H1' p (.ins C dx (rnF wd F (st1 + 1) mx1 la ua)) = H2 at R2 tk ha2 ⊢
      refine ⟨_, rfl, a, C2, dxa, _, _, rfl, ha2, TC2.cl, TC2.ng, fr_g, _, _, rfl, rfl, dxa, _, ha2, (by show 3 < 1000; decide), ?_⟩
      have R3 := RnV.tick (c := ⟨lk1, st1 + 1, mx1, f :: r⟩) R2 ha2 (rp_ofT tk hb) (hov.keep tk)
      have ep : putF "begun" (.int ((f.i : Int) + 1)) (frF (.ref b) ov f.i) = frF (.ref b) ov (f.i + 1 : Nat) := fr_put
      rw [ep]
      have tk2 : TKeep K H2 (upd H2 a (.ins C2 dxa (frF (.ref b) ov (f.i + 1 : Nat)))) := tkeep_upd (fun xs z => by rw [ha2] at z; cases z) (fun o u z => by rw [ha2] at z; cases z)
      have ha3 : (upd H2 a (.ins C2 dxa (frF (.ref b) ov (f.i + 1 : Nat)))) a = some (.ins C2 dxa (frF (.ref b) ov (f.i + 1 : Nat))) := upd_same
      generalize upd H2 a (.ins C2 dxa (frF (.ref b) ov (f.i + 1 : Nat))) = H3 at R3 tk2 ha3 ⊢
      obtain ⟨dx3, ho3⟩ := R3.o
      have at_ : atI xs (((f.i + 1 : Nat) : Int) - 1) = some y := by
        rw [show ((f.i + 1 : Nat) : Int) - 1 = (f.i : Nat) by omega]
        exact atI_nat hy
      obtain ⟨m', rfl, g2⟩ : ∃ m', m = m' + 1 ∧ Gos wd F m' (begP wd pq ⟨lk1, st1 + 1, mx1, ⟨f.all, f.i + 1, f.own⟩ :: r⟩) d := by
        cases g1 with
        | refl =>
          rcases fin with fin | ⟨w1, _⟩
          · cases fin
          · have w1 : F ≤ st1 := w1
            omega
        | step sp g2 =>
          cases sp with
          | pop h1 h2 => exact absurd ⟨h1, h2⟩ zb
          | next h1 h2 =>
            rw [hpx] at h2
            cases h2
            exact ⟨_, rfl, g2⟩
          | again h1 h2 => exact absurd zn (Nat.not_lt_of_le h2)
      refine ⟨_, rfl, p, dx3, _, rfl, ho3, rn_begin, _, rfl, a, C2, dxa, _, _, rfl, ha3, TC2.cl, TC2.nb, fr_b, _, rfl, a, C2, dxa, _, _, rfl, ha3, TC2.cl, TC2.ng, fr_g, _, _, rfl, rfl, ?_⟩
      have f3 : FrsOk wd (⟨f.all, f.i + 1, f.own⟩ :: r) := ⟨fo1, fo2⟩
      have dq : pq.dp + (PFr.mk f.all (f.i + 1) f.own :: r).length ≤ 5 := by
        have := fo1.2.1
        show pq.dp + (r.length + 1) ≤ 5
        omega
      obtain ⟨b1, b2⟩ := begP_ok (c := ⟨lk1, st1 + 1, mx1, ⟨f.all, f.i + 1, f.own⟩ :: r⟩) w1 po dq l1 f3
      exact ⟨_, _, _, _, rfl, rfl, tk2 _ _ (tk _ _ hsb), at_, H0, p, y, wd, F, ⟨lk1, st1 + 1, mx1, ⟨f.all, f.i + 1, f.own⟩ :: r⟩, pq, rfl, ⟨la, ua, _, R3⟩, rp_ofT tk2 (rp_ofT tk ry), po, dq, l1, f3, w1, w2, fun H' R' => ⟨m', Nat.lt_succ_self _, _, _, _, rfl, R', b1, b2, g2⟩⟩
    · -- a while again
      have zf : f.fin := by
        have : ¬ f.i < f.all.length := fun w => zn (decide_eq_true w)
        show f.all.length ≤ f.i
        omega
      obtain ⟨al, ii, ow⟩ := f
      obtain ⟨e, b1, rfl⟩ : ∃ e b1, ow = some (PS.whl e b1) := by
        cases ow with
        | none => exact absurd ⟨zf, trivial⟩ zb
        | some pq =>
          cases pq with
          | set x e => exact absurd ⟨zf, trivial⟩ zb
          | ite e b1 b2 => exact absurd ⟨zf, trivial⟩ zb
          | whl e b1 => exact ⟨e, b1, rfl⟩
      have hov : Rp K H1' ov (PS.whl e b1).d := hov
      obtain ⟨po1, po2, _⟩ := fo1.2.2 _ rfl
      refine ⟨_, rfl, p, C, dx, _, _, rfl, ho, TC.cl, TC.ns, rn_s, _, _, rfl, rfl, dx, _, ho, (by show 6 < 1000; decide), ?_⟩
      have R2 := R.num dx (st1 + 1) mx1
      have tk : TKeep K H1' (upd H1' p (.ins C dx (rnF wd F (st1 + 1) mx1 la ua))) := tkeep_upd (fun xs z => by rw [ho] at z; cases z) (fun o u z => by rw [ho] at z; cases z)
      have ha2 : (upd H1' p (.ins C dx (rnF wd F (st1 + 1) mx1 la ua))) a = some (.ins C2 dxa (frF (.ref b) ov ii)) := by
        rw [upd_ne (fun w => R.np (by rw [← w]; exact List.mem_cons_self ..))]
        exact ha
      rw [put_st]
      generalize upd H1' p (.ins C dx (rnF wd F (st1 + 1) mx1 la ua)) = H2 at R2 tk ha2 ⊢
      obtain ⟨dx2, ho2⟩ := R2.o
      have hu2 := R2.u
      rw [eu] at hu2
      refine ⟨_, rfl, p, C, dx2, _, _, rfl, ho2, TC.cl, TC.nu, rn_u, .inl ⟨rfl, _, SqL.of hu2⟩, ua, _, .ref a, rfl, rfl, hu2, ?_, ?_⟩
      · rw [List.length_append, List.length_singleton, Nat.add_sub_cancel, List.getElem?_append_right (Nat.le_refl _), Nat.sub_self]
        rfl
      have R3 := RnV.pop (c := ⟨lk1, st1 + 1, mx1, []⟩) R2
      rw [List.dropLast_concat]
      have tk2 : TKeep K H2 (upd H2 ua (.lst (as.reverse.map V.ref))) := tkeep_upd (fun xs z => by rw [hu2] at z; cases z) (fun o u z => by rw [hu2] at z; cases z)
      have ha3 : (upd H2 ua (.lst (as.reverse.map V.ref))) a = some (.ins C2 dxa (frF (.ref b) ov ii)) := by
        rw [upd_ne (fun z => by rw [z, hu2] at ha2; cases ha2)]
        exact ha2
      generalize upd H2 ua (.lst (as.reverse.map V.ref)) = H3 at R3 tk2 ha3 ⊢
      obtain ⟨dx3, ho3⟩ := R3.o
      obtain ⟨m', rfl, g2⟩ : ∃ m', m = m' + 1 ∧ Gos wd F m' (begP wd (.whl e b1) ⟨lk1, st1 + 1, mx1, r⟩) d := by
        cases g1 with
        | refl =>
          rcases fin with fin | ⟨w1, _⟩
          · cases fin
          · have w1 : F ≤ st1 := w1
            omega
        | step sp g2 =>
          cases sp with
          | pop h1 h2 => exact absurd ⟨h1, h2⟩ zb
          | next h1 h2 => exact absurd (List.getElem?_eq_some_iff.mp h2).1 (Nat.not_lt_of_le zf)
          | again h1 h2 => exact ⟨_, rfl, g2⟩
      obtain ⟨c1, c2⟩ := begP_ok (c := ⟨lk1, st1 + 1, mx1, r⟩) w1 po1 po2 l1 fo2
      exact ⟨_, rfl, p, dx3, _, rfl, ho3, rn_begin, _, rfl, a, C2, dxa, _, _, rfl, ha3, TC2.cl, TC2.no, fr_o, H0, p, ov, wd, F, ⟨lk1, st1 + 1, mx1, r⟩, .whl e b1, rfl, ⟨la, ua, _, R3⟩, rp_ofT tk2 (rp_ofT tk hov), po1, po2, l1, fo2, w1, w2, fun H' R' => ⟨m', Nat.lt_succ_self _, _, _, _, rfl, R', c1, c2, g2⟩⟩
end

end My

set_option Elab.async false
set_option linter.all false
set_option maxRecDepth 100000
set_option maxHeartbeats 4000000
namespace My
open PySem PySem.Spec PyProof.Rows L2
local macro_rules | `(tactic| walk_at "asm") => `(tactic| (refine' of_eq_true (eq_true ?_); assumption))
local macro_rules | `(tactic| walk_at "go1") => `(tactic| first
  | (with_reducible rfl) | walk_at "asm" | (apply And.intro) | (apply Exists.intro)
  | (refine' ite_f (by decide +kernel) ?_) | (refine' ite_t (by decide +kernel) ?_) | (refine' ite_f (dstr_ne (by assumption)) ?_) | (refine' ite_t (dstr_eq (by assumption)) ?_)
  | (exact SqT.of upd_same) | (exact SqL.of upd_same) | (exact SqL.of (by assumption)) | (exact SqT.of (by assumption)) | (exact dget_s (by assumption) (by assumption)) | (exact dget_f (by assumption) (by assumption))
  | (exact Or.inl (by assumption)) | (exact Or.inr (by assumption)) | (exact Or.inl (SqL.of (by assumption))) | (exact Or.inr (SqT.of (by assumption))) | rfl)
local macro_rules | `(tactic| walk_at "go") => `(tactic| repeat' walk_at "go1")

section
variable {P : Program} {w : World} {K : PySem.W.Frag} {mg : Str → Option Value} {base : Heap} {C C2 : Addr}
theorem rpA_strs {H : Hp} : ∀ {xs : List Str} {vs : List V}, RpA K H vs (xs.map PyData.str) → vs = xs.map V.str
  | [], _, h => h.inv0
  | x :: r, _, h => by
    obtain ⟨v, t, rfl, h1, h2⟩ := h.inv
    rw [h1.sInv, rpA_strs h2]
    rfl
theorem rp_strs {H : Hp} {v : V} {xs : List Str} (h : Rp K H v (sD xs)) : ∃ a, v = .ref a ∧ SqT K H a (xs.map V.str) := by
  obtain ⟨a, vs, rfl, hs, ha⟩ := Rp.inv h
  rw [rpA_strs ha] at hs
  exact ⟨a, rfl, hs⟩
theorem rpA_ints {H : Hp} : ∀ {xs : List Int} {vs : List V}, RpA K H vs (xs.map PyData.int) → vs = xs.map V.int
  | [], _, h => h.inv0
  | x :: r, _, h => by
    obtain ⟨v, t, rfl, h1, h2⟩ := h.inv
    rw [h1.iInv, rpA_ints h2]
    rfl
theorem rp_ints {H : Hp} {v : V} {xs : List Int} (h : Rp K H v (.tuple (xs.map PyData.int))) : ∃ a, v = .ref a ∧ SqT K H a (xs.map V.int) := by
  obtain ⟨a, vs, rfl, hs, ha⟩ := Rp.inv h
  rw [rpA_ints ha] at hs
  exact ⟨a, rfl, hs⟩
def zeroK (i : Nat) : List (Key × V) := (four4.take i).map fun x => (Sum.inr x, V.int 0)
theorem zeroK_put {i : Nat} {x : Str} (h : four4[i]? = some x) : putK (zeroK i) (.inr x) (.int 0) = zeroK (i + 1) ∧ (zeroK i).length ≤ 4 := by
  have hi : i < 4 := (List.getElem?_eq_some_iff.mp h).1
  have : i = 0 ∨ i = 1 ∨ i = 2 ∨ i = 3 := by omega
  rcases this with rfl | rfl | rfl | rfl
  · cases h; exact ⟨by kernel_rfl, by decide⟩
  · cases h; exact ⟨by kernel_rfl, by decide⟩
  · cases h; exact ⟨by kernel_rfl, by decide⟩
  · cases h; exact ⟨by kernel_rfl, by decide⟩
theorem ins_four {ins : List Str} (h : ins ∈ insL) : ∀ x ∈ ins, x ∈ four4 := by
  have key : ∀ i ∈ insL, ∀ x ∈ i, x ∈ four4 := by decide +kernel
  exact key ins h
def lkZ (qs : List (Str × Int)) : Lk := qs.foldl (fun l q => l.put q.1 q.2) (fun _ => 0)
theorem lkZ_snoc (qs : List (Str × Int)) (q : Str × Int) : lkZ (qs ++ [q]) = (lkZ qs).put q.1 q.2 := by
  unfold lkZ
  rw [List.foldl_append]
  rfl
def spIni (K : PySem.W.Frag) (C C2 : Addr) : Sp := fun vs H Q _ => ∃ (H0 : Hp) (p dx : Addr) (v u : V) (wd F : Nat) (ins outs : List Str) (bs : List PS) (vals : List Int), vs = [.ref p, v, u, .int F] ∧ KT [] H0 H ∧ H0 p = none ∧ H p = some (.ins C dx []) ∧ Rp K H v (prD wd ins outs bs) ∧ OrdOk wd ins outs bs ∧ Rp K H u (.tuple (vals.map PyData.int)) ∧ vals.length = ins.length ∧
  ∀ H', RnE K C C2 H0 H' p wd F ⟨lkZ (ins.zip vals), 0, 0, [⟨bs, 0, none⟩]⟩ → Q .non H'
theorem ok_ini (T : Txt K mg) (TC : TxC K C) (TM : TxM K mg C) (TC2 : TxC2 K C2) (TM2 : TxM2 K mg C2) : FnOk P w K mg base CX0 3 TM.f_PlainRun___init__ TM.d_PlainRun___init__ ["self", "program", "values", "fuel"] (spIni K C C2) := by
  have G_PlainBody___init__ := ok_body0 (P := P) (w := w) (base := base) T TC2 TM2
  refine TM.F_PlainRun___init__.ok sc_PlainRun___init__ (fun vs H Q E h => ?_) (fun cdv A outer s H vs Q E hr h => ?_)
  · obtain ⟨H0, p, dx, v, u, wd, F, ins, outs, bs, vals, rfl, _⟩ := h
    rfl
  · obtain ⟨H0, p, dx, v, u, wd, F, ins, outs, bs, vals, rfl, k0, hp0, hp, hv, oo, hu, hl, q⟩ := h
    have hr : Room 2 _ := hr
    refine ⟨_, (pss_cons (ps_asg (pv 1) (pg_tup (by rfl) (pgs_cons (pg_fld (pv 0)) (pgs_cons (pg_name (i := 4) sc_PlainRun___init__.nd rfl (Or.inl rfl)) (pgs_cons (pg_name (i := 5) sc_PlainRun___init__.nd rfl (Or.inl rfl)) (pgs_cons (pg_name (i := 6) sc_PlainRun___init__.nd rfl (Or.inl rfl)) (pgs_cons (pg_name (i := 7) sc_PlainRun___init__.nd rfl (Or.inl rfl)) pgs_nil)))))))
      (pss_cons (ps_fld (pv 0) (pe_dc (own := [("name", 8)]) (g := gName 8) (by rfl) sc_PlainRun___init__.nd (pi_tup (pv 4)) (blkOk_by (own := [("name", 8)]) (N := N_PlainRun___init__) (sc := defScope s_PlainRun___init__) (by decide +kernel)) (fun _ _ _ _ _ => (pg_name (i := 8) sc_PlainRun___init__.nd rfl (Or.inl rfl))) (fun _ _ _ _ _ => pts_nil) (fun _ _ _ _ _ => (pv 8)) (fun _ _ _ _ _ => pe_int)) rfl)
      (pss_cons (ps_for PassesOwn.never rfl (RZ.pi_zipA (by rfl) T.m_zip (pa_cons (pv 5) (pa_cons (pv 2) pa_nil))) (pg_tup (by rfl) (pgs_cons (pg_name (i := 8) sc_PlainRun___init__.nd rfl (Or.inl rfl)) (pgs_cons (pg_name (i := 9) sc_PlainRun___init__.nd rfl (Or.inl rfl)) pgs_nil)))
        (pss_one (ps_dput (hu_of hr) (pe_fld (pv 0) rfl) (pv 8) (pv 9) rfl)))
      (pss_cons (ps_fld (pv 0) (pv 3) rfl)
      (pss_cons (ps_fld (pv 0) pe_int rfl)
      (pss_cons (ps_fld (pv 0) pe_int rfl)
      (pss_one (ps_fld (pv 0) (pe_lst (pa_cons (pe_make TM2.mkc G_PlainBody___init__ (hr.mono (by omega)) (by rfl) TM2.gC TM2.b_PlainBody___init__ .nil pass0 (pa_cons (pv 7) (pa_cons pe_non pa_nil))) pa_nil)) rfl)))))))), ?_⟩
    obtain ⟨a, xs, rfl, hs, ha⟩ := Rp.inv hv
    obtain ⟨v1, r1, rfl, h1, ha⟩ := ha.inv
    obtain ⟨v2, r2, rfl, h2, ha⟩ := ha.inv
    obtain ⟨v3, r3, rfl, h3, ha⟩ := ha.inv
    obtain ⟨v4, r4, rfl, h4, ha⟩ := ha.inv
    obtain ⟨v5, r5, rfl, h5, ha⟩ := ha.inv
    rw [ha.inv0, h1.iInv] at hs
    refine ⟨_, rfl, a, _, rfl, hs, rfl, ?_⟩
    obtain ⟨tn, rfl, hn⟩ := rp_strs h2
    obtain ⟨ti, rfl, hi⟩ := rp_strs h3
    obtain ⟨tu, rfl, hw⟩ := rp_ints hu
    have put : ∀ {Hx : Hp} {fs fs' : List (Str × V)}, KT [] H0 Hx → TKeep K H Hx → Hx p = some (.ins C dx fs) → KT [] H0 (upd Hx p (.ins C dx fs')) ∧ TKeep K H (upd Hx p (.ins C dx fs')) :=
      fun k t e => ⟨k.late hp0, fun b xs h => (tkeep_upd (fun xs z => by rw [e] at z; cases z) (fun o u z => by rw [e] at z; cases z)) b xs (t b xs h)⟩
    refine ⟨_, _, rfl, _, rfl, p, C, dx, _, rfl, hp, TC.cl, TC.nw, (by decide), _, _, rfl, _, _, rfl, _, _, rfl, _, _, rfl, rfl, ?_⟩
    obtain ⟨k1, t1⟩ := put (fs' := putF "width" (.int wd) []) k0 (fun _ _ h => h) hp
    have e1 : (upd H p (.ins C dx (putF "width" (.int wd) []))) p = some (.ins C dx [("width", .int wd)]) := upd_same
    generalize upd H p (.ins C dx (putF "width" (.int wd) [])) = H1 at k1 t1 e1 ⊢
    -- look
    refine ⟨_, rfl, tn, rfl, ⟨_, t1 _ _ hn⟩, fun la nla => ?_⟩
    have la0 := k1.free nla
    refine dc_tup (K := K) (xs := four4.map V.str) (fun i Hx => KT [] H0 Hx ∧ TKeep K H Hx ∧ Hx p = some (.ins C dx [("width", .int wd)]) ∧ Hx la = some (.dK (zeroK i))) ⟨k1.trans (.new [] nla), fun b xs h => (KT.new [] nla).sqT (t1 b xs h), by rw [upd_ne (ne_of_none e1 nla)]; exact e1, upd_same⟩ ?_ ?_ ?_
    · rintro i Hx _ ⟨_, t, _⟩
      exact t _ _ hn
    · rintro i x Hx hx ⟨k, t, e, l⟩
      rw [List.getElem?_map] at hx
      cases hf : four4[i]? with
      | none => rw [hf] at hx; cases hx
      | some y =>
        rw [hf] at hx
        cases hx
        obtain ⟨z1, z2⟩ := zeroK_put hf
        refine ⟨rfl, _, rfl, _, .inr y, rfl, l, Nat.lt_of_le_of_lt z2 (by decide), ?_⟩
        rw [z1]
        refine ⟨k.late la0, fun b xs h => tkeep_upd (fun xs z => by rw [l] at z; cases z) (fun o u z => by rw [l] at z; cases z) b xs (t b xs h), ?_, upd_same⟩
        rw [upd_ne (fun z => by rw [z, l] at e; cases e)]
        exact e
    rintro H2 ⟨k2, t2, e2, l2⟩
    have l2 : H2 la = some (.dK (lkK (fun _ => 0))) := l2
    refine ⟨_, rfl, p, C, dx, _, rfl, e2, TC.cl, TC.nl, (by show 1 < 1000; decide), ?_⟩
    obtain ⟨k3, t3⟩ := put (fs' := putF "look" (.ref la) [("width", .int wd)]) k2 t2 e2
    have e3 : (upd H2 p (.ins C dx (putF "look" (.ref la) [("width", .int wd)]))) p = some (.ins C dx [("width", .int wd), ("look", .ref la)]) := upd_same
    have l3 : (upd H2 p (.ins C dx (putF "look" (.ref la) [("width", .int wd)]))) la = some (.dK (lkK (fun _ => 0))) := by
      rw [upd_ne (fun z => by rw [z, e2] at l2; cases l2)]
      exact l2
    generalize upd H2 p (.ins C dx (putF "look" (.ref la) [("width", .int wd)])) = H3 at k3 t3 e3 l3 ⊢
    -- the inputs
    refine ⟨_, rfl, _, rfl, ti, tu, _, _, rfl, .inr ⟨t3 _ _ hi, t3 _ _ hw, RZ.for_zipT (K := K) (xs := ins.map V.str) (ys := vals.map V.int) (by rw [List.length_map, List.length_map, hl]) (fun i σ Hx => ∃ x8 x9, σ = [some (.ref p), some (.ref a), some (.ref tu), some (.int F), some (.ref tn), some (.ref ti), some v4, some v5, x8, x9] ∧ KT [] H0 Hx ∧ TKeep K H Hx ∧ Hx p = some (.ins C dx [("width", .int wd), ("look", .ref la)]) ∧ Hx la = some (.dK (lkK (lkZ ((ins.zip vals).take i))))) ⟨_, _, rfl, k3, t3, e3, l3⟩ ?_ ?_ ?_⟩⟩
    · rintro i σ Hx ⟨_, _, _, _, t, _⟩
      exact ⟨t _ _ hi, t _ _ hw⟩
    · rintro i x y tt σ Hx hx hy ⟨x8, x9, rfl, k, t, e, l⟩ ntt
      rw [List.getElem?_map] at hx hy
      cases hf : ins[i]? with
      | none => rw [hf] at hx; cases hx
      | some nx =>
      cases hg : vals[i]? with
      | none => rw [hg] at hy; cases hy
      | some vy =>
      rw [hf] at hx
      rw [hg] at hy
      cases hx
      cases hy
      have nin := ins_four oo.i nx (List.mem_of_getElem? hf)
      have hz : (ins.zip vals)[i]? = some (nx, vy) := by rw [List.getElem?_zip_eq_some]; exact ⟨hf, hg⟩
      have kn : KT [] Hx (upd Hx tt (.tup [.str nx, .int vy])) := .new _ ntt
      have e' := kn.s0 e
      have l' := kn.s0 l
      have k' := k.trans kn
      have t' : TKeep K H (upd Hx tt (.tup [.str nx, .int vy])) := fun b xs h => kn.sqT (t b xs h)
      refine ⟨tt, _, rfl, SqT.of upd_same, rfl, _, _, rfl, _, _, rfl, rfl, ?_⟩
      generalize upd Hx tt (.tup [.str nx, .int vy]) = Hy at e' l' k' t' ⊢
      refine ⟨_, rfl, _, rfl, p, C, dx, _, _, rfl, e', TC.cl, TC.nl, rfl, _, rfl, la, _, rfl, DPut.k (k := Sum.inr nx) l' (show 4 < sizeLine by decide), ?_⟩
      rw [lk_put nin]
      refine ⟨_, _, rfl, k'.late la0, fun b xs h => tkeep_upd (fun xs z => by rw [l'] at z; cases z) (fun o u z => by rw [l'] at z; cases z) b xs (t' b xs h), ?_, ?_⟩
      · rw [upd_ne (fun z => by rw [z, l'] at e'; cases e')]
        exact e'
      · rw [List.take_succ, hz]
        show _ = some (HO.dK (lkK (lkZ ((ins.zip vals).take i ++ [(nx, vy)]))))
        rw [lkZ_snoc, upd_same]
    rintro σ H4 ⟨x8, x9, rfl, k4, t4, e4, l4⟩
    have l4 : H4 la = some (.dK (lkK (lkZ (ins.zip vals)))) := by
      rw [l4, List.take_of_length_le]
      rw [List.length_zip, List.length_map]
      exact Nat.min_le_left _ _
    -- fuel, steps, marks
    have pl : p ≠ la := fun z => by rw [z, l4] at e4; cases e4
    refine ⟨_, rfl, _, rfl, p, C, dx, _, rfl, e4, TC.cl, TC.nf, (by show 2 < 1000; decide), ?_⟩
    refine ⟨_, rfl, p, C, dx, _, rfl, upd_same, TC.cl, TC.ns, (by show 3 < 1000; decide), ?_⟩
    rw [upd_upd]
    refine ⟨_, rfl, p, C, dx, _, rfl, upd_same, TC.cl, TC.nm, (by show 4 < 1000; decide), ?_⟩
    rw [upd_upd]
    obtain ⟨k5, t5⟩ := put (fs' := putF "marks" (.int 0) (putF "steps" (.int 0) (putF "fuel" (.int F) [("width", .int wd), ("look", .ref la)]))) k4 t4 e4
    have e5 : (upd H4 p (.ins C dx (putF "marks" (.int 0) (putF "steps" (.int 0) (putF "fuel" (.int F) [("width", .int wd), ("look", .ref la)]))))) p = some (.ins C dx [("width", .int wd), ("look", .ref la), ("fuel", .int F), ("steps", .int 0), ("marks", .int 0)]) := upd_same
    have l5 : (upd H4 p (.ins C dx (putF "marks" (.int 0) (putF "steps" (.int 0) (putF "fuel" (.int F) [("width", .int wd), ("look", .ref la)]))))) la = some (.dK (lkK (lkZ (ins.zip vals)))) := by
      rw [upd_ne (Ne.symm pl)]
      exact l4
    generalize upd H4 p (.ins C dx (putF "marks" (.int 0) (putF "steps" (.int 0) (putF "fuel" (.int F) [("width", .int wd), ("look", .ref la)])))) = H5 at k5 t5 e5 l5 ⊢
    refine ⟨_, rfl, fun x dx2 nx ndx ne => ⟨x, dx2, v5, .non, rfl, upd_same, rfl, sz1, fun ua nua => ?_⟩⟩
    rw [upd_upd] at nua ⊢
    have g1 : KT [] H5 (upd H5 dx2 (.own x)) := KT.new _ ndx
    have nx2 : (upd H5 dx2 (.own x)) x = none := by rw [upd_ne (Ne.symm ne)]; exact nx
    have g2 : KT [] H5 (upd (upd H5 dx2 (.own x)) x (.ins C2 dx2 (frF v5 .non 0))) := g1.trans (KT.new _ nx2)
    have hx6 : (upd (upd H5 dx2 (.own x)) x (.ins C2 dx2 (frF v5 .non 0))) x = some (.ins C2 dx2 (frF v5 .non 0)) := upd_same
    generalize upd (upd H5 dx2 (.own x)) x (.ins C2 dx2 (frF v5 .non 0)) = H6 at nua g2 hx6 ⊢
    have g3 : KT [] H6 (upd H6 ua (.lst [.ref x])) := KT.new _ nua
    have hu7 : (upd H6 ua (.lst [.ref x])) ua = some (.lst [.ref x]) := upd_same
    generalize upd H6 ua (.lst [.ref x]) = H7 at g3 hu7 ⊢
    have e7 := g3.s0 (g2.s0 e5)
    have l7 := g3.s0 (g2.s0 l5)
    have x7 := g3.s0 hx6
    have k7 := (k5.trans g2).trans g3
    have t7 : TKeep K H H7 := fun b xs h => g3.sqT (g2.sqT (t5 b xs h))
    have xp : x ≠ p := fun z => by rw [z, e5] at nx; cases nx
    refine ⟨_, rfl, p, C, dx, _, rfl, e7, TC.cl, TC.nu, (by show 5 < 1000; decide), ?_⟩
    have t8 : TKeep K H7 (upd H7 p (.ins C dx (rnF wd F 0 0 la ua))) := tkeep_upd (fun xs z => by rw [e7] at z; cases z) (fun o u z => by rw [e7] at z; cases z)
    refine q _ ⟨la, ua, [x], ⟨k7.late hp0, ⟨hp0, la0, (k5.trans g2).free nua, fun b hb => by rw [List.mem_singleton.mp hb]; exact k5.free nx⟩, ⟨dx, upd_same⟩, ?_, ?_, ⟨⟨dx2, v5, .non, ?_, rp_ofT t8 (rp_ofT t7 h5), rfl⟩, trivial⟩, by simp, fun z => xp (List.mem_singleton.mp z).symm⟩⟩
    · rw [upd_ne (Ne.symm pl)]
      exact l7
    · rw [upd_ne (fun z => by rw [z, e7] at hu7; cases hu7)]
      exact hu7
    · rw [upd_ne xp]
      exact x7
end

end My

set_option Elab.async false
set_option linter.all false
set_option maxRecDepth 100000
set_option maxHeartbeats 4000000
namespace My
open PySem PySem.Spec PyProof.Rows L2
local macro_rules | `(tactic| walk_at "asm") => `(tactic| (refine' of_eq_true (eq_true ?_); assumption))
local macro_rules | `(tactic| walk_at "go1") => `(tactic| first
  | (with_reducible rfl) | walk_at "asm" | (apply And.intro) | (apply Exists.intro)
  | (refine' ite_f (by decide +kernel) ?_) | (refine' ite_t (by decide +kernel) ?_) | (refine' ite_f (dstr_ne (by assumption)) ?_) | (refine' ite_t (dstr_eq (by assumption)) ?_)
  | (exact SqT.of upd_same) | (exact SqL.of upd_same) | (exact SqL.of (by assumption)) | (exact SqT.of (by assumption)) | (exact dget_s (by assumption) (by assumption)) | (exact dget_f (by assumption) (by assumption))
  | (exact Or.inl (by assumption)) | (exact Or.inr (by assumption)) | (exact Or.inl (SqL.of (by assumption))) | (exact Or.inr (SqT.of (by assumption))) | rfl)
local macro_rules | `(tactic| walk_at "go") => `(tactic| repeat' walk_at "go1")

section
variable {P : Program} {w : World} {K : PySem.W.Frag} {mg : Str → Option Value} {base : Heap} {C C2 : Addr}
theorem rpA_int {H : Hp} : ∀ xs : List Int, RpA K H (xs.map V.int) (xs.map PyData.int)
  | [] => .nil
  | x :: r => .cons (.int x) (rpA_int r)
def resD (outs : List Str) (d : PMc) : PyData := .tuple [.tuple ((outs.map d.lk).map PyData.int), endD d, .int d.st, .int d.mx]
def begM (ins : List Str) (vals : List Int) (bs : List PS) : PMc := ⟨lkZ (ins.zip vals), 0, 0, [⟨bs, 0, none⟩]⟩
theorem lkZ_ok {wd : Nat} : ∀ (qs : List (Str × Int)), (∀ q ∈ qs, 0 ≤ q.2 ∧ q.2 < 2 ^ wd) → LkOk wd (lkZ qs) := by
  intro qs
  unfold lkZ
  have key : ∀ (qs : List (Str × Int)) (l : Lk), LkOk wd l → (∀ q ∈ qs, 0 ≤ q.2 ∧ q.2 < 2 ^ wd) → LkOk wd (qs.foldl (fun l q => l.put q.1 q.2) l) := by
    intro qs
    induction qs with
    | nil => exact fun l h _ => h
    | cons q r ih => exact fun l h z => ih _ (h.put (z q (List.mem_cons_self ..)).1 (z q (List.mem_cons_self ..)).2) (fun p hp => z p (List.mem_cons_of_mem _ hp))
  exact key qs _ (fun x _ => ⟨Int.le_refl _, pow2_pos _⟩)
theorem zip_in {α β : Type} {xs : List α} {ys : List β} {P : β → Prop} (h : ∀ y ∈ ys, P y) : ∀ q ∈ xs.zip ys, P q.2 := fun q hq => h _ (List.of_mem_zip hq).2
theorem outs_four {outs : List Str} (h : outs ∈ outsL) : ∀ x ∈ outs, x ∈ four4 := by
  have key : ∀ i ∈ outsL, ∀ x ∈ i, x ∈ four4 := by decide +kernel
  exact key outs h
def spRunP (K : PySem.W.Frag) : Sp := fun vs H Q _ => ∃ (v u : V) (wd F n : Nat) (ins outs : List Str) (bs : List PS) (vals : List Int) (d : PMc), vs = [v, u, .int F] ∧ Rp K H v (prD wd ins outs bs) ∧ OrdOk wd ins outs bs ∧ Rp K H u (.tuple (vals.map PyData.int)) ∧ vals.length = ins.length ∧ (∀ y ∈ vals, 0 ≤ y ∧ y < 2 ^ wd) ∧
  Gos wd F n (begM ins vals bs) d ∧ (d.fr = [] ∨ Dry F d) ∧ ∀ H' v', KT [] H H' → Rp K H' v' (resD outs d) → Q v' H'
theorem ok_runp (T : Txt K mg) (TC : TxC K C) (TM : TxM K mg C) (TC2 : TxC2 K C2) (TM2 : TxM2 K mg C2) : FnOk P w K mg base CX0 16 T.f_run_plain T.d_run_plain ["program", "values", "fuel"] (spRunP K) := by
  have G_PlainRun___init__ := ok_ini (P := P) (w := w) (base := base) T TC TM TC2 TM2
  have G_PlainRun_end := ok_end (P := P) (w := w) (base := base) T TC TM TC2 TM2
  refine T.F_run_plain.ok sc_run_plain (fun vs H Q E h => ?_) (fun cdv A outer s H vs Q E hr h => ?_)
  · obtain ⟨v, u, wd, F, n, ins, outs, bs, vals, d, rfl, _⟩ := h
    rfl
  · obtain ⟨v, u, wd, F, n, ins, outs, bs, vals, d, rfl, hv, oo, hu, hl, hw, gos, fin, q⟩ := h
    have hr : Room 15 _ := hr
    refine ⟨_, (pss_cons (ps_set (i := 3) sc_run_plain.nd rfl (Or.inr rfl) (pe_make TM.mkc G_PlainRun___init__ (hr.mono (by omega)) (by rfl) TM.gC TM.b_PlainRun___init__ .nil pass0 (pa_cons (pv 0) (pa_cons (pv 1) (pa_cons (pv 2) pa_nil)))))
      (pss_cons (ps_set (i := 4) sc_run_plain.nd rfl (Or.inl rfl) (pe_meth0 (pv 3) TC.cl TM.m_PlainRun_end G_PlainRun_end (hr.mono (by omega)) TM.b_PlainRun_end .nil pass0))
      (pss_cons (ps_set (i := 5) sc_run_plain.nd rfl (Or.inl rfl) (pe_callTy call_tuple_of (by rfl) T.m_tuple (by decide +kernel) (pa_cons (pe_lc (own := [("name", 6)]) (g := gName 6) (by rfl) sc_run_plain.nd (pi_tup (pe_ix ix_tup (pv 0) pe_int (fun _ _ => rfl))) (blkOk_by (own := [("name", 6)]) (N := N_run_plain) (sc := defScope s_run_plain) (by decide +kernel)) (fun _ _ _ _ _ => (pg_name (i := 6) sc_run_plain.nd rfl (Or.inl rfl))) (fun _ _ _ _ _ => pts_nil) (fun _ _ _ _ _ => (pe_dget (hu_of hr) (pe_fldK (K := K) rfl (pv 3) rfl) (pv 6) (fun _ _ => rfl)))) pa_nil)))
      (pss_one (ps_ret (pe_tup (pa_cons (pv 5) (pa_cons (pv 4) (pa_cons (pe_fld (pv 3) rfl) (pa_cons (pe_fld (pv 3) rfl) pa_nil)))))))))), ?_⟩
    refine ⟨_, rfl, _, rfl, _, rfl, fun p dx np ndx ne => ?_⟩
    have k1 : KT [] H (upd H dx (.own p)) := KT.new _ ndx
    have np2 : (upd H dx (.own p)) p = none := by rw [upd_ne (Ne.symm ne)]; exact np
    have k2 : KT [] H (upd (upd H dx (.own p)) p (.ins C dx [])) := k1.trans (KT.new _ np2)
    refine ⟨H, p, dx, v, u, wd, F, ins, outs, bs, vals, rfl, k2, np, upd_same, hv.keep k2, oo, hu.keep k2, hl, fun H2 R2 => ⟨rfl, ?_⟩⟩
    obtain ⟨la, ua, as, R⟩ := id R2
    obtain ⟨dx2, ho⟩ := R.o
    refine ⟨_, rfl, p, dx2, _, rfl, ho, rn_end, ?_⟩
    refine ⟨H, p, wd, F, n, _, d, rfl, R2, lkZ_ok _ (zip_in hw), ⟨⟨oo.b, oo.p, fun _ z => by cases z⟩, trivial⟩, oo.w1, oo.w2, gos, fin, fun H3 ve R3 re => ?_⟩
    obtain ⟨la, ua, as, R⟩ := id R3
    obtain ⟨dx3, ho3⟩ := R.o
    have hv3 := hv.keep R.k
    obtain ⟨a, xs, rfl, hs, ha⟩ := Rp.inv hv3
    obtain ⟨v1, r1, rfl, h1, ha⟩ := ha.inv
    obtain ⟨v2, r2, rfl, h2, ha⟩ := ha.inv
    obtain ⟨v3, r3, rfl, h3, ha⟩ := ha.inv
    obtain ⟨v4, r4, rfl, h4, ha⟩ := ha.inv
    obtain ⟨v5, r5, rfl, h5, ha⟩ := ha.inv
    rw [ha.inv0] at hs
    obtain ⟨to, rfl, hto⟩ := rp_strs h4
    have olen : outs.length ≤ 4 := by
      have key : ∀ i ∈ outsL, i.length ≤ 4 := by decide +kernel
      exact key outs oo.o
    refine ⟨_, rfl, _, _, _, _, rfl, rfl, hs, atI_nat (j := 3) rfl, to, rfl, ⟨_, hto⟩, fun D nD => lc_tup (K := K) (xs := outs.map V.str) (fun i Hx => Hx = upd H3 D (.lst (((outs.take i).map d.lk).map V.int))) rfl ?_ ?_ ?_⟩
    · rintro i Hx _ rfl
      exact (KT.new [] nD).sqT hto
    · rintro i x Hx hx rfl
      rw [List.getElem?_map] at hx
      cases hf : outs[i]? with
      | none => rw [hf] at hx; cases hx
      | some y =>
        rw [hf] at hx
        cases hx
        have k3 : KT [] H3 (upd H3 D (.lst (((outs.take i).map d.lk).map V.int))) := .new _ nD
        have y4 := outs_four oo.o y (List.mem_of_getElem? hf)
        have R4 := R.keep k3
        refine ⟨rfl, _, rfl, p, C, dx3, _, _, rfl, k3.s0 ho3, TC.cl, TC.nl, rn_l, _, rfl, _, _, rfl, dget_s R4.l (lk_get y4), _, upd_same, ?_, ?_⟩
        · rw [List.length_map, List.length_map, List.length_take]
          exact Nat.lt_of_le_of_lt (by omega : _ ≤ 4) (by decide)
        · rw [upd_upd, List.take_succ, hf, List.map_append, List.map_append]
          rfl
    rintro H4 rfl
    rw [List.length_map, List.take_length]
    have k3 : KT [] H3 (upd H3 D (.lst ((outs.map d.lk).map V.int))) := .new _ nD
    have hD : (upd H3 D (.lst ((outs.map d.lk).map V.int))) D = some (.lst ((outs.map d.lk).map V.int)) := upd_same
    generalize upd H3 D (.lst ((outs.map d.lk).map V.int)) = H4 at k3 hD ⊢
    refine ⟨D, _, rfl, .inl ⟨SqL.of hD, fun t nt => ?_⟩⟩
    have k4 : KT [] H4 (upd H4 t (.tup ((outs.map d.lk).map V.int))) := .new _ nt
    have rt : Rp K (upd H4 t (.tup ((outs.map d.lk).map V.int))) (.ref t) (.tuple ((outs.map d.lk).map PyData.int)) := .made nt (rpA_int _)
    generalize upd H4 t (.tup ((outs.map d.lk).map V.int)) = H5 at k4 rt ⊢
    have k35 := k3.trans k4
    have ho5 := k35.s0 ho3
    refine ⟨_, rfl, _, rfl, _, rfl, p, C, dx3, _, _, rfl, ho5, TC.cl, TC.ns, rn_s, _, rfl, p, C, dx3, _, _, rfl, ho5, TC.cl, TC.nm, rn_m, sz4, fun t2 nt2 => ?_⟩
    exact q _ _ (((R.k.trans k35)).trans (KT.new [] nt2)) (.made nt2 (.cons rt (.cons (re.keep k35) (.cons (.int _) (.cons (.int _) .nil)))))
end

end My

set_option Elab.async false
set_option linter.all false
set_option maxRecDepth 100000
set_option maxHeartbeats 4000000
namespace My
open PySem PySem.Spec PyProof.Rows L2
local macro_rules | `(tactic| walk_at "asm") => `(tactic| (refine' of_eq_true (eq_true ?_); assumption))
local macro_rules | `(tactic| walk_at "go1") => `(tactic| first
  | (with_reducible rfl) | walk_at "asm" | (apply And.intro) | (apply Exists.intro)
  | (refine' ite_f (by decide +kernel) ?_) | (refine' ite_t (by decide +kernel) ?_) | (refine' ite_f (dstr_ne (by assumption)) ?_) | (refine' ite_t (dstr_eq (by assumption)) ?_)
  | (exact SqT.of upd_same) | (exact SqL.of upd_same) | (exact SqL.of (by assumption)) | (exact SqT.of (by assumption)) | (exact dget_s (by assumption) (by assumption)) | (exact dget_f (by assumption) (by assumption))
  | (exact Or.inl (by assumption)) | (exact Or.inr (by assumption)) | (exact Or.inl (SqL.of (by assumption))) | (exact Or.inr (SqT.of (by assumption))) | rfl)
local macro_rules | `(tactic| walk_at "go") => `(tactic| repeat' walk_at "go1")

def isIr (lo hi : Int) : PyData → Bool
  | .int i => decide (lo ≤ i) && decide (i ≤ hi)
  | _ => false
def isW (w : Nat) (d : PyData) : Bool := isIr 0 (2 ^ w - 1) d
def isTupD : PyData → Bool
  | .tuple _ => true
  | _ => false
def isIntD : PyData → Bool
  | .int _ => true
  | .bool _ => true
  | _ => false
def isBoolD : PyData → Bool
  | .bool _ => true
  | _ => false
def spWhK (K : PySem.W.Frag) : Sp := fun vs H Q _ => ∃ (v : V) (d : PyData), vs = [v] ∧ Rp K H v d ∧ Q (.bl (isIntD d && !isBoolD d)) H
def spIsI (K : PySem.W.Frag) : Sp := fun vs H Q _ => ∃ (v : V) (lo hi : Int) (d : PyData), vs = [v, .int lo, .int hi] ∧ Rp K H v d ∧ Q (.bl (isIr lo hi d)) H
def spIsW (K : PySem.W.Frag) : Sp := fun vs H Q _ => ∃ (v : V) (wd : Nat) (d : PyData), vs = [v, .int wd] ∧ wd ≤ 32 ∧ Rp K H v d ∧ Q (.bl (isW wd d)) H

section
variable {K : PySem.W.Frag} {H : Hp} {v : V} {d : PyData} {Q : VK}
theorem tyx_tup {H : Hp} {a : Addr} {xs : List V} (h : SqT K H a xs) : TyX K H (.ref a) (.type "tuple") := by
  rcases h with (h | ⟨o, h⟩) | ⟨o, _, _, h, c, _⟩
  · exact .base (.tup h)
  · exact .fTuple h
  · exact .kTuple h c
theorem isi_tup (h : Rp K H v d) : ∃ t, TyX K H v t ∧ PySem.W.kitOne K t (.type "tuple") = some (isTupD d) := by
  cases d with
  | none => cases h; exact ⟨_, .base .non, kit_ty (r := false) (by decide +kernel)⟩
  | bool b => cases h; exact ⟨_, .base (.bl b), kit_ty (r := false) (by decide +kernel)⟩
  | int b => cases h; exact ⟨_, .base (.int b), kit_ty (r := false) (by decide +kernel)⟩
  | str b => cases h; exact ⟨_, .base (.str b), kit_ty (r := false) (by decide +kernel)⟩
  | list ds => cases h
  | dict ds => cases h
  | tuple ds =>
    obtain ⟨a, xs, rfl, hs, _⟩ := h.inv
    exact ⟨_, tyx_tup hs, kit_ty (r := true) (by decide +kernel)⟩
theorem isi_int (h : Rp K H v d) : ∃ t, TyX K H v t ∧ PySem.W.kitOne K t (.type "int") = some (isIntD d) := by
  cases d with
  | none => cases h; exact ⟨_, .base .non, kit_ty (r := false) (by decide +kernel)⟩
  | bool b => cases h; exact ⟨_, .base (.bl b), kit_ty (r := true) (by decide +kernel)⟩
  | int b => cases h; exact ⟨_, .base (.int b), kit_ty (r := true) (by decide +kernel)⟩
  | str b => cases h; exact ⟨_, .base (.str b), kit_ty (r := false) (by decide +kernel)⟩
  | list ds => cases h
  | dict ds => cases h
  | tuple ds =>
    obtain ⟨a, xs, rfl, hs, _⟩ := h.inv
    exact ⟨_, tyx_tup hs, kit_ty (r := false) (by decide +kernel)⟩
theorem isi_bool (h : Rp K H v d) : ∃ t, TyX K H v t ∧ PySem.W.kitOne K t (.type "bool") = some (isBoolD d) := by
  cases d with
  | none => cases h; exact ⟨_, .base .non, kit_ty (r := false) (by decide +kernel)⟩
  | bool b => cases h; exact ⟨_, .base (.bl b), kit_ty (r := true) (by decide +kernel)⟩
  | int b => cases h; exact ⟨_, .base (.int b), kit_ty (r := false) (by decide +kernel)⟩
  | str b => cases h; exact ⟨_, .base (.str b), kit_ty (r := false) (by decide +kernel)⟩
  | list ds => cases h
  | dict ds => cases h
  | tuple ds =>
    obtain ⟨a, xs, rfl, hs, _⟩ := h.inv
    exact ⟨_, tyx_tup hs, kit_ty (r := false) (by decide +kernel)⟩
theorem tall_tup {σ : L2.St} {own : List (Str × Nat)} {te : TE} {a : Addr} {xs : List V} {QF : V → Hp → Prop} (bs : List Bool) (hs : SqT K H a xs) (hl : bs.length = xs.length) (ht : ∀ (i : Nat) x b, xs[i]? = some x → bs[i]? = some b → ∀ Q : VK, Q (.bl b) H → te (gσ σ own (some x)) H Q)
    (q : QF (.bl (bs.all _root_.id)) H) : ∃ W : Nat → Nat → Hp → Prop, (∃ m, W 0 m H) ∧ TAll σ own te true (Itt K a) W QF := by
  refine ⟨fun i m H' => m = xs.length - i ∧ i ≤ xs.length ∧ H' = H ∧ (bs.take i).all _root_.id = true, ⟨_, rfl, Nat.zero_le _, rfl, rfl⟩, ?_⟩
  rintro i m H' ⟨rfl, hi, rfl, ha⟩
  by_cases hlt : i < xs.length
  · obtain ⟨b, hb⟩ : ∃ b, bs[i]? = some b := ⟨bs[i], List.getElem?_eq_getElem (by omega)⟩
    refine .inr ⟨⟨xs, xs[i], hs, by simp [hlt]⟩, fun H'' => H'' = H' ∧ (bs.take (i + 1)).all _root_.id = true, fun H'' ⟨e, a2⟩ => ⟨_, by omega, rfl, by omega, e, a2⟩, fun v H2 y => ?_⟩
    obtain ⟨e, y⟩ := y
    subst e
    refine ht i v b (y xs hs) hb _ ⟨b, rfl, ?_⟩
    cases b with
    | true =>
      refine ite_t rfl ⟨rfl, ?_⟩
      rw [List.take_succ, hb, List.all_append, ha]
      rfl
    | false =>
      refine ite_f (by decide) ?_
      have e : bs.all _root_.id = false := by
        rw [List.all_eq_false]
        exact ⟨false, List.mem_of_getElem? hb, by decide⟩
      rw [e] at q
      exact q
  · have e : i = xs.length := by omega
    subst e
    rw [← hl, List.take_length] at ha
    rw [ha] at q
    exact .inl ⟨⟨xs, hs, Nat.le_refl _⟩, q⟩

end
section
variable {P : Program} {w : World} {K : PySem.W.Frag} {mg : Str → Option Value} {base : Heap}
theorem ok_is_whole (T : Txt K mg) : FnOk P w K mg base CX0 1 T.f_is_whole T.d_is_whole ["value"] (spWhK K) := by
  refine T.F_is_whole.ok sc_is_whole (fun vs H Q E h => ?_) (fun cdv A outer s H vs Q E hr h => ?_)
  · obtain ⟨v, d, rfl, _⟩ := h
    rfl
  · obtain ⟨v, d, rfl, hv, q⟩ := h
    refine ⟨_, (pss_one (ps_ret (pe_and (pe_callB call_isi (by rfl) T.m_isinstance (by decide +kernel) (pa_cons (pv 0) (pa_cons (pe_bltn (v := .ty "int") (by rfl) T.m_int (by decide +kernel) rfl) pa_nil))) (pe_one (pe_not (pe_callB call_isi (by rfl) T.m_isinstance (by decide +kernel) (pa_cons (pv 0) (pa_cons (pe_bltn (v := .ty "bool") (by rfl) T.m_bool (by decide +kernel) rfl) pa_nil)))))))), ?_⟩
    obtain ⟨t1, y1, k1⟩ := isi_int hv
    obtain ⟨t2, y2, k2⟩ := isi_bool hv
    refine ⟨_, rfl, _, _, _, _, _, rfl, .ty "int", y1, k1, _, rfl, ?_⟩
    cases d with
    | none => exact ite_f (fun z => by cases z) q
    | str b => exact ite_f (fun z => by cases z) q
    | list ds => cases hv
    | dict ds => cases hv
    | tuple ds => exact ite_f (fun z => by cases z) q
    | bool b => exact ite_t rfl ⟨_, rfl, _, _, _, _, _, rfl, .ty "bool", y2, k2, _, rfl, q⟩
    | int b => exact ite_t rfl ⟨_, rfl, _, _, _, _, _, rfl, .ty "bool", y2, k2, _, rfl, q⟩
theorem ok_is_integer (T : Txt K mg) : FnOk P w K mg base CX0 2 T.f_is_integer T.d_is_integer ["value", "low", "high"] (spIsI K) := by
  have G_is_whole := ok_is_whole (P := P) (w := w) (base := base) T
  refine T.F_is_integer.ok sc_is_integer (fun vs H Q E h => ?_) (fun cdv A outer s H vs Q E hr h => ?_)
  · obtain ⟨v, lo, hi, d, rfl, _⟩ := h
    rfl
  · obtain ⟨v, lo, hi, d, rfl, hv, q⟩ := h
    refine ⟨_, (pss_one (ps_ret (pe_and (pe_call G_is_whole (hr.mono (by omega)) (by rfl) T.g_is_whole T.F_is_whole.kp T.b_is_whole .nil pass0 (pa_cons (pv 0) pa_nil)) (pe_one (pe_chain op_le op_le (pv 1) (pv 0) (pv 2)))))), ?_⟩
    refine ⟨_, rfl, v, d, rfl, hv, _, rfl, ?_⟩
    cases d with
    | none => exact ite_f (fun z => by cases z) q
    | str b => exact ite_f (fun z => by cases z) q
    | list ds => cases hv
    | dict ds => cases hv
    | tuple ds => exact ite_f (fun z => by cases z) q
    | bool b => exact ite_f (fun z => by cases z) q
    | int b =>
      cases hv
      refine ite_t rfl ?_
      refine ⟨_, rfl, _, rfl, _, _, rfl, rfl, _, rfl, ?_⟩
      have q : Q (.bl (decide (lo ≤ b) && decide (b ≤ hi))) H := q
      by_cases h : lo ≤ b
      · rw [decide_eq_true h, Bool.true_and] at q
        exact ite_t (decide_eq_true h) ⟨_, rfl, _, _, rfl, rfl, q⟩
      · rw [decide_eq_false h, Bool.false_and] at q
        exact ite_f (by rw [decide_eq_false h]; decide) q
theorem ok_is_word (T : Txt K mg) : FnOk P w K mg base CX0 3 T.f_is_word T.d_is_word ["value", "w"] (spIsW K) := by
  have G_top := ok_top (P := P) (w := w) (base := base) T
  have G_is_integer := ok_is_integer (P := P) (w := w) (base := base) T
  refine T.F_is_word.ok sc_is_word (fun vs H Q E h => ?_) (fun cdv A outer s H vs Q E hr h => ?_)
  · obtain ⟨v, wd, d, rfl, _⟩ := h
    rfl
  · obtain ⟨v, wd, d, rfl, w2, hv, q⟩ := h
    refine ⟨_, (pss_one (ps_ret (pe_call G_is_integer (hr.mono (by omega)) (by rfl) T.g_is_integer T.F_is_integer.kp T.b_is_integer .nil pass0 (pa_cons (pv 0) (pa_cons pe_int (pa_cons (pe_call G_top (hr.mono (by omega)) (by rfl) T.g_top T.F_top.kp T.b_top .nil pass0 (pa_cons (pv 1) pa_nil)) pa_nil)))))), ?_⟩
    exact ⟨_, rfl, _, rfl, wd, rfl, w2, v, _, _, d, rfl, hv, q⟩

end
def five5 : List Str := ["x", "y", "n", "k", "zz"]
def names8 : List Str := ["x", "y", "n", "k", "zz", "backx", "aaaaaaaaaaaa"]
def SIGNS : Str := "abcdefghijklmnopqrstuvwxyz0123456789_"
def LETS : Str := "abcdefghijklmnopqrstuvwxyz"
section
variable {K : PySem.W.Frag} {H : Hp}
/-- all(.. for x in s), s a text: each answer is true -/
theorem tall_str {σ : L2.St} {own : List (Str × Nat)} {te : TE} {z : Str} {QF : V → Hp → Prop} (ht : ∀ c, c ∈ z.cps.toList → ∀ Q : VK, Q (.bl true) H → te (gσ σ own (some (.str ⟨#[c]⟩))) H Q)
    (q : QF (.bl true) H) : ∃ W : Nat → Nat → Hp → Prop, (∃ m, W 0 m H) ∧ TAll σ own te true (Its z) W QF := by
  refine ⟨fun i m H' => m = z.cps.size - i ∧ i ≤ z.cps.size ∧ H' = H, ⟨_, rfl, Nat.zero_le _, rfl⟩, ?_⟩
  rintro i m H' ⟨rfl, hi, rfl⟩
  by_cases hlt : i < z.cps.size
  · refine .inr ⟨hlt, fun H'' => H'' = H', fun H'' e => ⟨_, by omega, rfl, by omega, e⟩, fun v H2 y => ?_⟩
    obtain ⟨e, c, hc, rfl⟩ := y
    subst e
    refine ht c ?_ _ ⟨true, rfl, ite_t rfl rfl⟩
    exact Array.mem_toList_iff.mpr (Array.mem_of_getElem? hc)
  · have e : i = z.cps.size := by omega
    exact .inl ⟨by show z.cps.size ≤ i; omega, q⟩
end
def spNm (K : PySem.W.Frag) (Pt : Addr) : Sp := fun vs H Q _ => ∃ x : Str, vs = [.str x] ∧ x ∈ names8 ∧ GxR.TabG H Pt ∧ ∀ H', KT [Pt] H H' → GxR.TabG H' Pt → Q (.bl true) H'
theorem name_facts : ∀ x ∈ names8, (1 : Int) ≤ (x.length : Nat) ∧ ((x.length : Nat) : Int) ≤ 20 ∧ (∃ c, atI x.cps.toList 0 = some c ∧ (Builtin.Str.occurrences LETS ⟨#[c]⟩ 0 LETS.length 1).isEmpty = false) ∧ x ∉ (["width", "vars", "proc", "end", "if", "then", "else", "fi", "from", "do", "loop", "until", "call", "uncall", "local", "in", "delocal", "skip"] : List Str) ∧ (∀ c ∈ x.cps.toList, (Builtin.Str.occurrences SIGNS ⟨#[c]⟩ 0 SIGNS.length 1).isEmpty = false) := by
  intro x h
  unfold names8 at h
  simp only [List.mem_cons, List.not_mem_nil, or_false] at h
  rcases h with rfl | rfl | rfl | rfl | rfl | rfl | rfl
  all_goals exact ⟨by decide +kernel, by decide +kernel, ⟨_, rfl, by decide +kernel⟩, by decide +kernel, by decide +kernel⟩
section
variable {P : Program} {w : World} {K : PySem.W.Frag} {mg : Str → Option Value} {base : Heap}
theorem ok_is_name (T : Txt K mg) (TB : TBs T base) : FnOk P w K mg base CX0 2 T.f_is_name T.d_is_name ["text"] (spNm K T.P_is_name) := by
  refine T.F_is_name.ok sc_is_name (fun vs H Q E h => ?_) (fun A outer s H vs Q E hr h => ?_)
  · obtain ⟨x, rfl, _⟩ := h
    rfl
  · obtain ⟨x, rfl, hx, tg, q⟩ := h
    have hr : Room 1 _ := hr
    obtain ⟨f1, f2, ⟨c, f3, f4⟩, f5, f6⟩ := name_facts x hx
    refine ⟨_, (pss_cons (ps_if (PW.pt (pw_or (pt_not (pt_val (pe_callB call_isi (by rfl) T.m_isinstance (by decide +kernel) (pa_cons (pv 0) (pa_cons (pe_bltn (v := .ty "str") (by rfl) T.m_str (by decide +kernel) rfl) pa_nil))))) (pw_or1 (pt_not (pt_chain op_le op_le pe_int (pe_callB call_len_str (by rfl) T.m_len (by decide +kernel) (pa_cons (pv 0) pa_nil)) (pe_glob (v := .int 20) (by rfl) T.m_NAME_LENGTH_programs ⟨_, rfl⟩))))))
        (pss_one (ps_ret pe_bl))
        pss_nil)
      (pss_cons (ps_if (PW.pt (pw_or (pt_cmpR op_notIn_str (pe_ix ix_str (pv 0) pe_int (fun _ _ => rfl)) (pe_glob (v := .str "abcdefghijklmnopqrstuvwxyz") (by rfl) T.m_LETTERS ⟨_, rfl⟩) (by rfl)) (pw_or1 (pt_cmpR op_in_seq (pv 0) (pe_glob (v := .ref T.a_NOT_NAMES) (by rfl) T.m_NOT_NAMES rfl) (by rfl)))))
        (pss_one (ps_ret pe_bl))
        pss_nil)
      (pss_one (ps_ret (pe_allG [] hr (by rfl) T.m_all TB.B_is_name rfl (by rfl) (by rfl) trivial (by decide) rfl (pi_str (pv 0)) (fun _ _ _ _ _ _ _ _ hr => (pe_cmpR op_in_str (pv 0) (pe_glob (v := .str "abcdefghijklmnopqrstuvwxyz0123456789_") (by rfl) T.m_NAME_SIGNS ⟨_, rfl⟩) (by rfl)))))))), ?_⟩
    refine ⟨_, rfl, _, _, _, _, _, rfl, .ty "str", .base (.str x), kit_ty (r := true) (by decide +kernel), _, rfl, ?_⟩
    refine ite_f (fun z => by cases z) ?_
    have xs : x.length ≤ sizeLine := Nat.le_trans (by omega : x.length ≤ 20) (by decide)
    refine ⟨_, rfl, x, rfl, xs, _, _, rfl, rfl, _, rfl, ite_t (decide_eq_true f1) ⟨_, _, rfl, rfl, _, rfl, ?_⟩⟩
    refine ite_f (by rw [decide_eq_true f2]; decide) ?_
    refine ⟨_, rfl, _, 0, c, rfl, rfl, xs, f3, _, _, rfl, rfl, _, rfl, ?_⟩
    have f4' : (Builtin.Str.occurrences "abcdefghijklmnopqrstuvwxyz" ⟨#[c]⟩ 0 ("abcdefghijklmnopqrstuvwxyz" : Str).length 1).isEmpty = false := f4
    rw [f4']
    refine ite_f (by decide) ?_
    refine ⟨_, rfl, _, _, rfl, .inr (T.t_NOT_NAMES H), rfl, rfl, _, rfl, ?_⟩
    have in_ : inV (V.str x) [V.str "width", V.str "vars", V.str "proc", V.str "end", V.str "if", V.str "then", V.str "else", V.str "fi", V.str "from", V.str "do", V.str "loop", V.str "until", V.str "call", V.str "uncall", V.str "local", V.str "in", V.str "delocal", V.str "skip"] = false := (inV_strs x ["width", "vars", "proc", "end", "if", "then", "else", "fi", "from", "do", "loop", "until", "call", "uncall", "local", "in", "delocal", "skip"]).trans (decide_eq_false f5)
    refine ite_f (by rw [if_neg Bool.false_ne_true, in_]; decide) ?_
    refine ⟨_, rfl, x, rfl, tg, fun H2 tb => ?_⟩
    have k2 : KT [T.P_is_name] H H2 := KT.tab tb tg (List.mem_singleton.mpr rfl)
    refine tall_str (fun c hc Q q => ?_) (q H2 k2 tb.1)
    refine ⟨_, rfl, _, _, rfl, rfl, ?_⟩
    have f6' : (Builtin.Str.occurrences "abcdefghijklmnopqrstuvwxyz0123456789_" ⟨#[c]⟩ 0 ("abcdefghijklmnopqrstuvwxyz0123456789_" : Str).length 1).isEmpty = false := f6 c hc
    rw [f6']
    exact q
end

end My

set_option Elab.async false
set_option linter.all false
set_option maxRecDepth 100000
set_option maxHeartbeats 4000000
namespace My
open PySem PySem.Spec PyProof.Rows L2
local macro_rules | `(tactic| walk_at "asm") => `(tactic| (refine' of_eq_true (eq_true ?_); assumption))
local macro_rules | `(tactic| walk_at "go1") => `(tactic| first
  | (with_reducible rfl) | walk_at "asm" | (apply And.intro) | (apply Exists.intro)
  | (refine' ite_f (by decide +kernel) ?_) | (refine' ite_t (by decide +kernel) ?_) | (refine' ite_f (dstr_ne (by assumption)) ?_) | (refine' ite_t (dstr_eq (by assumption)) ?_)
  | (exact SqT.of upd_same) | (exact SqL.of upd_same) | (exact SqL.of (by assumption)) | (exact SqT.of (by assumption)) | (exact dget_s (by assumption) (by assumption)) | (exact dget_f (by assumption) (by assumption))
  | (exact Or.inl (by assumption)) | (exact Or.inr (by assumption)) | (exact Or.inl (SqL.of (by assumption))) | (exact Or.inr (SqT.of (by assumption))) | rfl)
local macro_rules | `(tactic| walk_at "go") => `(tactic| repeat' walk_at "go1")

def ExN (w : Nat) : Ex → Prop
  | .int n => 0 ≤ n ∧ n < 2 ^ w
  | .var x => x ∈ five5
  | .cell x i => x ∈ five5 ∧ ExN w i
  | .not a => ExN w a
  | .op o a b => o ∈ opl ∧ ExN w a ∧ ExN w b
theorem four_five {x : Str} (h : x ∈ four4) : x ∈ five5 := by
  have key : ∀ x ∈ four4, x ∈ five5 := by decide +kernel
  exact key x h
theorem five_names {x : Str} (h : x ∈ five5) : x ∈ names8 := by
  have key : ∀ x ∈ five5, x ∈ names8 := by decide +kernel
  exact key x h
theorem exN_of {w : Nat} : ∀ {e : Ex}, EOk w nm4 e → ExN w e
  | .int n, h => h
  | .var x, h => four_five (nm4_in h).1
  | .cell x i, ⟨⟨s, h1, h2⟩, _⟩ => by
    have := (nm4_in h1).2
    omega
  | .not a, h => exN_of (e := a) h
  | .op o a b, ⟨h1, h2, h3⟩ => ⟨h1, exN_of h2, exN_of h3⟩
def Ex.sz : Ex → Nat
  | .int _ => 1 | .var _ => 1 | .cell _ i => i.sz + 1 | .not a => a.sz + 1 | .op _ a b => a.sz + b.sz + 1
def Ex.subs : Ex → List Ex
  | .int _ => [] | .var _ => [] | .cell _ i => [i] | .not a => [a] | .op _ a b => [a, b]
def Ex.hds : Ex → List (Str × Str)
  | .var x => [("var", x)] | .cell x _ => [("cell", x)] | _ => []
def Ex.ats : Ex → List (Str × Str)
  | .int _ => [] | .var x => [("var", x)] | .cell x i => ("cell", x) :: i.ats | .not a => a.ats | .op _ a b => a.ats ++ b.ats
theorem Ex.sz_pos : ∀ e : Ex, 1 ≤ e.sz
  | .int _ => Nat.le_refl _ | .var _ => Nat.le_refl _ | .cell _ _ => Nat.le_add_left .. | .not _ => Nat.le_add_left .. | .op _ _ _ => Nat.le_add_left ..
theorem Ex.sz_dep : ∀ e : Ex, e.sz + 1 ≤ 2 ^ e.dep
  | .int _ => by show 2 ≤ 2 ^ 1; decide
  | .var _ => by show 2 ≤ 2 ^ 1; decide
  | .cell _ i => by
    have := i.sz_dep
    show i.sz + 1 + 1 ≤ 2 ^ (i.dep + 1)
    rw [Nat.pow_succ]
    omega
  | .not a => by
    have := a.sz_dep
    show a.sz + 1 + 1 ≤ 2 ^ (a.dep + 1)
    rw [Nat.pow_succ]
    omega
  | .op _ a b => by
    have h1 := a.sz_dep
    have h2 := b.sz_dep
    have h3 : 2 ^ a.dep ≤ 2 ^ max a.dep b.dep := Nat.pow_le_pow_right (by decide) (by omega)
    have h4 : 2 ^ b.dep ≤ 2 ^ max a.dep b.dep := Nat.pow_le_pow_right (by decide) (by omega)
    show a.sz + b.sz + 1 + 1 ≤ 2 ^ (max a.dep b.dep + 1)
    rw [Nat.pow_succ]
    omega
theorem Ex.sz_15 {e : Ex} (h : e.dep ≤ 4) : e.sz ≤ 15 := by
  have h1 := e.sz_dep
  have h2 : 2 ^ e.dep ≤ 2 ^ 4 := Nat.pow_le_pow_right (by decide) h
  omega
def Ex.wd : Ex → Str
  | .int _ => "int" | .var _ => "var" | .cell _ _ => "cell" | .not _ => "not" | .op o _ _ => o
def Ex.len : Ex → Nat
  | .int _ => 2 | .var _ => 2 | .cell _ _ => 3 | .not _ => 2 | .op _ _ _ => 3
def xsz (l : List Ex) : Nat := (l.map Ex.sz).sum
theorem xsz_app (a b : List Ex) : xsz (a ++ b) = xsz a + xsz b := by unfold xsz; rw [List.map_append, List.sum_append]
theorem xsz_len (l : List Ex) : l.length ≤ xsz l := by
  induction l with
  | nil => exact Nat.zero_le _
  | cons e r ih =>
    have := e.sz_pos
    show r.length + 1 ≤ e.sz + xsz r
    omega
theorem Ex.subs_sz (e : Ex) : xsz e.subs + 1 = e.sz := by
  cases e with
  | int n => rfl
  | var x => rfl
  | cell x i => show (i.sz + 0) + 1 = i.sz + 1; omega
  | not a => show (a.sz + 0) + 1 = a.sz + 1; omega
  | op o a b => show (a.sz + (b.sz + 0)) + 1 = a.sz + b.sz + 1; omega
theorem Ex.ats_eq (e : Ex) : e.ats = e.hds ++ e.subs.flatMap Ex.ats := by
  cases e with
  | int n => rfl
  | var x => rfl
  | cell x i => show Ex.ats (.cell x i) = (("cell" : Str), x) :: (i.ats ++ ([] : List (Str × Str))); rw [List.append_nil]; rfl
  | not a => show a.ats = a.ats ++ ([] : List (Str × Str)); rw [List.append_nil]
  | op o a b => show a.ats ++ b.ats = a.ats ++ (b.ats ++ ([] : List (Str × Str))); rw [List.append_nil]
theorem Ex.ats_len : ∀ e : Ex, e.ats.length ≤ e.sz
  | .int _ => by show 0 ≤ 1; decide
  | .var _ => by show 1 ≤ 1; decide
  | .cell _ i => by
    have := i.ats_len
    show i.ats.length + 1 ≤ i.sz + 1
    omega
  | .not a => by
    have := a.ats_len
    show a.ats.length ≤ a.sz + 1
    omega
  | .op _ a b => by
    have h1 := a.ats_len
    have h2 := b.ats_len
    show (a.ats ++ b.ats).length ≤ a.sz + b.sz + 1
    rw [List.length_append]
    omega
theorem exN_subs {w : Nat} {e p : Ex} (h : ExN w e) (hp : p ∈ e.subs) : ExN w p := by
  cases e with
  | int n => cases hp
  | var x => cases hp
  | cell x i => rw [List.mem_singleton.mp hp]; exact h.2
  | not a => rw [List.mem_singleton.mp hp]; exact h
  | op o a b =>
    have hp : p ∈ [a, b] := hp
    simp only [List.mem_cons, List.not_mem_nil, or_false] at hp
    rcases hp with rfl | rfl
    · exact h.2.1
    · exact h.2.2
section
variable {P : Program} {w : World} {K : PySem.W.Frag} {mg : Str → Option Value} {base : Heap}
def spBW (K : PySem.W.Frag) : Sp := fun vs H Q _ => ∃ v : V, vs = [v] ∧ ((∃ a s xs, v = .ref a ∧ SqT K H a (.str s :: xs) ∧ xs.length ≤ 1000 ∧ Q (.bl true) H) ∨ ((v = .non ∨ ∃ s, v = .str s) ∧ Q (.bl false) H))
theorem ok_bw (T : Txt K mg) : FnOk P w K mg base CX0 1 T.f_begins_with_word T.d_begins_with_word ["value"] (spBW K) := by
  refine T.F_begins_with_word.ok sc_begins_with_word (fun vs H Q E h => ?_) (fun cdv A outer s H vs Q E hr h => ?_)
  · obtain ⟨v, rfl, _⟩ := h
    rfl
  · obtain ⟨v, rfl, h⟩ := h
    refine ⟨_, (pss_one (ps_ret (pe_and (pe_callB call_isi (by rfl) T.m_isinstance (by decide +kernel) (pa_cons (pv 0) (pa_cons (pe_bltn (v := .ty "tuple") (by rfl) T.m_tuple (by decide +kernel) rfl) pa_nil))) (pe_and (pe_cmpR op_gt (pe_callB call_len_seq (by rfl) T.m_len (by decide +kernel) (pa_cons (pv 0) pa_nil)) pe_int (nomark _)) (pe_one (pe_callB call_isi (by rfl) T.m_isinstance (by decide +kernel) (pa_cons (pe_ix ix_tup (pv 0) pe_int (fun _ _ => rfl)) (pa_cons (pe_bltn (v := .ty "str") (by rfl) T.m_str (by decide +kernel) rfl) pa_nil)))))))), ?_⟩
    rcases h with ⟨a, s, xs, rfl, hs, hl, q⟩ | ⟨hv, q⟩
    · refine ⟨_, rfl, _, _, _, _, _, rfl, .ty "tuple", tyx_tup hs, kit_ty (r := true) (by decide +kernel), _, rfl, ite_t rfl ?_⟩
      refine ⟨_, rfl, a, _, rfl, .inr hs, _, _, rfl, rfl, _, rfl, ite_t ?_ ?_⟩
      · exact decide_eq_true (by show (0 : Int) < ((xs.length + 1 : Nat) : Int); omega)
      · exact ⟨_, rfl, _, _, _, _, rfl, rfl, hs, atI_0, _, _, _, _, _, rfl, .ty "str", .base (.str s), kit_ty (r := true) (by decide +kernel), q⟩
    · rcases hv with rfl | ⟨s, rfl⟩
      · exact ⟨_, rfl, _, _, _, _, _, rfl, .ty "tuple", .base .non, kit_ty (r := false) (by decide +kernel), _, rfl, ite_f (by decide) q⟩
      · exact ⟨_, rfl, _, _, _, _, _, rfl, .ty "tuple", .base (.str s), kit_ty (r := false) (by decide +kernel), _, rfl, ite_f (by decide) q⟩
def OpE : Ex → Prop
  | .op o _ _ => o ∈ opl
  | _ => True
theorem opE_of {wd : Nat} {e : Ex} (h : ExN wd e) : OpE e := by
  cases e with
  | op o a b => exact h.1
  | int _ => trivial
  | var _ => trivial
  | cell _ _ => trivial
  | not _ => trivial
/-- what an expression is in the heap -/
theorem rp_ex {H : Hp} {v : V} {e : Ex} (h : Rp K H v e.d) : ∃ a s xs, v = .ref a ∧ SqT K H a (.str s :: xs) ∧ xs.length ≤ 2 ∧ s = e.wd ∧ xs.length = e.len - 1 := by
  cases e with
  | int n => obtain ⟨a, rfl, hs⟩ := rp_int h; exact ⟨a, _, _, rfl, hs, by show 1 ≤ 2; decide, rfl, rfl⟩
  | var x => obtain ⟨a, rfl, hs⟩ := rp_var h; exact ⟨a, _, _, rfl, hs, by show 1 ≤ 2; decide, rfl, rfl⟩
  | cell x i => obtain ⟨a, u, rfl, hs, _⟩ := rp_cell h; exact ⟨a, _, _, rfl, hs, by show 2 ≤ 2; decide, rfl, rfl⟩
  | not i => obtain ⟨a, u, rfl, hs, _⟩ := rp_not h; exact ⟨a, _, _, rfl, hs, by show 1 ≤ 2; decide, rfl, rfl⟩
  | op o i j => obtain ⟨a, u, t, rfl, hs, _, _⟩ := rp_op h; exact ⟨a, _, _, rfl, hs, by show 2 ≤ 2; decide, rfl, rfl⟩
theorem len_at (TA : TxA K mg w) {e : Ex} (h : OpE e) : KDgt K w TA.a_EXPRESSION_LENGTHS e.wd (some (.int e.len)) := by
  cases e with
  | int n => exact TA.e_int
  | var x => exact TA.e_var
  | cell x i => exact TA.e_cell
  | not i => exact TA.e_not
  | op o i j =>
    have h : o ∈ (["add", "sub", "mul", "and", "or", "xor", "less", "equal", "shl", "shr"] : List Str) := h
    simp only [List.mem_cons, List.not_mem_nil, or_false] at h
    rcases h with rfl | rfl | rfl | rfl | rfl | rfl | rfl | rfl | rfl | rfl
    · exact TA.e_add
    · exact TA.e_sub
    · exact TA.e_mul
    · exact TA.e_and
    · exact TA.e_or
    · exact TA.e_xor
    · exact TA.e_less
    · exact TA.e_equal
    · exact TA.e_shl
    · exact TA.e_shr
def spLL (K : PySem.W.Frag) : Sp := fun vs H Q _ => ∃ (v : V) (e : Ex), vs = [v] ∧ Rp K H v e.d ∧ OpE e ∧ Q (.bl true) H
theorem ok_ll (T : Txt K mg) (TA : TxA K mg w) : FnOk P w K mg base CX0 2 T.f_looks_like_expression T.d_looks_like_expression ["value"] (spLL K) := by
  have G_begins_with_word := ok_bw (P := P) (w := w) (base := base) T
  refine T.F_looks_like_expression.ok sc_looks_like_expression (fun vs H Q E h => ?_) (fun cdv A outer s H vs Q E hr h => ?_)
  · obtain ⟨v, e, rfl, _⟩ := h
    rfl
  · obtain ⟨v, e, rfl, hv, he, q⟩ := h
    have hr : Room 1 _ := hr
    obtain ⟨a, s', xs, rfl, hs, hl, rfl, hl2⟩ := rp_ex hv
    obtain ⟨es, n, r, l1, l2, l3, l4, l5⟩ := len_at TA he
    refine ⟨_, (pss_one (ps_ret (pe_and (pe_call G_begins_with_word (hr.mono (by omega)) (by rfl) T.g_begins_with_word T.F_begins_with_word.kp T.b_begins_with_word .nil pass0 (pa_cons (pv 0) pa_nil)) (pe_one (pe_cmpR op_eq (pe_kget (pe_glob (v := .ref TA.a_EXPRESSION_LENGTHS) (by rfl) TA.m_EXPRESSION_LENGTHS rfl) (pe_ix ix_tup (pv 0) pe_int (fun _ _ => rfl)) (M1.mk rfl rfl rfl rfl)) (pe_callB call_len_seq (by rfl) T.m_len (by decide +kernel) (pa_cons (pv 0) pa_nil)) (nomark _)))))), ?_⟩
    refine ⟨_, rfl, _, rfl, .inl ⟨a, _, xs, rfl, hs, by omega, _, rfl, ite_t rfl ?_⟩⟩
    refine ⟨_, es, n, rfl, l1, l2, _, rfl, _, _, _, _, rfl, rfl, hs, atI_0, _, _, rfl, ⟨es, n, r, l1, l2, l3, l4, l5⟩, _, rfl, a, _, rfl, .inr hs, ?_⟩
    refine ⟨rfl, ?_⟩
    have e0 : decide (V.int (e.len : Int) = V.int ((V.str e.wd :: xs).length : Nat)) = true := by
      have : (V.str e.wd :: xs).length = e.len := by
        rw [List.length_cons, hl2]
        have : 2 ≤ e.len := by cases e <;> simp [Ex.len]
        omega
      rw [this]
      exact decide_eq_true rfl
    show Q (.bl (decide (V.int (e.len : Int) = V.int ((V.str e.wd :: xs).length : Nat)))) H
    rw [e0]
    exact q
end

end My

set_option Elab.async false
set_option linter.all false
set_option maxRecDepth 100000
set_option maxHeartbeats 4000000
namespace My
open PySem PySem.Spec PyProof.Rows L2
local macro_rules | `(tactic| walk_at "asm") => `(tactic| (refine' of_eq_true (eq_true ?_); assumption))
local macro_rules | `(tactic| walk_at "go1") => `(tactic| first
  | (with_reducible rfl) | walk_at "asm" | (apply And.intro) | (apply Exists.intro)
  | (refine' ite_f (by decide +kernel) ?_) | (refine' ite_t (by decide +kernel) ?_) | (refine' ite_f (dstr_ne (by assumption)) ?_) | (refine' ite_t (dstr_eq (by assumption)) ?_)
  | (exact SqT.of upd_same) | (exact SqL.of upd_same) | (exact SqL.of (by assumption)) | (exact SqT.of (by assumption)) | (exact dget_s (by assumption) (by assumption)) | (exact dget_f (by assumption) (by assumption))
  | (exact Or.inl (by assumption)) | (exact Or.inr (by assumption)) | (exact Or.inl (SqL.of (by assumption))) | (exact Or.inr (SqT.of (by assumption))) | rfl)
local macro_rules | `(tactic| walk_at "go") => `(tactic| repeat' walk_at "go1")

section
variable {P : Program} {w : World} {K : PySem.W.Frag} {mg : Str → Option Value} {base : Heap} {ds : List PyData}
theorem cat_k {H : Hp} {x y : V} {ds es : List PyData} {J : V → Hp → Prop} (ha : Rp K H x (.tuple ds)) (hb : Rp K H y (.tuple es)) (hl : ds.length + es.length ≤ 1000)
    (hJ : ∀ v H', KT [] H H' → Rp K H' v (.tuple (ds ++ es)) → J v H') : rCatA K x y H J := by
  obtain ⟨a, xs, rfl, hs, hx⟩ := ha.inv
  obtain ⟨b, ys, rfl, ht, hy⟩ := hb.inv
  have l1 := hx.length
  have l2 := hy.length
  refine ⟨a, b, xs, ys, rfl, rfl, hs, ht, Nat.le_trans (by omega : _ ≤ 1000) (by decide), fun e => ?_, fun e1 e => ?_, fun e1 e2 p np => ?_⟩
  · subst e
    have : ds = [] := List.eq_nil_of_length_eq_zero l1.symm
    subst this
    exact hJ _ _ (.refl _ _) hb
  · subst e
    have : es = [] := List.eq_nil_of_length_eq_zero l2.symm
    subst this
    exact hJ _ _ (.refl _ _) (by rw [List.append_nil]; exact ha)
  · exact hJ _ _ (.new _ np) (.made np (hx.app hy))
def cutD (ds : List PyData) (lo hi : Option Int) : List PyData := (ds.drop (HT.sIx ds.length 0 lo)).take (HT.sIx ds.length ds.length hi - HT.sIx ds.length 0 lo)
theorem sl_data {H : Hp} {x : V} {lo hi : Option Int} {J : V → Hp → Prop} (r : Rp K H x (.tuple ds)) (hJ : ∀ v H', KT [] H H' → Rp K H' v (.tuple (cutD ds lo hi)) → J v H') : rSlA K x lo hi H J := by
  obtain ⟨p, xs, rfl, hs, hx⟩ := r.inv
  have l := hx.length
  refine ⟨p, xs, rfl, hs, fun w => hJ _ _ (.refl _ _) ?_, fun _ q nq => hJ _ _ (.new _ nq) ?_⟩
  · have e : cutD ds lo hi = ds := by
      unfold cutD
      rw [← l, w.1, w.2, l, List.drop_zero, Nat.sub_zero, List.take_length]
    rw [e]
    exact r
  · have e := (hx.drop (HT.sIx ds.length 0 lo)).take (HT.sIx ds.length ds.length hi - HT.sIx ds.length 0 lo)
    refine .made nq ?_
    unfold cutV
    rw [l]
    exact e

def spPt (K : PySem.W.Frag) : Sp := fun vs H Q _ => ∃ (v : V) (e : Ex), vs = [v] ∧ Rp K H v e.d ∧ OpE e ∧ ∀ a H' xs, KT [] H H' → SqT K H' a xs → RpA K H' xs (e.subs.map Ex.d) → Q (.ref a) H'
theorem ok_parts (T : Txt K mg) : FnOk P w K mg base CX0 1 T.f_parts T.d_parts ["expression"] (spPt K) := by
  refine T.F_parts.ok sc_parts (fun vs H Q E h => ?_) (fun cdv A outer s H vs Q E hr h => ?_)
  · obtain ⟨v, e, rfl, _⟩ := h
    rfl
  · obtain ⟨v, e, rfl, hv, he, q⟩ := h
    refine ⟨_, (pss_cons (ps_set (i := 1) sc_parts.nd rfl (Or.inl rfl) (pe_ix ix_tup (pv 0) pe_int (fun _ _ => rfl)))
      (pss_cons (ps_if (PW.pt (pw_or (pt_cmpR op_eq (pv 1) pe_str (nomark _)) (pw_or1 (pt_cmpR op_eq (pv 1) pe_str (nomark _)))))
        (pss_one (ps_ret (pe_tup pa_nil)))
        pss_nil)
      (pss_cons (ps_if (pt_cmpR op_eq (pv 1) pe_str (nomark _))
        (pss_one (ps_ret (pe_tup (pa_cons (pe_ix ix_tup (pv 0) pe_int (fun _ _ => rfl)) pa_nil))))
        pss_nil)
      (pss_one (ps_ret (pe_slice sl_tupA (pv 0) (po_some pe_int) po_none)))))), ?_⟩
    cases e with
    | int n =>
      obtain ⟨a, rfl, hs⟩ := rp_int hv
      refine ⟨_, rfl, _, _, _, _, rfl, rfl, hs, atI_0, ?_⟩
      refine ⟨_, rfl, rfl, _, rfl, ite_t (by decide +kernel) (ite_t rfl ⟨Nat.zero_le _, fun t nt => ?_⟩)⟩
      exact q t _ [] (.new _ nt) (SqT.of upd_same) .nil
    | var x =>
      obtain ⟨a, rfl, hs⟩ := rp_var hv
      refine ⟨_, rfl, _, _, _, _, rfl, rfl, hs, atI_0, ?_⟩
      refine ⟨_, rfl, rfl, _, rfl, ite_f (by decide +kernel) ⟨_, rfl, rfl, _, rfl, ite_t (by decide +kernel) ⟨Nat.zero_le _, fun t nt => ?_⟩⟩⟩
      exact q t _ [] (.new _ nt) (SqT.of upd_same) .nil
    | cell x i =>
      obtain ⟨a, u, rfl, hs, hu⟩ := rp_cell hv
      refine ⟨_, rfl, _, _, _, _, rfl, rfl, hs, atI_0, ?_⟩
      refine ⟨_, rfl, rfl, _, rfl, ite_f (by decide +kernel) ⟨_, rfl, rfl, _, rfl, ite_f (by decide +kernel) ?_⟩⟩
      refine ⟨_, rfl, rfl, _, rfl, ite_t (by decide +kernel) ⟨_, rfl, _, _, _, _, rfl, rfl, hs, atI_nat (j := 2) rfl, sz1, fun t nt => ?_⟩⟩
      exact q t _ [u] (.new _ nt) (SqT.of upd_same) (.cons (hu.keep (KT.new [] nt)) .nil)
    | not i =>
      obtain ⟨a, u, rfl, hs, hu⟩ := rp_not hv
      refine ⟨_, rfl, _, _, _, _, rfl, rfl, hs, atI_0, ?_⟩
      refine ⟨_, rfl, rfl, _, rfl, ite_f (by decide +kernel) ⟨_, rfl, rfl, _, rfl, ite_f (by decide +kernel) ?_⟩⟩
      refine ⟨_, rfl, rfl, _, rfl, ite_f (by decide +kernel) ⟨_, rfl, _, rfl, ?_⟩⟩
      refine sl_data (ds := [.str "not", i.d]) hv (fun v H' k r => ?_)
      obtain ⟨b, xs, rfl, hb, hx⟩ := r.inv
      exact q b _ xs k hb hx
    | op o i j =>
      obtain ⟨a, u, t, rfl, hs, hu, ht⟩ := rp_op hv
      obtain ⟨o1, o2, o3, o4⟩ := opl_ne he
      refine ⟨_, rfl, _, _, _, _, rfl, rfl, hs, atI_0, ?_⟩
      refine ⟨_, rfl, rfl, _, rfl, ite_f (dstr_ne o1) ⟨_, rfl, rfl, _, rfl, ite_f (dstr_ne o2) ?_⟩⟩
      refine ⟨_, rfl, rfl, _, rfl, ite_f (dstr_ne o3) ⟨_, rfl, _, rfl, ?_⟩⟩
      refine sl_data (ds := [.str o, i.d, j.d]) hv (fun v H' k r => ?_)
      obtain ⟨b, xs, rfl, hb, hx⟩ := r.inv
      exact q b _ xs k hb hx
/-- a list of expressions under way -/
structure WtV (K : PySem.W.Frag) (Hx : Hp) (wl : Addr) (L : List Ex) : Prop where
  h : ∃ ws, Hx wl = some (.lst ws) ∧ RpA K Hx ws (L.map Ex.d)
  o : ∀ p ∈ L, OpE p
theorem rpA_split {H : Hp} : ∀ {ds es : List PyData} {vs : List V}, RpA K H vs (ds ++ es) → ∃ us ws, vs = us ++ ws ∧ RpA K H us ds ∧ RpA K H ws es
  | [], es, vs, h => ⟨[], vs, rfl, .nil, h⟩
  | d :: ds, es, vs, h => by
    obtain ⟨v, t, rfl, h1, h2⟩ := RpA.inv (d := d) (ds := ds ++ es) h
    obtain ⟨us, ws, rfl, h3, h4⟩ := rpA_split h2
    exact ⟨v :: us, ws, rfl, .cons h1 h3, h4⟩
theorem snoc_of {α : Type} {L : List α} (h : L ≠ []) : ∃ L' p, L = L' ++ [p] := ⟨L.dropLast, L.getLast h, (List.dropLast_concat_getLast h).symm⟩
theorem last_at {α : Type} (xs : List α) (y : α) : (xs ++ [y])[(xs ++ [y]).length - 1]? = some y := by
  rw [List.length_append, List.length_singleton, Nat.add_sub_cancel, List.getElem?_append_right (Nat.le_refl _), Nat.sub_self]
  rfl
theorem rpA_map_len {H : Hp} {α : Type} {f : α → PyData} {xs : List α} {vs : List V} (h : RpA K H vs (xs.map f)) : vs.length = xs.length := by rw [h.length, List.length_map]
def atD (u : Str × Str) : PyData := .tuple [.str u.1, .str u.2]
def spUs (K : PySem.W.Frag) : Sp := fun vs H Q _ => ∃ (v : V) (e : Ex) (wd : Nat), vs = [v] ∧ Rp K H v e.d ∧ ExN wd e ∧ e.dep ≤ 4 ∧ ∀ (l : Addr) (H' : Hp) (us : List (Str × Str)) (vs : List V), KT [] H H' → H' l = some (.lst vs) → RpA K H' vs (us.map atD) → us.Perm e.ats → Q (.ref l) H'
theorem ok_uses (T : Txt K mg) : FnOk P w K mg base CX0 2 T.f_uses T.d_uses ["expression"] (spUs K) := by
  have G_parts := ok_parts (P := P) (w := w) (base := base) T
  refine T.F_uses.ok sc_uses (fun vs H Q E h => ?_) (fun cdv A outer s H vs Q E hr h => ?_)
  · obtain ⟨v, e, wd, rfl, _⟩ := h
    rfl
  · obtain ⟨v, e, wd, rfl, hv, he, hd, q⟩ := h
    have hr : Room 1 _ := hr
    have z15 := Ex.sz_15 hd
    have a15 := e.ats_len
    refine ⟨_, (pss_cons (ps_set (i := 1) sc_uses.nd rfl (Or.inl rfl) (pe_lst pa_nil))
      (pss_cons (ps_set (i := 2) sc_uses.nd rfl (Or.inl rfl) (pe_lst (pa_cons (pv 0) pa_nil)))
      (pss_cons (ps_while PassesOwn.never (pt_truthK (K := K) rfl 2)
        (pss_cons (ps_set (i := 3) sc_uses.nd rfl (Or.inl rfl) (pe_bm0 PySem.F.plainAttrs_list PySem.F.slot_list_pop PySem.F.type_list_pop mt_pop (pv 2)))
        (pss_cons (ps_cut (ps_if (PW.pt (pw_or (pt_cmpR op_eq (pe_ix ix_tup (pv 3) pe_int (fun _ _ => rfl)) pe_str (nomark _)) (pw_or1 (pt_cmpR op_eq (pe_ix ix_tup (pv 3) pe_int (fun _ _ => rfl)) pe_str (nomark _)))))
          (pss_one (ps_expr (pe_bm PySem.F.plainAttrs_list PySem.F.slot_list_append PySem.F.type_list_append mt_append (pv 1) (pa_cons (pe_tup (pa_cons (pe_ix ix_tup (pv 3) pe_int (fun _ _ => rfl)) (pa_cons (pe_ix ix_tup (pv 3) pe_int (fun _ _ => rfl)) pa_nil))) pa_nil))))
          pss_nil))
        (pss_one (ps_expr (pe_bm PySem.F.plainAttrs_list PySem.F.slot_list_extend PySem.F.type_list_extend mt_extT (pv 2) (pa_cons (pe_call G_parts (hr.mono (by omega)) (by rfl) T.g_parts T.F_parts.kp T.b_parts .nil pass0 (pa_cons (pv 3) pa_nil)) pa_nil)))))))
      (pss_one (ps_ret (pv 1)))))), ?_⟩
    refine ⟨Nat.zero_le _, fun fl nfl => ?_⟩
    have k1 : KT [] H (upd H fl (.lst [])) := .new _ nfl
    have hf1 : (upd H fl (.lst [])) fl = some (.lst []) := upd_same
    generalize upd H fl (.lst []) = H1 at k1 hf1 ⊢
    refine ⟨_, rfl, sz1, fun wl nwl => ?_⟩
    have k2 : KT [] H1 (upd H1 wl (.lst [v])) := .new _ nwl
    have hw2 : (upd H1 wl (.lst [v])) wl = some (.lst [v]) := upd_same
    have hf2 := k2.s0 hf1
    have nfw : fl ≠ wl := fun z => by rw [z, nwl] at hf1; cases hf1
    have nwl0 := k1.free nwl
    generalize upd H1 wl (.lst [v]) = H2 at k2 hw2 hf2 ⊢
    refine ⟨fun m σ Hx => ∃ (x3 : Option V) (L : List Ex) (us : List (Str × Str)) (ws vs : List V), σ = [some v, some (.ref fl), some (.ref wl), x3] ∧ KT [] H Hx ∧ Hx fl = some (.lst vs) ∧ RpA K Hx vs (us.map atD) ∧ Hx wl = some (.lst ws) ∧ RpA K Hx ws (L.map Ex.d) ∧ (∀ p ∈ L, ExN wd p) ∧ xsz L ≤ 15 ∧ m = xsz L ∧ (us ++ L.flatMap Ex.ats).Perm e.ats,
      ⟨_, none, [e], [], [v], [], rfl, k1.trans k2, hf2, .nil, hw2, .cons ((hv.keep k1).keep k2) .nil, (fun p hp => by rw [List.mem_singleton.mp hp]; exact he), by show e.sz + 0 ≤ 15; omega, rfl, by simp⟩, ?_⟩
    rintro m σ Hx ⟨x3, L, us, ws, vs, rfl, kx, hfl, hvs, hwl, hws, hL, zL, rfl, pm⟩
    by_cases hLe : L = []
    · subst hLe
      obtain rfl : ws = [] := hws.inv0
      refine ⟨_, rfl, false, .inl ⟨_, SqL.of hwl, rfl⟩, ?_⟩
      refine ⟨_, rfl, ?_⟩
      exact q fl Hx us vs kx hfl hvs (by simpa using pm)
    obtain ⟨L', p, rfl⟩ := snoc_of hLe
    rw [List.map_append] at hws
    obtain ⟨ws', w1, rfl, hw1, hw2'⟩ := rpA_split hws
    obtain ⟨w0, t0, rfl, hp, ht⟩ := RpA.inv (d := p.d) (ds := []) hw2'
    obtain rfl : t0 = [] := ht.inv0
    have pE := hL p (by simp)
    have zp := p.subs_sz
    rw [xsz_app] at zL
    have zL2 : xsz L' + (p.sz + 0) ≤ 15 := zL
    have lL := xsz_len L'
    have lw := rpA_map_len hw1
    have lu : us.length ≤ 15 := by
      have := pm.length_eq
      rw [List.length_append] at this
      omega
    have lv := rpA_map_len hvs
    refine ⟨_, rfl, true, .inl ⟨_, SqL.of hwl, by simp⟩, ?_⟩
    refine ⟨_, fun _ _ h => h, ?_⟩
    refine ⟨_, rfl, .inl ⟨rfl, _, SqL.of hwl⟩, wl, _, w0, rfl, rfl, hwl, last_at _ _, ?_⟩
    rw [List.dropLast_concat]
    have ky := kx.late (o := .lst ws') nwl0
    have tk := sqT_putL (K := K) (o := .lst ws') hwl
    have hfy : (upd Hx wl (.lst ws')) fl = some (.lst vs) := by rw [upd_ne nfw]; exact hfl
    have hwy : (upd Hx wl (.lst ws')) wl = some (.lst ws') := upd_same
    have hvy := rpA_ofT tk hvs
    have hw1y := rpA_ofT tk hw1
    have hpy := rp_ofT tk hp
    generalize upd Hx wl (.lst ws') = Hy at ky hfy hwy hvy hw1y hpy ⊢
    refine ⟨fun σ H' => ∃ vs', σ = [some v, some (.ref fl), some (.ref wl), some w0] ∧ KT [] H H' ∧ H' fl = some (.lst vs') ∧ RpA K H' vs' ((us ++ p.hds).map atD) ∧ H' wl = some (.lst ws') ∧ RpA K H' ws' (L'.map Ex.d) ∧ Rp K H' w0 p.d, ?_, ?_⟩
    · have done : p.hds = [] → ∃ vs', [some v, some (V.ref fl), some (V.ref wl), some w0] = [some v, some (V.ref fl), some (V.ref wl), some w0] ∧ KT [] H Hy ∧ Hy fl = some (.lst vs') ∧ RpA K Hy vs' ((us ++ p.hds).map atD) ∧ Hy wl = some (.lst ws') ∧ RpA K Hy ws' (L'.map Ex.d) ∧ Rp K Hy w0 p.d := fun e => ⟨vs, rfl, ky, hfy, by rw [e, List.append_nil]; exact hvy, hwy, hw1y, hpy⟩
      have more : ∀ {a : Addr} {u : Str × Str}, p.hds = [u] → Hy a = none → ∃ l xs y, V.ref fl = .ref l ∧ [V.ref a] = [y] ∧ (upd Hy a (.tup [.str u.1, .str u.2])) l = some (.lst xs) ∧ xs.length < sizeLine ∧ ∃ vs', [some v, some (V.ref fl), some (V.ref wl), some w0] = [some v, some (V.ref fl), some (V.ref wl), some w0] ∧ KT [] H (upd (upd Hy a (.tup [.str u.1, .str u.2])) l (.lst (xs ++ [y]))) ∧ (upd (upd Hy a (.tup [.str u.1, .str u.2])) l (.lst (xs ++ [y]))) fl = some (.lst vs') ∧ RpA K (upd (upd Hy a (.tup [.str u.1, .str u.2])) l (.lst (xs ++ [y]))) vs' ((us ++ p.hds).map atD) ∧ (upd (upd Hy a (.tup [.str u.1, .str u.2])) l (.lst (xs ++ [y]))) wl = some (.lst ws') ∧ RpA K (upd (upd Hy a (.tup [.str u.1, .str u.2])) l (.lst (xs ++ [y]))) ws' (L'.map Ex.d) ∧ Rp K (upd (upd Hy a (.tup [.str u.1, .str u.2])) l (.lst (xs ++ [y]))) w0 p.d := by
        intro a u e na
        have ka : KT [] Hy (upd Hy a (.tup [.str u.1, .str u.2])) := .new _ na
        have hfa := ka.s0 hfy
        have ra : Rp K (upd Hy a (.tup [.str u.1, .str u.2])) (.ref a) (atD u) := .made na (.cons (.str _) (.cons (.str _) .nil))
        have hwa := ka.s0 hwy
        have tk2 := sqT_putL (K := K) (o := .lst (vs ++ [.ref a])) hfa
        refine ⟨fl, vs, .ref a, rfl, rfl, hfa, Nat.lt_of_le_of_lt (by omega : vs.length ≤ 15) (by decide), vs ++ [.ref a], rfl, (ky.trans ka).late nfl, upd_same, ?_, ?_, rpA_ofT tk2 (hw1y.keep ka), rp_ofT tk2 (hpy.keep ka)⟩
        · rw [e, List.map_append]
          exact RpA.app (rpA_ofT tk2 (hvy.keep ka)) (.cons (rp_ofT tk2 ra) .nil)
        · rw [upd_ne (Ne.symm nfw)]
          exact hwa
      clear pm hvs hws hw2' hp hw1
      cases p with
      | int n =>
        obtain ⟨a, rfl, hs⟩ := rp_int hpy
        exact ⟨_, rfl, _, _, _, _, rfl, rfl, hs, atI_0, rfl, _, rfl, ite_f (by decide +kernel) ⟨_, rfl, _, _, _, _, rfl, rfl, hs, atI_0, rfl, _, rfl, ite_f (by decide +kernel) (done rfl)⟩⟩
      | not i =>
        obtain ⟨a, u, rfl, hs, _⟩ := rp_not hpy
        exact ⟨_, rfl, _, _, _, _, rfl, rfl, hs, atI_0, rfl, _, rfl, ite_f (by decide +kernel) ⟨_, rfl, _, _, _, _, rfl, rfl, hs, atI_0, rfl, _, rfl, ite_f (by decide +kernel) (done rfl)⟩⟩
      | op o i j =>
        obtain ⟨a, u, t, rfl, hs, _, _⟩ := rp_op hpy
        obtain ⟨o1, o2, o3, o4⟩ := opl_ne pE.1
        exact ⟨_, rfl, _, _, _, _, rfl, rfl, hs, atI_0, rfl, _, rfl, ite_f (dstr_ne o2) ⟨_, rfl, _, _, _, _, rfl, rfl, hs, atI_0, rfl, _, rfl, ite_f (dstr_ne o3) (done rfl)⟩⟩
      | var x =>
        obtain ⟨a, rfl, hs⟩ := rp_var hpy
        refine ⟨_, rfl, _, _, _, _, rfl, rfl, hs, atI_0, rfl, _, rfl, ite_t (by decide +kernel) (ite_t rfl ?_)⟩
        exact ⟨_, rfl, .inl ⟨rfl, _, SqL.of hfy⟩, _, rfl, _, _, _, _, rfl, rfl, hs, atI_0, _, rfl, _, _, _, _, rfl, rfl, hs, atI_1, sz2, fun t nt => more (u := ("var", x)) rfl nt⟩
      | cell x i =>
        obtain ⟨a, u, rfl, hs, _⟩ := rp_cell hpy
        refine ⟨_, rfl, _, _, _, _, rfl, rfl, hs, atI_0, rfl, _, rfl, ite_f (by decide +kernel) ⟨_, rfl, _, _, _, _, rfl, rfl, hs, atI_0, rfl, _, rfl, ite_t (by decide +kernel) ?_⟩⟩
        exact ⟨_, rfl, .inl ⟨rfl, _, SqL.of hfy⟩, _, rfl, _, _, _, _, rfl, rfl, hs, atI_0, _, rfl, _, _, _, _, rfl, rfl, hs, atI_1, sz2, fun t nt => more (u := ("cell", x)) rfl nt⟩
    rintro σ H3 ⟨vs', rfl, k3, hf3, hv3, hw3, hw13, hp3⟩
    refine ⟨_, rfl, .inl ⟨rfl, _, SqL.of hw3⟩, _, rfl, w0, p, rfl, hp3, opE_of pE, fun a H4 xs k4 hs hx => ?_⟩
    have hw4 := k4.s0 hw3
    have hf4 := k4.s0 hf3
    have lx := rpA_map_len hx
    have ls := xsz_len p.subs
    have tk4 := sqT_putL (K := K) (o := .lst (ws' ++ xs)) hw4
    refine ⟨wl, a, ws', xs, rfl, rfl, hw4, hs, Nat.le_trans (by omega : _ ≤ 30) (by decide), ?_⟩
    refine ⟨xsz (L' ++ p.subs), ?_, some w0, L' ++ p.subs, us ++ p.hds, ws' ++ xs, vs', rfl, (k3.trans k4).late nwl0, ?_, rpA_ofT tk4 (hv3.keep k4), upd_same, ?_, ?_, ?_, rfl, ?_⟩
    · rw [xsz_app, xsz_app]
      show xsz L' + xsz p.subs < xsz L' + (p.sz + 0)
      omega
    · rw [upd_ne nfw]
      exact hf4
    · rw [List.map_append]
      exact RpA.app (rpA_ofT tk4 (hw13.keep k4)) (rpA_ofT tk4 hx)
    · intro q hq
      rcases List.mem_append.mp hq with h | h
      · exact hL q (List.mem_append.mpr (.inl h))
      · exact exN_subs pE h
    · rw [xsz_app]
      omega
    · refine List.Perm.trans ?_ pm
      rw [List.flatMap_append, List.flatMap_append]
      show (us ++ p.hds ++ (L'.flatMap Ex.ats ++ p.subs.flatMap Ex.ats)).Perm (us ++ (L'.flatMap Ex.ats ++ (p.ats ++ [])))
      rw [List.append_nil, p.ats_eq, List.append_assoc]
      refine List.Perm.append_left us ?_
      rw [← List.append_assoc, ← List.append_assoc]
      exact List.Perm.append_right _ List.perm_append_comm

end
end My

set_option Elab.async false
set_option linter.all false
set_option maxRecDepth 100000
set_option maxHeartbeats 4000000
namespace My
open PySem PySem.Spec PyProof.Rows L2
local macro_rules | `(tactic| walk_at "asm") => `(tactic| (refine' of_eq_true (eq_true ?_); assumption))
local macro_rules | `(tactic| walk_at "go1") => `(tactic| first
  | (with_reducible rfl) | walk_at "asm" | (apply And.intro) | (apply Exists.intro)
  | (refine' ite_f (by decide +kernel) ?_) | (refine' ite_t (by decide +kernel) ?_) | (refine' ite_f (dstr_ne (by assumption)) ?_) | (refine' ite_t (dstr_eq (by assumption)) ?_)
  | (exact SqT.of upd_same) | (exact SqL.of upd_same) | (exact SqL.of (by assumption)) | (exact SqT.of (by assumption)) | (exact dget_s (by assumption) (by assumption)) | (exact dget_f (by assumption) (by assumption))
  | (exact Or.inl (by assumption)) | (exact Or.inr (by assumption)) | (exact Or.inl (SqL.of (by assumption))) | (exact Or.inr (SqT.of (by assumption))) | rfl)
local macro_rules | `(tactic| walk_at "go") => `(tactic| repeat' walk_at "go1")

section
variable {P : Program} {w : World} {K : PySem.W.Frag} {mg : Str → Option Value} {base : Heap}
theorem tabG_kt {S : List Addr} {H H' : Hp} {Pt : Addr} (k : KT S H H') (n : Pt ∉ S) (t : GxR.TabG H Pt) : GxR.TabG H' Pt := by
  obtain ⟨ps, e, h⟩ := t
  exact ⟨ps, k.kp _ _ n e, h⟩
theorem tabG_upd {H : Hp} {Pt a : Addr} {o : HO} (n : Pt ≠ a) (t : GxR.TabG H Pt) : GxR.TabG (upd H a o) Pt := by
  obtain ⟨ps, e, h⟩ := t
  exact ⟨ps, by rw [upd_ne n]; exact e, h⟩
theorem tabG_ne {H : Hp} {Pt a : Addr} (t : GxR.TabG H Pt) (n : H a = none) : Pt ≠ a := by
  obtain ⟨ps, e, h⟩ := t
  intro z
  rw [z, n] at e
  cases e
def spEx (K : PySem.W.Frag) (Pt : Addr) : Sp := fun vs H Q _ => ∃ (v : V) (e : Ex) (wd : Nat), vs = [v, .int wd] ∧ wd ≤ 32 ∧ Rp K H v e.d ∧ ExN wd e ∧ e.dep ≤ 4 ∧ GxR.TabG H Pt ∧ ∀ H', KT [Pt] H H' → GxR.TabG H' Pt → Q (.bl true) H'
theorem ok_is_ex (T : Txt K mg) (TA : TxA K mg w) (TB : TBs T base) : FnOk P w K mg base CX0 6 T.f_is_expression T.d_is_expression ["value", "w"] (spEx K T.P_is_name) := by
  have G_parts := ok_parts (P := P) (w := w) (base := base) T
  have G_looks_like_expression := ok_ll (P := P) (base := base) T TA
  have G_is_word := ok_is_word (P := P) (w := w) (base := base) T
  have G_is_name := ok_is_name (P := P) (w := w) (base := base) T TB
  refine T.F_is_expression.ok sc_is_expression (fun vs H Q E h => ?_) (fun cdv A outer s H vs Q E hr h => ?_)
  · obtain ⟨v, e, wd, rfl, _⟩ := h
    rfl
  · obtain ⟨v, e, wd, rfl, w2, hv, he, hd, tg, q⟩ := h
    have hr : Room 5 _ := hr
    have z15 := Ex.sz_15 hd
    refine ⟨_, (pss_cons (ps_set (i := 2) sc_is_expression.nd rfl (Or.inl rfl) (pe_lst (pa_cons (pv 0) pa_nil)))
      (pss_cons (ps_while PassesOwn.never (pt_truthK (K := K) rfl 2)
        (pss_cons (ps_set (i := 3) sc_is_expression.nd rfl (Or.inl rfl) (pe_bm0 PySem.F.plainAttrs_list PySem.F.slot_list_pop PySem.F.type_list_pop mt_pop (pv 2)))
        (pss_cons (ps_if (pt_not (pt_val (pe_call G_looks_like_expression (hr.mono (by omega)) (by rfl) T.g_looks_like_expression T.F_looks_like_expression.kp T.b_looks_like_expression .nil pass0 (pa_cons (pv 3) pa_nil))))
          (pss_one (ps_ret pe_bl))
          pss_nil)
        (pss_cons (ps_if (pt_cut (PW.pt (pw_and (pt_cmpR op_eq (pe_ix ix_tup (pv 3) pe_int (fun _ _ => rfl)) pe_str (nomark _)) (pw_and1 (pt_not (pt_val (pe_call G_is_word (hr.mono (by omega)) (by rfl) T.g_is_word T.F_is_word.kp T.b_is_word .nil pass0 (pa_cons (pe_ix ix_tup (pv 3) pe_int (fun _ _ => rfl)) (pa_cons (pv 1) pa_nil)))))))))
          (pss_one (ps_ret pe_bl))
          pss_nil)
        (pss_cons (ps_if (pt_cut (PW.pt (pw_and (pt_cmpR op_in_seq (pe_ix ix_tup (pv 3) pe_int (fun _ _ => rfl)) (pe_tup (pa_cons pe_str (pa_cons pe_str pa_nil))) (by rfl)) (pw_and1 (pt_not (pt_val (pe_call G_is_name (hr.mono (by omega)) (by rfl) T.g_is_name T.F_is_name.kp T.b_is_name .nil pass0 (pa_cons (pe_ix ix_tup (pv 3) pe_int (fun _ _ => rfl)) pa_nil))))))))
          (pss_one (ps_ret pe_bl))
          pss_nil)
        (pss_one (ps_expr (pe_bm PySem.F.plainAttrs_list PySem.F.slot_list_extend PySem.F.type_list_extend mt_extT (pv 2) (pa_cons (pe_call G_parts (hr.mono (by omega)) (by rfl) T.g_parts T.F_parts.kp T.b_parts .nil pass0 (pa_cons (pv 3) pa_nil)) pa_nil)))))))))
      (pss_one (ps_ret pe_bl)))), ?_⟩
    refine ⟨_, rfl, sz1, fun wl nwl => ?_⟩
    have k2 : KT [T.P_is_name] H (upd H wl (.lst [v])) := .new _ nwl
    have hw2 : (upd H wl (.lst [v])) wl = some (.lst [v]) := upd_same
    have npw := tabG_ne tg nwl
    have nwp : wl ∉ [T.P_is_name] := fun z => npw (List.mem_singleton.mp z).symm
    have tg2 := tabG_upd (o := .lst [v]) npw tg
    generalize upd H wl (.lst [v]) = H2 at k2 hw2 tg2 ⊢
    refine ⟨fun m σ Hx => ∃ (x3 : Option V) (L : List Ex) (ws : List V), σ = [some v, some (.int wd), some (.ref wl), x3] ∧ KT [T.P_is_name] H Hx ∧ GxR.TabG Hx T.P_is_name ∧ Hx wl = some (.lst ws) ∧ RpA K Hx ws (L.map Ex.d) ∧ (∀ p ∈ L, ExN wd p) ∧ xsz L ≤ 15 ∧ m = xsz L,
      ⟨_, none, [e], [v], rfl, k2, tg2, hw2, .cons (hv.keep k2) .nil, (fun p hp => by rw [List.mem_singleton.mp hp]; exact he), by show e.sz + 0 ≤ 15; omega, rfl⟩, ?_⟩
    rintro m σ Hx ⟨x3, L, ws, rfl, kx, tx, hwl, hws, hL, zL, rfl⟩
    by_cases hLe : L = []
    · subst hLe
      obtain rfl : ws = [] := hws.inv0
      refine ⟨_, rfl, false, .inl ⟨_, SqL.of hwl, rfl⟩, ?_⟩
      exact q Hx kx tx
    obtain ⟨L', p, rfl⟩ := snoc_of hLe
    rw [List.map_append] at hws
    obtain ⟨ws', w1, rfl, hw1, hw2'⟩ := rpA_split hws
    obtain ⟨w0, t0, rfl, hp, ht⟩ := RpA.inv (d := p.d) (ds := []) hw2'
    obtain rfl : t0 = [] := ht.inv0
    have pE := hL p (by simp)
    have zp := p.subs_sz
    rw [xsz_app] at zL
    have zL2 : xsz L' + (p.sz + 0) ≤ 15 := zL
    have lL := xsz_len L'
    have lw := rpA_map_len hw1
    refine ⟨_, rfl, true, .inl ⟨_, SqL.of hwl, by simp⟩, ?_⟩
    refine ⟨_, fun _ _ h => h, ?_⟩
    refine ⟨_, rfl, .inl ⟨rfl, _, SqL.of hwl⟩, wl, _, w0, rfl, rfl, hwl, last_at _ _, ?_⟩
    rw [List.dropLast_concat]
    have ky := kx.late (o := .lst ws') nwl
    have tk := sqT_putL (K := K) (o := .lst ws') hwl
    have hwy : (upd Hx wl (.lst ws')) wl = some (.lst ws') := upd_same
    have hw1y := rpA_ofT tk hw1
    have hpy := rp_ofT tk hp
    have ty := tabG_upd (o := .lst ws') npw tx
    generalize upd Hx wl (.lst ws') = Hy at ky hwy hw1y hpy ty ⊢
    refine ⟨_, rfl, w0, p, rfl, hpy, opE_of pE, _, rfl, ite_f (by decide) ?_⟩
    -- the words
    refine ⟨fun b H' => b = false ∧ H' = Hy, ?_, ?_⟩
    · obtain ⟨a, s', xs, rfl, hs, hl, rfl, hl2⟩ := rp_ex hpy
      refine ⟨_, rfl, _, _, _, _, rfl, rfl, hs, atI_0, rfl, _, rfl, ite2 (fun z => ?_) (fun z => ⟨rfl, rfl⟩)⟩
      have zi := V.str.inj (of_decide_eq_true z)
      cases p with
      | int n =>
        obtain ⟨a', e', hs'⟩ := rp_int hpy
        cases e'
        have hn : isW wd (.int n) = true := by
          obtain ⟨n0, n1⟩ := pE
          show (decide (0 ≤ n) && decide (n ≤ 2 ^ wd - 1)) = true
          rw [decide_eq_true n0, decide_eq_true (by omega)]
          rfl
        refine ⟨_, rfl, _, _, _, _, rfl, rfl, hs', atI_1, _, rfl, .int n, wd, .int n, rfl, w2, .int n, _, rfl, ?_⟩
        rw [hn]
        exact ⟨rfl, rfl⟩
      | var x => exact absurd zi (show ¬ ("var" : Str) = "int" by decide +kernel)
      | cell x i => exact absurd zi (show ¬ ("cell" : Str) = "int" by decide +kernel)
      | not i => exact absurd zi (show ¬ ("not" : Str) = "int" by decide +kernel)
      | op o i j => exact absurd zi (opl_ne pE.1).1
    rintro b H' ⟨rfl, rfl⟩
    refine ite_f (by decide) ?_
    -- the names
    refine ⟨fun b H3 => b = false ∧ KT [T.P_is_name] H' H3 ∧ GxR.TabG H3 T.P_is_name, ?_, ?_⟩
    · obtain ⟨a, s', xs, rfl, hs, hl, rfl, hl2⟩ := rp_ex hpy
      have in_ : inV (V.str p.wd) [V.str "var", V.str "cell"] = decide (p.wd ∈ (["var", "cell"] : List Str)) := inV_strs p.wd ["var", "cell"]
      refine ⟨_, rfl, _, _, _, _, rfl, rfl, hs, atI_0, sz2, fun t nt => ⟨t, _, rfl, .inr (SqT.of upd_same), rfl, rfl, _, rfl, ?_⟩⟩
      rw [if_neg Bool.false_ne_true, in_]
      have kt : KT [] H' (upd H' t (.tup [V.str "var", V.str "cell"])) := .new _ nt
      have tt := tabG_kt kt (by simp) ty
      have hst := kt.sqT hs
      generalize upd H' t (.tup [V.str "var", V.str "cell"]) = Ht at kt tt hst ⊢
      have ktp : KT [T.P_is_name] H' Ht := kt.mono (fun _ z => by cases z)
      refine ite2 (fun z => ?_) (fun z => ⟨rfl, ktp, tt⟩)
      have zi := of_decide_eq_true z
      have call : ∀ (y x : Str) (rs : List V), SqT K Ht a (.str y :: .str x :: rs) → x ∈ five5 → _ := fun y x rs hst hx =>
        (⟨_, rfl, _, _, _, _, rfl, rfl, hst, atI_1, x, rfl, five_names hx, tt, fun H5 k5 t5 => ⟨_, rfl, rfl, ktp.trans k5, t5⟩⟩ : tNot (tB (tCall (spNm K T.P_is_name) [] E0 (tCons (tOp (rIxT K) (tVar 3) (tC (V.int 1))) tNil))) ([some v, some (V.int wd), some (V.ref wl), x3].set 3 (some (V.ref a))) Ht fun b H3 => b = false ∧ KT [T.P_is_name] H' H3 ∧ GxR.TabG H3 T.P_is_name)
      cases p with
      | int n => exact absurd zi (show ¬ ("int" : Str) ∈ (["var", "cell"] : List Str) by decide +kernel)
      | not n => exact absurd zi (show ¬ ("not" : Str) ∈ (["var", "cell"] : List Str) by decide +kernel)
      | op o i j =>
        obtain ⟨o1, o2, o3, o4⟩ := opl_ne pE.1
        have zi : o ∈ (["var", "cell"] : List Str) := zi
        simp only [List.mem_cons, List.not_mem_nil, or_false] at zi
        rcases zi with z | z
        · exact absurd z o2
        · exact absurd z o3
      | var x =>
        obtain ⟨a', e', hs'⟩ := rp_var hpy
        cases e'
        exact call _ x _ (kt.sqT hs') pE
      | cell x i =>
        obtain ⟨a', u', e', hs', _⟩ := rp_cell hpy
        cases e'
        exact call _ x _ (kt.sqT hs') pE.1
    rintro b H3 ⟨rfl, k3, t3⟩
    refine ite_f (by decide) ?_
    have hw3 := k3.kp _ _ nwp hwy
    refine ⟨_, rfl, .inl ⟨rfl, _, SqL.of hw3⟩, _, rfl, w0, p, rfl, hpy.keep k3, opE_of pE, fun a H4 xs k4 hs hx => ?_⟩
    have hw4 := k4.s0 hw3
    have lx := rpA_map_len hx
    have ls := xsz_len p.subs
    have tk4 := sqT_putL (K := K) (o := .lst (ws' ++ xs)) hw4
    refine ⟨wl, a, ws', xs, rfl, rfl, hw4, hs, Nat.le_trans (by omega : _ ≤ 30) (by decide), ?_⟩
    have k34 : KT [T.P_is_name] H' H4 := k3.trans (k4.mono (fun _ z => by cases z))
    refine ⟨xsz (L' ++ p.subs), ?_, some w0, L' ++ p.subs, ws' ++ xs, rfl, (ky.trans k34).late nwl, tabG_upd npw (tabG_kt k4 (by simp) t3), upd_same, ?_, ?_, ?_, rfl⟩
    · rw [xsz_app, xsz_app]
      show xsz L' + xsz p.subs < xsz L' + (p.sz + 0)
      omega
    · rw [List.map_append]
      exact RpA.app (rpA_ofT tk4 (hw1y.keep k34)) (rpA_ofT tk4 hx)
    · intro q hq
      rcases List.mem_append.mp hq with h | h
      · exact hL q (List.mem_append.mpr (.inl h))
      · exact exN_subs pE h
    · rw [xsz_app]
      omega

end
end My

set_option Elab.async false
set_option linter.all false
set_option maxRecDepth 100000
set_option maxHeartbeats 4000000
namespace My
open PySem PySem.Spec PyProof.Rows L2
local macro_rules | `(tactic| walk_at "asm") => `(tactic| (refine' of_eq_true (eq_true ?_); assumption))
local macro_rules | `(tactic| walk_at "go1") => `(tactic| first
  | (with_reducible rfl) | walk_at "asm" | (apply And.intro) | (apply Exists.intro)
  | (refine' ite_f (by decide +kernel) ?_) | (refine' ite_t (by decide +kernel) ?_) | (refine' ite_f (dstr_ne (by assumption)) ?_) | (refine' ite_t (dstr_eq (by assumption)) ?_)
  | (exact SqT.of upd_same) | (exact SqL.of upd_same) | (exact SqL.of (by assumption)) | (exact SqT.of (by assumption)) | (exact dget_s (by assumption) (by assumption)) | (exact dget_f (by assumption) (by assumption))
  | (exact Or.inl (by assumption)) | (exact Or.inr (by assumption)) | (exact Or.inl (SqL.of (by assumption))) | (exact Or.inr (SqT.of (by assumption))) | rfl)
local macro_rules | `(tactic| walk_at "go") => `(tactic| repeat' walk_at "go1")

section
variable {P : Program} {w : World} {K : PySem.W.Frag} {mg : Str → Option Value} {base : Heap}
def PS.wd : PS → Str
  | .set _ _ => "set"
  | .ite _ _ _ => "if"
  | .whl _ _ => "while"
def PS.len : PS → Nat
  | .set _ _ => 3
  | .ite _ _ _ => 4
  | .whl _ _ => 3
def PS.bods : PS → List PyData
  | .set _ _ => []
  | .ite _ a b => [.tuple (pbd a), .tuple (pbd b)]
  | .whl _ a => [.tuple (pbd a)]
def PS.e : PS → Ex
  | .set _ e => e
  | .ite e _ _ => e
  | .whl e _ => e
def spPB (K : PySem.W.Frag) : Sp := fun vs H Q _ => ∃ (v : V) (p : PS), vs = [v] ∧ Rp K H v p.d ∧ ∀ v' H', KT [] H H' → Rp K H' v' (.tuple p.bods) → Q v' H'
theorem ok_pb (T : Txt K mg) : FnOk P w K mg base CX0 1 T.f_plain_bodies T.d_plain_bodies ["statement"] (spPB K) := by
  refine T.F_plain_bodies.ok sc_plain_bodies (fun vs H Q E h => ?_) (fun cdv A outer s H vs Q E hr h => ?_)
  · obtain ⟨v, p, rfl, _⟩ := h
    rfl
  · obtain ⟨v, p, rfl, hv, q⟩ := h
    refine ⟨_, (pss_one (ps_ret (pe_ifExp (pt_cmpR op_eq (pe_ix ix_tup (pv 0) pe_int (fun _ _ => rfl)) pe_str (nomark _)) (pe_tup pa_nil) (pe_slice sl_tupA (pv 0) (po_some pe_int) po_none)))), ?_⟩
    cases p with
    | set x e =>
      obtain ⟨a, u, rfl, hs, _⟩ := rp_set hv
      refine ⟨_, rfl, _, _, _, _, rfl, rfl, hs, atI_0, rfl, _, rfl, ite_t (by decide +kernel) ⟨Nat.zero_le _, fun t nt => ?_⟩⟩
      exact q _ _ (.new _ nt) (.made nt .nil)
    | ite e b c =>
      obtain ⟨a, u, t, f, rfl, hs, _⟩ := rp_ite hv
      refine ⟨_, rfl, _, _, _, _, rfl, rfl, hs, atI_0, rfl, _, rfl, ite_f (by decide +kernel) ⟨_, rfl, _, rfl, ?_⟩⟩
      exact sl_data (ds := [.str "if", e.d, .tuple (pbd b), .tuple (pbd c)]) hv (fun v H' k r => q v H' k r)
    | whl e b =>
      obtain ⟨a, u, t, rfl, hs, _⟩ := rp_whl hv
      refine ⟨_, rfl, _, _, _, _, rfl, rfl, hs, atI_0, rfl, _, rfl, ite_f (by decide +kernel) ⟨_, rfl, _, rfl, ?_⟩⟩
      exact sl_data (ds := [.str "while", e.d, .tuple (pbd b)]) hv (fun v H' k r => q v H' k r)
def atB (nms : List Str) (u : Str × Str) : Bool := decide (u.1 = "var") && decide (u.2 ∈ nms)
def nmB (nms : List Str) : PS → Bool
  | .set x _ => decide (x ∈ nms)
  | _ => true
def stB (nms : List Str) (p : PS) : Bool := nmB nms p && p.e.ats.all (atB nms)
def badS : List PyData := [.tuple [.str "if", (Ex.int 0).d, .tuple [(PS.set "x" (.int 0)).d]], .none, .tuple [.str "int", .int 0]]
def spSt (K : PySem.W.Frag) (Pt : Addr) : Sp := fun vs H Q _ => ∃ (v : V) (wd : Nat) (nn : Addr) (nms : List Str), vs = [v, .int wd, .ref nn] ∧ wd ≤ 32 ∧ SqT K H nn (nms.map V.str) ∧ GxR.TabG H Pt ∧
  ((∃ p : PS, Rp K H v p.d ∧ ExN wd p.e ∧ p.e.dep ≤ 4 ∧ ∀ H', KT [Pt] H H' → GxR.TabG H' Pt → Q (.bl (stB nms p)) H') ∨ ∃ d ∈ badS, Rp K H v d ∧ ∀ H', KT [Pt] H H' → GxR.TabG H' Pt → Q (.bl false) H')
theorem ps_len (TA : TxA K mg w) (p : PS) : ∃ a s xs n, (∀ H v, Rp K H v p.d → True) ∧ s = p.wd ∧ n = p.len ∧ a = TA.a_STATEMENT_LENGTHS ∧ KDgt K w a s (some (.int (n : Nat))) ∧ xs = n := by
  cases p with
  | set x e => exact ⟨_, _, _, _, fun _ _ _ => trivial, rfl, rfl, rfl, TA.s_set, rfl⟩
  | ite e a b => exact ⟨_, _, _, _, fun _ _ _ => trivial, rfl, rfl, rfl, TA.s_if, rfl⟩
  | whl e a => exact ⟨_, _, _, _, fun _ _ _ => trivial, rfl, rfl, rfl, TA.s_while, rfl⟩
theorem rp_ps {H : Hp} {v : V} {p : PS} (h : Rp K H v p.d) : ∃ a s xs, v = .ref a ∧ SqT K H a (.str s :: xs) ∧ xs.length ≤ 3 ∧ s = p.wd ∧ xs.length + 1 = p.len := by
  cases p with
  | set x e => obtain ⟨a, u, rfl, hs, _⟩ := rp_set h; exact ⟨a, _, _, rfl, hs, by show 2 ≤ 3; decide, rfl, rfl⟩
  | ite e b c => obtain ⟨a, u, t, f, rfl, hs, _⟩ := rp_ite h; exact ⟨a, _, _, rfl, hs, by show 3 ≤ 3; decide, rfl, rfl⟩
  | whl e b => obtain ⟨a, u, t, rfl, hs, _⟩ := rp_whl h; exact ⟨a, _, _, rfl, hs, by show 2 ≤ 3; decide, rfl, rfl⟩
theorem ok_st (T : Txt K mg) (TA : TxA K mg w) (TB : TBs T base) : FnOk P w K mg base CX0 7 T.f_is_plain_statement T.d_is_plain_statement ["value", "width", "names"] (spSt K T.P_is_name) := by
  have G_begins_with_word := ok_bw (P := P) (w := w) (base := base) T
  have G_plain_bodies := ok_pb (P := P) (w := w) (base := base) T
  have G_is_expression := ok_is_ex (P := P) (base := base) T TA TB
  have G_uses := ok_uses (P := P) (w := w) (base := base) T
  refine T.F_is_plain_statement.ok sc_is_plain_statement (fun vs H Q E h => ?_) (fun cdv A outer s H vs Q E hr h => ?_)
  · obtain ⟨v, wd, nn, nms, rfl, _⟩ := h
    rfl
  · obtain ⟨v, wd, nn, nms, rfl, w2, hnn, tg, h⟩ := h
    have hr : Room 6 _ := hr
    refine ⟨_, (pss_cons (ps_if (pt_cut (PW.pt (pw_or (pt_not (pt_val (pe_call G_begins_with_word (hr.mono (by omega)) (by rfl) T.g_begins_with_word T.F_begins_with_word.kp T.b_begins_with_word .nil pass0 (pa_cons (pv 0) pa_nil)))) (pw_or1 (pt_cmpR op_ne (pe_kget (pe_glob (v := .ref TA.a_STATEMENT_LENGTHS) (by rfl) TA.m_STATEMENT_LENGTHS rfl) (pe_ix ix_tup (pv 0) pe_int (fun _ _ => rfl)) (M1.mk rfl rfl rfl rfl)) (pe_callB call_len_seq (by rfl) T.m_len (by decide +kernel) (pa_cons (pv 0) pa_nil)) (nomark _))))))
        (pss_one (ps_ret pe_bl))
        pss_nil)
      (pss_cons (ps_if (pt_cut (pt_not (pt_val (pe_callB (cr_all rfl) (by rfl) T.m_all (by decide +kernel) (pa_cons (pe_lc (own := [("body", 6)]) (g := gName 6) (by rfl) sc_is_plain_statement.nd (pi_tup (pe_call G_plain_bodies (hr.mono (by omega)) (by rfl) T.g_plain_bodies T.F_plain_bodies.kp T.b_plain_bodies .nil pass0 (pa_cons (pv 0) pa_nil))) (blkOk_by (own := [("body", 6)]) (N := N_is_plain_statement) (sc := defScope s_is_plain_statement) (by decide +kernel)) (fun _ _ _ _ _ => (pg_name (i := 6) sc_is_plain_statement.nd rfl (Or.inl rfl))) (fun _ _ _ _ _ => pts_nil) (fun _ _ _ _ _ => (pe_callB (isI (K := K) rfl) (by rfl) T.m_isinstance (by decide +kernel) (pa_cons (pv 6) (pa_cons (pe_bltn (v := .ty "tuple") (by rfl) T.m_tuple (by decide +kernel) rfl) pa_nil))))) pa_nil)))))
        (pss_one (ps_ret pe_bl))
        pss_nil)
      (pss_cons (ps_if (pt_cut (PW.pt (pw_and (pt_cmpR op_eq (pe_ix ix_tup (pv 0) pe_int (fun _ _ => rfl)) pe_str (nomark _)) (pw_and1 (pt_not (PW.pt (pw_and (pt_val (pe_callB call_isi (by rfl) T.m_isinstance (by decide +kernel) (pa_cons (pe_ix ix_tup (pv 0) pe_int (fun _ _ => rfl)) (pa_cons (pe_bltn (v := .ty "str") (by rfl) T.m_str (by decide +kernel) rfl) pa_nil)))) (pw_and1 (pt_cmpR op_in_seq (pe_ix ix_tup (pv 0) pe_int (fun _ _ => rfl)) (pv 2) (by rfl))))))))))
        (pss_one (ps_ret pe_bl))
        pss_nil)
      (pss_cons (ps_set (i := 3) sc_is_plain_statement.nd rfl (Or.inl rfl) (pe_cut (pe_ifExp (pt_cmpR op_eq (pe_ix ix_tup (pv 0) pe_int (fun _ _ => rfl)) pe_str (nomark _)) (pe_ix ix_tup (pv 0) pe_int (fun _ _ => rfl)) (pe_ix ix_tup (pv 0) pe_int (fun _ _ => rfl)))))
      (pss_cons (ps_if (pt_not (pt_val (pe_call G_is_expression (hr.mono (by omega)) (by rfl) T.g_is_expression T.F_is_expression.kp T.b_is_expression .nil pass0 (pa_cons (pv 3) (pa_cons (pv 1) pa_nil)))))
        (pss_one (ps_ret pe_bl))
        pss_nil)
      (pss_one (ps_ret (pe_callB (cr_all rfl) (by rfl) T.m_all (by decide +kernel) (pa_cons (pe_lc (own := [("kind", 4), ("name", 5)]) (g := gTup K 2 (gCons (gName 4) (gCons (gName 5) gNil))) (by rfl) sc_is_plain_statement.nd (pi_list (pe_call G_uses (hr.mono (by omega)) (by rfl) T.g_uses T.F_uses.kp T.b_uses .nil pass0 (pa_cons (pv 3) pa_nil))) (blkOk_by (own := [("kind", 4), ("name", 5)]) (N := N_is_plain_statement) (sc := defScope s_is_plain_statement) (by decide +kernel)) (fun _ _ _ _ _ => (pg_tup (by rfl) (pgs_cons (pg_name (i := 4) sc_is_plain_statement.nd rfl (Or.inl rfl)) (pgs_cons (pg_name (i := 5) sc_is_plain_statement.nd rfl (Or.inl rfl)) pgs_nil)))) (fun _ _ _ _ _ => pts_nil) (fun _ _ _ _ _ => (pe_and (pe_cmpR op_eq (pv 4) pe_str (nomark _)) (pe_one (pe_cmpR (opIN (K := K) rfl) (pv 5) (pv 2) (by rfl)))))) pa_nil))))))))), ?_⟩
    rcases h with ⟨p, hv, eN, ed, q⟩ | ⟨d, hd, hv, q⟩
    rotate_left
    · have q0 := q H (.refl _ _) tg
      refine ⟨fun b H' => b = true ∧ H' = H, ?_, ?_⟩
      · unfold badS at hd
        simp only [List.mem_cons, List.not_mem_nil, or_false] at hd
        rcases hd with rfl | rfl | rfl
        · obtain ⟨a, xs, rfl, hs, ha⟩ := Rp.inv hv
          obtain ⟨v1, r1, rfl, h1, ha⟩ := ha.inv
          obtain ⟨v2, r2, rfl, h2, ha⟩ := ha.inv
          obtain ⟨v3, r3, rfl, h3, ha⟩ := ha.inv
          rw [ha.inv0, h1.sInv] at hs
          obtain ⟨es, n, r, l1, l2, l3, l4, l5⟩ := TA.s_if
          refine ⟨_, rfl, .ref a, rfl, .inl ⟨a, _, _, rfl, hs, by show 2 ≤ 1000; decide, _, rfl, ite_f (by decide) ?_⟩⟩
          refine ⟨_, es, n, rfl, l1, l2, _, rfl, _, _, _, _, rfl, rfl, hs, atI_0, _, _, rfl, ⟨es, n, r, l1, l2, l3, l4, l5⟩, _, rfl, a, _, rfl, .inr hs, rfl, _, rfl, ?_⟩
          exact ⟨rfl, rfl⟩
        · obtain rfl : v = .non := by cases hv; rfl
          exact ⟨_, rfl, .non, rfl, .inr ⟨.inl rfl, _, rfl, ite_t rfl ⟨rfl, rfl⟩⟩⟩
        · obtain ⟨a, rfl, hs⟩ := rp_int (n := 0) hv
          obtain ⟨es, n, r, l1, l2, l3, l4, l5⟩ := TA.n_int
          refine ⟨_, rfl, .ref a, rfl, .inl ⟨a, _, _, rfl, hs, by show 1 ≤ 1000; decide, _, rfl, ite_f (by decide) ?_⟩⟩
          refine ⟨_, es, n, rfl, l1, l2, _, rfl, _, _, _, _, rfl, rfl, hs, atI_0, _, _, rfl, ⟨es, n, r, l1, l2, l3, l4, l5⟩, _, rfl, a, _, rfl, .inr hs, rfl, _, rfl, ?_⟩
          exact ⟨rfl, rfl⟩
      · rintro b H' ⟨rfl, rfl⟩
        exact ite_t rfl q0
    -- a tree
    refine ⟨fun b H' => b = false ∧ H' = H, ?_, ?_⟩
    · obtain ⟨a, s', xs, rfl, hs, hl, rfl, hl2⟩ := rp_ps hv
      obtain ⟨a2, s2, xs2, n2, _, rfl, rfl, rfl, ⟨es, n, r, l1, l2, l3, l4, l5⟩, _⟩ := ps_len TA p
      refine ⟨_, rfl, .ref a, rfl, .inl ⟨a, _, _, rfl, hs, by omega, _, rfl, ite_f (by decide) ?_⟩⟩
      refine ⟨_, es, n, rfl, l1, l2, _, rfl, _, _, _, _, rfl, rfl, hs, atI_0, _, _, rfl, ⟨es, n, r, l1, l2, l3, l4, l5⟩, _, rfl, a, _, rfl, .inr hs, rfl, _, rfl, ?_⟩
      refine ⟨?_, rfl⟩
      rw [List.length_cons, hl2]
      simp
    rintro b H' ⟨rfl, rfl⟩
    refine ite_f (by decide) ?_
    refine ⟨fun b H2 => b = false ∧ KT [] H' H2, ?_, ?_⟩
    · refine ⟨_, rfl, v, p, rfl, hv, fun v2 H2 k2 r2 => ?_⟩
      obtain ⟨t, xs, rfl, hs, hx⟩ := r2.inv
      have lb : p.bods.length ≤ 2 := by cases p <;> simp [PS.bods]
      have lx := hx.length
      refine ⟨t, rfl, ⟨_, hs⟩, fun D nD => lc_tup (K := K) (xs := xs) (fun i Hx => Hx = upd H2 D (.lst (List.replicate i (.bl true)))) rfl ?_ ?_ ?_⟩
      · rintro i Hx _ rfl
        exact (KT.new [] nD).sqT hs
      · rintro i x Hx hx' rfl
        obtain ⟨d', hd', rd⟩ := hx.get hx'
        have kD : KT [] H2 (upd H2 D (.lst (List.replicate i (.bl true)))) := .new _ nD
        have isd : isTupD d' = true := by
          have : ∀ q : PS, ∀ d ∈ q.bods, isTupD d = true := by
            intro q d hq
            cases q with
            | set x e => cases hq
            | ite e a b =>
              have hq : d ∈ [PyData.tuple (pbd a), .tuple (pbd b)] := hq
              simp only [List.mem_cons, List.not_mem_nil, or_false] at hq
              rcases hq with rfl | rfl <;> rfl
            | whl e a => rw [List.mem_singleton.mp hq]; rfl
          exact this p d' (List.mem_of_getElem? hd')
        obtain ⟨ty, y1, y2⟩ := isi_tup (rd.keep kD)
        rw [isd] at y2
        have hi : i < xs.length := (List.getElem?_eq_some_iff.mp hx').1
        refine ⟨rfl, _, rfl, _, _, _, _, _, rfl, .ty "tuple", y1, y2, _, upd_same, ?_, ?_⟩
        · rw [List.length_replicate]
          exact Nat.lt_of_le_of_lt (by omega : i ≤ 2) (by decide)
        · rw [upd_upd, List.replicate_succ']
      rintro H3 rfl
      have hD : (upd H2 D (.lst (List.replicate xs.length (.bl true)))) D = some (.lst ((List.replicate xs.length true).map V.bl)) := by rw [upd_same, List.map_replicate]
      refine ⟨D, List.replicate xs.length true, rfl, SqL.of hD, _, rfl, ?_, k2.trans (KT.new _ nD)⟩
      have : (List.replicate xs.length true).all _root_.id = true := by
        rw [List.all_eq_true]
        intro b hb
        rw [(List.mem_replicate.mp hb).2]
        rfl
      show (!(List.replicate xs.length true).all _root_.id) = false
      rw [this]
      rfl
    rintro b H2 ⟨rfl, k2⟩
    refine ite_f (by decide) ?_
    have hv2 := hv.keep k2
    have hn2 := k2.sqT hnn
    have tg2 := tabG_kt k2 (by simp) tg
    have k2p : KT [T.P_is_name] H' H2 := k2.mono (fun _ z => by cases z)
    -- the name
    refine ⟨fun b H3 => H3 = H2 ∧ b = !nmB nms p, ?_, ?_⟩
    · cases p with
      | set x e =>
        obtain ⟨a, u, rfl, hs, _⟩ := rp_set hv2
        refine ⟨_, rfl, _, _, _, _, rfl, rfl, hs, atI_0, rfl, _, rfl, ite_t (by decide +kernel) ?_⟩
        refine ⟨_, rfl, _, _, _, _, rfl, rfl, hs, atI_1, _, _, _, _, _, rfl, .ty "str", .base (.str x), kit_ty (r := true) (by decide +kernel), _, rfl, ite_t rfl ?_⟩
        refine ⟨_, rfl, _, _, _, _, rfl, rfl, hs, atI_1, _, rfl, nn, _, rfl, .inr hn2, rfl, flat_strs _, _, rfl, rfl, ?_⟩
        rw [if_neg Bool.false_ne_true, inV_strs]
        rfl
      | ite e b c =>
        obtain ⟨a, u, t, f, rfl, hs, _⟩ := rp_ite hv2
        exact ⟨_, rfl, _, _, _, _, rfl, rfl, hs, atI_0, rfl, _, rfl, ite_f (by decide +kernel) ⟨rfl, rfl⟩⟩
      | whl e b =>
        obtain ⟨a, u, t, rfl, hs, _⟩ := rp_whl hv2
        exact ⟨_, rfl, _, _, _, _, rfl, rfl, hs, atI_0, rfl, _, rfl, ite_f (by decide +kernel) ⟨rfl, rfl⟩⟩
    rintro b H3 ⟨rfl, rfl⟩
    refine ite2 (fun z => ?_) (fun z => ?_)
    · have e0 : stB nms p = false := by
        unfold stB
        rw [Bool.not_eq_true'] at z
        rw [z]
        rfl
      rw [e0] at q
      exact q _ k2p tg2
    have e1 : stB nms p = p.e.ats.all (atB nms) := by
      unfold stB
      rw [Bool.not_eq_true, Bool.not_eq_false'] at z
      rw [z, Bool.true_and]
    rw [e1] at q
    -- the expression
    refine ⟨fun u H4 => H4 = H3 ∧ Rp K H3 u p.e.d, ?_, ?_⟩
    · cases p with
      | set x e =>
        obtain ⟨a, u, rfl, hs, hu⟩ := rp_set hv2
        exact ⟨_, rfl, _, _, _, _, rfl, rfl, hs, atI_0, rfl, _, rfl, ite_t (by decide +kernel) ⟨_, rfl, _, _, _, _, rfl, rfl, hs, atI_nat (j := 2) rfl, rfl, hu⟩⟩
      | ite e b c =>
        obtain ⟨a, u, t, f, rfl, hs, hu, _⟩ := rp_ite hv2
        exact ⟨_, rfl, _, _, _, _, rfl, rfl, hs, atI_0, rfl, _, rfl, ite_f (by decide +kernel) ⟨_, rfl, _, _, _, _, rfl, rfl, hs, atI_1, rfl, hu⟩⟩
      | whl e b =>
        obtain ⟨a, u, t, rfl, hs, hu, _⟩ := rp_whl hv2
        exact ⟨_, rfl, _, _, _, _, rfl, rfl, hs, atI_0, rfl, _, rfl, ite_f (by decide +kernel) ⟨_, rfl, _, _, _, _, rfl, rfl, hs, atI_1, rfl, hu⟩⟩
    rintro u H4 ⟨rfl, hu⟩
    refine ⟨_, rfl, _, rfl, u, p.e, wd, rfl, w2, hu, eN, ed, tg2, fun H5 k5 t5 => ⟨_, rfl, ite_f (by decide) ?_⟩⟩
    -- what it uses
    refine ⟨_, rfl, u, p.e, wd, rfl, hu.keep k5, eN, ed, fun l H6 us vs k6 hl hvs pm => ?_⟩
    have hn6 := k6.sqT (k5.sqT hn2)
    have t6 := tabG_kt k6 (by simp) t5
    have k16 : KT [T.P_is_name] H' H6 := (k2p.trans k5).trans (k6.mono (fun _ z => by cases z))
    have lus := rpA_map_len hvs
    have a15 := p.e.ats_len
    have z15 := Ex.sz_15 ed
    have lu2 := pm.length_eq
    refine ⟨l, rfl, ⟨_, SqL.of hl⟩, fun D nD => lc_list (K := K) (xs := vs) (fun i Hx => Hx = upd H6 D (.lst (((us.take i).map (atB nms)).map V.bl))) rfl ?_ ?_ ?_⟩
    · rintro i Hx _ rfl
      exact SqL.of ((KT.new [] nD).s0 hl)
    · rintro i x Hx hx rfl
      obtain ⟨d', hd', rd⟩ := hvs.get hx
      rw [List.getElem?_map] at hd'
      cases hf : us[i]? with
      | none => rw [hf] at hd'; cases hd'
      | some y =>
      rw [hf] at hd'
      cases hd'
      have kD : KT [] H6 (upd H6 D (.lst (((us.take i).map (atB nms)).map V.bl))) := .new _ nD
      have hnD := kD.sqT hn6
      obtain ⟨a, xs, rfl, hs, ha⟩ := Rp.inv (ds := [.str y.1, .str y.2]) (rd.keep kD)
      obtain ⟨v1, r1, rfl, h1, ha⟩ := ha.inv
      obtain ⟨v2, r2, rfl, h2, ha⟩ := ha.inv
      rw [ha.inv0, h1.sInv, h2.sInv] at hs
      have hi : i < us.length := (List.getElem?_eq_some_iff.mp hf).1
      have fin : ∀ b, b = atB nms y → ∃ acc, (upd H6 D (.lst (((us.take i).map (atB nms)).map V.bl))) D = some (.lst acc) ∧ acc.length < sizeLine ∧ upd (upd H6 D (.lst (((us.take i).map (atB nms)).map V.bl))) D (.lst (acc ++ [V.bl b])) = upd H6 D (.lst (((us.take (i + 1)).map (atB nms)).map V.bl)) := by
        intro b hb
        refine ⟨_, upd_same, ?_, ?_⟩
        · rw [List.length_map, List.length_map, List.length_take]
          exact Nat.lt_of_le_of_lt (by omega : _ ≤ 15) (by decide)
        · rw [upd_upd, List.take_succ, hf, List.map_append, List.map_append, hb]
          rfl
      refine ⟨a, _, rfl, hs, rfl, _, _, rfl, _, _, rfl, rfl, rfl, ?_⟩
      refine ⟨_, rfl, rfl, _, rfl, ite2 (fun z => ?_) (fun z => ?_)⟩
      · refine ⟨_, rfl, _, rfl, nn, _, rfl, .inr hnD, rfl, flat_strs _, fin _ ?_⟩
        rw [if_neg Bool.false_ne_true, inV_strs]
        unfold atB
        rw [decide_eq_true (V.str.inj (of_decide_eq_true z)), Bool.true_and]
      · refine fin _ ?_
        unfold atB
        rw [decide_eq_false (fun e => z (decide_eq_true (by rw [e]))), Bool.false_and]
    rintro H7 rfl
    have hD : (upd H6 D (.lst (((us.take vs.length).map (atB nms)).map V.bl))) D = some (.lst ((us.map (atB nms)).map V.bl)) := by rw [upd_same, lus, List.take_length]
    refine ⟨D, us.map (atB nms), rfl, SqL.of hD, ?_⟩
    have e2 : (us.map (atB nms)).all _root_.id = p.e.ats.all (atB nms) := by
      rw [List.all_map]
      exact pm.all_eq
    have e3 : (us.map (atB nms)).all id = p.e.ats.all (atB nms) := e2
    rw [e3]
    exact q _ (k16.trans (KT.new _ nD)) (tabG_upd (tabG_ne t6 nD) t6)

end
end My

set_option Elab.async false
set_option linter.all false
set_option maxRecDepth 100000
set_option maxHeartbeats 4000000
namespace My
open PySem PySem.Spec PyProof.Rows L2
local macro_rules | `(tactic| walk_at "asm") => `(tactic| (refine' of_eq_true (eq_true ?_); assumption))
local macro_rules | `(tactic| walk_at "go1") => `(tactic| first
  | (with_reducible rfl) | walk_at "asm" | (apply And.intro) | (apply Exists.intro)
  | (refine' ite_f (by decide +kernel) ?_) | (refine' ite_t (by decide +kernel) ?_) | (refine' ite_f (dstr_ne (by assumption)) ?_) | (refine' ite_t (dstr_eq (by assumption)) ?_)
  | (exact SqT.of upd_same) | (exact SqL.of upd_same) | (exact SqL.of (by assumption)) | (exact SqT.of (by assumption)) | (exact dget_s (by assumption) (by assumption)) | (exact dget_f (by assumption) (by assumption))
  | (exact Or.inl (by assumption)) | (exact Or.inr (by assumption)) | (exact Or.inl (SqL.of (by assumption))) | (exact Or.inr (SqT.of (by assumption))) | rfl)
local macro_rules | `(tactic| walk_at "go") => `(tactic| repeat' walk_at "go1")

section
variable {P : Program} {w : World} {K : PySem.W.Frag} {mg : Str → Option Value} {base : Heap}
def PS.inn : PS → List (List PS)
  | .set _ _ => []
  | .ite _ a b => [a, b]
  | .whl _ a => [a]
theorem PS.bods_inn (p : PS) : p.bods = p.inn.map fun a => .tuple (pbd a) := by cases p <;> rfl
theorem PS.inn_sz (p : PS) : psz p.inn.flatten + 1 = p.sz := by
  cases p with
  | set x e => rfl
  | ite e a b =>
    show psz (a ++ (b ++ [])) + 1 = PS.sz (.ite e a b)
    rw [List.append_nil, psz_app, PS.sz]
  | whl e a =>
    show psz (a ++ []) + 1 = PS.sz (.whl e a)
    rw [List.append_nil, PS.sz]
theorem PS.inn_len (p : PS) : p.inn.length ≤ 2 := by cases p <;> simp [PS.inn]
theorem pok_inn {wd : Nat} {p q : PS} (h : POk wd p) (hq : q ∈ p.inn.flatten) : POk wd q := by
  cases p with
  | set x e => cases hq
  | ite e a b =>
    have hq : q ∈ a ++ (b ++ []) := hq
    rw [List.append_nil] at hq
    rcases List.mem_append.mp hq with z | z
    · exact pbk_mem.mp h.2.1 q z
    · exact pbk_mem.mp h.2.2 q z
  | whl e a =>
    have hq : q ∈ a ++ [] := hq
    rw [List.append_nil] at hq
    exact pbk_mem.mp h.2 q hq
theorem ats_four {wd : Nat} : ∀ {e : Ex}, EOk wd nm4 e → ∀ u ∈ e.ats, u.1 = "var" ∧ u.2 ∈ four4
  | .int n, _, u, h => by cases h
  | .var x, he, u, h => by
    rw [List.mem_singleton.mp h]
    exact ⟨rfl, (nm4_in he).1⟩
  | .cell x i, ⟨⟨s, h1, h2⟩, _⟩, u, h => by
    have := (nm4_in h1).2
    omega
  | .not a, he, u, h => ats_four (e := a) he u h
  | .op o a b, ⟨_, h2, h3⟩, u, h => by
    rcases List.mem_append.mp h with z | z
    · exact ats_four h2 u z
    · exact ats_four h3 u z
theorem stB_good {wd : Nat} {nms : List Str} {p : PS} (h : POk wd p) (hn : ∀ x ∈ four4, x ∈ nms) : stB nms p = true ∧ ExN wd p.e ∧ p.e.dep ≤ 4 := by
  have key : ∀ e : Ex, EO wd nm4 e → e.ats.all (atB nms) = true := fun e he => by
    rw [List.all_eq_true]
    intro u hu
    obtain ⟨h1, h2⟩ := ats_four he.1 u hu
    unfold atB
    rw [decide_eq_true h1, decide_eq_true (hn _ h2)]
    rfl
  cases p with
  | set x e =>
    refine ⟨?_, exN_of h.2.1, h.2.2⟩
    show (decide (x ∈ nms) && e.ats.all (atB nms)) = true
    rw [key e h.2, decide_eq_true (hn x h.1)]
    rfl
  | ite e a b => exact ⟨by show (true && e.ats.all (atB nms)) = true; rw [key e h.1]; rfl, exN_of h.1.1, h.1.2⟩
  | whl e a => exact ⟨by show (true && e.ats.all (atB nms)) = true; rw [key e h.1]; rfl, exN_of h.1.1, h.1.2⟩
def BadD (wd : Nat) (nms : List Str) (d : PyData) : Prop := d ∈ badS ∨ ∃ p : PS, d = p.d ∧ ExN wd p.e ∧ p.e.dep ≤ 4 ∧ stB nms p = false
def spBo (K : PySem.W.Frag) (Pt : Addr) : Sp := fun vs H Q _ => ∃ (v : V) (wd : Nat) (nn : Addr) (nms : List Str) (r : Bool), vs = [v, .int wd, .ref nn] ∧ wd ≤ 32 ∧ SqT K H nn (nms.map V.str) ∧ GxR.TabG H Pt ∧
  ((∃ bs : List PS, r = true ∧ Rp K H v (.tuple (pbd bs)) ∧ PBk wd bs ∧ psz bs ≤ 200 ∧ (bs ≠ [] → ∀ x ∈ four4, x ∈ nms)) ∨ ∃ ds d, r = false ∧ Rp K H v (.tuple (ds ++ [d])) ∧ BadD wd nms d ∧ ds.length ≤ 200) ∧
  ∀ H', KT [Pt] H H' → GxR.TabG H' Pt → Q (.bl r) H'
theorem ok_bo (T : Txt K mg) (TA : TxA K mg w) (TB : TBs T base) : FnOk P w K mg base CX0 8 T.f_is_plain_body T.d_is_plain_body ["body", "width", "names"] (spBo K T.P_is_name) := by
  have G_is_plain_statement := ok_st (P := P) (base := base) T TA TB
  have G_plain_bodies := ok_pb (P := P) (w := w) (base := base) T
  refine T.F_is_plain_body.ok sc_is_plain_body (fun vs H Q E h => ?_) (fun cdv A outer s H vs Q E hr h => ?_)
  · obtain ⟨v, wd, nn, nms, r, rfl, _⟩ := h
    rfl
  · obtain ⟨v, wd, nn, nms, r, rfl, w2, hnn, tg, h, q⟩ := h
    have hr : Room 7 _ := hr
    refine ⟨_, (pss_cons (ps_set (i := 3) sc_is_plain_body.nd rfl (Or.inl rfl) (pe_callTy call_list_of (by rfl) T.m_list (by decide +kernel) (pa_cons (pv 0) pa_nil)))
      (pss_cons (ps_while PassesOwn.never (pt_truthK (K := K) rfl 3)
        (pss_cons (ps_set (i := 4) sc_is_plain_body.nd rfl (Or.inl rfl) (pe_bm0 PySem.F.plainAttrs_list PySem.F.slot_list_pop PySem.F.type_list_pop mt_pop (pv 3)))
        (pss_cons (ps_if (pt_not (pt_val (pe_call G_is_plain_statement (hr.mono (by omega)) (by rfl) T.g_is_plain_statement T.F_is_plain_statement.kp T.b_is_plain_statement .nil pass0 (pa_cons (pv 4) (pa_cons (pv 1) (pa_cons (pv 2) pa_nil))))))
          (pss_one (ps_ret pe_bl))
          pss_nil)
        (pss_one (ps_for PassesOwn.never rfl (pi_tup (pe_call G_plain_bodies (hr.mono (by omega)) (by rfl) T.g_plain_bodies T.F_plain_bodies.kp T.b_plain_bodies .nil pass0 (pa_cons (pv 4) pa_nil))) (pg_name (i := 5) sc_is_plain_body.nd rfl (Or.inl rfl))
          (pss_one (ps_expr (pe_bm PySem.F.plainAttrs_list PySem.F.slot_list_extend PySem.F.type_list_extend mt_extend (pv 3) (pa_cons (pe_callTy call_list_of (by rfl) T.m_list (by decide +kernel) (pa_cons (pv 5) pa_nil)) pa_nil)))))))))
      (pss_one (ps_ret pe_bl)))), ?_⟩
    rcases h with ⟨bs, rfl, hv, ob, zb, hn4⟩ | ⟨ds, d, rfl, hv, bad, zl⟩
    rotate_left
    · -- the last one is wrong
      obtain ⟨b, xs, rfl, hb, hxs⟩ := Rp.inv hv
      obtain ⟨us, ws, rfl, hus, hws⟩ := rpA_split hxs
      obtain ⟨w0, t0, rfl, hw, ht⟩ := RpA.inv (d := d) (ds := []) hws
      obtain rfl : t0 = [] := ht.inv0
      refine ⟨_, rfl, b, _, rfl, .inr hb, fun wl nwl => ?_⟩
      have k1 : KT [T.P_is_name] H (upd H wl (.lst (us ++ [w0]))) := .new _ nwl
      have hw1 : (upd H wl (.lst (us ++ [w0]))) wl = some (.lst (us ++ [w0])) := upd_same
      have npw := tabG_ne tg nwl
      have tg1 := tabG_upd (o := .lst (us ++ [w0])) npw tg
      generalize upd H wl (.lst (us ++ [w0])) = H1 at k1 hw1 tg1 ⊢
      refine ⟨fun m σ Hx => σ = [some (.ref b), some (.int wd), some (.ref nn), some (.ref wl), none, none] ∧ Hx = H1, ⟨0, rfl, rfl⟩, ?_⟩
      rintro m σ Hx ⟨rfl, rfl⟩
      refine ⟨_, rfl, true, .inl ⟨_, SqL.of hw1, by simp⟩, ?_⟩
      refine ⟨_, fun _ _ h => h, ?_⟩
      refine ⟨_, rfl, .inl ⟨rfl, _, SqL.of hw1⟩, wl, _, w0, rfl, rfl, hw1, last_at _ _, ?_⟩
      rw [List.dropLast_concat]
      have tk := sqT_putL (K := K) (o := .lst us) hw1
      have rw0 := rp_ofT tk (hw.keep k1)
      have hn2 := tk _ _ (k1.sqT hnn)
      have tg2 := tabG_upd (o := .lst us) npw tg1
      have k2 := k1.late (o := .lst us) nwl
      generalize upd Hx wl (.lst us) = H2 at rw0 hn2 tg2 k2 ⊢
      refine ⟨_, rfl, _, rfl, _, rfl, w0, wd, nn, nms, rfl, w2, hn2, tg2, ?_⟩
      rcases bad with hbad | ⟨p, rfl, eN, ed, sf⟩
      · exact .inr ⟨d, hbad, rw0, fun H3 k3 t3 => ⟨_, rfl, ite_t rfl (q _ (k2.trans k3) t3)⟩⟩
      · refine .inl ⟨p, rw0, eN, ed, fun H3 k3 t3 => ⟨_, rfl, ?_⟩⟩
        rw [sf]
        exact ite_t rfl (q _ (k2.trans k3) t3)
    obtain ⟨b, xs, rfl, hb, hxs⟩ := Rp.inv hv
    refine ⟨_, rfl, b, _, rfl, .inr hb, fun wl nwl => ?_⟩
    have k1 : KT [T.P_is_name] H (upd H wl (.lst xs)) := .new _ nwl
    have hw1 : (upd H wl (.lst xs)) wl = some (.lst xs) := upd_same
    have npw := tabG_ne tg nwl
    have nwp : wl ∉ [T.P_is_name] := fun z => npw (List.mem_singleton.mp z).symm
    have tg1 := tabG_upd (o := .lst xs) npw tg
    generalize upd H wl (.lst xs) = H1 at k1 hw1 tg1 ⊢
    refine ⟨fun m σ Hx => ∃ (x4 x5 : Option V) (L : List PS) (ws : List V), σ = [some (.ref b), some (.int wd), some (.ref nn), some (.ref wl), x4, x5] ∧ KT [T.P_is_name] H Hx ∧ GxR.TabG Hx T.P_is_name ∧ Hx wl = some (.lst ws) ∧ RpA K Hx ws (L.map PS.d) ∧ (∀ p ∈ L, POk wd p) ∧ psz L ≤ 200 ∧ m = psz L ∧ (L ≠ [] → ∀ x ∈ four4, x ∈ nms),
      ⟨_, none, none, bs, xs, rfl, k1, tg1, hw1, by rw [← pbd_map]; exact hxs.keep k1, pbk_mem.mp ob, zb, rfl, hn4⟩, ?_⟩
    rintro m σ Hx ⟨x4, x5, L, ws, rfl, kx, tx, hwl, hws, hL, zL, rfl, hn4⟩
    by_cases hLe : L = []
    · subst hLe
      obtain rfl : ws = [] := hws.inv0
      refine ⟨_, rfl, false, .inl ⟨_, SqL.of hwl, rfl⟩, ?_⟩
      exact q Hx kx tx
    obtain ⟨L', p, rfl⟩ := snoc_of hLe
    rw [List.map_append] at hws
    obtain ⟨ws', w1, rfl, hw1, hw2'⟩ := rpA_split hws
    obtain ⟨w0, t0, rfl, hp, ht⟩ := RpA.inv (d := p.d) (ds := []) hw2'
    obtain rfl : t0 = [] := ht.inv0
    have pE := hL p (by simp)
    have zp := p.inn_sz
    rw [psz_app] at zL
    have zL2 : psz L' + (p.sz + 0) ≤ 200 := zL
    have lL := psz_len L'
    have lw := rpA_map_len hw1
    have hn4 := hn4 (by simp)
    obtain ⟨sB, eN, ed⟩ := stB_good pE hn4
    refine ⟨_, rfl, true, .inl ⟨_, SqL.of hwl, by simp⟩, ?_⟩
    refine ⟨_, fun _ _ h => h, ?_⟩
    refine ⟨_, rfl, .inl ⟨rfl, _, SqL.of hwl⟩, wl, _, w0, rfl, rfl, hwl, last_at _ _, ?_⟩
    rw [List.dropLast_concat]
    have ky := kx.late (o := .lst ws') nwl
    have tk := sqT_putL (K := K) (o := .lst ws') hwl
    have hwy : (upd Hx wl (.lst ws')) wl = some (.lst ws') := upd_same
    have hw1y := rpA_ofT tk hw1
    have hpy := rp_ofT tk hp
    have ty := tabG_upd (o := .lst ws') npw tx
    have hny := tk _ _ (kx.sqT hnn)
    generalize upd Hx wl (.lst ws') = Hy at ky hwy hw1y hpy ty hny ⊢
    refine ⟨_, rfl, _, rfl, _, rfl, w0, wd, nn, nms, rfl, w2, hny, ty, .inl ⟨p, hpy, eN, ed, fun H3 k3 t3 => ⟨_, rfl, ?_⟩⟩⟩
    rw [sB]
    refine ite_f (by decide) ?_
    have hw3 := k3.kp _ _ nwp hwy
    have hw13 := hw1y.keep k3
    refine ⟨_, rfl, w0, p, rfl, hpy.keep k3, fun v4 H4 k4 r4 => ?_⟩
    obtain ⟨t, ys, rfl, hys, hya⟩ := r4.inv
    have k34 : KT [T.P_is_name] Hy H4 := k3.trans (k4.mono (fun _ z => by cases z))
    have li := p.inn_len
    have lb := psz_len p.inn.flatten
    have ly : ys.length = p.inn.length := by rw [hya.length, p.bods_inn, List.length_map]
    have k04 : KT [T.P_is_name] H H4 := ky.trans k34
    refine ⟨t, rfl, ⟨_, hys⟩, for_tup (K := K) (xs := ys) (fun j σ Hs => ∃ (x5 : Option V) (ws2 : List V), σ = [some (.ref b), some (.int wd), some (.ref nn), some (.ref wl), some w0, x5] ∧ KT [T.P_is_name] H Hs ∧ GxR.TabG Hs T.P_is_name ∧ TKeep K H4 Hs ∧ Hs wl = some (.lst ws2) ∧ RpA K Hs ws2 ((L' ++ (p.inn.take j).flatten).map PS.d)) ?_ ?_ ?_ ?_⟩
    · exact ⟨_, ws', rfl, k04, tabG_kt k4 (by simp) t3, fun _ _ h => h, k4.s0 hw3, by rw [List.take_zero]; show RpA K H4 ws' ((L' ++ []).map PS.d); rw [List.append_nil]; exact hw13.keep k4⟩
    · rintro j σ Hs _ ⟨_, _, _, _, _, tks, _⟩
      exact tks _ _ hys
    · rintro j y σ Hs hy ⟨x5, ws2, rfl, ks, ts, tks, hws2, hr2⟩
      obtain ⟨dd, hdd, ry⟩ := hya.get hy
      rw [p.bods_inn, List.getElem?_map] at hdd
      cases hf : p.inn[j]? with
      | none => rw [hf] at hdd; cases hdd
      | some inner =>
      rw [hf] at hdd
      cases hdd
      have ry2 := rp_ofT tks ry
      obtain ⟨ib, is, rfl, hib, his⟩ := Rp.inv ry2
      have et : (p.inn.take (j + 1)).flatten = (p.inn.take j).flatten ++ inner := by
        rw [List.take_succ, hf, List.flatten_append]
        show _ ++ (inner ++ []) = _
        rw [List.append_nil]
      have sub : (L' ++ (p.inn.take (j + 1)).flatten).length ≤ 400 := by
        rw [List.length_append]
        have h1 : (p.inn.take (j + 1)).flatten.length ≤ p.inn.flatten.length := by
          have := List.take_append_drop (j + 1) p.inn
          have e : p.inn.flatten = (p.inn.take (j + 1)).flatten ++ (p.inn.drop (j + 1)).flatten := by rw [← List.flatten_append, this]
          rw [e, List.length_append]
          omega
        omega
      have l2 := rpA_map_len hr2
      have l3 : is.length = inner.length := by rw [his.length, pbd_map, List.length_map]
      rw [et, ← List.append_assoc, List.length_append] at sub
      refine ⟨_, rfl, .inl ⟨rfl, _, SqL.of hws2⟩, _, rfl, ib, _, rfl, .inr hib, fun nl nnl => ?_⟩
      have kn : KT [] Hs (upd Hs nl (.lst is)) := .new _ nnl
      have hwn := kn.s0 hws2
      have hnn2 : (upd Hs nl (.lst is)) nl = some (.lst is) := upd_same
      have his2 := his.keep kn
      have hr3 := hr2.keep kn
      have tkn : TKeep K Hs (upd Hs nl (.lst is)) := fun _ _ => kn.sqT
      have tsn := tabG_kt kn (by simp) ts
      have ksn : KT [T.P_is_name] H (upd Hs nl (.lst is)) := ks.trans (kn.mono (fun _ z => by cases z))
      generalize upd Hs nl (.lst is) = Hn at hwn hnn2 his2 hr3 tkn tsn ksn ⊢
      have tk5 := sqT_putL (K := K) (o := .lst (ws2 ++ is)) hwn
      refine ⟨wl, nl, ws2, is, rfl, rfl, hwn, hnn2, Nat.le_trans (by omega : _ ≤ 400) (by decide), ?_⟩
      refine ⟨_, ws2 ++ is, rfl, ksn.late nwl, tabG_upd npw tsn, fun a xs h => tk5 _ _ (tkn _ _ (tks _ _ h)), upd_same, ?_⟩
      rw [et, ← List.append_assoc, List.map_append]
      refine RpA.app (rpA_ofT tk5 hr3) (rpA_ofT tk5 ?_)
      rw [← pbd_map]
      exact his2
    · rintro σ Hs ⟨x5, ws2, rfl, ks, ts, tks, hws2, hr2⟩
      rw [ly, List.take_length] at hr2
      refine ⟨psz (L' ++ p.inn.flatten), ?_, _, _, L' ++ p.inn.flatten, ws2, rfl, ks, ts, hws2, hr2, ?_, ?_, rfl, fun _ => hn4⟩
      · rw [psz_app, psz_app]
        show psz L' + psz p.inn.flatten < psz L' + (p.sz + 0)
        omega
      · intro q' hq'
        rcases List.mem_append.mp hq' with h | h
        · exact hL q' (List.mem_append.mpr (.inl h))
        · exact pok_inn pE h
      · rw [psz_app]
        omega

end
end My

set_option Elab.async false
set_option linter.all false
set_option maxRecDepth 100000
set_option maxHeartbeats 4000000
namespace My
open PySem PySem.Spec PyProof.Rows L2
local macro_rules | `(tactic| walk_at "asm") => `(tactic| (refine' of_eq_true (eq_true ?_); assumption))
local macro_rules | `(tactic| walk_at "go1") => `(tactic| first
  | (with_reducible rfl) | walk_at "asm" | (apply And.intro) | (apply Exists.intro)
  | (refine' ite_f (by decide +kernel) ?_) | (refine' ite_t (by decide +kernel) ?_) | (refine' ite_f (dstr_ne (by assumption)) ?_) | (refine' ite_t (dstr_eq (by assumption)) ?_)
  | (exact SqT.of upd_same) | (exact SqL.of upd_same) | (exact SqL.of (by assumption)) | (exact SqT.of (by assumption)) | (exact dget_s (by assumption) (by assumption)) | (exact dget_f (by assumption) (by assumption))
  | (exact Or.inl (by assumption)) | (exact Or.inr (by assumption)) | (exact Or.inl (SqL.of (by assumption))) | (exact Or.inr (SqT.of (by assumption))) | rfl)
local macro_rules | `(tactic| walk_at "go") => `(tactic| repeat' walk_at "go1")

section
variable {P : Program} {w : World} {K : PySem.W.Frag} {mg : Str → Option Value} {base : Heap}
/-- how often -/
def cntS (x : Str) (xs : List Str) : Nat := xs.countP fun y => decide (y = x)
theorem cntV_strs (x : Str) : ∀ xs : List Str, cntV (.str x) (xs.map V.str) = cntS x xs
  | [] => rfl
  | y :: r => by
    have ih := cntV_strs x r
    unfold cntV cntS at ih ⊢
    rw [List.map_cons, List.countP_cons, List.countP_cons, ih]
    have : eqV (V.str y) (V.str x) = decide (y = x) := rfl
    rw [this]
def difB (items names : List Str) : Bool := items.all fun x => decide (x ∈ names) && decide (cntS x items = 1)
def spDf (K : PySem.W.Frag) : Sp := fun vs H Q _ => ∃ (a b : Addr) (items names : List Str), vs = [.ref a, .ref b] ∧ (items = [] ∧ SqT K H a [] ∨ FzT H a (items.map V.str)) ∧ SqT K H b (names.map V.str) ∧ items.length ≤ 10 ∧ ∀ H', KT [] H H' → Q (.bl (difB items names)) H'
theorem ok_df (T : Txt K mg) : FnOk P w K mg base CX0 1 T.f_are_different_among T.d_are_different_among ["items", "names"] (spDf K) := by
  refine T.F_are_different_among.ok sc_are_different_among (fun vs H Q E h => ?_) (fun cdv A outer s H vs Q E hr h => ?_)
  · obtain ⟨a, b, items, names, rfl, _⟩ := h
    rfl
  · obtain ⟨a, b, items, names, rfl, ha, hb, hz, q⟩ := h
    have hf0 := ha
    have ha : SqT K H a (items.map V.str) := by
      rcases ha with ⟨rfl, h⟩ | h
      · exact h
      · exact h.sq
    refine ⟨_, (pss_one (ps_ret (pe_callB (cr_all rfl) (by rfl) T.m_all (by decide +kernel) (pa_cons (pe_lc (own := [("item", 2)]) (g := gName 2) (by rfl) sc_are_different_among.nd (pi_tup (pv 0)) (blkOk_by (own := [("item", 2)]) (N := N_are_different_among) (sc := defScope s_are_different_among) (by decide +kernel)) (fun _ _ _ _ _ => (pg_name (i := 2) sc_are_different_among.nd rfl (Or.inl rfl))) (fun _ _ _ _ _ => pts_nil) (fun _ _ _ _ _ => (pe_and (pe_cmpR (opIN (K := K) rfl) (pv 2) (pv 1) (by rfl)) (pe_one (pe_cmpR op_eq (pe_tcnF (pv 0) (pv 2) (M1.mk rfl rfl rfl rfl)) pe_int (nomark _)))))) pa_nil)))), ?_⟩
    refine ⟨_, rfl, a, rfl, ⟨_, ha⟩, fun D nD => lc_tup (K := K) (xs := items.map V.str) (fun i Hx => Hx = upd H D (.lst (((items.take i).map fun x => decide (x ∈ names) && decide (cntS x items = 1)).map V.bl))) rfl ?_ ?_ ?_⟩
    · rintro i Hx _ rfl
      exact (KT.new [] nD).sqT ha
    · rintro i x Hx hx rfl
      rw [List.getElem?_map] at hx
      cases hf : items[i]? with
      | none => rw [hf] at hx; cases hx
      | some y =>
      rw [hf] at hx
      cases hx
      have kD : KT [] H (upd H D (.lst (((items.take i).map fun x => decide (x ∈ names) && decide (cntS x items = 1)).map V.bl))) := .new _ nD
      have fin : ∀ b, b = (decide (y ∈ names) && decide (cntS y items = 1)) → ∃ acc, (upd H D (.lst (((items.take i).map fun x => decide (x ∈ names) && decide (cntS x items = 1)).map V.bl))) D = some (.lst acc) ∧ acc.length < sizeLine ∧ upd (upd H D (.lst (((items.take i).map fun x => decide (x ∈ names) && decide (cntS x items = 1)).map V.bl))) D (.lst (acc ++ [V.bl b])) = upd H D (.lst (((items.take (i + 1)).map fun x => decide (x ∈ names) && decide (cntS x items = 1)).map V.bl)) := by
        intro b hb
        refine ⟨_, upd_same, ?_, ?_⟩
        · rw [List.length_map, List.length_map, List.length_take]
          exact Nat.lt_of_le_of_lt (by omega : _ ≤ 10) (by decide)
        · rw [upd_upd, List.take_succ, hf, List.map_append, List.map_append, hb]
          rfl
      refine ⟨rfl, _, rfl, _, rfl, b, _, rfl, .inr (kD.sqT hb), rfl, flat_strs _, _, rfl, ?_⟩
      rw [if_neg Bool.false_ne_true, inV_strs]
      have fz : FzT H a (items.map V.str) := by
        rcases hf0 with ⟨rfl, _⟩ | h
        · cases hf
        · exact h
      have fzD := kD.fzT fz
      refine ite2 (fun z => ?_) (fun z => fin _ ?_)
      · refine ⟨_, rfl, a, _, rfl, fzD, _, rfl, fzD, rfl, flat_strs _, rfl, ?_⟩
        refine fin _ ?_
        rw [z, Bool.true_and, cntV_strs]
        by_cases c : cntS y items = 1
        · rw [c]
          rfl
        · rw [decide_eq_false c]
          exact decide_eq_false (fun w => c (by have := V.int.inj w; omega))
      · rw [Bool.not_eq_true] at z
        rw [z, Bool.false_and]
    rintro H7 rfl
    rw [List.length_map, List.take_length]
    have hD : (upd H D (.lst ((items.map fun x => decide (x ∈ names) && decide (cntS x items = 1)).map V.bl))) D = some (.lst ((items.map fun x => decide (x ∈ names) && decide (cntS x items = 1)).map V.bl)) := upd_same
    refine ⟨D, items.map (fun x => decide (x ∈ names) && decide (cntS x items = 1)), rfl, SqL.of hD, ?_⟩
    have e2 : (items.map (fun x => decide (x ∈ names) && decide (cntS x items = 1))).all id = difB items names := by
      rw [List.all_map]
      rfl
    rw [e2]
    exact q _ (KT.new _ nD)
def spPn (K : PySem.W.Frag) (Pt : Addr) : Sp := fun vs H Q _ => ∃ x : Str, vs = [.str x] ∧ x ∈ names8 ∧ GxR.TabG H Pt ∧ ∀ H', KT [Pt] H H' → GxR.TabG H' Pt → Q (.bl (decide (x ∈ five5))) H'
theorem pn_facts : ∀ x ∈ names8, x.length ≤ 20 ∧ (decide (((x.length : Nat) : Int) ≤ 11) && !(Txt.startswith x "back")) = decide (x ∈ five5) := by
  intro x h
  unfold names8 at h
  simp only [List.mem_cons, List.not_mem_nil, or_false] at h
  rcases h with rfl | rfl | rfl | rfl | rfl | rfl | rfl
  all_goals exact ⟨by decide +kernel, by decide +kernel⟩
theorem ok_pn (T : Txt K mg) (TB : TBs T base) : FnOk P w K mg base CX0 3 T.f_is_plain_name T.d_is_plain_name ["value"] (spPn K T.P_is_name) := by
  have G_is_name := ok_is_name (P := P) (w := w) (base := base) T TB
  refine T.F_is_plain_name.ok sc_is_plain_name (fun vs H Q E h => ?_) (fun cdv A outer s H vs Q E hr h => ?_)
  · obtain ⟨x, rfl, _⟩ := h
    rfl
  · obtain ⟨x, rfl, hx, tg, q⟩ := h
    have hr : Room 2 _ := hr
    obtain ⟨f1, f2⟩ := pn_facts x hx
    refine ⟨_, (pss_one (ps_ret (pe_and (pe_call G_is_name (hr.mono (by omega)) (by rfl) T.g_is_name T.F_is_name.kp T.b_is_name .nil pass0 (pa_cons (pv 0) pa_nil)) (pe_and (pe_cmpR op_le (pe_callB call_len_str (by rfl) T.m_len (by decide +kernel) (pa_cons (pv 0) pa_nil)) (pe_glob (v := .int 11) (by rfl) T.m_NAME_LENGTH_plain ⟨_, rfl⟩) (nomark _)) (pe_one (pe_not (pe_bm PySem.F.plainAttrs_str PySem.F.slot_str_startswith PySem.F.type_str_startswith mt_startswith (pv 0) (pa_cons (pe_glob (v := .str "back") (by rfl) T.m_OWN_WORD ⟨_, rfl⟩) pa_nil)))))))), ?_⟩
    refine ⟨_, rfl, x, rfl, hx, tg, fun H1 k1 t1 => ⟨_, rfl, ite_t rfl ?_⟩⟩
    refine ⟨_, rfl, x, rfl, Nat.le_trans f1 (by decide), _, _, rfl, rfl, _, rfl, ?_⟩
    have q1 := q H1 k1 t1
    rw [← f2] at q1
    refine ite2 (fun z => ?_) (fun z => ?_)
    · rw [z, Bool.true_and] at q1
      exact ⟨_, rfl, rfl, _, _, rfl, rfl, _, rfl, q1⟩
    · rw [Bool.not_eq_true] at z
      rw [z, Bool.false_and] at q1
      exact q1
def hfB : PyData → Bool
  | .tuple (x :: r) => decide (r.length = 4) && ((isIntD x && !isBoolD x) && r.all isTupD)
  | _ => false
def spHf (K : PySem.W.Frag) : Sp := fun vs H Q _ => ∃ (v : V) (d : PyData), vs = [v] ∧ Rp K H v d ∧ (d = .none ∨ ∃ x r, d = .tuple (x :: r) ∧ r.length ≤ 4) ∧ ∀ H', KT [] H H' → Q (.bl (hfB d)) H'
theorem ok_hf (T : Txt K mg) : FnOk P w K mg base CX0 2 T.f_has_plain_form T.d_has_plain_form ["value"] (spHf K) := by
  have G_is_whole := ok_is_whole (P := P) (w := w) (base := base) T
  refine T.F_has_plain_form.ok sc_has_plain_form (fun vs H Q E h => ?_) (fun cdv A outer s H vs Q E hr h => ?_)
  · obtain ⟨v, d, rfl, _⟩ := h
    rfl
  · obtain ⟨v, d, rfl, hv, hd, q⟩ := h
    have hr : Room 1 _ := hr
    refine ⟨_, (pss_cons (ps_if (PW.pt (pw_or (pt_not (pt_val (pe_callB call_isi (by rfl) T.m_isinstance (by decide +kernel) (pa_cons (pv 0) (pa_cons (pe_bltn (v := .ty "tuple") (by rfl) T.m_tuple (by decide +kernel) rfl) pa_nil))))) (pw_or1 (pt_cmpR op_ne (pe_callB call_len_seq (by rfl) T.m_len (by decide +kernel) (pa_cons (pv 0) pa_nil)) pe_int (nomark _)))))
        (pss_one (ps_ret pe_bl))
        pss_nil)
      (pss_one (ps_ret (pe_and (pe_call G_is_whole (hr.mono (by omega)) (by rfl) T.g_is_whole T.F_is_whole.kp T.b_is_whole .nil pass0 (pa_cons (pe_ix ix_tup (pv 0) pe_int (fun _ _ => rfl)) pa_nil)) (pe_one (pe_callB (cr_all rfl) (by rfl) T.m_all (by decide +kernel) (pa_cons (pe_lc (own := [("item", 1)]) (g := gName 1) (by rfl) sc_has_plain_form.nd (pi_tup (pe_slice sl_tupA (pv 0) (po_some pe_int) po_none)) (blkOk_by (own := [("item", 1)]) (N := N_has_plain_form) (sc := defScope s_has_plain_form) (by decide +kernel)) (fun _ _ _ _ _ => (pg_name (i := 1) sc_has_plain_form.nd rfl (Or.inl rfl))) (fun _ _ _ _ _ => pts_nil) (fun _ _ _ _ _ => (pe_callB (isI (K := K) rfl) (by rfl) T.m_isinstance (by decide +kernel) (pa_cons (pv 1) (pa_cons (pe_bltn (v := .ty "tuple") (by rfl) T.m_tuple (by decide +kernel) rfl) pa_nil))))) pa_nil))))))), ?_⟩
    obtain ⟨t1, y1, y2⟩ := isi_tup hv
    refine ⟨_, rfl, _, _, _, _, _, rfl, .ty "tuple", y1, y2, _, rfl, ?_⟩
    rcases hd with rfl | ⟨x, r, rfl, hr4⟩
    · exact ite_t rfl (ite_t rfl (q H (.refl _ _)))
    refine ite_f (by show ¬ (!true) = true; decide) ?_
    obtain ⟨a, vs, rfl, hs, hvs⟩ := hv.inv
    obtain ⟨v0, rs, rfl, h0, hrs⟩ := hvs.inv
    have lr := hrs.length
    refine ⟨_, rfl, a, _, rfl, .inr hs, rfl, _, rfl, ite2 (fun z => ?_) (fun z => ?_)⟩
    · have ne : ¬ r.length = 4 := fun e => by
        rw [List.length_cons, lr, e] at z
        exact absurd z (by decide)
      have e0 : hfB (.tuple (x :: r)) = false := by
        show (decide (r.length = 4) && _) = false
        rw [decide_eq_false ne]
        rfl
      have := q H (.refl _ _)
      rw [e0] at this
      exact this
    have e4 : r.length = 4 := by
      by_cases e : r.length = 4
      · exact e
      · refine absurd ?_ z
        show (!decide (V.int ((v0 :: rs).length : Nat) = V.int 5)) = true
        rw [decide_eq_false (fun w => e (by have := V.int.inj w; rw [List.length_cons, lr] at this; omega))]
        rfl
    have e5 : hfB (.tuple (x :: r)) = ((isIntD x && !isBoolD x) && r.all isTupD) := by
      show (decide (r.length = 4) && _) = _
      rw [decide_eq_true e4, Bool.true_and]
    rw [e5] at q
    refine ⟨_, rfl, _, _, _, _, rfl, rfl, hs, atI_0, v0, x, rfl, h0, _, rfl, ite2 (fun w => ?_) (fun w => ?_)⟩
    rotate_left
    · rw [Bool.not_eq_true] at w
      rw [w, Bool.false_and] at q
      exact q H (.refl _ _)
    rw [w, Bool.true_and] at q
    refine ⟨_, rfl, _, rfl, ?_⟩
    dsimp only
    unfold tNoPart
    dsimp only
    refine sl_data (lo := some 1) (hi := none) (ds := x :: r) hv (fun v1 H1 k1 r1 => ?_)
    have r1 : Rp K H1 v1 (.tuple r) := by
      have : cutD (x :: r) (some 1) none = r := by
        match r, e4 with
        | [a, b, c, d], _ => rfl
      rw [this] at r1
      exact r1
    obtain ⟨t, xs, rfl, hs1, hx⟩ := r1.inv
    have lx := hx.length
    refine ⟨t, rfl, ⟨_, hs1⟩, fun D nD => lc_tup (K := K) (xs := xs) (fun i Hx => Hx = upd H1 D (.lst (((r.take i).map isTupD).map V.bl))) rfl ?_ ?_ ?_⟩
    · rintro i Hx _ rfl
      exact (KT.new [] nD).sqT hs1
    · rintro i y Hx hx' rfl
      obtain ⟨d', hd', rd⟩ := hx.get hx'
      have kD : KT [] H1 (upd H1 D (.lst (((r.take i).map isTupD).map V.bl))) := .new _ nD
      obtain ⟨ty, z1, z2⟩ := isi_tup (rd.keep kD)
      refine ⟨rfl, _, rfl, _, _, _, _, _, rfl, .ty "tuple", z1, z2, _, upd_same, ?_, ?_⟩
      · rw [List.length_map, List.length_map, List.length_take]
        exact Nat.lt_of_le_of_lt (by omega : _ ≤ 4) (by decide)
      · rw [upd_upd, List.take_succ, hd', List.map_append, List.map_append]
        rfl
    rintro H3 rfl
    have hD : (upd H1 D (.lst (((r.take xs.length).map isTupD).map V.bl))) D = some (.lst ((r.map isTupD).map V.bl)) := by rw [upd_same, lx, List.take_length]
    refine ⟨D, r.map isTupD, rfl, SqL.of hD, ?_⟩
    have e2 : (r.map isTupD).all id = r.all isTupD := by rw [List.all_map]; rfl
    rw [e2]
    exact q _ (k1.trans (KT.new _ nD))

end
end My

set_option Elab.async false
set_option linter.all false
set_option maxRecDepth 100000
set_option maxHeartbeats 4000000
namespace My
open PySem PySem.Spec PyProof.Rows L2
local macro_rules | `(tactic| walk_at "asm") => `(tactic| (refine' of_eq_true (eq_true ?_); assumption))
local macro_rules | `(tactic| walk_at "go1") => `(tactic| first
  | (with_reducible rfl) | walk_at "asm" | (apply And.intro) | (apply Exists.intro)
  | (refine' ite_f (by decide +kernel) ?_) | (refine' ite_t (by decide +kernel) ?_) | (refine' ite_f (dstr_ne (by assumption)) ?_) | (refine' ite_t (dstr_eq (by assumption)) ?_)
  | (exact SqT.of upd_same) | (exact SqL.of upd_same) | (exact SqL.of (by assumption)) | (exact SqT.of (by assumption)) | (exact dget_s (by assumption) (by assumption)) | (exact dget_f (by assumption) (by assumption))
  | (exact Or.inl (by assumption)) | (exact Or.inr (by assumption)) | (exact Or.inl (SqL.of (by assumption))) | (exact Or.inr (SqT.of (by assumption))) | rfl)
local macro_rules | `(tactic| walk_at "go") => `(tactic| repeat' walk_at "go1")

section
variable {P : Program} {w : World} {K : PySem.W.Frag} {mg : Str → Option Value} {base : Heap}
def wdR (wd : Int) : Nat := if 1 ≤ wd ∧ wd ≤ 32 then wd.toNat else 32
theorem wdR_cases (wd : Int) : (isIr 1 32 (.int wd) = true ∧ V.int wd = V.int (wdR wd : Nat) ∧ wdR wd ≤ 32) ∨ (isIr 1 32 (.int wd) = false ∧ wdR wd = 32) := by
  have e : isIr 1 32 (.int wd) = (decide (1 ≤ wd) && decide (wd ≤ 32)) := rfl
  rw [e]
  unfold wdR
  by_cases c : 1 ≤ wd ∧ wd ≤ 32
  · rw [if_pos c, decide_eq_true c.1, decide_eq_true c.2]
    exact .inl ⟨rfl, by rw [Int.toNat_of_nonneg (by omega)], by omega⟩
  · rw [if_neg c]
    refine .inr ⟨?_, rfl⟩
    rw [Bool.and_eq_false_iff]
    by_cases c1 : 1 ≤ wd
    · exact .inr (decide_eq_false (fun z => c ⟨c1, z⟩))
    · exact .inl (decide_eq_false c1)
def BodyR (K : PySem.W.Frag) (H : Hp) (v : V) (wd : Nat) (nms : List Str) (r : Bool) : Prop := (∃ bs : List PS, r = true ∧ Rp K H v (.tuple (pbd bs)) ∧ PBk wd bs ∧ psz bs ≤ 200 ∧ (bs ≠ [] → ∀ x ∈ four4, x ∈ nms)) ∨ ∃ ds d, r = false ∧ Rp K H v (.tuple (ds ++ [d])) ∧ BadD wd nms d ∧ ds.length ≤ 200
theorem BodyR.keep {S : List Addr} {H H' : Hp} (k : KT S H H') {v : V} {wd : Nat} {nms : List Str} {r : Bool} (h : BodyR K H v wd nms r) : BodyR K H' v wd nms r := by
  rcases h with ⟨bs, h1, h2, h3⟩ | ⟨ds, d, h1, h2, h3⟩
  · exact .inl ⟨bs, h1, h2.keep k, h3⟩
  · exact .inr ⟨ds, d, h1, h2.keep k, h3⟩
def nmOk (names : List Str) : Bool := names.all fun x => decide (x ∈ five5) && decide (cntS x names = 1)
def add1 (cs : List Str) (b : Bool) (c : Str) : List Str := if b then cs else cs ++ [c]
theorem add1_len (cs : List Str) (b : Bool) (c : Str) : (add1 cs b c).length ≤ cs.length + 1 := by
  unfold add1
  split
  · exact Nat.le_succ _
  · rw [List.length_append]
    exact Nat.le_refl _
def codes (names ins outs : List Str) (r : Bool) (wd : Int) : List Str :=
  add1 (add1 (add1 (add1 (add1 [] (difB ins names) "input") (nmOk names) "name") (difB outs names) "output") r "statement") (isIr 1 32 (.int wd)) "width"
def spPF (K : PySem.W.Frag) (Pt : Addr) : Sp := fun vs H Q _ => ∃ (v : V) (d : PyData) (fs : List Str), vs = [v] ∧ Rp K H v d ∧ (d = .none ∨ ∃ x r, d = .tuple (x :: r) ∧ r.length ≤ 4) ∧ GxR.TabG H Pt ∧
  ((hfB d = false ∧ fs = [("form" : Str)]) ∨ ∃ (a n i o : Addr) (wd : Int) (names ins outs : List Str) (b : V) (r : Bool), hfB d = true ∧ v = .ref a ∧ SqT K H a [.int wd, .ref n, .ref i, .ref o, b] ∧ FzE K H n names ∧ FzE K H i ins ∧ FzE K H o outs ∧ names.length ≤ 10 ∧ ins.length ≤ 10 ∧ outs.length ≤ 10 ∧ (∀ x ∈ names, x ∈ names8) ∧ BodyR K H b (wdR wd) names r ∧ fs = codes names ins outs r wd) ∧
  ∀ l H', KT [Pt] H H' → GxR.TabG H' Pt → H l = none → H' l = some (.lst (fs.map V.str)) → Q (.ref l) H'
theorem ok_pf (T : Txt K mg) (TA : TxA K mg w) (TB : TBs T base) : FnOk P w K mg base CX0 9 T.f_plain_faults T.d_plain_faults ["value"] (spPF K T.P_is_name) := by
  have G_has_plain_form := ok_hf (P := P) (w := w) (base := base) T
  have G_are_different_among := ok_df (P := P) (w := w) (base := base) T
  have G_is_plain_name := ok_pn (P := P) (w := w) (base := base) T TB
  have G_is_integer := ok_is_integer (P := P) (w := w) (base := base) T
  have G_is_plain_body := ok_bo (P := P) (base := base) T TA TB
  refine T.F_plain_faults.ok sc_plain_faults (fun vs H Q E h => ?_) (fun cdv A outer s H vs Q E hr h => ?_)
  · obtain ⟨v, d, fs, rfl, _⟩ := h
    rfl
  · obtain ⟨v, d, fs, rfl, hv, hd, tg, h, q⟩ := h
    have hr : Room 8 _ := hr
    refine ⟨_, (pss_cons (ps_if (pt_not (pt_val (pe_call G_has_plain_form (hr.mono (by omega)) (by rfl) T.g_has_plain_form T.F_has_plain_form.kp T.b_has_plain_form .nil pass0 (pa_cons (pv 0) pa_nil))))
        (pss_one (ps_ret (pe_lst (pa_cons pe_str pa_nil))))
        pss_nil)
      (pss_cons (ps_asg (pv 0) (pg_tup (by rfl) (pgs_cons (pg_name (i := 1) sc_plain_faults.nd rfl (Or.inl rfl)) (pgs_cons (pg_name (i := 2) sc_plain_faults.nd rfl (Or.inr rfl)) (pgs_cons (pg_name (i := 3) sc_plain_faults.nd rfl (Or.inl rfl)) (pgs_cons (pg_name (i := 4) sc_plain_faults.nd rfl (Or.inl rfl)) (pgs_cons (pg_name (i := 5) sc_plain_faults.nd rfl (Or.inl rfl)) pgs_nil)))))))
      (pss_cons (ps_set (i := 6) sc_plain_faults.nd rfl (Or.inl rfl) (pe_lst pa_nil))
      (pss_cons (ps_cut (ps_if (pt_not (pt_val (pe_call G_are_different_among (hr.mono (by omega)) (by rfl) T.g_are_different_among T.F_are_different_among.kp T.b_are_different_among .nil pass0 (pa_cons (pv 3) (pa_cons (pv 2) pa_nil)))))
        (pss_one (ps_expr (pe_bm PySem.F.plainAttrs_list PySem.F.slot_list_append PySem.F.type_list_append mt_append (pv 6) (pa_cons pe_str pa_nil))))
        pss_nil))
      (pss_cons (ps_cut (ps_if (pt_not (pt_val (pe_callB (cr_all rfl) (by rfl) T.m_all (by decide +kernel) (pa_cons (pe_lc (own := [("item", 8)]) (g := gName 8) (by rfl) sc_plain_faults.nd (pi_tup (pv 2)) (blkOk_by (own := [("item", 8)]) (N := N_plain_faults) (sc := defScope s_plain_faults) (by decide +kernel)) (fun _ _ _ _ _ => (pg_name (i := 8) sc_plain_faults.nd rfl (Or.inl rfl))) (fun _ _ _ _ _ => pts_nil) (fun _ _ _ _ _ => (pe_and (pe_call G_is_plain_name (hr.mono (by omega)) (by rfl) T.g_is_plain_name T.F_is_plain_name.kp T.b_is_plain_name .nil pass0 (pa_cons (pv 8) pa_nil)) (pe_one (pe_cmpR op_eq (pe_tcnF (pv 2) (pv 8) (M1.mk rfl rfl rfl rfl)) pe_int (nomark _)))))) pa_nil))))
        (pss_one (ps_expr (pe_bm PySem.F.plainAttrs_list PySem.F.slot_list_append PySem.F.type_list_append mt_append (pv 6) (pa_cons pe_str pa_nil))))
        pss_nil))
      (pss_cons (ps_cut (ps_if (pt_not (pt_val (pe_call G_are_different_among (hr.mono (by omega)) (by rfl) T.g_are_different_among T.F_are_different_among.kp T.b_are_different_among .nil pass0 (pa_cons (pv 4) (pa_cons (pv 2) pa_nil)))))
        (pss_one (ps_expr (pe_bm PySem.F.plainAttrs_list PySem.F.slot_list_append PySem.F.type_list_append mt_append (pv 6) (pa_cons pe_str pa_nil))))
        pss_nil))
      (pss_cons (ps_set (i := 7) sc_plain_faults.nd rfl (Or.inl rfl) (pe_call G_is_integer (hr.mono (by omega)) (by rfl) T.g_is_integer T.F_is_integer.kp T.b_is_integer .nil pass0 (pa_cons (pv 1) (pa_cons pe_int (pa_cons (pe_glob (v := .int 32) (by rfl) T.m_MOST_WIDTH ⟨_, rfl⟩) pa_nil)))))
      (pss_cons (ps_cut (ps_if (pt_not (pt_val (pe_call G_is_plain_body (hr.mono (by omega)) (by rfl) T.g_is_plain_body T.F_is_plain_body.kp T.b_is_plain_body .nil pass0 (pa_cons (pv 5) (pa_cons (pe_ifExp (pt_val (pv 7)) (pv 1) (pe_glob (v := .int 32) (by rfl) T.m_MOST_WIDTH ⟨_, rfl⟩)) (pa_cons (pv 2) pa_nil))))))
        (pss_one (ps_expr (pe_bm PySem.F.plainAttrs_list PySem.F.slot_list_append PySem.F.type_list_append mt_append (pv 6) (pa_cons pe_str pa_nil))))
        pss_nil))
      (pss_cons (ps_cut (ps_if (pt_not (pt_val (pv 7)))
        (pss_one (ps_expr (pe_bm PySem.F.plainAttrs_list PySem.F.slot_list_append PySem.F.type_list_append mt_append (pv 6) (pa_cons pe_str pa_nil))))
        pss_nil))
      (pss_one (ps_ret (pv 6)))))))))))), ?_⟩
    refine ⟨_, rfl, v, d, rfl, hv, hd, fun H1 k1 => ⟨_, rfl, ?_⟩⟩
    have k1p : KT [T.P_is_name] H H1 := k1.mono (fun _ z => by cases z)
    have t1 := tabG_kt k1 (by simp) tg
    rcases h with ⟨hf, rfl⟩ | ⟨a, n, i, o, wd, names, ins, outs, b, r, hf, rfl, hs, hn, hi, ho, ln, li, lo, n8, hb, rfl⟩
    · rw [hf]
      refine ite_t rfl ⟨sz1, fun l nl => ?_⟩
      exact q l _ (k1p.trans (KT.new _ nl)) (tabG_upd (tabG_ne t1 nl) t1) (k1.free nl) upd_same
    rw [hf]
    refine ite_f (by decide) ?_
    unfold codes at q
    have hs1 := k1.sqT hs
    have hn1 := hn.keep k1
    have hi1 := hi.keep k1
    have ho1 := ho.keep k1
    have hb1 := hb.keep k1
    refine ⟨_, rfl, a, _, rfl, hs1, rfl, _, _, rfl, _, _, rfl, _, _, rfl, _, _, rfl, _, _, rfl, rfl, Nat.zero_le _, fun l nl => ?_⟩
    have nl0 := k1.free nl
    have npl := tabG_ne t1 nl
    have nlp : l ∉ [T.P_is_name] := fun z => npl (List.mem_singleton.mp z).symm
    have k2 : KT [T.P_is_name] H1 (upd H1 l (.lst [])) := .new _ nl
    have t2 := tabG_upd (o := .lst []) npl t1
    have hl2 : (upd H1 l (.lst [])) l = some (.lst (([] : List Str).map V.str)) := upd_same
    have kA := k1p.trans k2
    generalize upd H1 l (.lst []) = H2 at k2 t2 hl2 kA ⊢
    -- one step: a code more
    have step : ∀ {Hx : Hp} {cs : List Str} {c : Str}, KT [T.P_is_name] H Hx → GxR.TabG Hx T.P_is_name → Hx l = some (.lst (cs.map V.str)) → KT [T.P_is_name] H (upd Hx l (.lst (cs.map V.str ++ [.str c]))) ∧ GxR.TabG (upd Hx l (.lst (cs.map V.str ++ [.str c]))) T.P_is_name ∧ (upd Hx l (.lst (cs.map V.str ++ [.str c]))) l = some (.lst ((cs ++ [c]).map V.str)) :=
      fun k t e => ⟨k.late nl0, tabG_upd npl t, by rw [upd_same, List.map_append]; rfl⟩
    -- input
    refine ⟨fun σ Hx => σ = [some (.ref a), some (.int wd), some (.ref n), some (.ref i), some (.ref o), some b, some (.ref l), none, none] ∧ KT [T.P_is_name] H Hx ∧ GxR.TabG Hx T.P_is_name ∧ Hx l = some (.lst ((add1 [] (difB ins names) "input").map V.str)), ?_, ?_⟩
    · refine ⟨_, rfl, _, rfl, i, n, ins, names, rfl, hi1.keep k2, (hn1.keep k2).sq, li, fun Hx kx => ⟨_, rfl, ?_⟩⟩
      have kx1 : KT [T.P_is_name] H Hx := kA.trans (kx.mono (fun _ z => by cases z))
      have tx1 := tabG_kt kx (by simp) t2
      have lx1 := kx.s0 hl2
      cases eb : difB ins names with
      | true => exact ite_f (by decide) ⟨rfl, kx1, tx1, lx1⟩
      | false =>
        obtain ⟨u1, u2, u3⟩ := step (c := "input") kx1 tx1 lx1
        exact ite_t rfl ⟨_, rfl, .inl ⟨rfl, _, SqL.of lx1⟩, l, _, .str "input", rfl, rfl, lx1, Nat.zero_lt_of_lt (show 0 < sizeLine by decide), rfl, u1, u2, u3⟩
    rintro σ H3 ⟨rfl, k3, t3, hl3⟩
    have c3 : (add1 [] (difB ins names) "input").length ≤ 1 := add1_len _ _ _
    generalize add1 [] (difB ins names) "input" = cs3 at hl3 c3 q ⊢
    -- name
    refine ⟨fun σ Hx => σ = [some (.ref a), some (.int wd), some (.ref n), some (.ref i), some (.ref o), some b, some (.ref l), none, none] ∧ KT [T.P_is_name] H Hx ∧ GxR.TabG Hx T.P_is_name ∧ Hx l = some (.lst ((add1 cs3 (nmOk names) "name").map V.str)), ?_, ?_⟩
    · refine ⟨_, rfl, n, rfl, ⟨_, (hn.keep k3).sq⟩, fun D nD => ?_⟩
      have nD0 := k3.free nD
      have nDp := tabG_ne t3 nD
      have nDl : l ≠ D := fun z => by rw [← z, hl3] at nD; cases nD
      refine lc_tup (K := K) (xs := names.map V.str) (fun i Hx => KT [T.P_is_name] H Hx ∧ GxR.TabG Hx T.P_is_name ∧ Hx l = some (.lst (cs3.map V.str)) ∧ Hx D = some (.lst (((names.take i).map fun x => decide (x ∈ five5) && decide (cntS x names = 1)).map V.bl))) ⟨k3.trans (KT.new _ nD), tabG_upd nDp t3, by rw [upd_ne nDl]; exact hl3, upd_same⟩ ?_ ?_ ?_
      · rintro j Hx _ ⟨k, _⟩
        exact (hn.keep k).sq
      · rintro j x Hx hx ⟨k, t, e, eD⟩
        rw [List.getElem?_map] at hx
        cases hf : names[j]? with
        | none => rw [hf] at hx; cases hx
        | some y =>
        rw [hf] at hx
        cases hx
        have fz : FzT H n (names.map V.str) := by
          rcases hn with ⟨e0, _⟩ | h
          · rw [e0] at hf; cases hf
          · exact h
        have y8 := n8 y (List.mem_of_getElem? hf)
        refine ⟨rfl, _, rfl, y, rfl, y8, t, fun Hy ky ty => ⟨_, rfl, ?_⟩⟩
        have kHy := k.trans ky
        have eDy := ky.kp _ _ (fun z => nDp (List.mem_singleton.mp z).symm) eD
        have ely := ky.kp _ _ nlp e
        have fin : ∀ b, b = (decide (y ∈ five5) && decide (cntS y names = 1)) → ∃ acc, Hy D = some (.lst acc) ∧ acc.length < sizeLine ∧ (KT [T.P_is_name] H (upd Hy D (.lst (acc ++ [V.bl b]))) ∧ GxR.TabG (upd Hy D (.lst (acc ++ [V.bl b]))) T.P_is_name ∧ (upd Hy D (.lst (acc ++ [V.bl b]))) l = some (.lst (cs3.map V.str)) ∧ (upd Hy D (.lst (acc ++ [V.bl b]))) D = some (.lst (((names.take (j + 1)).map fun x => decide (x ∈ five5) && decide (cntS x names = 1)).map V.bl))) := by
          intro b hb
          refine ⟨_, eDy, ?_, kHy.late nD0, tabG_upd nDp ty, by rw [upd_ne nDl]; exact ely, ?_⟩
          · rw [List.length_map, List.length_map, List.length_take]
            exact Nat.lt_of_le_of_lt (by omega : _ ≤ 10) (by decide)
          · rw [upd_same, List.take_succ, hf, List.map_append, List.map_append, hb]
            rfl
        have fzy := kHy.fzT fz
        refine ite2 (fun z => ?_) (fun z => fin _ ?_)
        · refine ⟨_, rfl, n, _, rfl, fzy, _, rfl, fzy, rfl, flat_strs _, rfl, ?_⟩
          refine fin _ ?_
          rw [z, Bool.true_and, cntV_strs]
          by_cases c : cntS y names = 1
          · rw [c]
            rfl
          · rw [decide_eq_false c]
            exact decide_eq_false (fun w => c (by have := V.int.inj w; omega))
        · rw [Bool.not_eq_true] at z
          rw [z, Bool.false_and]
      rintro Hx ⟨kx1, tx1, lx1, eD⟩
      rw [List.length_map, List.take_length] at eD
      refine ⟨D, names.map (fun x => decide (x ∈ five5) && decide (cntS x names = 1)), rfl, SqL.of eD, _, rfl, ?_⟩
      have e2 : (names.map (fun x => decide (x ∈ five5) && decide (cntS x names = 1))).all id = nmOk names := by
        rw [List.all_map]
        rfl
      rw [e2]
      cases eb : nmOk names with
      | true => exact ite_f (by decide) ⟨rfl, kx1, tx1, lx1⟩
      | false =>
        obtain ⟨u1, u2, u3⟩ := step (c := "name") kx1 tx1 lx1
        exact ite_t rfl ⟨_, rfl, .inl ⟨rfl, _, SqL.of lx1⟩, l, _, .str "name", rfl, rfl, lx1, (by rw [List.length_map]; exact Nat.lt_of_le_of_lt c3 (by decide)), rfl, u1, u2, u3⟩
    rintro σ H4 ⟨rfl, k4, t4, hl4⟩
    have c4 : (add1 cs3 (nmOk names) "name").length ≤ 2 := Nat.le_trans (add1_len _ _ _) (Nat.succ_le_succ c3)
    generalize add1 cs3 (nmOk names) "name" = cs4 at hl4 c4 q ⊢
    -- output
    refine ⟨fun σ Hx => σ = [some (.ref a), some (.int wd), some (.ref n), some (.ref i), some (.ref o), some b, some (.ref l), none, none] ∧ KT [T.P_is_name] H Hx ∧ GxR.TabG Hx T.P_is_name ∧ Hx l = some (.lst ((add1 cs4 (difB outs names) "output").map V.str)), ?_, ?_⟩
    · refine ⟨_, rfl, _, rfl, o, n, outs, names, rfl, ho.keep k4, (hn.keep k4).sq, lo, fun Hx kx => ⟨_, rfl, ?_⟩⟩
      have kx1 : KT [T.P_is_name] H Hx := k4.trans (kx.mono (fun _ z => by cases z))
      have tx1 := tabG_kt kx (by simp) t4
      have lx1 := kx.s0 hl4
      cases eb : difB outs names with
      | true => exact ite_f (by decide) ⟨rfl, kx1, tx1, lx1⟩
      | false =>
        obtain ⟨u1, u2, u3⟩ := step (c := "output") kx1 tx1 lx1
        exact ite_t rfl ⟨_, rfl, .inl ⟨rfl, _, SqL.of lx1⟩, l, _, .str "output", rfl, rfl, lx1, (by rw [List.length_map]; exact Nat.lt_of_le_of_lt c4 (by decide)), rfl, u1, u2, u3⟩
    rintro σ H5 ⟨rfl, k5, t5, hl5⟩
    have c5 : (add1 cs4 (difB outs names) "output").length ≤ 3 := Nat.le_trans (add1_len _ _ _) (Nat.succ_le_succ c4)
    generalize add1 cs4 (difB outs names) "output" = cs5 at hl5 c5 q ⊢
    -- the width
    refine ⟨_, rfl, .int wd, 1, 32, .int wd, rfl, .int wd, ?_⟩
    -- statement
    refine ⟨fun σ Hx => σ = [some (.ref a), some (.int wd), some (.ref n), some (.ref i), some (.ref o), some b, some (.ref l), some (.bl (isIr 1 32 (.int wd))), none] ∧ KT [T.P_is_name] H Hx ∧ GxR.TabG Hx T.P_is_name ∧ Hx l = some (.lst ((add1 cs5 r "statement").map V.str)), ?_, ?_⟩
    · have fin : ∀ Hx, KT [T.P_is_name] H5 Hx → GxR.TabG Hx T.P_is_name → KT [T.P_is_name] H Hx ∧ GxR.TabG Hx T.P_is_name ∧ Hx l = some (.lst (cs5.map V.str)) := fun Hx kx tx => ⟨k5.trans kx, tx, kx.kp _ _ nlp hl5⟩
      have lz : (cs5.map V.str).length < sizeLine := by rw [List.length_map]; exact Nat.lt_of_le_of_lt c5 (by decide)
      rcases wdR_cases wd with ⟨w1, w2, w3⟩ | ⟨w1, w2⟩
      · rw [w1]
        refine ⟨_, rfl, _, rfl, _, rfl, ite_t rfl ⟨_, rfl, _, rfl, ?_⟩⟩
        refine ⟨b, wdR wd, n, names, r, by rw [w2]; rfl, w3, (hn.keep k5).sq, t5, hb.keep k5, fun Hx kx tx => ⟨_, rfl, ?_⟩⟩
        obtain ⟨v1, v2, v3⟩ := fin Hx kx tx
        cases eb : r with
        | true => exact ite_f (by decide) ⟨rfl, v1, v2, v3⟩
        | false =>
          obtain ⟨u1, u2, u3⟩ := step (c := "statement") v1 v2 v3
          exact ite_t rfl ⟨_, rfl, .inl ⟨rfl, _, SqL.of v3⟩, l, _, .str "statement", rfl, rfl, v3, lz, rfl, u1, u2, u3⟩
      · rw [w1]
        rw [w2] at hb
        refine ⟨_, rfl, _, rfl, _, rfl, ite_f (by decide) ⟨_, rfl, ?_⟩⟩
        refine ⟨b, 32, n, names, r, rfl, Nat.le_refl _, (hn.keep k5).sq, t5, hb.keep k5, fun Hx kx tx => ⟨_, rfl, ?_⟩⟩
        obtain ⟨v1, v2, v3⟩ := fin Hx kx tx
        cases eb : r with
        | true => exact ite_f (by decide) ⟨rfl, v1, v2, v3⟩
        | false =>
          obtain ⟨u1, u2, u3⟩ := step (c := "statement") v1 v2 v3
          exact ite_t rfl ⟨_, rfl, .inl ⟨rfl, _, SqL.of v3⟩, l, _, .str "statement", rfl, rfl, v3, lz, rfl, u1, u2, u3⟩
    rintro σ H6 ⟨rfl, k6, t6, hl6⟩
    have c6 : (add1 cs5 r "statement").length ≤ 4 := Nat.le_trans (add1_len _ _ _) (Nat.succ_le_succ c5)
    generalize add1 cs5 r "statement" = cs6 at hl6 c6 q ⊢
    refine ⟨fun σ Hx => ∃ x7, σ = [some (.ref a), some (.int wd), some (.ref n), some (.ref i), some (.ref o), some b, some (.ref l), x7, none] ∧ KT [T.P_is_name] H Hx ∧ GxR.TabG Hx T.P_is_name ∧ Hx l = some (.lst ((add1 cs6 (isIr 1 32 (.int wd)) "width").map V.str)), ?_, ?_⟩
    · refine ⟨_, rfl, _, rfl, ?_⟩
      cases eb : isIr 1 32 (.int wd) with
      | true => exact ite_f (by decide) ⟨_, rfl, k6, t6, hl6⟩
      | false =>
        obtain ⟨u1, u2, u3⟩ := step (c := "width") k6 t6 hl6
        exact ite_t rfl ⟨_, rfl, .inl ⟨rfl, _, SqL.of hl6⟩, l, _, .str "width", rfl, rfl, hl6, (by rw [List.length_map]; exact Nat.lt_of_le_of_lt c6 (by decide)), _, rfl, u1, u2, u3⟩
    rintro σ H7 ⟨x7, rfl, k7, t7, hl7⟩
    refine ⟨_, rfl, ?_⟩
    exact q l H7 k7 t7 nl0 hl7

end
end My

set_option Elab.async false
set_option linter.all false
set_option maxRecDepth 100000
set_option maxHeartbeats 4000000
namespace My
open PySem PySem.Spec PyProof.Rows L2
local macro_rules | `(tactic| walk_at "asm") => `(tactic| (refine' of_eq_true (eq_true ?_); assumption))
local macro_rules | `(tactic| walk_at "go1") => `(tactic| first
  | (with_reducible rfl) | walk_at "asm" | (apply And.intro) | (apply Exists.intro)
  | (refine' ite_f (by decide +kernel) ?_) | (refine' ite_t (by decide +kernel) ?_) | (refine' ite_f (dstr_ne (by assumption)) ?_) | (refine' ite_t (dstr_eq (by assumption)) ?_)
  | (exact SqT.of upd_same) | (exact SqL.of upd_same) | (exact SqL.of (by assumption)) | (exact SqT.of (by assumption)) | (exact dget_s (by assumption) (by assumption)) | (exact dget_f (by assumption) (by assumption))
  | (exact Or.inl (by assumption)) | (exact Or.inr (by assumption)) | (exact Or.inl (SqL.of (by assumption))) | (exact Or.inr (SqT.of (by assumption))) | rfl)
local macro_rules | `(tactic| walk_at "go") => `(tactic| repeat' walk_at "go1")

/-! ### what is due; the fifteen values -/
theorem lay_intsZ : ∀ xs : List Int, PyData.canLayAll0 (xs.map PyData.int) = true
  | [] => rfl
  | x :: r => by
    show (true && PyData.canLayAll0 (r.map PyData.int)) = true
    rw [lay_intsZ r]
    rfl
theorem deep_intsZ : ∀ xs : List Int, PyData.depthAll (xs.map PyData.int) = 0
  | [] => rfl
  | x :: r => by
    show max 0 (PyData.depthAll (r.map PyData.int)) = 0
    rw [deep_intsZ r]
    rfl
def dueD (ws : List Int) (b : Bool) (st mx : Nat) : PyData := .tuple [.tuple (ws.map PyData.int), .tuple [.str (if b then "none" else "done")], .int st, .int mx]
theorem shaped_due (ws : List Int) (b : Bool) (st mx : Nat) : SeqAt.shaped (dueD ws b st mx) = true := by
  unfold SeqAt.shaped
  rw [Bool.and_eq_true]
  refine ⟨?_, decide_eq_true ?_⟩
  · show (PyData.canLayAll0 (ws.map PyData.int) && ((PyData.canLay0 (.str (if b then "none" else "done")) && true) && (true && (true && true)))) = true
    rw [lay_intsZ]
    cases b <;> decide +kernel
  · show max (PyData.depthAll (ws.map PyData.int) + 1) (max (max 0 0 + 1) (max 0 (max 0 0))) + 1 ≤ 64
    rw [deep_intsZ]
    decide
theorem due_refl (ws : List Int) (b : Bool) (st mx : Nat) : PyData.eqv (dueD ws b st mx) (dueD ws b st mx) = true := SeqAt.eqv_refl _ (SeqAt.canLay_of_shaped (shaped_due ws b st mx))
theorem pow2_mono {a b : Nat} (h : a ≤ b) : (2 : Int) ^ a ≤ 2 ^ b := by
  have e : ∀ n : Nat, (2 : Int) ^ n = ((2 ^ n : Nat) : Int) := fun n => by rw [Int.natCast_pow]; rfl
  rw [e a, e b]
  exact Int.ofNat_le.mpr (Nat.pow_le_pow_right (by decide) h)
theorem eok_mono {w w' : Nat} (h : w ≤ w') {nm : Nm} : ∀ {e : Ex}, EOk w nm e → EOk w' nm e
  | .int n, he => ⟨he.1, Int.lt_of_lt_of_le he.2 (pow2_mono h)⟩
  | .var x, he => he
  | .cell x i, ⟨h1, h2⟩ => ⟨h1, eok_mono h h2⟩
  | .not a, he => eok_mono h (e := a) he
  | .op o a b, ⟨h1, h2, h3⟩ => ⟨h1, eok_mono h h2, eok_mono h h3⟩
mutual
theorem pok_mono {w w' : Nat} (h : w ≤ w') : ∀ {p : PS}, POk w p → POk w' p
  | .set x e, hp => ⟨hp.1, eok_mono h hp.2.1, hp.2.2⟩
  | .ite e a b, hp => ⟨⟨eok_mono h hp.1.1, hp.1.2⟩, pbk_mono h hp.2.1, pbk_mono h hp.2.2⟩
  | .whl e a, hp => ⟨⟨eok_mono h hp.1.1, hp.1.2⟩, pbk_mono h hp.2⟩
theorem pbk_mono {w w' : Nat} (h : w ≤ w') : ∀ {b : List PS}, PBk w b → PBk w' b
  | [], _ => trivial
  | s :: r, hb => ⟨pok_mono h hb.1, pbk_mono h hb.2⟩
end
theorem fs_refl {fs : List Str} (h : SeqAt.shaped (.list (fs.map PyData.str)) = true) : PyData.eqv (.list (fs.map PyData.str)) (.list (fs.map PyData.str)) = true := SeqAt.eqv_refl _ (SeqAt.canLay_of_shaped h)
theorem rpA_str {K : PySem.W.Frag} {H : Hp} : ∀ xs : List Str, RpA K H (xs.map V.str) (xs.map PyData.str)
  | [] => .nil
  | x :: r => .cons (.str x) (rpA_str r)
theorem KT.same {H H' : Hp} (k : KT [] H H') : Same H H' := fun b o e => k.kp b o (by simp) e
def PfOk (K : PySem.W.Frag) (H : Hp) (v : V) (fs : List Str) : Prop := ∃ d, Rp K H v d ∧ (d = .none ∨ ∃ x r, d = .tuple (x :: r) ∧ r.length ≤ 4) ∧
  ((hfB d = false ∧ fs = [("form" : Str)]) ∨ ∃ (a n i o : Addr) (wd : Int) (names ins outs : List Str) (b : V) (r : Bool), hfB d = true ∧ v = .ref a ∧ SqT K H a [.int wd, .ref n, .ref i, .ref o, b] ∧ FzE K H n names ∧ FzE K H i ins ∧ FzE K H o outs ∧ names.length ≤ 10 ∧ ins.length ≤ 10 ∧ outs.length ≤ 10 ∧ (∀ x ∈ names, x ∈ names8) ∧ BodyR K H b (wdR wd) names r ∧ fs = codes names ins outs r wd)
theorem PfOk.keep {K : PySem.W.Frag} {S : List Addr} {H H' : Hp} (k : KT S H H') {v : V} {fs : List Str} (h : PfOk K H v fs) : PfOk K H' v fs := by
  obtain ⟨d, h1, h2, h3⟩ := h
  refine ⟨d, h1.keep k, h2, ?_⟩
  rcases h3 with h3 | ⟨a, n, i, o, wd, names, ins, outs, b, r, e1, e2, hs, hn, hi, ho, ln, li, lo, n8, hb, e3⟩
  · exact .inl h3
  · exact .inr ⟨a, n, i, o, wd, names, ins, outs, b, r, e1, e2, k.sqT hs, hn.keep k, hi.keep k, ho.keep k, ln, li, lo, n8, hb.keep k, e3⟩
def RowOk (K : PySem.W.Frag) (H : Hp) (v : V) : Prop := ∃ (ra : Addr) (vv : V) (l : Addr) (fs : List Str), v = .ref ra ∧ SqT K H ra [vv, .ref l] ∧ H l = some (.lst (fs.map V.str)) ∧ PfOk K H vv fs ∧ SeqAt.shaped (.list (fs.map PyData.str)) = true
theorem RowOk.keep0 {K : PySem.W.Frag} {H H' : Hp} (k : KT [] H H') {v : V} (h : RowOk K H v) : RowOk K H' v := by
  obtain ⟨ra, vv, l, fs, e, h1, h2, h3, h4⟩ := h
  exact ⟨ra, vv, l, fs, e, k.sqT h1, k.s0 h2, h3.keep k, h4⟩
theorem RowOk.keepP {K : PySem.W.Frag} {H H' : Hp} {Pt : Addr} (k : KT [Pt] H H') (t : GxR.TabG H Pt) {v : V} (h : RowOk K H v) : RowOk K H' v := by
  obtain ⟨ra, vv, l, fs, e, h1, h2, h3, h4⟩ := h
  refine ⟨ra, vv, l, fs, e, k.sqT h1, k.kp _ _ (fun z => ?_) h2, h3.keep k, h4⟩
  obtain ⟨ps, e, _⟩ := t
  rw [List.mem_singleton.mp z, e] at h2
  cases h2
section
variable {K : PySem.W.Frag} {σ : L2.St} {HC : Hp}
def MkR (K : PySem.W.Frag) (σ : L2.St) (HC : Hp) (te : TE) : Prop := ∀ H (Q : VK), KT [] HC H → (∀ v H', KT [] H H' → RowOk K H' v → Q v H') → te σ H Q
def MkRA (K : PySem.W.Frag) (σ : L2.St) (HC : Hp) (ta : TA) (n : Nat) : Prop := ∀ H (Q : List V → Hp → Prop), KT [] HC H → (∀ vs H', KT [] H H' → vs.length = n → (∀ v ∈ vs, RowOk K H' v) → Q vs H') → ta σ H Q
theorem mr_nil : MkRA K σ HC tNil 0 := fun H _ _ h => h [] H (.refl _ _) rfl (fun _ z => by cases z)
theorem mr_cons {te : TE} {ta : TA} {n : Nat} (a : MkR K σ HC te) (b : MkRA K σ HC ta n) : MkRA K σ HC (tCons te ta) (n + 1) := fun H _ k h => a H _ k fun v H1 k1 r1 => b H1 _ (k.trans k1) fun vs H2 k2 e r2 => h _ _ (k1.trans k2) (by rw [List.length_cons, e]) (fun u hu => by
  rcases List.mem_cons.mp hu with rfl | hu
  · exact r1.keep0 k2
  · exact r2 u hu)
theorem mr_list {ta : TA} {n : Nat} (hn : n ≤ 1000) (a : MkRA K σ HC ta n) {H : Hp} {Q : VK} (k : KT [] HC H) (h : ∀ l vs H', KT [] H H' → H' l = some (.lst vs) → (∀ v ∈ vs, RowOk K H' v) → Q (.ref l) H') : tLst ta σ H Q :=
  a H _ k fun vs H1 k1 e r1 => ⟨Nat.le_trans (by rw [e]; exact hn) (by decide), fun p np => h p vs _ (k1.trans (KT.new _ np)) upd_same (fun v hv => (r1 v hv).keep0 (KT.new _ np))⟩
/-- the end of a row: its codes, the pair -/
theorem row_end {H : Hp} {Q : VK} {vv : V} {fs : List Str} (hp : PfOk K H vv fs) (sh : SeqAt.shaped (.list (fs.map PyData.str)) = true) (hl : fs.length ≤ 10) (q : ∀ v H', KT [] H H' → RowOk K H' v → Q v H') :
    (fs.map V.str).length ≤ sizeLine ∧ ∀ l, H l = none → (2 ≤ sizeLine ∧ ∀ t, (upd H l (.lst (fs.map V.str))) t = none → Q (.ref t) (upd (upd H l (.lst (fs.map V.str))) t (.tup [vv, .ref l]))) := by
  refine ⟨by rw [List.length_map]; exact Nat.le_trans hl (by decide), fun l nl => ⟨by decide, fun t nt => ?_⟩⟩
  have k1 : KT [] H (upd H l (.lst (fs.map V.str))) := .new _ nl
  have k2 : KT [] (upd H l (.lst (fs.map V.str))) (upd (upd H l (.lst (fs.map V.str))) t (.tup [vv, .ref l])) := .new _ nt
  exact q _ _ (k1.trans k2) ⟨t, vv, l, fs, rfl, SqT.of upd_same, k2.s0 upd_same, (hp.keep k1).keep k2, sh⟩
theorem pf_five {H : Hp} {p n i o : Addr} {b : V} {wd : Int} {names ins outs fs : List Str} {r : Bool} (np : H p = none) (fn : FzE K H n names) (fi : FzE K H i ins) (fo : FzE K H o outs) (ln : names.length ≤ 10) (li : ins.length ≤ 10) (lo : outs.length ≤ 10) (n8 : ∀ x ∈ names, x ∈ names8)
    (hb : BodyR K H b (wdR wd) names r) (e : codes names ins outs r wd = fs) : PfOk K (upd H p (.tup [.int wd, .ref n, .ref i, .ref o, b])) (.ref p) fs := by
  have k : KT [] H (upd H p (.tup [.int wd, .ref n, .ref i, .ref o, b])) := .new _ np
  obtain ⟨bd, hbd⟩ : ∃ bd, Rp K H b (.tuple bd) := by
    rcases hb with ⟨bs, _, h, _⟩ | ⟨ds, d, _, h, _⟩
    · exact ⟨_, h⟩
    · exact ⟨_, h⟩
  refine ⟨.tuple [.int wd, .tuple (names.map PyData.str), .tuple (ins.map PyData.str), .tuple (outs.map PyData.str), .tuple bd], .tup (SqT.of upd_same) (.cons (.int _) (.cons (.tup (fn.keep k).sq (rpA_str _)) (.cons (.tup (fi.keep k).sq (rpA_str _)) (.cons (.tup (fo.keep k).sq (rpA_str _)) (.cons (hbd.keep k) .nil))))), .inr ⟨_, _, rfl, Nat.le_refl 4⟩, .inr ⟨p, n, i, o, wd, names, ins, outs, b, r, rfl, rfl, SqT.of upd_same, fn.keep k, fi.keep k, fo.keep k, ln, li, lo, n8, hb.keep k, e.symm⟩⟩
theorem row_five {H : Hp} {Q : VK} {n i o : Addr} {b : V} {wd : Int} {names ins outs : List Str} {r : Bool} (fs : List Str) (fn : FzE K H n names) (fi : FzE K H i ins) (fo : FzE K H o outs) (ln : names.length ≤ 10) (li : ins.length ≤ 10) (lo : outs.length ≤ 10) (n8 : ∀ x ∈ names, x ∈ names8)
    (hb : BodyR K H b (wdR wd) names r) (e : codes names ins outs r wd = fs) (sh : SeqAt.shaped (.list (fs.map PyData.str)) = true) (hl : fs.length ≤ 10) (q : ∀ v H', KT [] H H' → RowOk K H' v → Q v H') :
    5 ≤ sizeLine ∧ ∀ p, H p = none → ((fs.map V.str).length ≤ sizeLine ∧ ∀ l, (upd H p (.tup [.int wd, .ref n, .ref i, .ref o, b])) l = none → (2 ≤ sizeLine ∧ ∀ t, (upd (upd H p (.tup [.int wd, .ref n, .ref i, .ref o, b])) l (.lst (fs.map V.str))) t = none → Q (.ref t) (upd (upd (upd H p (.tup [.int wd, .ref n, .ref i, .ref o, b])) l (.lst (fs.map V.str))) t (.tup [.ref p, .ref l])))) :=
  ⟨by decide, fun _ np => row_end (pf_five np fn fi fo ln li lo n8 hb e) sh hl fun v H' k r => q v H' ((KT.new _ np).trans k) r⟩
end
/-- the codes of the law's rows -/
theorem codes_if {names ins outs : List Str} {r a b c d : Bool} {wd : Int} (h1 : difB ins names = a) (h2 : nmOk names = b) (h3 : difB outs names = c) (h4 : isIr 1 32 (.int wd) = d) : codes names ins outs r wd = add1 (add1 (add1 (add1 (add1 [] a "input") b "name") c "output") r "statement") d "width" := by
  unfold codes
  rw [h1, h2, h3, h4]
theorem ir_good {wd : Int} (w1 : 1 ≤ wd) (w2 : wd ≤ 32) : isIr 1 32 (.int wd) = true := by
  show (decide (1 ≤ wd) && decide (wd ≤ 32)) = true
  rw [decide_eq_true w1, decide_eq_true w2]
  rfl
theorem dif_ins {ins : List Str} (h : ins ∈ insL) : difB ins four4 = true := by
  have k : ∀ i ∈ insL, difB i four4 = true := by decide +kernel
  exact k ins h
theorem dif_outs {ins : List Str} (h : ins ∈ outsL) : difB ins four4 = true := by
  have k : ∀ i ∈ outsL, difB i four4 = true := by decide +kernel
  exact k ins h
theorem dif_ins5 {ins : List Str} (h : ins ∈ insL) : difB ins (four4 ++ [("x" : Str)]) = true := by
  have k : ∀ i ∈ insL, difB i (four4 ++ [("x" : Str)]) = true := by decide +kernel
  exact k ins h
theorem dif_outs5 {ins : List Str} (h : ins ∈ outsL) : difB ins (four4 ++ [("x" : Str)]) = true := by
  have k : ∀ i ∈ outsL, difB i (four4 ++ [("x" : Str)]) = true := by decide +kernel
  exact k ins h
theorem nm_four : nmOk four4 = true := by decide +kernel
theorem nm_five : nmOk (four4 ++ [("x" : Str)]) = false := by decide +kernel

theorem op_a12 {X : Cx} : OpR X (binaryOp .Mult) (fun x y H Q => x = .str "a" ∧ y = .int 12 ∧ Q (.str "aaaaaaaaaaaa") H) := by
  intro pins s σ H x y v u Q I rx ry h
  obtain ⟨rfl, rfl, q⟩ := h
  obtain ⟨t, rfl⟩ := rx
  obtain ⟨t', rfl⟩ := ry
  refine PySem.P.mul_str (by decide) (fun _ _ => by decide) (fun _ _ => by decide +kernel) ?_
  rw [if_neg (by decide), if_neg (by decide)]
  exact ⟨by decide +kernel, .str "aaaaaaaaaaaa", H, I.tok _, ⟨_, rfl⟩, q⟩
/-! ### the rows, part by part -/
section
variable {K : PySem.W.Frag} {σ : L2.St} {HC : Hp}
def MkD8 (K : PySem.W.Frag) (σ : L2.St) (HC : Hp) (te : TE) (d : PyData) : Prop := ∀ H (Q : VK), KT [] HC H → (∀ v H', KT [] H H' → Rp K H' v d → Q v H') → te σ H Q
def MkDA8 (K : PySem.W.Frag) (σ : L2.St) (HC : Hp) (ta : TA) (ds : List PyData) : Prop := ∀ H (Q : List V → Hp → Prop), KT [] HC H → (∀ vs H', KT [] H H' → RpA K H' vs ds → Q vs H') → ta σ H Q
theorem md_int (i : Int) : MkD8 K σ HC (tC (.int i)) (.int i) := fun _ _ _ h => h _ _ (.refl _ _) (.int i)
theorem md_str (i : Str) : MkD8 K σ HC (tC (.str i)) (.str i) := fun _ _ _ h => h _ _ (.refl _ _) (.str i)
theorem md_non : MkD8 K σ HC (tC .non) .none := fun _ _ _ h => h _ _ (.refl _ _) .non
theorem md_var {i : Nat} {v : V} {d : PyData} (e : σ[i]? = some (some v)) (r : Rp K HC v d) : MkD8 K σ HC (tVar i) d := fun _ _ k h => ⟨_, e, h _ _ (.refl _ _) (r.keep k)⟩
theorem md_nil : MkDA8 K σ HC tNil [] := fun _ _ _ h => h _ _ (.refl _ _) .nil
theorem md_cons {te : TE} {ta : TA} {d : PyData} {ds : List PyData} (a : MkD8 K σ HC te d) (b : MkDA8 K σ HC ta ds) : MkDA8 K σ HC (tCons te ta) (d :: ds) := fun H _ k h => a H _ k fun v H1 k1 r1 => b H1 _ (k.trans k1) fun vs H2 k2 r2 => h _ _ (k1.trans k2) (.cons (r1.keep k2) r2)
theorem md_tup {ta : TA} {ds : List PyData} (a : MkDA8 K σ HC ta ds) (hl : ds.length ≤ 1000) : MkD8 K σ HC (tTup ta) (.tuple ds) := fun H _ k h => a H _ k fun vs H1 k1 r1 => ⟨Nat.le_trans (by rw [r1.length]; exact hl) (by decide), fun p np => h _ _ (k1.trans (KT.new _ np)) (.tup (SqT.of upd_same) (r1.keep (KT.new [] np)))⟩
def MkW8 (K : PySem.W.Frag) (σ : L2.St) (HC : Hp) (te : TE) (wd : Int) : Prop := ∀ H (Q : VK), KT [] HC H → Q (.int wd) H → te σ H Q
theorem mw_int (i : Int) : MkW8 K σ HC (tC (.int i)) i := fun _ _ _ h => h
theorem mw_var {i : Nat} {j : Int} (e : σ[i]? = some (some (.int j))) : MkW8 K σ HC (tVar i) j := fun _ _ _ h => ⟨_, e, h⟩
def MkN8 (K : PySem.W.Frag) (σ : L2.St) (HC : Hp) (te : TE) (names : List Str) : Prop := ∀ H (Q : VK), KT [] HC H → (∀ a H', KT [] H H' → FzE K H' a names → Q (.ref a) H') → te σ H Q
theorem mn_var {i : Nat} {a : Addr} {names : List Str} (e : σ[i]? = some (some (.ref a))) (h : FzE K HC a names) : MkN8 K σ HC (tVar i) names := fun H _ k q => ⟨_, e, q a H (.refl _ _) (h.keep k)⟩
theorem mn_nil : MkN8 K σ HC (tTup tNil) [] := fun _ _ _ q => ⟨Nat.zero_le _, fun p np => q p _ (.new _ np) (.inl ⟨rfl, SqT.of upd_same⟩)⟩
theorem mn_one (x : Str) : MkN8 K σ HC (tTupF (tCons (tC (.str x)) tNil)) [x] := fun _ _ _ q => ⟨sz1, fun p o np ho => q p _ (.new _ np) (.inr ⟨o, ho, upd_same⟩)⟩
theorem mn_two (x y : Str) : MkN8 K σ HC (tTupF (tCons (tC (.str x)) (tCons (tC (.str y)) tNil))) [x, y] := fun _ _ _ q => ⟨sz2, fun p o np ho => q p _ (.new _ np) (.inr ⟨o, ho, upd_same⟩)⟩
def MkB8 (K : PySem.W.Frag) (σ : L2.St) (HC : Hp) (te : TE) (wd : Nat) (names : List Str) (r : Bool) : Prop := ∀ H (Q : VK), KT [] HC H → (∀ v H', KT [] H H' → BodyR K H' v wd names r → Q v H') → te σ H Q
theorem mb_var {i : Nat} {v : V} {wd : Nat} {names : List Str} {r : Bool} (e : σ[i]? = some (some v)) (h : BodyR K HC v wd names r) : MkB8 K σ HC (tVar i) wd names r := fun H _ k q => ⟨_, e, q v H (.refl _ _) (h.keep k)⟩
theorem mb_nil {wd : Nat} {names : List Str} : MkB8 K σ HC (tTup tNil) wd names true := fun _ _ _ q => ⟨Nat.zero_le _, fun p np => q _ _ (.new _ np) (.inl ⟨[], rfl, .tup (SqT.of upd_same) .nil, trivial, Nat.zero_le _, fun z => absurd rfl z⟩)⟩
theorem mb_bad {te : TE} {wd : Nat} {names : List Str} {ds : List PyData} {d : PyData} (a : MkD8 K σ HC te (.tuple (ds ++ [d]))) (h : BadD wd names d) (hl : ds.length ≤ 200) : MkB8 K σ HC te wd names false := fun H _ k q => a H _ k fun v H' k' r => q v H' k' (.inr ⟨ds, d, rfl, r, h, hl⟩)
def MkC8 (σ : L2.St) (ta : TA) (fs : List Str) : Prop := ∀ H (Q : List V → Hp → Prop), Q (fs.map V.str) H → ta σ H Q
theorem mc_one (x : Str) : MkC8 σ (tCons (tC (.str x)) tNil) [x] := fun _ _ h => h
theorem mc_two (x y : Str) : MkC8 σ (tCons (tC (.str x)) (tCons (tC (.str y)) tNil)) [x, y] := fun _ _ h => h
theorem mr_row {tw tn ti to tb : TE} {tc : TA} {wd : Int} {names ins outs fs : List Str} {r : Bool} (e : codes names ins outs r wd = fs) (sh : SeqAt.shaped (.list (fs.map PyData.str)) = true) (hl : fs.length ≤ 10) (ln : names.length ≤ 10) (li : ins.length ≤ 10) (lo : outs.length ≤ 10) (n8 : ∀ x ∈ names, x ∈ names8)
    (a1 : MkW8 K σ HC tw wd) (a2 : MkN8 K σ HC tn names) (a3 : MkN8 K σ HC ti ins) (a4 : MkN8 K σ HC to outs) (a5 : MkB8 K σ HC tb (wdR wd) names r) (a6 : MkC8 σ tc fs) :
    MkR K σ HC (tTup (tCons (tTup (tCons tw (tCons tn (tCons ti (tCons to (tCons tb tNil)))))) (tCons (tLst tc) tNil))) := by
  intro H Q k q
  refine a1 H _ k ?_
  refine a2 H _ k fun n H1 k1 fn => ?_
  refine a3 H1 _ (k.trans k1) fun i H2 k2 fi => ?_
  refine a4 H2 _ ((k.trans k1).trans k2) fun o H3 k3 fo => ?_
  refine a5 H3 _ (((k.trans k1).trans k2).trans k3) fun b H4 k4 hb => ?_
  refine ⟨by show 5 ≤ sizeLine; decide, fun p np => ?_⟩
  refine a6 _ _ ?_
  have k5 : KT [] H (upd H4 p (.tup [.int wd, .ref n, .ref i, .ref o, b])) := (((k1.trans k2).trans k3).trans k4).trans (.new _ np)
  exact row_end (pf_five np (((fn.keep k2).keep k3).keep k4) ((fi.keep k3).keep k4) (fo.keep k4) ln li lo n8 hb e) sh hl fun v H' k' r' => q v H' (k5.trans k') r'
theorem mr_form {te : TE} {tc : TA} {d : PyData} (hd : d = .none ∨ ∃ x r, d = .tuple (x :: r) ∧ r.length ≤ 4) (hf : hfB d = false) (a : MkD8 K σ HC te d) (a6 : MkC8 σ tc ["form"]) : MkR K σ HC (tTup (tCons te (tCons (tLst tc) tNil))) := by
  intro H Q k q
  refine a H _ k fun v H1 k1 r1 => ?_
  refine a6 _ _ ?_
  exact row_end ⟨d, r1, hd, .inl ⟨hf, rfl⟩⟩ (by decide +kernel) (by decide) fun v H' k' r' => q v H' (k1.trans k') r'
end

def aOf (ax ay an ak : Addr) (s : Str) : Addr := if s = "x" then ax else if s = "y" then ay else if s = "n" then an else ak
theorem fr_new (a : Str → Addr) : mergeK [] (frK a) = frK a := by kernel_rfl
theorem fr_pairs (ax ay an ak : Addr) : [(V.str "x", V.ref ax), (V.str "y", V.ref ay), (V.str "n", V.ref an), (V.str "k", V.ref ak)] = (frK (aOf ax ay an ak)).map fun kv => (kV kv.1, kv.2) := by kernel_rfl
theorem m_new (wd F st mx : Nat) (fa : Addr) (out : Bool) : mergeK [] (mK wd F st mx fa out) = mK wd F st mx fa out := by kernel_rfl
/-- what the law's walk tells of the machine -/
theorem run_of {wd F : Nat} {bs : List PS} {lk : Lk} {s' : PSt} (h : DoB wd F bs 0 ⟨lk, 0, 0, false⟩ s') : ∃ n d, Gos wd F n ⟨lk, 0, 0, [⟨bs, 0, none⟩]⟩ d ∧ (d.fr = [] ∨ Dry F d) ∧ d.lk = s'.lk ∧ d.st = s'.st ∧ d.mx = s'.mx ∧ endD d = .tuple [.str (if s'.out then "none" else "done")] := by
  have h := h none []
  by_cases o : s'.out = true
  · rw [o] at h
    obtain ⟨c, ⟨n, g⟩, dry, e1, e2, e3⟩ := h
    refine ⟨n, c, g, .inr dry, e1, e2, e3, ?_⟩
    obtain ⟨_, f, r, ef, _⟩ := dry
    unfold endD
    rw [ef, o]
    rfl
  · rw [Bool.not_eq_true] at o
    rw [o] at h
    obtain ⟨n, g⟩ := h
    refine ⟨1 + n, ⟨s'.lk, s'.st, s'.mx + 0, []⟩, g.trans (.one (.pop (Nat.le_refl _) trivial)), .inl rfl, rfl, rfl, rfl, ?_⟩
    unfold endD
    rw [o]
    rfl
def spLaw {K : PySem.W.Frag} {mg : Str → Option Value} (T : Txt K mg) : Sp := fun vs H Q _ => ∃ (a : Addr) (ns : List Int), vs = [.ref a] ∧ SqL K H a (ns.map V.int) ∧ ns.length ≤ 63 ∧ (∀ z ∈ ns, Builtin.Int.intBits z ≤ 1048576) ∧ (∀ p ∈ T.tabs, H p.2 = some (.tbl #[])) ∧ ∀ H', Q (.bl true) H'
theorem codes_good {ins outs : List Str} {wd : Int} (hi : ins ∈ insL) (ho : outs ∈ outsL) (w1 : 1 ≤ wd) (w2 : wd ≤ 32) : codes four4 ins outs true wd = [] := by
  have k1 : ∀ i ∈ insL, difB i four4 = true := by decide +kernel
  have k2 : ∀ i ∈ outsL, difB i four4 = true := by decide +kernel
  have k3 : nmOk four4 = true := by decide +kernel
  have k4 : isIr 1 32 (.int wd) = true := by
    show (decide (1 ≤ wd) && decide (wd ≤ 32)) = true
    rw [decide_eq_true w1, decide_eq_true w2]
    rfl
  unfold codes
  rw [k1 ins hi, k2 outs ho, k3, k4]
  rfl
theorem wdR_of {wd : Nat} (w1 : 1 ≤ wd) (w2 : wd ≤ 32) : wdR (wd : Int) = wd := by
  unfold wdR
  rw [if_pos (by omega), Int.toNat_natCast]
section
variable {P : Program} {w : World} {K : PySem.W.Frag} {mg : Str → Option Value} {base : Heap} {C C2 : Addr}
theorem ok_law (T : Txt K mg) (TB : TBs T base) (TC : TxC K C) (TM : TxM K mg C) (TC2 : TxC2 K C2) (TM2 : TxM2 K mg C2) (TA : TxA K mg w) : FnOk P w K mg base CX0 34 T.f_law T.d_law ["script"] (spLaw T) := by
  have G_z_draw := ok_z_draw (P := P) (w := w) (base := base) T
  have G_z_take := okG_z_take (P := P) (w := w) (base := base) T
  have G_z_word := okG_z_word (P := P) (w := w) (base := base) T
  have G_z_ordinary := ok_z_ordinary (P := P) (w := w) (base := base) T
  have G_z_plain_do := ok_z_plain_do (P := P) (w := w) (base := base) T 5
  have G_plain_faults := ok_pf (P := P) (base := base) T TA TB
  have G_run_plain := ok_runp (P := P) (w := w) (base := base) T TC TM TC2 TM2
  refine T.F_law.ok sc_law (fun vs H Q E h => ?_) (fun cdv A outer s H vs Q E hr h => ?_)
  · obtain ⟨a, ns, rfl, _⟩ := h
    rfl
  · obtain ⟨a, ns, rfl, hS, hlen, _, htab, q⟩ := h
    have hr : Room 33 _ := hr
    refine ⟨_, (pss_cons (ps_set (i := 1) sc_law.nd rfl (Or.inr rfl) (pe_call G_z_draw (hr.mono (by omega)) (by rfl) T.g_z_draw T.F_z_draw.kp T.b_z_draw .nil pass0 (pa_cons (pv 0) pa_nil)))
      (pss_cons (ps_set (i := 2) sc_law.nd rfl (Or.inr rfl) (pe_call G_z_ordinary (hr.mono (by omega)) (by rfl) T.g_z_ordinary T.F_z_ordinary.kp T.b_z_ordinary .nil pass0 (pa_cons (pv 1) pa_nil)))
      (pss_cons (ps_if (pt_cmpR (op_neD hr.units) (pe_call G_plain_faults (hr.mono (by omega)) (by rfl) T.g_plain_faults T.F_plain_faults.kp T.b_plain_faults .nil pass0 (pa_cons (pv 2) pa_nil)) (pe_lst pa_nil) (nomark _))
        (pss_one (ps_ret pe_bl))
        pss_nil)
      (pss_cons (ps_set (i := 3) sc_law.nd rfl (Or.inl rfl) (pe_callTy call_tuple_of (by rfl) T.m_tuple (by decide +kernel) (pa_cons (pe_lc (own := [("name", 16)]) (g := gName 16) (by rfl) sc_law.nd (pi_tup (pe_ix ix_tup (pv 2) pe_int (fun _ _ => rfl))) (blkOk_by (own := [("name", 16)]) (N := N_law) (sc := defScope s_law) (by decide +kernel)) (fun _ _ _ _ _ => (pg_name (i := 16) sc_law.nd rfl (Or.inl rfl))) (fun _ _ _ _ _ => pts_nil) (fun _ _ _ _ _ => (pe_call G_z_word (hr.mono (by omega)) (by rfl) T.g_z_word T.F_z_word.kp T.b_z_word .nil pass0 (pa_cons (pv 1) (pa_cons (pe_ix (ixT (K := K) rfl) (pv 2) pe_int (fun _ _ => rfl)) pa_nil))))) pa_nil)))
      (pss_cons (ps_set (i := 4) sc_law.nd rfl (Or.inl rfl) (pe_ix ix_list (pe_lst (pa_cons pe_int (pa_cons pe_int (pa_cons pe_int (pa_cons (pe_call G_z_take (hr.mono (by omega)) (by rfl) T.g_z_take T.F_z_take.kp T.b_z_take .nil pass0 (pa_cons (pv 1) (pa_cons pe_int pa_nil))) pa_nil))))) (pe_call G_z_take (hr.mono (by omega)) (by rfl) T.g_z_take T.F_z_take.kp T.b_z_take .nil pass0 (pa_cons (pv 1) (pa_cons pe_int pa_nil))) (fun _ _ => rfl)))
      (pss_cons (ps_set (i := 5) sc_law.nd rfl (Or.inr rfl) (pe_disp (pps_cons pe_str (pe_ix ix_tup (pv 2) pe_int (fun _ _ => rfl)) (pps_cons pe_str (pe_disp (pps_cons pe_str (pe_lst (pa_cons pe_int pa_nil)) (pps_cons pe_str (pe_lst (pa_cons pe_int pa_nil)) (pps_cons pe_str (pe_lst (pa_cons pe_int pa_nil)) (pps_cons pe_str (pe_lst (pa_cons pe_int pa_nil)) pps_nil)))) (by rfl) (by rfl) (fun z => by cases z) (by decide)) (pps_cons pe_str (pv 4) (pps_cons pe_str pe_int (pps_cons pe_str pe_int (pps_cons pe_str pe_bl pps_nil)))))) (by rfl) (by rfl) (fun z => by cases z) (by decide)))
      (pss_cons (ps_for PassesOwn.never rfl (pi_range1 (by rfl) T.m_range (pa_cons (pe_callB call_len_seq (by rfl) T.m_len (by decide +kernel) (pa_cons (pv 3) pa_nil)) pa_nil)) (pg_name (i := 6) sc_law.nd rfl (Or.inl rfl))
        (pss_one (ps_asg (pe_ix ix_tup (pv 3) (pv 6) (fun _ _ => rfl)) (pg_sub (pe_dget (hu_of hr) (pe_dget (hu_of hr) (pv 5) pe_str (fun _ _ => rfl)) (pe_ix ix_tup (pe_ix ix_tup (pv 2) pe_int (fun _ _ => rfl)) (pv 6) (fun _ _ => rfl)) (fun _ _ => rfl)) pe_int set_list))))
      (pss_cons (ps_expr (pe_call G_z_plain_do (hr.mono (by omega)) (by rfl) T.g_z_plain_do T.F_z_plain_do.kp T.b_z_plain_do .nil pass0 (pa_cons (pv 5) (pa_cons (pe_ix ix_tup (pv 2) pe_int (fun _ _ => rfl)) pa_nil))))
      (pss_cons (ps_set (i := 7) sc_law.nd rfl (Or.inl rfl) (pe_tup (pa_cons (pe_callTy call_tuple_of (by rfl) T.m_tuple (by decide +kernel) (pa_cons (pe_lc (own := [("name", 16)]) (g := gName 16) (by rfl) sc_law.nd (pi_tup (pe_ix ix_tup (pv 2) pe_int (fun _ _ => rfl))) (blkOk_by (own := [("name", 16)]) (N := N_law) (sc := defScope s_law) (by decide +kernel)) (fun _ _ _ _ _ => (pg_name (i := 16) sc_law.nd rfl (Or.inl rfl))) (fun _ _ _ _ _ => pts_nil) (fun _ _ _ _ _ => (pe_ix (ixL (K := K) rfl) (pe_dget (hu_of hr) (pe_dget (hu_of hr) (pv 5) pe_str (fun _ _ => rfl)) (pv 16) (fun _ _ => rfl)) pe_int (fun _ _ => rfl)))) pa_nil)) (pa_cons (pe_cut (pe_ifExp (pt_truth (pe_dget (hu_of hr) (pv 5) pe_str (fun _ _ => rfl)) (by intro _; rfl)) (pe_tup (pa_cons pe_str pa_nil)) (pe_tup (pa_cons pe_str pa_nil)))) (pa_cons (pe_dget (hu_of hr) (pv 5) pe_str (fun _ _ => rfl)) (pa_cons (pe_dget (hu_of hr) (pv 5) pe_str (fun _ _ => rfl)) pa_nil))))))
      (pss_cons (ps_if (pt_cmpR (op_neD hr.units) (pe_callN G_run_plain (hr.mono (by omega)) (by rfl) T.g_run_plain T.F_run_plain.kp T.b_run_plain pass0 (pa_cons (pv 2) (pa_cons (pv 3) pa_nil)) (pk_cons (pv 4) pk_nil)) (pv 7) (nomark _))
        (pss_one (ps_ret pe_bl))
        pss_nil)
      (pss_cons (ps_asg (pv 2) (pg_tup (by rfl) (pgs_cons (pg_name (i := 8) sc_law.nd rfl (Or.inl rfl)) (pgs_cons (pg_name (i := 9) sc_law.nd rfl (Or.inl rfl)) (pgs_cons (pg_name (i := 10) sc_law.nd rfl (Or.inl rfl)) (pgs_cons (pg_name (i := 11) sc_law.nd rfl (Or.inl rfl)) (pgs_cons (pg_name (i := 12) sc_law.nd rfl (Or.inl rfl)) pgs_nil)))))))
      (pss_cons (ps_set (i := 13) sc_law.nd rfl (Or.inl rfl) (pe_tup (pa_cons pe_str (pa_cons pe_str (pa_cons (pe_tup (pa_cons pe_str (pa_cons pe_int pa_nil))) pa_nil)))))
      (pss_cons (ps_for PassesOwn.never rfl (pi_list (pe_lst (pa_cons (pe_tup (pa_cons (pe_tup (pa_cons pe_int (pa_cons (pv 9) (pa_cons (pv 10) (pa_cons (pv 11) (pa_cons (pv 12) pa_nil)))))) (pa_cons (pe_lst (pa_cons pe_str pa_nil)) pa_nil))) (pa_cons (pe_tup (pa_cons (pe_tup (pa_cons (pv 8) (pa_cons (pe_op op_catF (pv 9) (pe_tup (pa_cons pe_str pa_nil))) (pa_cons (pv 10) (pa_cons (pv 11) (pa_cons (pv 12) pa_nil)))))) (pa_cons (pe_lst (pa_cons pe_str pa_nil)) pa_nil))) (pa_cons (pe_tup (pa_cons (pe_tup (pa_cons (pv 8) (pa_cons (pe_tupF (pa_cons pe_str pa_nil)) (pa_cons (pe_tup pa_nil) (pa_cons (pe_tup pa_nil) (pa_cons (pe_tup pa_nil) pa_nil)))))) (pa_cons (pe_lst (pa_cons pe_str pa_nil)) pa_nil))) (pa_cons (pe_tup (pa_cons (pe_tup (pa_cons (pv 8) (pa_cons (pe_tupF (pa_cons (pe_op op_a12 pe_str pe_int) pa_nil)) (pa_cons (pe_tup pa_nil) (pa_cons (pe_tup pa_nil) (pa_cons (pe_tup pa_nil) pa_nil)))))) (pa_cons (pe_lst (pa_cons pe_str pa_nil)) pa_nil))) (pa_cons (pe_tup (pa_cons (pe_tup (pa_cons (pv 8) (pa_cons (pv 9) (pa_cons (pe_tupF (pa_cons pe_str pa_nil)) (pa_cons (pv 11) (pa_cons (pv 12) pa_nil)))))) (pa_cons (pe_lst (pa_cons pe_str pa_nil)) pa_nil))) (pa_cons (pe_tup (pa_cons (pe_tup (pa_cons (pv 8) (pa_cons (pv 9) (pa_cons (pv 10) (pa_cons (pe_tupF (pa_cons pe_str (pa_cons pe_str pa_nil))) (pa_cons (pv 12) pa_nil)))))) (pa_cons (pe_lst (pa_cons pe_str pa_nil)) pa_nil))) (pa_cons (pe_tup (pa_cons (pe_tup (pa_cons (pv 8) (pa_cons (pv 9) (pa_cons (pv 10) (pa_cons (pv 11) (pa_cons (pe_cut (pe_op op_catA (pv 12) (pe_tup (pa_cons (pe_tup (pa_cons pe_str (pa_cons pe_str (pa_cons (pe_tup (pa_cons pe_str (pa_cons pe_int pa_nil))) pa_nil)))) pa_nil)))) pa_nil)))))) (pa_cons (pe_lst (pa_cons pe_str pa_nil)) pa_nil))) (pa_cons (pe_tup (pa_cons (pe_tup (pa_cons (pv 8) (pa_cons (pv 9) (pa_cons (pv 10) (pa_cons (pv 11) (pa_cons (pe_tup (pa_cons (pe_tup (pa_cons pe_str (pa_cons (pe_tup (pa_cons pe_str (pa_cons pe_int pa_nil))) (pa_cons (pe_tup (pa_cons (pv 13) pa_nil)) pa_nil)))) pa_nil)) pa_nil)))))) (pa_cons (pe_lst (pa_cons pe_str pa_nil)) pa_nil))) (pa_cons (pe_tup (pa_cons (pe_tup (pa_cons (pv 8) (pa_cons (pv 9) (pa_cons (pv 10) (pa_cons (pv 11) (pa_cons (pe_tup (pa_cons (pe_tup (pa_cons pe_str (pa_cons (pe_tup (pa_cons pe_str (pa_cons pe_str (pa_cons (pe_tup (pa_cons pe_str (pa_cons pe_int pa_nil))) pa_nil)))) (pa_cons (pe_tup pa_nil) pa_nil)))) pa_nil)) pa_nil)))))) (pa_cons (pe_lst (pa_cons pe_str pa_nil)) pa_nil))) (pa_cons (pe_tup (pa_cons (pe_tup (pa_cons (pv 8) (pa_cons (pv 9) (pa_cons (pv 10) (pa_cons (pv 11) (pa_cons (pe_tup (pa_cons (pe_tup (pa_cons pe_str (pa_cons pe_str (pa_cons (pe_tup (pa_cons pe_str (pa_cons pe_str pa_nil))) pa_nil)))) pa_nil)) pa_nil)))))) (pa_cons (pe_lst (pa_cons pe_str pa_nil)) pa_nil))) (pa_cons (pe_tup (pa_cons (pe_tup (pa_cons (pv 8) (pa_cons (pv 9) (pa_cons (pv 10) (pa_cons (pe_tupF (pa_cons pe_str pa_nil)) (pa_cons (pe_tup (pa_cons pe_non pa_nil)) pa_nil)))))) (pa_cons (pe_lst (pa_cons pe_str (pa_cons pe_str pa_nil))) pa_nil))) (pa_cons (pe_tup (pa_cons (pe_tup (pa_cons (pv 8) (pa_cons (pv 9) (pa_cons (pv 10) (pa_cons (pv 11) pa_nil))))) (pa_cons (pe_lst (pa_cons pe_str pa_nil)) pa_nil))) (pa_cons (pe_tup (pa_cons pe_non (pa_cons (pe_lst (pa_cons pe_str pa_nil)) pa_nil))) (pa_cons (pe_tup (pa_cons (pe_tup (pa_cons (pv 8) (pa_cons pe_non (pa_cons (pv 10) (pa_cons (pv 11) (pa_cons (pv 12) pa_nil)))))) (pa_cons (pe_lst (pa_cons pe_str pa_nil)) pa_nil))) (pa_cons (pe_tup (pa_cons (pe_tup (pa_cons (pv 8) (pa_cons (pv 9) (pa_cons (pv 10) (pa_cons (pv 11) (pa_cons (pv 13) pa_nil)))))) (pa_cons (pe_lst (pa_cons pe_str pa_nil)) pa_nil))) pa_nil))))))))))))))))) (pg_tup (by rfl) (pgs_cons (pg_name (i := 14) sc_law.nd rfl (Or.inl rfl)) (pgs_cons (pg_name (i := 15) sc_law.nd rfl (Or.inl rfl)) pgs_nil)))
        (pss_one (ps_if (pt_cmpR (op_neD hr.units) (pe_call G_plain_faults (hr.mono (by omega)) (by rfl) T.g_plain_faults T.F_plain_faults.kp T.b_plain_faults .nil pass0 (pa_cons (pv 14) pa_nil)) (pv 15) (nomark _))
          (pss_one (ps_ret pe_bl))
          pss_nil)))
      (pss_one (ps_ret pe_bl))))))))))))))), ?_⟩
    refine ⟨_, rfl, a, ns, rfl, hS, hlen, fun H1 dr sm ndr D => ?_⟩
    have tg : GxR.TabG H1 T.P_is_name := ⟨#[], sm _ _ (htab (T.c_is_name, T.P_is_name) (by simp [Txt.tabs])), trivial⟩
    refine ⟨_, rfl, dr, rfl, D, fun pv wd ins outs bs H2 g2 rp oo ⟨pa, na, ia, oa, bv, epv, hs, fn, fi, fo, rb⟩ => ?_⟩
    subst epv
    have npd : T.P_is_name ∉ [dr] := fun z => by
      obtain ⟨ps, e, h⟩ := tg
      obtain ⟨xs, e'⟩ := drawAt_isl D
      rw [List.mem_singleton.mp z, e'] at e
      cases e
    have tg2 := tabG_kt g2.k npd tg
    have w1 := oo.w1
    have w2 := oo.w2
    have l4 : ∀ i ∈ insL, i.length ≤ 10 := by decide +kernel
    have l5 : ∀ i ∈ outsL, i.length ≤ 10 := by decide +kernel
    have n8 : ∀ x ∈ four4, x ∈ names8 := by decide +kernel
    refine ⟨_, rfl, .ref pa, prD wd ins outs bs, _, rfl, rp, .inr ⟨_, _, rfl, by show 4 ≤ 4; decide⟩, tg2, .inr ⟨pa, na, ia, oa, wd, four4, ins, outs, bv, true, rfl, rfl, hs, fn, fi, fo, by decide, l4 ins oo.i, l5 outs oo.o, n8, .inl ⟨bs, rfl, rb, by rw [wdR_of w1 w2]; exact oo.b, Nat.le_trans oo.z (by decide), fun _ x hx => hx⟩, rfl⟩, fun fl H3 k3 t3 nfl hfl => ?_⟩
    rw [codes_good oo.i oo.o (by omega) (by omega)] at hfl
    refine ⟨Nat.zero_le _, fun el nel => ?_⟩
    have ke : KT [T.P_is_name] H3 (upd H3 el (.lst [])) := .new _ nel
    have nflp : fl ∉ [T.P_is_name] := fun z => by
      obtain ⟨ps, e, h⟩ := tg2
      rw [← List.mem_singleton.mp z, nfl] at e
      cases e
    have hfl2 := ke.kp _ _ nflp hfl
    have hel : (upd H3 el (.lst [])) el = some (.lst []) := upd_same
    have te := tabG_upd (o := .lst []) (tabG_ne t3 nel) t3
    have k23 := k3.trans ke
    generalize upd H3 el (.lst []) = H4 at hfl2 hel te k23 ⊢
    refine ⟨_, _, .lst (SqL.of hfl2) .nil, .lst (SqL.of hel) .nil, rfl, rfl, _, rfl, ite_f (by decide) ?_⟩
    -- the draw stands as before
    have D4 : DrawAt H4 dr := by
      obtain ⟨cc, cells, pos, rest, seed, dd⟩ := g2.d
      have n1 : dr ∉ [T.P_is_name] := fun z => by
        obtain ⟨ps, e, h⟩ := tg2
        rw [← List.mem_singleton.mp z, dd.hp] at e
        cases e
      have n2 : cc ∉ [T.P_is_name] := fun z => by
        obtain ⟨ps, e, h⟩ := tg2
        rw [← List.mem_singleton.mp z, dd.hc] at e
        cases e
      exact ⟨cc, cells, pos, rest, seed, ⟨k23.kp _ _ n1 dd.hp, k23.kp _ _ n2 dd.hc, dd.nn, dd.po, dd.re, dd.s0, dd.s1⟩⟩
    have hs4 := k23.sqT hs
    have fn4 := fn.keep k23
    have fi4 := fi.keep k23
    have fo4 := fo.keep k23
    have rb4 := rb.keep k23
    have rp4 := rp.keep k23
    refine ⟨_, rfl, _, _, _, _, rfl, rfl, hs4, atI_nat (j := 2) rfl, ia, rfl, ⟨_, fi4.sq⟩, fun D nD => ?_⟩
    have npd4 : T.P_is_name ≠ D := tabG_ne te nD
    have nDr : D ∉ [dr] := fun z => by
      obtain ⟨xs, e⟩ := drawAt_isl D4
      rw [← List.mem_singleton.mp z, nD] at e
      cases e
    refine lc_tup (K := K) (xs := ins.map V.str) (fun i Hx => ∃ vals : List Int, KT [dr] H4 Hx ∧ DrawAt Hx dr ∧ GxR.TabG Hx T.P_is_name ∧ Hx D = some (.lst (vals.map V.int)) ∧ vals.length = i ∧ ∀ y ∈ vals, 0 ≤ y ∧ y < 2 ^ wd) ⟨[], .new _ nD, D4.upd nD, tabG_upd npd4 te, upd_same, rfl, fun y hy => by cases hy⟩ ?_ ?_ ?_
    · rintro i Hx _ ⟨_, k, _⟩
      exact (fi4.keep k).sq
    · rintro i x Hx hx ⟨vals, k, dd, tt, eD, hl, hv⟩
      have hi : i < ins.length := by
        have := (List.getElem?_eq_some_iff.mp hx).1
        rw [List.length_map] at this
        exact this
      refine ⟨rfl, _, rfl, _, rfl, _, _, _, _, rfl, rfl, k.sqT hs4, atI_0, dr, wd, rfl, dd, w1, w2, fun r H5 r0 r1 g5 => ?_⟩
      refine ⟨_, g5.k.kp _ _ nDr eD, ?_, vals ++ [r], (k.trans g5.k).late nD, drawAt_late D4 g5.d (k.trans g5.k) nD, tabG_upd npd4 (tabG_kt g5.k npd tt), ?_, ?_, ?_⟩
      · rw [List.length_map, hl]
        exact Nat.lt_of_le_of_lt (by have := l4 ins oo.i; omega : i ≤ 10) (by decide)
      · rw [upd_same, List.map_append]
        rfl
      · rw [List.length_append, hl]
        rfl
      · intro y hy
        rcases List.mem_append.mp hy with h | h
        · exact hv y h
        · rw [List.mem_singleton.mp h]
          exact ⟨r0, r1⟩
    rintro H5 ⟨vals, k5, D5, t5, eD, hl, hv⟩
    rw [List.length_map] at hl
    refine ⟨D, _, rfl, .inl ⟨SqL.of eD, fun vt nvt => ?_⟩⟩
    have k6 : KT [dr] H5 (upd H5 vt (.tup (vals.map V.int))) := .new _ nvt
    have rv6 : Rp K (upd H5 vt (.tup (vals.map V.int))) (.ref vt) (.tuple (vals.map PyData.int)) := .made nvt (rpA_int _)
    have D6 := D5.upd (o := .tup (vals.map V.int)) nvt
    have t6 := tabG_upd (o := .tup (vals.map V.int)) (tabG_ne t5 nvt) t5
    have k46 := k5.trans k6
    have hvt : (upd H5 vt (.tup (vals.map V.int))) vt = some (.tup (vals.map V.int)) := upd_same
    generalize upd H5 vt (.tup (vals.map V.int)) = H6 at k46 rv6 D6 t6 hvt ⊢
    -- fuel
    refine ⟨_, rfl, dr, 50, rfl, D6, by decide, by decide, fun r H7 r0 r1 g7 => ⟨sz4, fun l nl => ?_⟩⟩
    have g8 : GS dr H7 (upd H7 l (.lst [.int 400, .int 0, .int 3, .int r])) := .new g7.d nl
    have nld : l ∉ [dr] := fun z => by
      obtain ⟨o, e⟩ := g7.d.some
      rw [List.mem_singleton.mp z, e] at nl
      cases nl
    refine ⟨_, rfl, dr, 4, rfl, g8.d, by decide, by decide, fun r2 H8 q0 q1 g9 => ?_⟩
    obtain ⟨fv, hw1, hw2⟩ := atI_in (xs := [V.int 400, .int 0, .int 3, .int r]) q0 q1
    refine ⟨l, _, r2, _, rfl, rfl, SqL.of (g9.k.kp _ _ nld upd_same), hw1, ?_⟩
    obtain ⟨F, rfl⟩ : ∃ F : Nat, fv = .int F := by
      obtain ⟨m, rfl⟩ := int_nat r0
      simp only [List.mem_cons, List.not_mem_nil, or_false] at hw2
      rcases hw2 with rfl | rfl | rfl | rfl
      · exact ⟨400, rfl⟩
      · exact ⟨0, rfl⟩
      · exact ⟨3, rfl⟩
      · exact ⟨m, rfl⟩
    have g79 := (g7.trans g8).trans g9
    have k48 := k46.trans g79.k
    have t8 := tabG_kt g79.k npd t6
    have D8 := g79.d
    have rv8 := rv6.keep g79.k
    have hvt8 := g79.k.tp _ _ hvt
    clear hw1 hw2 nld g8 g9 nl
    have hs8 := k48.sqT hs4
    -- m
    refine fun md nmd => ⟨_, rfl, _, _, _, _, rfl, rfl, (KT.new [] nmd).sqT hs8, atI_0, fun fa nfa => ⟨sz1, fun ax nax => ⟨sz1, fun ay nay => ⟨sz1, fun an nan => ⟨sz1, fun ak nak => ?_⟩⟩⟩⟩⟩
    have n1 : (upd H8 md (.dK [])) md = some (.dK []) := upd_same
    have k1 : KT [] H8 (upd H8 md (.dK [])) := .new _ nmd
    generalize upd H8 md (.dK []) = A1 at nfa nax nay nan nak n1 k1 ⊢
    have n2 : (upd A1 fa (.dK [])) fa = some (.dK []) := upd_same
    have k2 : KT [] A1 (upd A1 fa (.dK [])) := .new _ nfa
    generalize upd A1 fa (.dK []) = A2 at nax nay nan nak n2 k2 ⊢
    have n3 : (upd A2 ax (.lst [.int 0])) ax = some (.lst [.int 0]) := upd_same
    have k3' : KT [] A2 (upd A2 ax (.lst [.int 0])) := .new _ nax
    generalize upd A2 ax (.lst [.int 0]) = A3 at nay nan nak n3 k3' ⊢
    have n4 : (upd A3 ay (.lst [.int 0])) ay = some (.lst [.int 0]) := upd_same
    have k4 : KT [] A3 (upd A3 ay (.lst [.int 0])) := .new _ nay
    generalize upd A3 ay (.lst [.int 0]) = A4 at nan nak n4 k4 ⊢
    have n5 : (upd A4 an (.lst [.int 0])) an = some (.lst [.int 0]) := upd_same
    have k5' : KT [] A4 (upd A4 an (.lst [.int 0])) := .new _ nan
    generalize upd A4 an (.lst [.int 0]) = A5 at nak n5 k5' ⊢
    have n6 : (upd A5 ak (.lst [.int 0])) ak = some (.lst [.int 0]) := upd_same
    have k6' : KT [] A5 (upd A5 ak (.lst [.int 0])) := .new _ nak
    generalize upd A5 ak (.lst [.int 0]) = A6 at n6 k6' ⊢
    have m26 := ((k3'.trans k4).trans k5').trans k6'
    refine ⟨m26.s0 n2, frK (aOf ax ay an ak), fr_pairs ax ay an ak, (show 4 ≤ 15 by decide), ?_⟩
    rw [fr_new]
    have mf : md ≠ fa := ne_of_none n1 nfa
    have e6m : A6 md = some (.dK []) := m26.s0 (k2.s0 n1)
    have e6f : A6 fa = some (.dK []) := m26.s0 n2
    have e6x : A6 ax = some (.lst [.int 0]) := ((k4.trans k5').trans k6').s0 n3
    have e6y : A6 ay = some (.lst [.int 0]) := (k5'.trans k6').s0 n4
    have e6n : A6 an = some (.lst [.int 0]) := k6'.s0 n5
    have xy : ax ≠ ay := ne_of_none n3 nay
    have xn : ax ≠ an := ne_of_none (k4.s0 n3) nan
    have xk : ax ≠ ak := ne_of_none (k5'.s0 (k4.s0 n3)) nak
    have yn : ay ≠ an := ne_of_none n4 nan
    have yk : ay ≠ ak := ne_of_none (k5'.s0 n4) nak
    have nk : an ≠ ak := ne_of_none n5 nak
    refine ⟨_, rfl, by rw [upd_ne mf]; exact e6m, mK wd F 0 0 fa false, rfl, (show 6 ≤ 15 by decide), ?_⟩
    rw [m_new]
    have cell : ∀ {b : Addr}, A6 b = some (.lst [.int 0]) → (upd (upd A6 fa (.dK (frK (aOf ax ay an ak)))) md (.dK (mK wd F 0 0 fa false))) b = some (.lst [.int 0]) := fun e => by
      rw [upd_ne (fun z => by rw [z, e6m] at e; cases e), upd_ne (fun z => by rw [z, e6f] at e; cases e)]
      exact e
    have M0 : MSt (upd (upd A6 fa (.dK (frK (aOf ax ay an ak)))) md (.dK (mK wd F 0 0 fa false))) md fa (aOf ax ay an ak) wd F ⟨lkZ [], 0, 0, false⟩ := by
      refine ⟨upd_same, by rw [upd_ne (Ne.symm mf)]; exact upd_same, fun x hx => ?_, fun x hx y hy e => ?_, Ne.symm mf⟩
      · rcases four_in hx with rfl | rfl | rfl | rfl
        · exact cell e6x
        · exact cell e6y
        · exact cell e6n
        · exact cell n6
      · rcases four_in hx with rfl | rfl | rfl | rfl <;> rcases four_in hy with rfl | rfl | rfl | rfl
        · rfl
        · exact absurd e xy
        · exact absurd e xn
        · exact absurd e xk
        · exact absurd e.symm xy
        · rfl
        · exact absurd e yn
        · exact absurd e yk
        · exact absurd e.symm xn
        · exact absurd e.symm yn
        · rfl
        · exact absurd e nk
        · exact absurd e.symm xk
        · exact absurd e.symm yk
        · exact absurd e.symm nk
        · rfl
    have fa0 : H8 fa = none := k1.free nfa
    have kM : KT [] H8 (upd (upd A6 fa (.dK (frK (aOf ax ay an ak)))) md (.dK (mK wd F 0 0 fa false))) := (((k1.trans k2).trans m26).late fa0).late nmd
    generalize upd (upd A6 fa (.dK (frK (aOf ax ay an ak)))) md (.dK (mK wd F 0 0 fa false)) = H9 at M0 kM ⊢
    -- the inputs
    have lv : (vals.map V.int).length = ins.length := by rw [List.length_map, hl]
    have li := l4 ins oo.i
    have hvt9 := kM.tp _ _ hvt8
    have hs9 := kM.sqT hs8
    have fi9 := (fi4.keep k48).keep kM
    refine ⟨_, rfl, vt, _, rfl, .inr (SqT.of hvt9), _, rfl, by omega, by omega, for_range (n := (vals.map V.int).length) (fun i σ Hs => ∃ x6, σ = [some (.ref a), some (.ref dr), some (.ref pa), some (.ref vt), some (.int F), some (.ref md), x6, none, none, none, none, none, none, none, none, none, none] ∧ KT (mS md (aOf ax ay an ak)) H9 Hs ∧ MSt Hs md fa (aOf ax ay an ak) wd F ⟨lkZ ((ins.zip vals).take i), 0, 0, false⟩) ⟨_, rfl, .refl _ _, M0⟩ ?_ ?_⟩
    · rintro i σ Hs hi ⟨x6, rfl, ks, M⟩
      rw [lv] at hi
      have hf : ins[i]? = some ins[i] := List.getElem?_eq_getElem hi
      have hi2 : i < vals.length := by omega
      have hg : vals[i]? = some vals[i] := List.getElem?_eq_getElem hi2
      have hz : (ins.zip vals)[i]? = some (ins[i], vals[i]) := by rw [List.getElem?_zip_eq_some]; exact ⟨hf, hg⟩
      have nin := ins_four oo.i _ (List.mem_of_getElem? hf)
      generalize ins[i] = nx at hf hz nin
      generalize vals[i] = vy at hg hz
      have at1 : atI (vals.map V.int) ((0 : Int) + (i : Nat)) = some (.int vy) := by rw [Int.zero_add]; exact atI_nat (by rw [List.getElem?_map, hg]; rfl)
      have at2 : atI (ins.map V.str) ((0 : Int) + (i : Nat)) = some (.str nx) := by rw [Int.zero_add]; exact atI_nat (by rw [List.getElem?_map, hf]; rfl)
      obtain ⟨M1, kM1⟩ := M.cell (v := vy) nin
      refine ⟨_, rfl, _, rfl, _, _, _, _, rfl, rfl, SqT.of (ks.tp _ _ hvt9), at1, ?_⟩
      refine ⟨_, rfl, _, _, rfl, dget_s M.h m_frame, _, rfl, _, _, _, _, rfl, rfl, ks.sqT hs9, atI_nat (j := 2) rfl, _, rfl, _, _, _, _, rfl, rfl, (fi9.keep ks).sq, at2, _, _, rfl, dget_s M.f (fr_get nin), _, _, 0, 0, rfl, rfl, M.c _ nin, rfl, ?_⟩
      refine ⟨_, rfl, ks.trans kM1, ?_⟩
      rw [List.take_succ, hz]
      show MSt _ md fa _ wd F ⟨lkZ ((ins.zip vals).take i ++ [(nx, vy)]), 0, 0, false⟩
      rw [lkZ_snoc]
      exact M1
    rintro σ HA ⟨x6, rfl, kA, MA⟩
    have et : (ins.zip vals).take (vals.map V.int).length = ins.zip vals := List.take_of_length_le (by rw [List.length_zip, lv]; omega)
    rw [et] at MA
    have hsA := kA.sqT hs9
    have rbA := ((rb4.keep k48).keep kM).keep kA
    refine ⟨_, rfl, _, rfl, _, _, _, _, rfl, rfl, hsA, atI_nat (j := 4) rfl, md, fa, aOf ax ay an ak, wd, F, ⟨lkZ (ins.zip vals), 0, 0, false⟩, bv, bs, rfl, rbA, oo.b, Nat.lt_succ_of_le oo.p, w1, w2, MA, rfl, lkZ_ok _ (zip_in hv), Nat.zero_le _, fun s' HB db kB MB lB fB oB => ?_⟩
    have nm : T.P_is_name ∉ mS md (aOf ax ay an ak) := fun z => by
      have e : mS md (aOf ax ay an ak) = [md, ax, ay, an, ak] := by kernel_rfl
      rw [e] at z
      simp only [List.mem_cons, List.not_mem_nil, or_false] at z
      rcases z with z | z | z | z | z
      · exact tabG_ne t8 nmd z
      · exact tabG_ne t8 ((k1.trans k2).free nax) z
      · exact tabG_ne t8 (((k1.trans k2).trans k3').free nay) z
      · exact tabG_ne t8 ((((k1.trans k2).trans k3').trans k4).free nan) z
      · exact tabG_ne t8 (((((k1.trans k2).trans k3').trans k4).trans k5').free nak) z
    have tB := tabG_kt kB nm (tabG_kt kA nm (tabG_kt kM (by simp) t8))
    have hsB := kB.sqT hsA
    have rpB := (((rp4.keep k48).keep kM).keep kA).keep kB
    have rvB := ((rv8.keep kM).keep kA).keep kB
    have fnB := (((fn4.keep k48).keep kM).keep kA).keep kB
    have fiB := (fi9.keep kA).keep kB
    have foB := (((fo4.keep k48).keep kM).keep kA).keep kB
    have rbB := rbA.keep kB
    obtain ⟨nS, dM, gos, fin, el, es, em, ee⟩ := run_of db
    clear kA kB kM k1 k2 k3' k4 k5' k6' nax nay nan nak n1 n2 n3 n4 n5 n6 m26 mf e6m e6f e6x e6y e6n xy xn xk yn yk nk cell fa0 MA M0 D8 D6 D5 D4 k48 g79 hs4 hs8 hs9 hsA hvt8 hvt9 fi9 fi4 fn4 fo4 rb4 rp4 rv8 rv6 rbA t8 t6 t5 te tg2 tg hvt nfa nmd et
    -- what is due
    refine ⟨_, rfl, _, _, _, _, rfl, rfl, hsB, atI_nat (j := 3) rfl, oa, rfl, ⟨_, foB.sq⟩, fun D2 nD2 => ?_⟩
    refine lc_tup (K := K) (xs := outs.map V.str) (fun i Hx => Hx = upd HB D2 (.lst (((outs.take i).map s'.lk).map V.int))) rfl ?_ ?_ ?_
    · rintro i Hx _ rfl
      exact (KT.new [] nD2).sqT foB.sq
    · rintro i x Hx hx rfl
      rw [List.getElem?_map] at hx
      cases hf : outs[i]? with
      | none => rw [hf] at hx; cases hx
      | some y =>
        rw [hf] at hx
        cases hx
        have y4 := outs_four oo.o y (List.mem_of_getElem? hf)
        have olen := l5 outs oo.o
        have MD := MB.same (same_upd (o := .lst (((outs.take i).map s'.lk).map V.int)) nD2)
        refine ⟨rfl, _, rfl, _, _, rfl, dget_s MD.h m_frame, _, rfl, _, _, rfl, dget_s MD.f (fr_get y4), _, _, _, _, rfl, rfl, SqL.of (MD.c y y4), atI_0, _, upd_same, ?_, ?_⟩
        · rw [List.length_map, List.length_map, List.length_take]
          exact Nat.lt_of_le_of_lt (by omega : _ ≤ 10) (by decide)
        · rw [upd_upd, List.take_succ, hf, List.map_append, List.map_append]
          rfl
    rintro H10 rfl
    rw [List.length_map, List.take_length]
    have k10 : KT [] HB (upd HB D2 (.lst ((outs.map s'.lk).map V.int))) := .new _ nD2
    have hD10 : (upd HB D2 (.lst ((outs.map s'.lk).map V.int))) D2 = some (.lst ((outs.map s'.lk).map V.int)) := upd_same
    generalize upd HB D2 (.lst ((outs.map s'.lk).map V.int)) = H10 at k10 hD10 ⊢
    refine ⟨D2, _, rfl, .inl ⟨SqL.of hD10, fun t nt => ?_⟩⟩
    have k11 : KT [] H10 (upd H10 t (.tup ((outs.map s'.lk).map V.int))) := .new _ nt
    have rt : Rp K (upd H10 t (.tup ((outs.map s'.lk).map V.int))) (.ref t) (.tuple ((outs.map s'.lk).map PyData.int)) := .made nt (rpA_int _)
    generalize upd H10 t (.tup ((outs.map s'.lk).map V.int)) = H11 at k11 rt ⊢
    have kB11 := k10.trans k11
    have M11 := MB.same kB11.same
    refine ⟨fun v H' => KT [] H11 H' ∧ Rp K H' v (.tuple [.str (if s'.out then "none" else "done")]), ?_, ?_⟩
    · refine ⟨_, rfl, _, _, rfl, dget_s M11.h m_out, _, rfl, ?_⟩
      cases s'.out with
      | true => exact ite_t rfl ⟨sz1, fun u nu => ⟨.new _ nu, .made nu (.cons (.str _) .nil)⟩⟩
      | false => exact ite_f (by decide) ⟨sz1, fun u nu => ⟨.new _ nu, .made nu (.cons (.str _) .nil)⟩⟩
    rintro v2 H12 ⟨k12, r2⟩
    have M12 := M11.same k12.same
    refine ⟨_, rfl, _, _, rfl, dget_s M12.h m_steps, _, rfl, _, _, rfl, dget_s M12.h m_marks, sz4, fun t2 nt2 => ?_⟩
    have rdue : Rp K (upd H12 t2 (.tup [.ref t, v2, .int s'.st, .int s'.mx])) (.ref t2) (dueD (outs.map s'.lk) s'.out s'.st s'.mx) := .made nt2 (.cons (rt.keep k12) (.cons r2 (.cons (.int _) (.cons (.int _) .nil))))
    have kB13 : KT [] HB (upd H12 t2 (.tup [.ref t, v2, .int s'.st, .int s'.mx])) := (kB11.trans k12).trans (.new _ nt2)
    generalize upd H12 t2 (.tup [.ref t, v2, .int s'.st, .int s'.mx]) = H13 at rdue kB13 ⊢
    -- the program's own run
    refine ⟨_, rfl, _, rfl, _, rfl, rfl, rfl, .ref pa, .ref vt, wd, F, nS, ins, outs, bs, vals, dM, rfl, rpB.keep kB13, oo, rvB.keep kB13, hl, hv, gos, fin, fun H14 v14 k14 r14 => ?_⟩
    have e14 : resD outs dM = dueD (outs.map s'.lk) s'.out s'.st s'.mx := by
      unfold resD dueD
      rw [el, es, em, ee]
    rw [e14] at r14
    refine ⟨_, rfl, _, _, r14.dp, (rdue.keep k14).dp, shaped_due _ _ _ _, shaped_due _ _ _ _, _, rfl, ?_⟩
    rw [due_refl]
    refine ite_f (by decide) ?_
    have kBC := kB13.trans k14
    have tC := tabG_kt kBC (by simp) tB
    have hsC := kBC.sqT hsB
    have fnC := fnB.keep kBC
    have fiC := fiB.keep kBC
    have foC := foB.keep kBC
    have rbC := rbB.keep kBC
    clear rdue r14 kB13 kB11 k14 k12 k11 k10 M11 M12 rt r2 fnB fiB foB rbB rpB rvB hsB tB kBC
    refine ⟨_, rfl, pa, _, rfl, hsC, rfl, _, _, rfl, _, _, rfl, _, _, rfl, _, _, rfl, _, _, rfl, rfl, sz2, fun u1 nu1 => ⟨sz3, fun o1 no1 => ?_⟩⟩
    have kC0 : KT [] H14 (upd (upd H14 u1 (.tup [.str "int", .int 0])) o1 (.tup [.str "set", .str "x", .ref u1])) := (KT.new [] nu1).trans (.new _ no1)
    have r1 : Rp K (upd (upd H14 u1 (.tup [.str "int", .int 0])) o1 (.tup [.str "set", .str "x", .ref u1])) (.ref o1) (PS.set "x" (.int 0)).d := .made no1 (.cons (.str _) (.cons (.str _) (.cons (.made nu1 (.cons (.str _) (.cons (.int _) .nil))) .nil)))
    have tO := tabG_kt kC0 (by simp) tC
    have fnO := fnC.keep kC0
    have fiO := fiC.keep kC0
    have foO := foC.keep kC0
    have rbO := rbC.keep kC0
    generalize upd (upd H14 u1 (.tup [.str "int", .int 0])) o1 (.tup [.str "set", .str "x", .ref u1]) = HC at r1 tO fnO fiO foO rbO ⊢
    have zb : psz bs ≤ 200 := Nat.le_trans oo.z (by decide)
    have hgb : ∀ {w' : Nat} {nms : List Str}, wd ≤ w' → (∀ x ∈ four4, x ∈ nms) → BodyR K HC bv w' nms true := fun h1 h2 => .inl ⟨bs, rfl, rbO, pbk_mono h1 oo.b, zb, fun _ => h2⟩
    have ew : wdR (wd : Int) = wd := wdR_of w1 w2
    have ir : isIr 1 32 (.int (wd : Int)) = true := ir_good (by omega) (by omega)
    have gw : wd ≤ wdR (wd : Int) := by rw [ew]; exact Nat.le_refl _
    have li := l4 ins oo.i
    have lo := l5 outs oo.o
    have lbs : (pbd bs).length ≤ 200 := by rw [pbd_map, List.length_map]; exact Nat.le_trans (psz_len bs) zb
    have n5 : ∀ x ∈ four4 ++ [("x" : Str)], x ∈ names8 := by decide +kernel
    dsimp only [gName]
    refine seq_any ?_
    unfold tFor iList
    refine mr_list (K := K) (n := 15) (HC := HC) (by decide) ?_ (.refl _ _) fun L rows HD kD hL hrows => ?_
    · refine mr_cons ?_ (mr_cons ?_ (mr_cons ?_ (mr_cons ?_ (mr_cons ?_ (mr_cons ?_ (mr_cons ?_ (mr_cons ?_ (mr_cons ?_ (mr_cons ?_ (mr_cons ?_ (mr_cons ?_ (mr_cons ?_ (mr_cons ?_ (mr_cons ?_ mr_nil))))))))))))))
      · exact mr_row (codes_if (dif_ins oo.i) nm_four (dif_outs oo.o) rfl) (by decide +kernel) (by decide) (by decide) li lo n8 (mw_int 0) (mn_var rfl fnO) (mn_var rfl fiO) (mn_var rfl foO) (mb_var rfl (hgb w2 fun _ h => h)) (mc_one "width")
      · refine mr_row (names := four4 ++ [("x" : Str)]) (codes_if (dif_ins5 oo.i) nm_five (dif_outs5 oo.o) ir) (by decide +kernel) (by decide) (by decide) li lo n5 (mw_var rfl) (fun H Q k q => ?_) (mn_var rfl fiO) (mn_var rfl foO) (mb_var rfl (hgb gw fun _ h => List.mem_append_left _ h)) (mc_one "name")
        refine ⟨_, rfl, sz1, fun p np => ⟨na, p, four4.map V.str, [.str "x"], rfl, rfl, ((fnO.keep k).keep (KT.new [] np)).sq, SqT.of upd_same, (fun z => by cases z), (fun z => by cases z), by decide, fun t o nt ho => ?_⟩⟩
        exact q t _ ((KT.new [] np).trans (.new _ nt)) (.inr ⟨o, ho, upd_same⟩)
      · exact mr_row (names := ["backx"]) (ins := []) (outs := []) (fs := ["name"]) (codes_if (show difB [] ["backx"] = true by decide +kernel) (show nmOk ["backx"] = false by decide +kernel) (show difB [] ["backx"] = true by decide +kernel) ir) (by decide +kernel) (by decide) (by decide) (by decide) (by decide) (by decide +kernel) (mw_var rfl) (mn_one "backx") mn_nil mn_nil mb_nil (mc_one "name")
      · refine mr_row (names := ["aaaaaaaaaaaa"]) (ins := []) (outs := []) (fs := ["name"]) (codes_if (show difB [] ["aaaaaaaaaaaa"] = true by decide +kernel) (show nmOk ["aaaaaaaaaaaa"] = false by decide +kernel) (show difB [] ["aaaaaaaaaaaa"] = true by decide +kernel) ir) (by decide +kernel) (by decide) (by decide) (by decide) (by decide) (by decide +kernel) (mw_var rfl) (fun H Q k q => ?_) mn_nil mn_nil mb_nil (mc_one "name")
        exact ⟨rfl, rfl, sz1, fun p o np ho => q p _ (.new _ np) (.inr ⟨o, ho, upd_same⟩)⟩
      · exact mr_row (ins := ["q"]) (codes_if (show difB ["q"] four4 = false by decide +kernel) nm_four (dif_outs oo.o) ir) (by decide +kernel) (by decide) (by decide) (by decide) lo n8 (mw_var rfl) (mn_var rfl fnO) (mn_one "q") (mn_var rfl foO) (mb_var rfl (hgb gw fun _ h => h)) (mc_one "input")
      · exact mr_row (outs := ["x", "x"]) (codes_if (dif_ins oo.i) nm_four (show difB ["x", "x"] four4 = false by decide +kernel) ir) (by decide +kernel) (by decide) (by decide) li (by decide) n8 (mw_var rfl) (mn_var rfl fnO) (mn_var rfl fiO) (mn_two "x" "x") (mb_var rfl (hgb gw fun _ h => h)) (mc_one "output")
      · refine mr_row (codes_if (dif_ins oo.i) nm_four (dif_outs oo.o) ir) (by decide +kernel) (by decide) (by decide) li lo n8 (mw_var rfl) (mn_var rfl fnO) (mn_var rfl fiO) (mn_var rfl foO) (mb_bad (ds := pbd bs) (d := (PS.set "q" (.int 0)).d) (fun H Q k q => ?_) (.inr ⟨PS.set "q" (.int 0), rfl, ⟨Int.le_refl _, pow2_pos _⟩, by decide, by decide +kernel⟩) lbs) (mc_one "statement")
        refine ⟨fun v H' => KT [] H H' ∧ Rp K H' v (.tuple (pbd bs ++ [(PS.set "q" (.int 0)).d])), ?_, fun v H' h => q v H' h.1 h.2⟩
        obtain ⟨ba, bxs, rfl, hba, hbx⟩ := (rbO.keep k).inv
        refine ⟨_, rfl, sz2, fun p1 np1 => ⟨sz3, fun p2 np2 => ⟨sz1, fun p3 np3 => ?_⟩⟩⟩
        have kk : KT [] H (upd (upd (upd H p1 (.tup [.str "int", .int 0])) p2 (.tup [.str "set", .str "q", .ref p1])) p3 (.tup [.ref p2])) := ((KT.new [] np1).trans (.new _ np2)).trans (.new _ np3)
        have rq : RpA K (upd (upd H p1 (.tup [.str "int", .int 0])) p2 (.tup [.str "set", .str "q", .ref p1])) [.ref p2] [(PS.set "q" (.int 0)).d] := .cons (.made np2 (.cons (.str _) (.cons (.str _) (.cons (.made np1 (.cons (.str _) (.cons (.int _) .nil))) .nil)))) .nil
        have rq3 := rq.keep (KT.new [] np3 (o := .tup [.ref p2]))
        have hp3 : (upd (upd (upd H p1 (.tup [.str "int", .int 0])) p2 (.tup [.str "set", .str "q", .ref p1])) p3 (.tup [.ref p2])) p3 = some (.tup [.ref p2]) := upd_same
        generalize upd (upd (upd H p1 (.tup [.str "int", .int 0])) p2 (.tup [.str "set", .str "q", .ref p1])) p3 (.tup [.ref p2]) = H4 at kk rq3 hp3 ⊢
        have hbx4 := hbx.keep kk
        have lx := hbx.length
        refine ⟨ba, p3, bxs, _, rfl, rfl, kk.sqT hba, SqT.of hp3, Nat.le_trans (by rw [lx]; exact Nat.succ_le_succ lbs) (by decide), fun e => ?_, fun _ z => (by cases z), fun _ _ t nt => ?_⟩
        · have e0 : pbd bs = [] := List.eq_nil_of_length_eq_zero (by rw [← lx, e]; rfl)
          rw [e0]
          exact ⟨kk, .tup (SqT.of hp3) rq3⟩
        · exact ⟨kk.trans (.new _ nt), .made nt (hbx4.app rq3)⟩
      · exact mr_row (codes_if (dif_ins oo.i) nm_four (dif_outs oo.o) ir) (by decide +kernel) (by decide) (by decide) li lo n8 (mw_var rfl) (mn_var rfl fnO) (mn_var rfl fiO) (mn_var rfl foO) (mb_bad (ds := []) (d := .tuple [.str "if", (Ex.int 0).d, .tuple [(PS.set "x" (.int 0)).d]]) (md_tup (md_cons (md_tup (md_cons (md_str _) (md_cons (md_tup (md_cons (md_str _) (md_cons (md_int _) md_nil)) (by decide)) (md_cons (md_tup (md_cons (md_var rfl r1) md_nil) (by decide)) md_nil))) (by decide)) md_nil) (by decide)) (.inl (by unfold badS; simp)) (by decide)) (mc_one "statement")
      · exact mr_row (codes_if (dif_ins oo.i) nm_four (dif_outs oo.o) ir) (by decide +kernel) (by decide) (by decide) li lo n8 (mw_var rfl) (mn_var rfl fnO) (mn_var rfl fiO) (mn_var rfl foO) (mb_bad (ds := []) (d := (PS.whl (.cell "x" (.int 0)) []).d) (md_tup (md_cons (md_tup (md_cons (md_str _) (md_cons (md_tup (md_cons (md_str _) (md_cons (md_str _) (md_cons (md_tup (md_cons (md_str _) (md_cons (md_int _) md_nil)) (by decide)) md_nil))) (by decide)) (md_cons (md_tup md_nil (by decide)) md_nil))) (by decide)) md_nil) (by decide)) (.inr ⟨PS.whl (.cell "x" (.int 0)) [], rfl, ⟨by decide +kernel, Int.le_refl _, pow2_pos _⟩, by decide, by decide +kernel⟩) (by decide)) (mc_one "statement")
      · exact mr_row (codes_if (dif_ins oo.i) nm_four (dif_outs oo.o) ir) (by decide +kernel) (by decide) (by decide) li lo n8 (mw_var rfl) (mn_var rfl fnO) (mn_var rfl fiO) (mn_var rfl foO) (mb_bad (ds := []) (d := (PS.set "x" (.var "zz")).d) (md_tup (md_cons (md_tup (md_cons (md_str _) (md_cons (md_str _) (md_cons (md_tup (md_cons (md_str _) (md_cons (md_str _) md_nil)) (by decide)) md_nil))) (by decide)) md_nil) (by decide)) (.inr ⟨PS.set "x" (.var "zz"), rfl, (show ("zz" : Str) ∈ five5 by decide +kernel), by decide, by decide +kernel⟩) (by decide)) (mc_one "statement")
      · exact mr_row (outs := ["zz"]) (codes_if (dif_ins oo.i) nm_four (show difB ["zz"] four4 = false by decide +kernel) ir) (by decide +kernel) (by decide) (by decide) li (by decide) n8 (mw_var rfl) (mn_var rfl fnO) (mn_var rfl fiO) (mn_one "zz") (mb_bad (ds := []) (d := .none) (md_tup (md_cons md_non md_nil) (by decide)) (.inl (by unfold badS; simp)) (by decide)) (mc_two "output" "statement")
      · exact mr_form (d := .tuple [.int wd, .tuple (four4.map PyData.str), .tuple (ins.map PyData.str), .tuple (outs.map PyData.str)]) (.inr ⟨_, _, rfl, Nat.le_of_ble_eq_true rfl⟩) rfl (md_tup (md_cons (md_var rfl (.int _)) (md_cons (md_var rfl (.tup fnO.sq (rpA_str _))) (md_cons (md_var rfl (.tup fiO.sq (rpA_str _))) (md_cons (md_var rfl (.tup foO.sq (rpA_str _))) md_nil)))) (Nat.le_of_ble_eq_true rfl)) (mc_one "form")
      · exact mr_form (d := .none) (.inl rfl) rfl md_non (mc_one "form")
      · exact mr_form (d := .tuple [.int wd, .none, .tuple (ins.map PyData.str), .tuple (outs.map PyData.str), .tuple (pbd bs)]) (.inr ⟨_, _, rfl, Nat.le_of_ble_eq_true rfl⟩) rfl (md_tup (md_cons (md_var rfl (.int _)) (md_cons md_non (md_cons (md_var rfl (.tup fiO.sq (rpA_str _))) (md_cons (md_var rfl (.tup foO.sq (rpA_str _))) (md_cons (md_var rfl rbO) md_nil))))) (Nat.le_of_ble_eq_true rfl)) (mc_one "form")
      · exact mr_row (codes_if (dif_ins oo.i) nm_four (dif_outs oo.o) ir) (by decide +kernel) (by decide) (by decide) li lo n8 (mw_var rfl) (mn_var rfl fnO) (mn_var rfl fiO) (mn_var rfl foO) (mb_bad (ds := [.str "set", .str "x"]) (d := .tuple [.str "int", .int 0]) (md_var rfl r1) (.inl (by unfold badS; simp)) (by decide)) (mc_one "statement")
    have tD := tabG_kt kD (by simp) tO
    have nLp : L ∉ [T.P_is_name] := fun z => by
      obtain ⟨ps, e, _⟩ := tD
      rw [List.mem_singleton.mp z, e] at hL
      cases hL
    refine ⟨L, rfl, ⟨_, SqL.of hL⟩, for_list (K := K) (xs := rows) (fun i σ Hs => ∃ x14 x15, σ = [some (.ref a), some (.ref dr), some (.ref pa), some (.ref vt), some (.int F), some (.ref md), x6, some (.ref t2), some (.int wd), some (.ref na), some (.ref ia), some (.ref oa), some bv, some (.ref o1), x14, x15, none] ∧ KT [T.P_is_name] HD Hs ∧ GxR.TabG Hs T.P_is_name) ⟨none, none, rfl, .refl _ _, tD⟩ ?_ ?_ ?_⟩
    · rintro i σ Hs _ ⟨_, _, rfl, k, _⟩
      exact SqL.of (k.kp _ _ nLp hL)
    · rintro i v σ Hs hi ⟨x14, x15, rfl, k, tgs⟩
      obtain ⟨ra, vv, l, fs, rfl, h1, h2, ⟨d, h3, h4, h5⟩, h6⟩ := (hrows v (List.mem_of_getElem? hi)).keepP k tD
      have nlp : l ∉ [T.P_is_name] := fun z => by
        obtain ⟨ps, e, _⟩ := tgs
        rw [List.mem_singleton.mp z, e] at h2
        cases h2
      refine ⟨ra, _, rfl, h1, rfl, _, _, rfl, _, _, rfl, rfl, ?_⟩
      refine ⟨_, rfl, vv, d, fs, rfl, h3, h4, tgs, h5, fun fl H' k' t' nfl hfl => ?_⟩
      refine ⟨_, rfl, _, _, .lst (SqL.of hfl) (dp_strL fs), .lst (SqL.of (k'.kp _ _ nlp h2)) (dp_strL fs), h6, h6, _, rfl, ?_⟩
      rw [fs_refl h6]
      exact ite_f (by decide) ⟨_, _, rfl, k.trans k', t'⟩
    rintro σ Hs ⟨_, _, rfl, _, _⟩
    exact q _
end

end My

set_option Elab.async false
set_option linter.all false
set_option maxRecDepth 100000
namespace My
open PySem PySem.Spec PyProof.Rows L2
set_option maxHeartbeats 8000000 in
theorem all_mk {l : PySem.W.OpenLaw} {q : Program} {w : World} {K : PySem.W.Frag} {h : Heap} {mg : Str → Option Value} {fa : Addr} (X : K.In h) (G : h.Ns mainGlobals mg) (hfa : mg "law" = some (.ref fa)) (RT : RecTabs q mg h)
    {f0 : Addr} {od0 an0 : Option Addr} {sl0 : Array (Option Value)} {oc0 kV0 dc0 pm0 cd0 ct0 : Value}
    {f1 : Addr} {od1 an1 : Option Addr} {sl1 : Array (Option Value)} {oc1 kV1 dc1 pm1 cd1 ct1 : Value}
    {f2 : Addr} {od2 an2 : Option Addr} {sl2 : Array (Option Value)} {oc2 kV2 dc2 pm2 cd2 ct2 : Value}
    {f3 : Addr} {od3 an3 : Option Addr} {sl3 : Array (Option Value)} {oc3 kV3 dc3 pm3 cd3 ct3 : Value}
    {f4 : Addr} {od4 an4 : Option Addr} {sl4 : Array (Option Value)} {oc4 kV4 dc4 pm4 cd4 ct4 : Value}
    {f5 : Addr} {od5 an5 : Option Addr} {sl5 : Array (Option Value)} {oc5 kV5 dc5 pm5 cd5 ct5 : Value}
    {f6 : Addr} {od6 an6 : Option Addr} {sl6 : Array (Option Value)} {oc6 kV6 dc6 pm6 cd6 ct6 : Value}
    {f7 : Addr} {od7 an7 : Option Addr} {sl7 : Array (Option Value)} {oc7 kV7 dc7 pm7 cd7 ct7 : Value}
    {f8 : Addr} {od8 an8 : Option Addr} {sl8 : Array (Option Value)} {oc8 kV8 dc8 pm8 cd8 ct8 : Value}
    {f9 : Addr} {od9 an9 : Option Addr} {sl9 : Array (Option Value)} {oc9 kV9 dc9 pm9 cd9 ct9 : Value}
    {f10 : Addr} {od10 an10 : Option Addr} {sl10 : Array (Option Value)} {oc10 kV10 dc10 pm10 cd10 ct10 : Value}
    {f11 : Addr} {od11 an11 : Option Addr} {sl11 : Array (Option Value)} {oc11 kV11 dc11 pm11 cd11 ct11 : Value}
    {f12 : Addr} {od12 an12 : Option Addr} {sl12 : Array (Option Value)} {oc12 kV12 dc12 pm12 cd12 ct12 : Value}
    {f13 : Addr} {od13 an13 : Option Addr} {sl13 : Array (Option Value)} {oc13 kV13 dc13 pm13 cd13 ct13 : Value}
    {f14 : Addr} {od14 an14 : Option Addr} {sl14 : Array (Option Value)} {oc14 kV14 dc14 pm14 cd14 ct14 : Value}
    {f15 : Addr} {od15 an15 : Option Addr} {sl15 : Array (Option Value)} {oc15 kV15 dc15 pm15 cd15 ct15 : Value}
    {f16 : Addr} {od16 an16 : Option Addr} {sl16 : Array (Option Value)} {oc16 kV16 dc16 pm16 cd16 ct16 : Value}
    {f17 cc17 P17 : Addr} {od17 an17 ce17 : Option Addr} {sl17 cs17 : Array (Option Value)} {cv17 : Array Value} {oc17 kV17 dc17 pm17 ct17 : Value}
    {f18 : Addr} {od18 an18 : Option Addr} {sl18 : Array (Option Value)} {oc18 kV18 dc18 pm18 cd18 ct18 : Value}
    {f19 : Addr} {od19 an19 : Option Addr} {sl19 : Array (Option Value)} {oc19 kV19 dc19 pm19 cd19 ct19 : Value}
    {f20 : Addr} {od20 an20 : Option Addr} {sl20 : Array (Option Value)} {oc20 kV20 dc20 pm20 cd20 ct20 : Value}
    {f21 : Addr} {od21 an21 : Option Addr} {sl21 : Array (Option Value)} {oc21 kV21 dc21 pm21 cd21 ct21 : Value}
    {f22 : Addr} {od22 an22 : Option Addr} {sl22 : Array (Option Value)} {oc22 kV22 dc22 pm22 cd22 ct22 : Value}
    {f23 : Addr} {od23 an23 : Option Addr} {sl23 : Array (Option Value)} {oc23 kV23 dc23 pm23 cd23 ct23 : Value}
    {f24 : Addr} {od24 an24 : Option Addr} {sl24 : Array (Option Value)} {oc24 kV24 dc24 pm24 cd24 ct24 : Value}
    {f25 : Addr} {od25 an25 : Option Addr} {sl25 : Array (Option Value)} {oc25 kV25 dc25 pm25 cd25 ct25 : Value}
    {f26 : Addr} {od26 an26 : Option Addr} {sl26 : Array (Option Value)} {oc26 kV26 dc26 pm26 cd26 ct26 : Value}
    {f27 : Addr} {od27 an27 : Option Addr} {sl27 : Array (Option Value)} {oc27 kV27 dc27 pm27 cd27 ct27 : Value}
    {f28 : Addr} {od28 an28 : Option Addr} {sl28 : Array (Option Value)} {oc28 kV28 dc28 pm28 cd28 ct28 : Value}
    {f29 : Addr} {od29 an29 : Option Addr} {sl29 : Array (Option Value)} {oc29 kV29 dc29 pm29 cd29 ct29 : Value}
    {f30 : Addr} {od30 an30 : Option Addr} {sl30 : Array (Option Value)} {oc30 kV30 dc30 pm30 cd30 ct30 : Value}
    {f31 : Addr} {od31 an31 : Option Addr} {sl31 : Array (Option Value)} {oc31 kV31 dc31 pm31 cd31 ct31 : Value}
    {f32 : Addr} {od32 an32 : Option Addr} {sl32 : Array (Option Value)} {oc32 kV32 dc32 pm32 cd32 ct32 : Value}
    {f33 : Addr} {od33 an33 : Option Addr} {sl33 : Array (Option Value)} {oc33 kV33 dc33 pm33 cd33 ct33 : Value}
    {f34 : Addr} {od34 an34 : Option Addr} {sl34 : Array (Option Value)} {oc34 kV34 dc34 pm34 cd34 ct34 : Value}
    {f35 : Addr} {od35 an35 : Option Addr} {sl35 : Array (Option Value)} {oc35 kV35 dc35 pm35 cd35 ct35 : Value}
    {f36 : Addr} {od36 an36 : Option Addr} {sl36 : Array (Option Value)} {oc36 kV36 dc36 pm36 cd36 ct36 : Value}
    {f37 : Addr} {od37 an37 : Option Addr} {sl37 : Array (Option Value)} {oc37 kV37 dc37 pm37 cd37 ct37 : Value}
    {f38 : Addr} {od38 an38 : Option Addr} {sl38 : Array (Option Value)} {oc38 kV38 dc38 pm38 cd38 ct38 : Value}
    {C : Addr} (aC : PySem.W.nsIn K mainGlobals "PlainRun" = some (some (.ref C))) (pg : PySem.W.plainGet K C Str.empty = true) (hd : PySem.W.hasDictIn K C = true) (po : PySem.W.plainOver K C = true) (sa : PySem.W.findIn K (.ref C) "__setattr__" = some (some (.builtin "object.__setattr__"))) (mks : PySem.W.makesIn K C = true) (kc : PySem.W.keepIn K (.ref C) = true)
    (n_0 : PySem.W.findIn K (.ref C) "width" = some none) (n_1 : PySem.W.findIn K (.ref C) "look" = some none) (n_2 : PySem.W.findIn K (.ref C) "fuel" = some none) (n_3 : PySem.W.findIn K (.ref C) "steps" = some none) (n_4 : PySem.W.findIn K (.ref C) "marks" = some none) (n_5 : PySem.W.findIn K (.ref C) "under_way" = some none)
    {C2 : Addr} (aC2 : PySem.W.nsIn K mainGlobals "PlainBody" = some (some (.ref C2))) (pg2 : PySem.W.plainGet K C2 Str.empty = true) (hd2 : PySem.W.hasDictIn K C2 = true) (po2 : PySem.W.plainOver K C2 = true) (sa2 : PySem.W.findIn K (.ref C2) "__setattr__" = some (some (.builtin "object.__setattr__"))) (mks2 : PySem.W.makesIn K C2 = true) (kc2 : PySem.W.keepIn K (.ref C2) = true)
    (n2_0 : PySem.W.findIn K (.ref C2) "body" = some none) (n2_1 : PySem.W.findIn K (.ref C2) "owner" = some none) (n2_2 : PySem.W.findIn K (.ref C2) "begun" = some none)
    (a0 : PySem.W.nsIn K mainGlobals "top" = some (some (.ref f0))) (l0 : K.lookup f0 = some ⟨oc0, od0, .func (PySem.W.fnOf "top" "top" (defArgs s_top) (defBody s_top) (defScope s_top) .none kV0 dc0 pm0 an0 cd0 ct0), sl0⟩) (c0 : PySem.W.codeIn K cd0 "top" = true) (k0 : PySem.W.keepIn K (.ref f0) = true)
    (a1 : PySem.W.nsIn K mainGlobals "shift" = some (some (.ref f1))) (l1 : K.lookup f1 = some ⟨oc1, od1, .func (PySem.W.fnOf "shift" "shift" (defArgs s_shift) (defBody s_shift) (defScope s_shift) .none kV1 dc1 pm1 an1 cd1 ct1), sl1⟩) (c1 : PySem.W.codeIn K cd1 "shift" = true) (k1 : PySem.W.keepIn K (.ref f1) = true)
    (a2 : PySem.W.nsIn K mainGlobals "compute" = some (some (.ref f2))) (l2 : K.lookup f2 = some ⟨oc2, od2, .func (PySem.W.fnOf "compute" "compute" (defArgs s_compute) (defBody s_compute) (defScope s_compute) .none kV2 dc2 pm2 an2 cd2 ct2), sl2⟩) (c2 : PySem.W.codeIn K cd2 "compute" = true) (k2 : PySem.W.keepIn K (.ref f2) = true)
    (a3 : PySem.W.nsIn K mainGlobals "value_of" = some (some (.ref f3))) (l3 : K.lookup f3 = some ⟨oc3, od3, .func (PySem.W.fnOf "value_of" "value_of" (defArgs s_value_of) (defBody s_value_of) (defScope s_value_of) .none kV3 dc3 pm3 an3 cd3 ct3), sl3⟩) (c3 : PySem.W.codeIn K cd3 "value_of" = true) (k3 : PySem.W.keepIn K (.ref f3) = true)
    (a4 : PySem.W.nsIn K mainGlobals "cell_index" = some (some (.ref f4))) (l4 : K.lookup f4 = some ⟨oc4, od4, .func (PySem.W.fnOf "cell_index" "cell_index" (defArgs s_cell_index) (defBody s_cell_index) (defScope s_cell_index) .none kV4 dc4 pm4 an4 cd4 ct4), sl4⟩) (c4 : PySem.W.codeIn K cd4 "cell_index" = true) (k4 : PySem.W.keepIn K (.ref f4) = true)
    (a5 : PySem.W.nsIn K mainGlobals "is_whole" = some (some (.ref f5))) (l5 : K.lookup f5 = some ⟨oc5, od5, .func (PySem.W.fnOf "is_whole" "is_whole" (defArgs s_is_whole) (defBody s_is_whole) (defScope s_is_whole) .none kV5 dc5 pm5 an5 cd5 ct5), sl5⟩) (c5 : PySem.W.codeIn K cd5 "is_whole" = true) (k5 : PySem.W.keepIn K (.ref f5) = true)
    (a6 : PySem.W.nsIn K mainGlobals "is_integer" = some (some (.ref f6))) (l6 : K.lookup f6 = some ⟨oc6, od6, .func (PySem.W.fnOf "is_integer" "is_integer" (defArgs s_is_integer) (defBody s_is_integer) (defScope s_is_integer) .none kV6 dc6 pm6 an6 cd6 ct6), sl6⟩) (c6 : PySem.W.codeIn K cd6 "is_integer" = true) (k6 : PySem.W.keepIn K (.ref f6) = true)
    (a7 : PySem.W.nsIn K mainGlobals "is_word" = some (some (.ref f7))) (l7 : K.lookup f7 = some ⟨oc7, od7, .func (PySem.W.fnOf "is_word" "is_word" (defArgs s_is_word) (defBody s_is_word) (defScope s_is_word) .none kV7 dc7 pm7 an7 cd7 ct7), sl7⟩) (c7 : PySem.W.codeIn K cd7 "is_word" = true) (k7 : PySem.W.keepIn K (.ref f7) = true)
    (a8 : PySem.W.nsIn K mainGlobals "_law_draw" = some (some (.ref f8))) (l8 : K.lookup f8 = some ⟨oc8, od8, .func (PySem.W.fnOf "_law_draw" "_law_draw" (defArgs s_z_draw) (defBody s_z_draw) (defScope s_z_draw) .none kV8 dc8 pm8 an8 cd8 ct8), sl8⟩) (c8 : PySem.W.codeIn K cd8 "_law_draw" = true) (k8 : PySem.W.keepIn K (.ref f8) = true)
    (a9 : PySem.W.nsIn K mainGlobals "_law_take" = some (some (.ref f9))) (l9 : K.lookup f9 = some ⟨oc9, od9, .func (PySem.W.fnOf "_law_take" "_law_take" (defArgs s_z_take) (defBody s_z_take) (defScope s_z_take) .none kV9 dc9 pm9 an9 cd9 ct9), sl9⟩) (c9 : PySem.W.codeIn K cd9 "_law_take" = true) (k9 : PySem.W.keepIn K (.ref f9) = true)
    (a10 : PySem.W.nsIn K mainGlobals "_law_top" = some (some (.ref f10))) (l10 : K.lookup f10 = some ⟨oc10, od10, .func (PySem.W.fnOf "_law_top" "_law_top" (defArgs s_z_top) (defBody s_z_top) (defScope s_z_top) .none kV10 dc10 pm10 an10 cd10 ct10), sl10⟩) (c10 : PySem.W.codeIn K cd10 "_law_top" = true) (k10 : PySem.W.keepIn K (.ref f10) = true)
    (a11 : PySem.W.nsIn K mainGlobals "_law_compute" = some (some (.ref f11))) (l11 : K.lookup f11 = some ⟨oc11, od11, .func (PySem.W.fnOf "_law_compute" "_law_compute" (defArgs s_z_compute) (defBody s_z_compute) (defScope s_z_compute) .none kV11 dc11 pm11 an11 cd11 ct11), sl11⟩) (c11 : PySem.W.codeIn K cd11 "_law_compute" = true) (k11 : PySem.W.keepIn K (.ref f11) = true)
    (a12 : PySem.W.nsIn K mainGlobals "_law_word" = some (some (.ref f12))) (l12 : K.lookup f12 = some ⟨oc12, od12, .func (PySem.W.fnOf "_law_word" "_law_word" (defArgs s_z_word) (defBody s_z_word) (defScope s_z_word) .none kV12 dc12 pm12 an12 cd12 ct12), sl12⟩) (c12 : PySem.W.codeIn K cd12 "_law_word" = true) (k12 : PySem.W.keepIn K (.ref f12) = true)
    (a13 : PySem.W.nsIn K mainGlobals "_law_expression" = some (some (.ref f13))) (l13 : K.lookup f13 = some ⟨oc13, od13, .func (PySem.W.fnOf "_law_expression" "_law_expression" (defArgs s_z_expression) (defBody s_z_expression) (defScope s_z_expression) .none kV13 dc13 pm13 an13 cd13 ct13), sl13⟩) (c13 : PySem.W.codeIn K cd13 "_law_expression" = true) (k13 : PySem.W.keepIn K (.ref f13) = true)
    (a14 : PySem.W.nsIn K mainGlobals "_law_value" = some (some (.ref f14))) (l14 : K.lookup f14 = some ⟨oc14, od14, .func (PySem.W.fnOf "_law_value" "_law_value" (defArgs s_z_value) (defBody s_z_value) (defScope s_z_value) .none kV14 dc14 pm14 an14 cd14 ct14), sl14⟩) (c14 : PySem.W.codeIn K cd14 "_law_value" = true) (k14 : PySem.W.keepIn K (.ref f14) = true)
    (a15 : PySem.W.nsIn K mainGlobals "begins_with_word" = some (some (.ref f15))) (l15 : K.lookup f15 = some ⟨oc15, od15, .func (PySem.W.fnOf "begins_with_word" "begins_with_word" (defArgs s_begins_with_word) (defBody s_begins_with_word) (defScope s_begins_with_word) .none kV15 dc15 pm15 an15 cd15 ct15), sl15⟩) (c15 : PySem.W.codeIn K cd15 "begins_with_word" = true) (k15 : PySem.W.keepIn K (.ref f15) = true)
    (a16 : PySem.W.nsIn K mainGlobals "looks_like_expression" = some (some (.ref f16))) (l16 : K.lookup f16 = some ⟨oc16, od16, .func (PySem.W.fnOf "looks_like_expression" "looks_like_expression" (defArgs s_looks_like_expression) (defBody s_looks_like_expression) (defScope s_looks_like_expression) .none kV16 dc16 pm16 an16 cd16 ct16), sl16⟩) (c16 : PySem.W.codeIn K cd16 "looks_like_expression" = true) (k16 : PySem.W.keepIn K (.ref f16) = true)
    (a17 : PySem.W.nsIn K mainGlobals "is_name" = some (some (.ref f17))) (l17 : K.lookup f17 = some ⟨oc17, od17, .func (PySem.W.fnOf "is_name" "is_name" (defArgs s_is_name) (defBody s_is_name) (defScope s_is_name) .none kV17 dc17 pm17 an17 (.ref cc17) ct17), sl17⟩) (c17 : PySem.W.codeIn K (.ref cc17) "is_name" = true) (k17 : PySem.W.keepIn K (.ref f17) = true)
    (lc17 : K.lookup cc17 = some ⟨.type "code", ce17, .fields cv17, cs17⟩) (tv17 : cv17[11]? = some (.ref P17)) (hv17 : hdOk cv17 cc17 P17 = true) (np17 : K.lookup P17 = none) (rc17 : ((recsOf q).any fun e => e.name == "is_name") = true)
    (a18 : PySem.W.nsIn K mainGlobals "parts" = some (some (.ref f18))) (l18 : K.lookup f18 = some ⟨oc18, od18, .func (PySem.W.fnOf "parts" "parts" (defArgs s_parts) (defBody s_parts) (defScope s_parts) .none kV18 dc18 pm18 an18 cd18 ct18), sl18⟩) (c18 : PySem.W.codeIn K cd18 "parts" = true) (k18 : PySem.W.keepIn K (.ref f18) = true)
    (a19 : PySem.W.nsIn K mainGlobals "uses" = some (some (.ref f19))) (l19 : K.lookup f19 = some ⟨oc19, od19, .func (PySem.W.fnOf "uses" "uses" (defArgs s_uses) (defBody s_uses) (defScope s_uses) .none kV19 dc19 pm19 an19 cd19 ct19), sl19⟩) (c19 : PySem.W.codeIn K cd19 "uses" = true) (k19 : PySem.W.keepIn K (.ref f19) = true)
    (a20 : PySem.W.nsIn K mainGlobals "is_expression" = some (some (.ref f20))) (l20 : K.lookup f20 = some ⟨oc20, od20, .func (PySem.W.fnOf "is_expression" "is_expression" (defArgs s_is_expression) (defBody s_is_expression) (defScope s_is_expression) .none kV20 dc20 pm20 an20 cd20 ct20), sl20⟩) (c20 : PySem.W.codeIn K cd20 "is_expression" = true) (k20 : PySem.W.keepIn K (.ref f20) = true)
    (a21 : PySem.W.nsIn K mainGlobals "has_plain_form" = some (some (.ref f21))) (l21 : K.lookup f21 = some ⟨oc21, od21, .func (PySem.W.fnOf "has_plain_form" "has_plain_form" (defArgs s_has_plain_form) (defBody s_has_plain_form) (defScope s_has_plain_form) .none kV21 dc21 pm21 an21 cd21 ct21), sl21⟩) (c21 : PySem.W.codeIn K cd21 "has_plain_form" = true) (k21 : PySem.W.keepIn K (.ref f21) = true)
    (a22 : PySem.W.nsIn K mainGlobals "is_plain_name" = some (some (.ref f22))) (l22 : K.lookup f22 = some ⟨oc22, od22, .func (PySem.W.fnOf "is_plain_name" "is_plain_name" (defArgs s_is_plain_name) (defBody s_is_plain_name) (defScope s_is_plain_name) .none kV22 dc22 pm22 an22 cd22 ct22), sl22⟩) (c22 : PySem.W.codeIn K cd22 "is_plain_name" = true) (k22 : PySem.W.keepIn K (.ref f22) = true)
    (a23 : PySem.W.nsIn K mainGlobals "are_different_among" = some (some (.ref f23))) (l23 : K.lookup f23 = some ⟨oc23, od23, .func (PySem.W.fnOf "are_different_among" "are_different_among" (defArgs s_are_different_among) (defBody s_are_different_among) (defScope s_are_different_among) .none kV23 dc23 pm23 an23 cd23 ct23), sl23⟩) (c23 : PySem.W.codeIn K cd23 "are_different_among" = true) (k23 : PySem.W.keepIn K (.ref f23) = true)
    (a24 : PySem.W.nsIn K mainGlobals "plain_bodies" = some (some (.ref f24))) (l24 : K.lookup f24 = some ⟨oc24, od24, .func (PySem.W.fnOf "plain_bodies" "plain_bodies" (defArgs s_plain_bodies) (defBody s_plain_bodies) (defScope s_plain_bodies) .none kV24 dc24 pm24 an24 cd24 ct24), sl24⟩) (c24 : PySem.W.codeIn K cd24 "plain_bodies" = true) (k24 : PySem.W.keepIn K (.ref f24) = true)
    (a25 : PySem.W.nsIn K mainGlobals "is_plain_statement" = some (some (.ref f25))) (l25 : K.lookup f25 = some ⟨oc25, od25, .func (PySem.W.fnOf "is_plain_statement" "is_plain_statement" (defArgs s_is_plain_statement) (defBody s_is_plain_statement) (defScope s_is_plain_statement) .none kV25 dc25 pm25 an25 cd25 ct25), sl25⟩) (c25 : PySem.W.codeIn K cd25 "is_plain_statement" = true) (k25 : PySem.W.keepIn K (.ref f25) = true)
    (a26 : PySem.W.nsIn K mainGlobals "is_plain_body" = some (some (.ref f26))) (l26 : K.lookup f26 = some ⟨oc26, od26, .func (PySem.W.fnOf "is_plain_body" "is_plain_body" (defArgs s_is_plain_body) (defBody s_is_plain_body) (defScope s_is_plain_body) .none kV26 dc26 pm26 an26 cd26 ct26), sl26⟩) (c26 : PySem.W.codeIn K cd26 "is_plain_body" = true) (k26 : PySem.W.keepIn K (.ref f26) = true)
    (a27 : PySem.W.nsIn K mainGlobals "plain_faults" = some (some (.ref f27))) (l27 : K.lookup f27 = some ⟨oc27, od27, .func (PySem.W.fnOf "plain_faults" "plain_faults" (defArgs s_plain_faults) (defBody s_plain_faults) (defScope s_plain_faults) .none kV27 dc27 pm27 an27 cd27 ct27), sl27⟩) (c27 : PySem.W.codeIn K cd27 "plain_faults" = true) (k27 : PySem.W.keepIn K (.ref f27) = true)
    (a28 : PySem.W.findIn K (.ref C2) "__init__" = some (some (.ref f28))) (i28 : PySem.W.isFn K (.ref f28) = true) (l28 : K.lookup f28 = some ⟨oc28, od28, .func (PySem.W.fnOf "__init__" "PlainBody.__init__" (defArgs s_PlainBody___init__) (defBody s_PlainBody___init__) (defScope s_PlainBody___init__) .none kV28 dc28 pm28 an28 cd28 ct28), sl28⟩) (c28 : PySem.W.codeIn K cd28 "PlainBody.__init__" = true) (k28 : PySem.W.keepIn K (.ref f28) = true)
    (a29 : PySem.W.findIn K (.ref C) "__init__" = some (some (.ref f29))) (i29 : PySem.W.isFn K (.ref f29) = true) (l29 : K.lookup f29 = some ⟨oc29, od29, .func (PySem.W.fnOf "__init__" "PlainRun.__init__" (defArgs s_PlainRun___init__) (defBody s_PlainRun___init__) (defScope s_PlainRun___init__) .none kV29 dc29 pm29 an29 cd29 ct29), sl29⟩) (c29 : PySem.W.codeIn K cd29 "PlainRun.__init__" = true) (k29 : PySem.W.keepIn K (.ref f29) = true)
    (a30 : PySem.W.findIn K (.ref C) "value" = some (some (.ref f30))) (i30 : PySem.W.isFn K (.ref f30) = true) (l30 : K.lookup f30 = some ⟨oc30, od30, .func (PySem.W.fnOf "value" "PlainRun.value" (defArgs s_PlainRun_value) (defBody s_PlainRun_value) (defScope s_PlainRun_value) .none kV30 dc30 pm30 an30 cd30 ct30), sl30⟩) (c30 : PySem.W.codeIn K cd30 "PlainRun.value" = true) (k30 : PySem.W.keepIn K (.ref f30) = true)
    (a31 : PySem.W.findIn K (.ref C) "begin" = some (some (.ref f31))) (i31 : PySem.W.isFn K (.ref f31) = true) (l31 : K.lookup f31 = some ⟨oc31, od31, .func (PySem.W.fnOf "begin" "PlainRun.begin" (defArgs s_PlainRun_begin) (defBody s_PlainRun_begin) (defScope s_PlainRun_begin) .none kV31 dc31 pm31 an31 cd31 ct31), sl31⟩) (c31 : PySem.W.codeIn K cd31 "PlainRun.begin" = true) (k31 : PySem.W.keepIn K (.ref f31) = true)
    (a32 : PySem.W.findIn K (.ref C) "end" = some (some (.ref f32))) (i32 : PySem.W.isFn K (.ref f32) = true) (l32 : K.lookup f32 = some ⟨oc32, od32, .func (PySem.W.fnOf "end" "PlainRun.end" (defArgs s_PlainRun_end) (defBody s_PlainRun_end) (defScope s_PlainRun_end) .none kV32 dc32 pm32 an32 cd32 ct32), sl32⟩) (c32 : PySem.W.codeIn K cd32 "PlainRun.end" = true) (k32 : PySem.W.keepIn K (.ref f32) = true)
    (a33 : PySem.W.nsIn K mainGlobals "run_plain" = some (some (.ref f33))) (l33 : K.lookup f33 = some ⟨oc33, od33, .func (PySem.W.fnOf "run_plain" "run_plain" (defArgs s_run_plain) (defBody s_run_plain) (defScope s_run_plain) .none kV33 dc33 pm33 an33 cd33 ct33), sl33⟩) (c33 : PySem.W.codeIn K cd33 "run_plain" = true) (k33 : PySem.W.keepIn K (.ref f33) = true)
    (a34 : PySem.W.nsIn K mainGlobals "_law_while" = some (some (.ref f34))) (l34 : K.lookup f34 = some ⟨oc34, od34, .func (PySem.W.fnOf "_law_while" "_law_while" (defArgs s_z_while) (defBody s_z_while) (defScope s_z_while) .none kV34 dc34 pm34 an34 cd34 ct34), sl34⟩) (c34 : PySem.W.codeIn K cd34 "_law_while" = true) (k34 : PySem.W.keepIn K (.ref f34) = true)
    (a35 : PySem.W.nsIn K mainGlobals "_law_plain_body" = some (some (.ref f35))) (l35 : K.lookup f35 = some ⟨oc35, od35, .func (PySem.W.fnOf "_law_plain_body" "_law_plain_body" (defArgs s_z_plain_body) (defBody s_z_plain_body) (defScope s_z_plain_body) .none kV35 dc35 pm35 an35 cd35 ct35), sl35⟩) (c35 : PySem.W.codeIn K cd35 "_law_plain_body" = true) (k35 : PySem.W.keepIn K (.ref f35) = true)
    (a36 : PySem.W.nsIn K mainGlobals "_law_ordinary" = some (some (.ref f36))) (l36 : K.lookup f36 = some ⟨oc36, od36, .func (PySem.W.fnOf "_law_ordinary" "_law_ordinary" (defArgs s_z_ordinary) (defBody s_z_ordinary) (defScope s_z_ordinary) .none kV36 dc36 pm36 an36 cd36 ct36), sl36⟩) (c36 : PySem.W.codeIn K cd36 "_law_ordinary" = true) (k36 : PySem.W.keepIn K (.ref f36) = true)
    (a37 : PySem.W.nsIn K mainGlobals "_law_plain_do" = some (some (.ref f37))) (l37 : K.lookup f37 = some ⟨oc37, od37, .func (PySem.W.fnOf "_law_plain_do" "_law_plain_do" (defArgs s_z_plain_do) (defBody s_z_plain_do) (defScope s_z_plain_do) .none kV37 dc37 pm37 an37 cd37 ct37), sl37⟩) (c37 : PySem.W.codeIn K cd37 "_law_plain_do" = true) (k37 : PySem.W.keepIn K (.ref f37) = true)
    (a38 : PySem.W.nsIn K mainGlobals "law" = some (some (.ref f38))) (l38 : K.lookup f38 = some ⟨oc38, od38, .func (PySem.W.fnOf "law" "law" (defArgs s_law) (defBody s_law) (defScope s_law) .none kV38 dc38 pm38 an38 cd38 ct38), sl38⟩) (c38 : PySem.W.codeIn K cd38 "law" = true) (k38 : PySem.W.keepIn K (.ref f38) = true)
    (z0 : PySem.W.nsIn K mainGlobals "abs" = some none)
    (z1 : PySem.W.nsIn K mainGlobals "all" = some none)
    (z2 : PySem.W.nsIn K mainGlobals "bool" = some none)
    (z3 : PySem.W.nsIn K mainGlobals "int" = some none)
    (z4 : PySem.W.nsIn K mainGlobals "isinstance" = some none)
    (z5 : PySem.W.nsIn K mainGlobals "len" = some none)
    (z6 : PySem.W.nsIn K mainGlobals "list" = some none)
    (z7 : PySem.W.nsIn K mainGlobals "min" = some none)
    (z8 : PySem.W.nsIn K mainGlobals "range" = some none)
    (z9 : PySem.W.nsIn K mainGlobals "str" = some none)
    (z10 : PySem.W.nsIn K mainGlobals "tuple" = some none)
    (z11 : PySem.W.nsIn K mainGlobals "zip" = some none)
    {kNAME_LENGTH_programs : Tok} (gaNAME_LENGTH_programs : PySem.W.nsIn K mainGlobals "NAME_LENGTH_programs" = some (some (.int 20 kNAME_LENGTH_programs)))
    {kLETTERS : Tok} (gaLETTERS : PySem.W.nsIn K mainGlobals "LETTERS" = some (some (.str "abcdefghijklmnopqrstuvwxyz" kLETTERS)))
    {kNAME_SIGNS : Tok} (gaNAME_SIGNS : PySem.W.nsIn K mainGlobals "NAME_SIGNS" = some (some (.str "abcdefghijklmnopqrstuvwxyz0123456789_" kNAME_SIGNS)))
    {gNOT_NAMES : Addr} {goNOT_NAMES : Option Addr} {giNOT_NAMES : Array Value} {gnNOT_NAMES : Nat} {gsNOT_NAMES : Array (Option Value)} (gaNOT_NAMES : PySem.W.nsIn K mainGlobals "NOT_NAMES" = some (some (.ref gNOT_NAMES))) (glNOT_NAMES : K.lookup gNOT_NAMES = some ⟨.type "tuple", goNOT_NAMES, .seq giNOT_NAMES gnNOT_NAMES, gsNOT_NAMES⟩) (gvNOT_NAMES : giNOT_NAMES.toList.mapM absV = some [V.str "width", V.str "vars", V.str "proc", V.str "end", V.str "if", V.str "then", V.str "else", V.str "fi", V.str "from", V.str "do", V.str "loop", V.str "until", V.str "call", V.str "uncall", V.str "local", V.str "in", V.str "delocal", V.str "skip"]) (gzNOT_NAMES : giNOT_NAMES.size ≤ sizeLine)
    {kMOST_WIDTH : Tok} (gaMOST_WIDTH : PySem.W.nsIn K mainGlobals "MOST_WIDTH" = some (some (.int 32 kMOST_WIDTH)))
    {kNAME_LENGTH_plain : Tok} (gaNAME_LENGTH_plain : PySem.W.nsIn K mainGlobals "NAME_LENGTH_plain" = some (some (.int 11 kNAME_LENGTH_plain)))
    {kOWN_WORD : Tok} (gaOWN_WORD : PySem.W.nsIn K mainGlobals "OWN_WORD" = some (some (.str "back" kOWN_WORD)))
    {aA : Addr} {esA : Array DictEntry} {nnA : Nat} (gA : PySem.W.nsIn K mainGlobals "EXPRESSION_LENGTHS" = some (some (.ref aA))) (lA : K.lookup aA = some { cls := .type "dict", data := .dict esA nnA }) (qA : PySem.W.KeysLit w.params esA.toList) (oA : (aA == sysModules) = false)
    {aB : Addr} {esB : Array DictEntry} {nnB : Nat} (gB : PySem.W.nsIn K mainGlobals "STATEMENT_LENGTHS" = some (some (.ref aB))) (lB : K.lookup aB = some { cls := .type "dict", data := .dict esB nnB }) (qB : PySem.W.KeysLit w.params esB.toList) (oB : (aB == sysModules) = false)
    {tA_int : Tok} (x_int : PySem.W.nsIn K aA "int" = some (some (.int 2 tA_int)))
    {tA_var : Tok} (x_var : PySem.W.nsIn K aA "var" = some (some (.int 2 tA_var)))
    {tA_cell : Tok} (x_cell : PySem.W.nsIn K aA "cell" = some (some (.int 3 tA_cell)))
    {tA_not : Tok} (x_not : PySem.W.nsIn K aA "not" = some (some (.int 2 tA_not)))
    {tA_add : Tok} (x_add : PySem.W.nsIn K aA "add" = some (some (.int 3 tA_add)))
    {tA_sub : Tok} (x_sub : PySem.W.nsIn K aA "sub" = some (some (.int 3 tA_sub)))
    {tA_mul : Tok} (x_mul : PySem.W.nsIn K aA "mul" = some (some (.int 3 tA_mul)))
    {tA_and : Tok} (x_and : PySem.W.nsIn K aA "and" = some (some (.int 3 tA_and)))
    {tA_or : Tok} (x_or : PySem.W.nsIn K aA "or" = some (some (.int 3 tA_or)))
    {tA_xor : Tok} (x_xor : PySem.W.nsIn K aA "xor" = some (some (.int 3 tA_xor)))
    {tA_less : Tok} (x_less : PySem.W.nsIn K aA "less" = some (some (.int 3 tA_less)))
    {tA_equal : Tok} (x_equal : PySem.W.nsIn K aA "equal" = some (some (.int 3 tA_equal)))
    {tA_shl : Tok} (x_shl : PySem.W.nsIn K aA "shl" = some (some (.int 3 tA_shl)))
    {tA_shr : Tok} (x_shr : PySem.W.nsIn K aA "shr" = some (some (.int 3 tA_shr)))
    {tB_set : Tok} (y_set : PySem.W.nsIn K aB "set" = some (some (.int 3 tB_set)))
    {tB_if : Tok} (y_if : PySem.W.nsIn K aB "if" = some (some (.int 4 tB_if)))
    {tB_while : Tok} (y_while : PySem.W.nsIn K aB "while" = some (some (.int 3 tB_while)))
    (z_int : PySem.W.nsIn K aB "int" = some none)
    : LamX.LawAtS l w K CX0 34 63 "script" mg fa h := by
  have e := hfa.symm.trans (PySem.W.mg_of X G a38)
  cases e
  have F0 := fun_mk (st := s_top) l0 c0 k0
  have F1 := fun_mk (st := s_shift) l1 c1 k1
  have F2 := fun_mk (st := s_compute) l2 c2 k2
  have F3 := fun_mk (st := s_value_of) l3 c3 k3
  have F4 := fun_mk (st := s_cell_index) l4 c4 k4
  have F5 := fun_mk (st := s_is_whole) l5 c5 k5
  have F6 := fun_mk (st := s_is_integer) l6 c6 k6
  have F7 := fun_mk (st := s_is_word) l7 c7 k7
  have F8 := fun_mk (st := s_z_draw) l8 c8 k8
  have F9 := fun_mk (st := s_z_take) l9 c9 k9
  have F10 := fun_mk (st := s_z_top) l10 c10 k10
  have F11 := fun_mk (st := s_z_compute) l11 c11 k11
  have F12 := fun_mk (st := s_z_word) l12 c12 k12
  have F13 := fun_mk (st := s_z_expression) l13 c13 k13
  have F14 := fun_mk (st := s_z_value) l14 c14 k14
  have F15 := fun_mk (st := s_begins_with_word) l15 c15 k15
  have F16 := fun_mk (st := s_looks_like_expression) l16 c16 k16
  have F17 := func_mk (st := s_is_name) l17 c17 k17
  have F18 := fun_mk (st := s_parts) l18 c18 k18
  have F19 := fun_mk (st := s_uses) l19 c19 k19
  have F20 := fun_mk (st := s_is_expression) l20 c20 k20
  have F21 := fun_mk (st := s_has_plain_form) l21 c21 k21
  have F22 := fun_mk (st := s_is_plain_name) l22 c22 k22
  have F23 := fun_mk (st := s_are_different_among) l23 c23 k23
  have F24 := fun_mk (st := s_plain_bodies) l24 c24 k24
  have F25 := fun_mk (st := s_is_plain_statement) l25 c25 k25
  have F26 := fun_mk (st := s_is_plain_body) l26 c26 k26
  have F27 := fun_mk (st := s_plain_faults) l27 c27 k27
  have F28 := fun_mk (st := s_PlainBody___init__) l28 c28 k28
  have F29 := fun_mk (st := s_PlainRun___init__) l29 c29 k29
  have F30 := fun_mk (st := s_PlainRun_value) l30 c30 k30
  have F31 := fun_mk (st := s_PlainRun_begin) l31 c31 k31
  have F32 := fun_mk (st := s_PlainRun_end) l32 c32 k32
  have F33 := fun_mk (st := s_run_plain) l33 c33 k33
  have F34 := fun_mk (st := s_z_while) l34 c34 k34
  have F35 := fun_mk (st := s_z_plain_body) l35 c35 k35
  have F36 := fun_mk (st := s_z_ordinary) l36 c36 k36
  have F37 := fun_mk (st := s_z_plain_do) l37 c37 k37
  have F38 := fun_mk (st := s_law) l38 c38 k38
  have b0 := F0.binds (ps := ["w"]) fun _ _ _ _ _ _ us hl => match us, hl with | [_], _ => rfl
  have b1 := F1.binds (ps := ["op", "w", "x", "y"]) fun _ _ _ _ _ _ us hl => match us, hl with | [_, _, _, _], _ => rfl
  have b2 := F2.binds (ps := ["op", "w", "x", "y"]) fun _ _ _ _ _ _ us hl => match us, hl with | [_, _, _, _], _ => rfl
  have b3 := F3.binds (ps := ["w", "e", "look"]) fun _ _ _ _ _ _ us hl => match us, hl with | [_, _, _], _ => rfl
  have b4 := F4.binds (ps := ["w", "e", "look"]) fun _ _ _ _ _ _ us hl => match us, hl with | [_, _, _], _ => rfl
  have b5 := F5.binds (ps := ["value"]) fun _ _ _ _ _ _ us hl => match us, hl with | [_], _ => rfl
  have b6 := F6.binds (ps := ["value", "low", "high"]) fun _ _ _ _ _ _ us hl => match us, hl with | [_, _, _], _ => rfl
  have b7 := F7.binds (ps := ["value", "w"]) fun _ _ _ _ _ _ us hl => match us, hl with | [_, _], _ => rfl
  have b8 := F8.binds (ps := ["script"]) fun _ _ _ _ _ _ us hl => match us, hl with | [_], _ => rfl
  have b9 := F9.binds (ps := ["draw", "many"]) fun _ _ _ _ _ _ us hl => match us, hl with | [_, _], _ => rfl
  have b10 := F10.binds (ps := ["w"]) fun _ _ _ _ _ _ us hl => match us, hl with | [_], _ => rfl
  have b11 := F11.binds (ps := ["op", "w", "x", "y"]) fun _ _ _ _ _ _ us hl => match us, hl with | [_, _, _, _], _ => rfl
  have b12 := F12.binds (ps := ["draw", "w"]) fun _ _ _ _ _ _ us hl => match us, hl with | [_, _], _ => rfl
  have b13 := F13.binds (ps := ["p", "names", "depth"]) fun _ _ _ _ _ _ us hl => match us, hl with | [_, _, _], _ => rfl
  have b14 := F14.binds (ps := ["w", "e", "frame"]) fun _ _ _ _ _ _ us hl => match us, hl with | [_, _, _], _ => rfl
  have b15 := F15.binds (ps := ["value"]) fun _ _ _ _ _ _ us hl => match us, hl with | [_], _ => rfl
  have b16 := F16.binds (ps := ["value"]) fun _ _ _ _ _ _ us hl => match us, hl with | [_], _ => rfl
  have b17 := F17.fun.binds (ps := ["text"]) fun _ _ _ _ _ _ us hl => match us, hl with | [_], _ => rfl
  have b18 := F18.binds (ps := ["expression"]) fun _ _ _ _ _ _ us hl => match us, hl with | [_], _ => rfl
  have b19 := F19.binds (ps := ["expression"]) fun _ _ _ _ _ _ us hl => match us, hl with | [_], _ => rfl
  have b20 := F20.binds (ps := ["value", "w"]) fun _ _ _ _ _ _ us hl => match us, hl with | [_, _], _ => rfl
  have b21 := F21.binds (ps := ["value"]) fun _ _ _ _ _ _ us hl => match us, hl with | [_], _ => rfl
  have b22 := F22.binds (ps := ["value"]) fun _ _ _ _ _ _ us hl => match us, hl with | [_], _ => rfl
  have b23 := F23.binds (ps := ["items", "names"]) fun _ _ _ _ _ _ us hl => match us, hl with | [_, _], _ => rfl
  have b24 := F24.binds (ps := ["statement"]) fun _ _ _ _ _ _ us hl => match us, hl with | [_], _ => rfl
  have b25 := F25.binds (ps := ["value", "width", "names"]) fun _ _ _ _ _ _ us hl => match us, hl with | [_, _, _], _ => rfl
  have b26 := F26.binds (ps := ["body", "width", "names"]) fun _ _ _ _ _ _ us hl => match us, hl with | [_, _, _], _ => rfl
  have b27 := F27.binds (ps := ["value"]) fun _ _ _ _ _ _ us hl => match us, hl with | [_], _ => rfl
  have b28 := F28.binds (ps := ["self", "body", "owner"]) fun _ _ _ _ _ _ us hl => match us, hl with | [_, _, _], _ => rfl
  have b29 := F29.binds (ps := ["self", "program", "values", "fuel"]) fun _ _ _ _ _ _ us hl => match us, hl with | [_, _, _, _], _ => rfl
  have b30 := F30.binds (ps := ["self", "expression"]) fun _ _ _ _ _ _ us hl => match us, hl with | [_, _], _ => rfl
  have b31 := F31.binds (ps := ["self", "statement"]) fun _ _ _ _ _ _ us hl => match us, hl with | [_, _], _ => rfl
  have b32 := F32.binds (ps := ["self"]) fun _ _ _ _ _ _ us hl => match us, hl with | [_], _ => rfl
  have b33 := fun_kbn (ps := ["program", "values", "fuel"]) (n := 2) (ks := ["fuel"]) F33 fun _ _ _ _ _ _ us ws hu hw => match us, ws, hu, hw with | [_, _], [_], _, _ => rfl
  have b34 := F34.binds (ps := ["p", "names", "depth"]) fun _ _ _ _ _ _ us hl => match us, hl with | [_, _, _], _ => rfl
  have b35 := F35.binds (ps := ["p", "names", "depth"]) fun _ _ _ _ _ _ us hl => match us, hl with | [_, _, _], _ => rfl
  have b36 := F36.binds (ps := ["draw"]) fun _ _ _ _ _ _ us hl => match us, hl with | [_], _ => rfl
  have b37 := F37.binds (ps := ["m", "body"]) fun _ _ _ _ _ _ us hl => match us, hl with | [_, _], _ => rfl
  let T : Txt K mg := ⟨f0, _, F0, PySem.W.mg_of X G a0, b0, f1, _, F1, PySem.W.mg_of X G a1, b1, f2, _, F2, PySem.W.mg_of X G a2, b2, f3, _, F3, PySem.W.mg_of X G a3, b3, f4, _, F4, PySem.W.mg_of X G a4, b4, f5, _, F5, PySem.W.mg_of X G a5, b5, f6, _, F6, PySem.W.mg_of X G a6, b6, f7, _, F7, PySem.W.mg_of X G a7, b7, f8, _, F8, PySem.W.mg_of X G a8, b8, f9, _, F9, PySem.W.mg_of X G a9, b9, f10, _, F10, PySem.W.mg_of X G a10, b10, f11, _, F11, PySem.W.mg_of X G a11, b11, f12, _, F12, PySem.W.mg_of X G a12, b12, f13, _, F13, PySem.W.mg_of X G a13, b13, f14, _, F14, PySem.W.mg_of X G a14, b14, f15, _, F15, PySem.W.mg_of X G a15, b15, f16, _, F16, PySem.W.mg_of X G a16, b16, f17, _, cc17, P17, F17, PySem.W.mg_of X G a17, b17, f18, _, F18, PySem.W.mg_of X G a18, b18, f19, _, F19, PySem.W.mg_of X G a19, b19, f20, _, F20, PySem.W.mg_of X G a20, b20, f21, _, F21, PySem.W.mg_of X G a21, b21, f22, _, F22, PySem.W.mg_of X G a22, b22, f23, _, F23, PySem.W.mg_of X G a23, b23, f24, _, F24, PySem.W.mg_of X G a24, b24, f25, _, F25, PySem.W.mg_of X G a25, b25, f26, _, F26, PySem.W.mg_of X G a26, b26, f27, _, F27, PySem.W.mg_of X G a27, b27, f33, _, F33, PySem.W.mg_of X G a33, b33, f34, _, F34, PySem.W.mg_of X G a34, b34, f35, _, F35, PySem.W.mg_of X G a35, b35, f36, _, F36, PySem.W.mg_of X G a36, b36, f37, _, F37, PySem.W.mg_of X G a37, b37, fa, _, F38, PySem.W.mg_of X G a38, PySem.W.mg_none_of X G z0, PySem.W.mg_none_of X G z1, PySem.W.mg_none_of X G z2, PySem.W.mg_none_of X G z3, PySem.W.mg_none_of X G z4, PySem.W.mg_none_of X G z5, PySem.W.mg_none_of X G z6, PySem.W.mg_none_of X G z7, PySem.W.mg_none_of X G z8, PySem.W.mg_none_of X G z9, PySem.W.mg_none_of X G z10, PySem.W.mg_none_of X G z11, kNAME_LENGTH_programs, PySem.W.mg_of X G gaNAME_LENGTH_programs, kLETTERS, PySem.W.mg_of X G gaLETTERS, kNAME_SIGNS, PySem.W.mg_of X G gaNAME_SIGNS, gNOT_NAMES, PySem.W.mg_of X G gaNOT_NAMES, fun H => sqT_k glNOT_NAMES gvNOT_NAMES gzNOT_NAMES, kMOST_WIDTH, PySem.W.mg_of X G gaMOST_WIDTH, kNAME_LENGTH_plain, PySem.W.mg_of X G gaNAME_LENGTH_plain, kOWN_WORD, PySem.W.mg_of X G gaOWN_WORD⟩
  have TC : TxC K C := ⟨⟨pg, hd, po, sa⟩, n_0, n_1, n_2, n_3, n_4, n_5⟩
  let TM : TxM K mg C := ⟨f29, _, F29, b29, ⟨mks, a29, i29, kc⟩, PySem.W.mg_of X G aC, f30, _, F30, b30, ⟨a30, i30, k30⟩, f31, _, F31, b31, ⟨a31, i31, k31⟩, f32, _, F32, b32, ⟨a32, i32, k32⟩⟩
  have TC2 : TxC2 K C2 := ⟨⟨pg2, hd2, po2, sa2⟩, n2_0, n2_1, n2_2⟩
  let TM2 : TxM2 K mg C2 := ⟨f28, _, F28, b28, ⟨mks2, a28, i28, kc2⟩, PySem.W.mg_of X G aC2⟩
  let TA : TxA K mg w := ⟨aA, PySem.W.mg_of X G gA, ⟨esA, nnA, _, lA, qA, x_int, .yes ⟨_, rfl⟩, oA⟩, ⟨esA, nnA, _, lA, qA, x_var, .yes ⟨_, rfl⟩, oA⟩, ⟨esA, nnA, _, lA, qA, x_cell, .yes ⟨_, rfl⟩, oA⟩, ⟨esA, nnA, _, lA, qA, x_not, .yes ⟨_, rfl⟩, oA⟩, ⟨esA, nnA, _, lA, qA, x_add, .yes ⟨_, rfl⟩, oA⟩, ⟨esA, nnA, _, lA, qA, x_sub, .yes ⟨_, rfl⟩, oA⟩, ⟨esA, nnA, _, lA, qA, x_mul, .yes ⟨_, rfl⟩, oA⟩, ⟨esA, nnA, _, lA, qA, x_and, .yes ⟨_, rfl⟩, oA⟩, ⟨esA, nnA, _, lA, qA, x_or, .yes ⟨_, rfl⟩, oA⟩, ⟨esA, nnA, _, lA, qA, x_xor, .yes ⟨_, rfl⟩, oA⟩, ⟨esA, nnA, _, lA, qA, x_less, .yes ⟨_, rfl⟩, oA⟩, ⟨esA, nnA, _, lA, qA, x_equal, .yes ⟨_, rfl⟩, oA⟩, ⟨esA, nnA, _, lA, qA, x_shl, .yes ⟨_, rfl⟩, oA⟩, ⟨esA, nnA, _, lA, qA, x_shr, .yes ⟨_, rfl⟩, oA⟩, aB, PySem.W.mg_of X G gB, ⟨esB, nnB, _, lB, qB, y_set, .yes ⟨_, rfl⟩, oB⟩, ⟨esB, nnB, _, lB, qB, y_if, .yes ⟨_, rfl⟩, oB⟩, ⟨esB, nnB, _, lB, qB, y_while, .yes ⟨_, rfl⟩, oB⟩, ⟨esB, nnB, _, lB, qB, z_int, .no, oB⟩⟩
  have h17 := codeHd_mk lc17 tv17 hv17
  have t17 := tab_of RT X rc17 (PySem.W.mg_of X G a17) l17 rfl (codeTab_mk lc17 tv17)
  refine ⟨PySem.W.fnOf "law" "law" (defArgs s_law) (defBody s_law) (defScope s_law) .none kV38 dc38 pm38 an38 cd38 ct38, T.tabs, spLaw T, fun p hp => by
    simp only [Txt.tabs, List.mem_cons, List.not_mem_nil, or_false] at hp
    subst hp
    · exact t17, fun p hp => by
    simp only [Txt.tabs, List.mem_cons, List.not_mem_nil, or_false] at hp
    subst hp
    · exact np17, fun p hp => by
    simp only [Txt.tabs, List.mem_cons, List.not_mem_nil, or_false] at hp
    subst hp
    · exact PySem.W.codeHd_of_K X h17, fun s v => .of_eq rfl, fun H a ns hl hb hT hS => ⟨a, ns, rfl, hS, hl, hb, hT, fun _ => rfl⟩, fun base _ _ TB => ?_⟩
  have B : TBs T base := ⟨let z := TB (T.c_is_name, T.P_is_name) (by simp [Txt.tabs]); ⟨z.code, z.bm, z.gP⟩⟩
  exact ok_law T B TC TM TC2 TM2 TA
end My
open PySem PySem.W PyProof.Rows
set_option maxRecDepth 100000 in
set_option maxHeartbeats 0 in
theorem PySem.Challenge.cw_backrun_k08_ordinary_runs_holds : PySem.Challenge.rw_backrun_k08_ordinary_runs.Holds := by
  w_on; o_law; k_head; (case hw => w_witness2)
  k_fill
  refine My.walk_ofG (l := PySem.Challenge.rw_backrun_k08_ordinary_runs) (n := 63) (k := 34) (x := "script") rfl (by decide) rfl ⟨rfl, by decide, by decide⟩ (fun w h Y => PySem.W.kIn_of Y) ?F
  case F =>
    intro w mg fa h KX G hmg RT
    refine' My.all_mk KX G hmg RT ?aC ?pg ?hd ?po ?sa ?mks ?kc ?n_0 ?n_1 ?n_2 ?n_3 ?n_4 ?n_5 ?aC2 ?pg2 ?hd2 ?po2 ?sa2 ?mks2 ?kc2 ?n2_0 ?n2_1 ?n2_2 ?a0 ?l0 ?c0 ?k0 ?a1 ?l1 ?c1 ?k1 ?a2 ?l2 ?c2 ?k2 ?a3 ?l3 ?c3 ?k3 ?a4 ?l4 ?c4 ?k4 ?a5 ?l5 ?c5 ?k5 ?a6 ?l6 ?c6 ?k6 ?a7 ?l7 ?c7 ?k7 ?a8 ?l8 ?c8 ?k8 ?a9 ?l9 ?c9 ?k9 ?a10 ?l10 ?c10 ?k10 ?a11 ?l11 ?c11 ?k11 ?a12 ?l12 ?c12 ?k12 ?a13 ?l13 ?c13 ?k13 ?a14 ?l14 ?c14 ?k14 ?a15 ?l15 ?c15 ?k15 ?a16 ?l16 ?c16 ?k16 ?a17 ?l17 ?c17 ?k17 ?lc17 ?tv17 ?hv17 ?np17 ?rc17 ?a18 ?l18 ?c18 ?k18 ?a19 ?l19 ?c19 ?k19 ?a20 ?l20 ?c20 ?k20 ?a21 ?l21 ?c21 ?k21 ?a22 ?l22 ?c22 ?k22 ?a23 ?l23 ?c23 ?k23 ?a24 ?l24 ?c24 ?k24 ?a25 ?l25 ?c25 ?k25 ?a26 ?l26 ?c26 ?k26 ?a27 ?l27 ?c27 ?k27 ?a28 ?i28 ?l28 ?c28 ?k28 ?a29 ?i29 ?l29 ?c29 ?k29 ?a30 ?i30 ?l30 ?c30 ?k30 ?a31 ?i31 ?l31 ?c31 ?k31 ?a32 ?i32 ?l32 ?c32 ?k32 ?a33 ?l33 ?c33 ?k33 ?a34 ?l34 ?c34 ?k34 ?a35 ?l35 ?c35 ?k35 ?a36 ?l36 ?c36 ?k36 ?a37 ?l37 ?c37 ?k37 ?a38 ?l38 ?c38 ?k38 ?z0 ?z1 ?z2 ?z3 ?z4 ?z5 ?z6 ?z7 ?z8 ?z9 ?z10 ?z11 ?gaNAME_LENGTH_programs ?gaLETTERS ?gaNAME_SIGNS ?gaNOT_NAMES ?glNOT_NAMES ?gvNOT_NAMES ?gzNOT_NAMES ?gaMOST_WIDTH ?gaNAME_LENGTH_plain ?gaOWN_WORD ?gA ?lA ?qA ?oA ?gB ?lB ?qB ?oB ?x_int ?x_var ?x_cell ?x_not ?x_add ?x_sub ?x_mul ?x_and ?x_or ?x_xor ?x_less ?x_equal ?x_shl ?x_shr ?y_set ?y_if ?y_while ?z_int
    (case aC => k_is)
    (case pg => k_is)
    (case hd => k_is)
    (case po => k_is)
    (case sa => k_is)
    (case mks => k_is)
    (case kc => k_is)
    (case n_0 => k_is)
    (case n_1 => k_is)
    (case n_2 => k_is)
    (case n_3 => k_is)
    (case n_4 => k_is)
    (case n_5 => k_is)
    (case aC2 => k_is)
    (case pg2 => k_is)
    (case hd2 => k_is)
    (case po2 => k_is)
    (case sa2 => k_is)
    (case mks2 => k_is)
    (case kc2 => k_is)
    (case n2_0 => k_is)
    (case n2_1 => k_is)
    (case n2_2 => k_is)
    (case a0 => k_is)
    (case l0 => k_is)
    (case c0 => k_is)
    (case k0 => k_is)
    (case a1 => k_is)
    (case l1 => k_is)
    (case c1 => k_is)
    (case k1 => k_is)
    (case a2 => k_is)
    (case l2 => k_is)
    (case c2 => k_is)
    (case k2 => k_is)
    (case a3 => k_is)
    (case l3 => k_is)
    (case c3 => k_is)
    (case k3 => k_is)
    (case a4 => k_is)
    (case l4 => k_is)
    (case c4 => k_is)
    (case k4 => k_is)
    (case a5 => k_is)
    (case l5 => k_is)
    (case c5 => k_is)
    (case k5 => k_is)
    (case a6 => k_is)
    (case l6 => k_is)
    (case c6 => k_is)
    (case k6 => k_is)
    (case a7 => k_is)
    (case l7 => k_is)
    (case c7 => k_is)
    (case k7 => k_is)
    (case a8 => k_is)
    (case l8 => k_is)
    (case c8 => k_is)
    (case k8 => k_is)
    (case a9 => k_is)
    (case l9 => k_is)
    (case c9 => k_is)
    (case k9 => k_is)
    (case a10 => k_is)
    (case l10 => k_is)
    (case c10 => k_is)
    (case k10 => k_is)
    (case a11 => k_is)
    (case l11 => k_is)
    (case c11 => k_is)
    (case k11 => k_is)
    (case a12 => k_is)
    (case l12 => k_is)
    (case c12 => k_is)
    (case k12 => k_is)
    (case a13 => k_is)
    (case l13 => k_is)
    (case c13 => k_is)
    (case k13 => k_is)
    (case a14 => k_is)
    (case l14 => k_is)
    (case c14 => k_is)
    (case k14 => k_is)
    (case a15 => k_is)
    (case l15 => k_is)
    (case c15 => k_is)
    (case k15 => k_is)
    (case a16 => k_is)
    (case l16 => k_is)
    (case c16 => k_is)
    (case k16 => k_is)
    (case a17 => k_is)
    (case l17 => k_is)
    (case c17 => k_is)
    (case k17 => k_is)
    (case lc17 => k_is)
    (case tv17 => rfl)
    (case hv17 => rfl)
    (case np17 => rfl)
    (case rc17 => decide +kernel)
    (case a18 => k_is)
    (case l18 => k_is)
    (case c18 => k_is)
    (case k18 => k_is)
    (case a19 => k_is)
    (case l19 => k_is)
    (case c19 => k_is)
    (case k19 => k_is)
    (case a20 => k_is)
    (case l20 => k_is)
    (case c20 => k_is)
    (case k20 => k_is)
    (case a21 => k_is)
    (case l21 => k_is)
    (case c21 => k_is)
    (case k21 => k_is)
    (case a22 => k_is)
    (case l22 => k_is)
    (case c22 => k_is)
    (case k22 => k_is)
    (case a23 => k_is)
    (case l23 => k_is)
    (case c23 => k_is)
    (case k23 => k_is)
    (case a24 => k_is)
    (case l24 => k_is)
    (case c24 => k_is)
    (case k24 => k_is)
    (case a25 => k_is)
    (case l25 => k_is)
    (case c25 => k_is)
    (case k25 => k_is)
    (case a26 => k_is)
    (case l26 => k_is)
    (case c26 => k_is)
    (case k26 => k_is)
    (case a27 => k_is)
    (case l27 => k_is)
    (case c27 => k_is)
    (case k27 => k_is)
    (case a28 => k_is)
    (case i28 => k_is)
    (case l28 => k_is)
    (case c28 => k_is)
    (case k28 => k_is)
    (case a29 => k_is)
    (case i29 => k_is)
    (case l29 => k_is)
    (case c29 => k_is)
    (case k29 => k_is)
    (case a30 => k_is)
    (case i30 => k_is)
    (case l30 => k_is)
    (case c30 => k_is)
    (case k30 => k_is)
    (case a31 => k_is)
    (case i31 => k_is)
    (case l31 => k_is)
    (case c31 => k_is)
    (case k31 => k_is)
    (case a32 => k_is)
    (case i32 => k_is)
    (case l32 => k_is)
    (case c32 => k_is)
    (case k32 => k_is)
    (case a33 => k_is)
    (case l33 => k_is)
    (case c33 => k_is)
    (case k33 => k_is)
    (case a34 => k_is)
    (case l34 => k_is)
    (case c34 => k_is)
    (case k34 => k_is)
    (case a35 => k_is)
    (case l35 => k_is)
    (case c35 => k_is)
    (case k35 => k_is)
    (case a36 => k_is)
    (case l36 => k_is)
    (case c36 => k_is)
    (case k36 => k_is)
    (case a37 => k_is)
    (case l37 => k_is)
    (case c37 => k_is)
    (case k37 => k_is)
    (case a38 => k_is)
    (case l38 => k_is)
    (case c38 => k_is)
    (case k38 => k_is)
    (case z0 => k_is)
    (case z1 => k_is)
    (case z2 => k_is)
    (case z3 => k_is)
    (case z4 => k_is)
    (case z5 => k_is)
    (case z6 => k_is)
    (case z7 => k_is)
    (case z8 => k_is)
    (case z9 => k_is)
    (case z10 => k_is)
    (case z11 => k_is)
    (case gaNAME_LENGTH_programs => k_is)
    (case gaLETTERS => k_is)
    (case gaNAME_SIGNS => k_is)
    (case gaNOT_NAMES => k_is)
    (case glNOT_NAMES => k_is)
    (case gvNOT_NAMES => rfl)
    (case gzNOT_NAMES => decide)
    (case gaMOST_WIDTH => k_is)
    (case gaNAME_LENGTH_plain => k_is)
    (case gaOWN_WORD => k_is)
    (case gA => k_is)
    (case lA => k_is)
    (case qA => (repeat' first | exact trivial | refine ⟨⟨_, _, rfl, rfl⟩, ?_⟩))
    (case oA => decide)
    (case gB => k_is)
    (case lB => k_is)
    (case qB => (repeat' first | exact trivial | refine ⟨⟨_, _, rfl, rfl⟩, ?_⟩))
    (case oB => decide)
    (case x_int => k_is)
    (case x_var => k_is)
    (case x_cell => k_is)
    (case x_not => k_is)
    (case x_add => k_is)
    (case x_sub => k_is)
    (case x_mul => k_is)
    (case x_and => k_is)
    (case x_or => k_is)
    (case x_xor => k_is)
    (case x_less => k_is)
    (case x_equal => k_is)
    (case x_shl => k_is)
    (case x_shr => k_is)
    (case y_set => k_is)
    (case y_if => k_is)
    (case y_while => k_is)
    (case z_int => k_is)

