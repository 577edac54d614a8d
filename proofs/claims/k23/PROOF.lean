import PyProof.Rows.All
import Wide.All
import OpenK.AllK
import Wide.FinOn
import HandS.ForMost
import HandS.Wide
import HandS.IsInst
import HandS.AnyAll
import HandS.GenOver
import HandS.GenList
import HandS.Nested
import PyProof.GenQ
import HandS.TupAny
import HandS.TupMul
import HandS.Zip
import HandS.Style
import HandS.EndTab
import KE.KNestM
import KE.KBits
import KE.OsArith
import HandS.Walk
import KE.GoesEnum
import HandS.Zip0
import HandS.CallLocal
import HandS.Call
import HandS.Defaults
import HandS.More
import HandS.Flow
import KE.GoesZip
import KE.GoesMore
import HandS.Dict
import HandS.ExcInit
import HandS.ExcField
import HandS.Replace
import HandS.ReplaceLit
import PyProof.StrReplace2
import PyProof.StrLawsTight
import PyProof.StrLawsReplace
import HandS.Conv
import HandS.Small
import HandS.WideBits
import HandS.TryOnly
import HandS.FStr
import HandS.HeadHook4
import HandS.HeadWalk
import KE.KStateDown
import HandS.Head0
import HandS.Head1
import HandS.Head2
import HandS.WordsExc
import PySem.Challenge.RW_backrun_k23_code_as_text
set_option Elab.async false
set_option linter.all false
set_option maxRecDepth 100000
/-! what serves every law: cuts, heaps that change at one place, the law's own draw -/
namespace My
open PySem PySem.Spec PyProof.Rows L2
/-! ### cuts -/
section
variable {X : Cx}
theorem ps_cut {st : Stmt} {t : TS} (h : PS X st t) : PS X st (fun D σ H => ∃ J : L2.St → Hp → Prop, t { D with nx := J } σ H ∧ ∀ σ' H', J σ' H' → D.nx σ' H') := by
  refine ⟨fun pins s σ H D I hh => ?_⟩
  obtain ⟨J, h1, h2⟩ := hh
  refine thn (h.run pins s σ H _ I h1) fun f s' z => ?_
  cases f with
  | next => obtain ⟨σ', H', I', j⟩ := z; exact ⟨σ', H', I', h2 σ' H' j⟩
  | brk => exact z
  | cont => exact z
  | ret v => exact z
theorem pe_cut {e : Expr} {t : TE} (h : PE X e t) : PE X e (fun σ H Q => ∃ J : V → Hp → Prop, t σ H J ∧ ∀ v H', J v H' → Q v H') := by
  refine ⟨fun pins s σ H Q I hh => ?_⟩
  obtain ⟨J, h1, h2⟩ := hh
  refine thn (h.run pins s σ H _ I h1) fun u s' ⟨v, H', I', r, j⟩ => ⟨v, H', I', r, h2 v H' j⟩
theorem pt_cut {e : Expr} {t : TT} (h : PT X e t) : PT X e (fun σ H Q => ∃ J : Bool → Hp → Prop, t σ H J ∧ ∀ b H', J b H' → Q b H') := by
  refine ⟨fun pins s σ H Q I hh => ?_⟩
  obtain ⟨J, h1, h2⟩ := hh
  refine thn (h.run pins s σ H _ I h1) fun u s' ⟨H', I', j⟩ => ⟨H', I', h2 u H' j⟩
end
/-! ### heaps -/
theorem same_upd {H : Hp} {p : Addr} {o : HO} (h : H p = none) : Same H (upd H p o) := fun b x e => by
  rw [upd_ne (ne_of_none e h)]
  exact e
/-- all but what stands at p stays -/
def KeepBut (p : Addr) (H H' : Hp) : Prop := ∀ b o, b ≠ p → H b = some o → H' b = some o
theorem KeepBut.refl (p : Addr) (H : Hp) : KeepBut p H H := fun _ _ _ e => e
theorem KeepBut.trans {p : Addr} {H H1 H2 : Hp} (a : KeepBut p H H1) (b : KeepBut p H1 H2) : KeepBut p H H2 := fun c o n e => b c o n (a c o n e)
theorem KeepBut.put (p : Addr) (H : Hp) (o : HO) : KeepBut p H (upd H p o) := fun b x n e => by
  rw [upd_ne n]
  exact e
theorem KeepBut.same {p : Addr} {H H1 : Hp} (a : Same H H1) : KeepBut p H H1 := fun c o _ e => a c o e
theorem KeepBut.new {p q : Addr} {H H1 : Hp} {o : HO} (a : KeepBut p H H1) (h : H1 q = none) : KeepBut p H (upd H1 q o) := a.trans (.same (same_upd h))
/-! ### the law's draw: [cells, place, rest, seed] -/
structure DrawIs (H : Hp) (p c : Addr) (cells : List Int) (pos rest seed : Int) : Prop where
  hp : H p = some (.lst [.ref c, .int pos, .int rest, .int seed])
  hc : H c = some (.lst (cells.map V.int))
  nn : ∀ x ∈ cells, 0 ≤ x
  po : -1 ≤ pos
  re : 0 ≤ rest
  s0 : 0 ≤ seed
  s1 : seed < 2147483647
def DrawAt (H : Hp) (p : Addr) : Prop := ∃ c cells pos rest seed, DrawIs H p c cells pos rest seed
theorem DrawIs.ne {H : Hp} {p c : Addr} {cells : List Int} {pos rest seed : Int} (D : DrawIs H p c cells pos rest seed) : c ≠ p := ne_of D.hc D.hp (by
  intro z
  cases cells with
  | nil => cases z
  | cons x r => cases z)
theorem DrawIs.put {H : Hp} {p c : Addr} {cells : List Int} {pos rest seed pos' rest' seed' : Int} (D : DrawIs H p c cells pos rest seed) (h1 : -1 ≤ pos') (h2 : 0 ≤ rest') (h3 : 0 ≤ seed') (h4 : seed' < 2147483647) :
    DrawIs (upd H p (.lst [.ref c, .int pos', .int rest', .int seed'])) p c cells pos' rest' seed' :=
  ⟨upd_same, by rw [upd_ne D.ne]; exact D.hc, D.nn, h1, h2, h3, h4⟩
theorem DrawIs.keep {H H' : Hp} {p c : Addr} {cells : List Int} {pos rest seed : Int} (D : DrawIs H p c cells pos rest seed) (k : Same H H') : DrawIs H' p c cells pos rest seed :=
  ⟨k _ _ D.hp, k _ _ D.hc, D.nn, D.po, D.re, D.s0, D.s1⟩
theorem DrawAt.keep {H H' : Hp} {p : Addr} (D : DrawAt H p) (k : Same H H') : DrawAt H' p := by
  obtain ⟨c, cells, pos, rest, seed, d⟩ := D
  exact ⟨c, cells, pos, rest, seed, d.keep k⟩
theorem DrawAt.some {H : Hp} {p : Addr} (D : DrawAt H p) : ∃ o, H p = some o := by
  obtain ⟨c, cells, pos, rest, seed, d⟩ := D
  exact ⟨_, d.hp⟩
theorem DrawAt.upd {H : Hp} {p q : Addr} {o : HO} (D : DrawAt H p) (h : H q = none) : DrawAt (upd H q o) p := D.keep (same_upd h)
/-! ### numbers -/
theorem int_nat {i : Int} (h : 0 ≤ i) : ∃ n : Nat, i = (n : Int) := ⟨i.toNat, by omega⟩
theorem fmod_lo {a b : Int} (h : 0 < b) : 0 ≤ a.fmod b := Int.fmod_nonneg_of_pos a h
theorem fmod_hi {a b : Int} (h : 0 < b) : a.fmod b < b := Int.fmod_lt_of_pos a h
theorem fmod_e {a b : Int} (h : 0 < b) : a.fmod b = a % b := Int.fmod_eq_emod_of_nonneg a (by omega)
theorem div_lo {a b : Int} (h : 0 ≤ a) (hb : 0 < b) : 0 ≤ a / b := Int.ediv_nonneg h (by omega)
end My
namespace My
open PySem PySem.Spec PyProof.Rows L2
/-! ### a written tuple of the top -/
theorem rel_abs : ∀ {u : Value} {x : V}, absV u = some x → RelV x u
  | .none, _, h => by cases h; rfl
  | .bool _, _, h => by cases h; rfl
  | .int _ t, _, h => by cases h; exact ⟨t, rfl⟩
  | .str _ t, _, h => by cases h; exact ⟨t, rfl⟩
  | .bytes _ t, _, h => by cases h; exact ⟨t, rfl⟩
  | .float _ t, _, h => by cases h; exact ⟨t, rfl⟩
  | .ref _, _, h => by cases h; rfl
  | .type _, _, h => by cases h; rfl
theorem vals_abs : ∀ {us : List Value} {xs : List V}, us.mapM absV = some xs → Vals xs us
  | [], xs, h => by
    cases h
    exact .nil
  | u :: us, xs, h => by
    rw [List.mapM_cons] at h
    cases e : absV u with
    | none => rw [e] at h; cases h
    | some x =>
      rw [e] at h
      cases e2 : us.mapM absV with
      | none => rw [e2] at h; cases h
      | some ys =>
        rw [e2] at h
        cases h
        exact .cons (rel_abs e) (vals_abs e2)
theorem sqT_k {K : PySem.W.Frag} {H : Hp} {a : Addr} {d : Option Addr} {its : Array Value} {n : Nat} {sl : Array (Option Value)} {xs : List V} (l : K.lookup a = some ⟨.type "tuple", d, .seq its n, sl⟩) (h : its.toList.mapM absV = some xs) (z : its.size ≤ sizeLine) : SqT K H a xs :=
  .inr ⟨_, its, n, l, rfl, rfl, z, vals_abs h⟩
end My

set_option Elab.async false
set_option linter.all false
set_option maxRecDepth 100000
set_option maxHeartbeats 4000000
/-! all(e for x in xs), any(e for x in xs): the element any expression that gives a truth value, calls of own defs too -/
namespace My
open PySem PySem.Spec PyProof.Rows L2 GxR NdefX GenW
/-- the context of the generator's frame -/
def gcx (X : Cx) (s : Shared) (H : Hp) (A : Around) (N : List Str) (cenv : Env) (fp : List Addr) : Cx :=
  { X with A := A, N := N, s_0 := s, H_0 := H, env := cenv, outer := X.stack, stack := cenv :: X.stack, ex := fp, fn := fun _ => false, calm := true, pn := [], xe := fun _ _ => False }
/-- the names that the element reads of the def around it, with their slots there -/
def Caps (X : Cx) (scope : Scope) : List (Str × Nat) → Prop
  | [] => True
  | p :: r => (X.N[p.2]? = some p.1 ∧ scope.names.lookup p.1 = some .free ∧ (X.env.scope.names.lookup p.1 = some .cell ∨ X.env.scope.names.lookup p.1 = some .free)) ∧ Caps X scope r
def gσ (σ : L2.St) (own : List (Str × Nat)) (v : Option V) : L2.St := v :: own.map fun p => (σ[p.2]?).getD none
def gN (x : Str) (own : List (Str × Nat)) : List Str := x :: own.map (·.1)
theorem caps_at {X : Cx} {scope : Scope} : ∀ {own : List (Str × Nat)} {i : Nat} {p : Str × Nat}, Caps X scope own → own[i]? = some p → X.N[p.2]? = some p.1 ∧ scope.names.lookup p.1 = some .free ∧ (X.env.scope.names.lookup p.1 = some .cell ∨ X.env.scope.names.lookup p.1 = some .free)
  | [], _, _, _, e => by simp at e
  | q :: r, 0, p, h, e => by simp at e; subst e; exact h.1
  | q :: r, i + 1, p, h, e => caps_at (own := r) (i := i) h.2 (by simpa using e)
section
variable {X : Cx} {pins : List (Addr × Obj)} {σ : L2.St} {H : Hp} {s s' : Shared}
/-- the heap as it was -/
theorem inv_same (I : Inv X pins σ H s) (h : s'.heap = s.heap) (ho : s'.os = s.os) (hb : AllBare s'.gens) : Inv X pins σ H s' := by
  obtain ⟨hh, g, d, t, o⟩ := s'
  obtain rfl : hh = s.heap := h
  obtain rfl : o = s.os := ho
  exact I.step (g' := g) (d' := d) (t' := t) (ch := []) (fun _ z => nomatch z) (fun _ _ _ _ _ e _ => e) (fun _ o _ _ _ e _ => ⟨o.slots, e⟩) (fun _ _ _ _ n => n) (fun _ o _ e => ⟨o, e⟩) (fun _ _ e => e) (fun _ _ _ e => e)
    (fun b ps e => ⟨#[], by rw [e]; simp⟩) (fun _ hm => hm) I.hok hb
/-- the frame of the generator begins -/
theorem gen_start {it a : Addr} {go : Obj} {fp : List Addr} {scope : Scope} {x : Str} {own : List (Str × Nat)} {A : Around} {h' : Heap} {bi : Addr} {code : Value} {gg : Array GenState} {tk : Nat}
    (I : Inv X pins σ H s) (hfp : ∀ b ∈ fp, FpOk X pins H b ∧ b < s.heap.objs.size) (S : GenS X.env scope x) (hc : Caps X scope own) (hA : A.handled = none) (hF : A.frames = some (genEnv scope (cloFrom X.env.cells scope.names []) s.heap.objs.size code bi X.env :: X.stack)) (hbi : bi = builtinsNs)
    (hn : h'.Ns s.heap.objs.size fun y => if y = ".0" then some (.ref it) else none) (kp : ∀ b o, s.heap.get? b = some o → (h'.push go).get? b = some o) (hsz : h'.objs.size = s.heap.objs.size + 1) (ha : a = h'.objs.size) (hnc : ∀ v, go.data ≠ .cell v) (hfr : go.isFreed = false) (hg : AllBare gg) :
    Inv (gcx X s H A (gN x own) (genEnv scope (cloFrom X.env.cells scope.names []) s.heap.objs.size code bi X.env) fp) [(a, go)] (gσ σ own none) H { s with gens := gg, toks := tk, heap := h'.push go } := by
  have cm : ∀ {y c}, (cloFrom X.env.cells scope.names []).lookup y = some c → X.env.cells.lookup y = some c := fun {y c} e => clo_cm S.free e
  have okB : (gcx X s H A (gN x own) (genEnv scope (cloFrom X.env.cells scope.names []) s.heap.objs.size code bi X.env) fp).Ok := by
    refine ⟨I.ok.mod, S.kind, I.ok.glob, hbi, Nat.le_refl _, fun y z c e1 e2 => I.ok.inj y z c (cm e1) (cm e2), fun y hy => ?_, fun y c z _ => (by cases z), fun _ => hA, hF, .inr ⟨rfl, rfl⟩, fun b hb => ⟨Nat.ne_of_lt (hfp b hb).2, fun y c e z => (hfp b hb).1.2.2.2.2.1 y c (cm e) z⟩,
      I.bs, Nat.le_trans I.ok.bsz I.sz, fun b o e hb => ?_, fun b hb z => ?_, I.stack, I.stkFree⟩
    · have hy : scope.names.lookup y = some .cell ∨ scope.names.lookup y = some .free := hy
      rcases hy with hy | hy
      · exact absurd rfl (S.cell _ (PySem.mem_of_lookup hy))
      · obtain ⟨c, e⟩ := S.free _ (PySem.mem_of_lookup hy) rfl
        exact ⟨c, clo_has S.free (PySem.mem_of_lookup hy) e⟩
    · rcases (hfp b hb).1.2.2.2.1 with z | z
      · exact I.ok.noex b o e z
      · exact absurd (Nat.lt_of_lt_of_le (Heap.lt_size e) (Nat.le_trans I.ok.bsz z)) (Nat.lt_irrefl _)
    · rcases List.mem_cons.mp (I.stkSub b z) with z | z
      · exact (hfp b hb).1.2.1 z
      · exact (hfp b hb).1.2.2.1 z
  refine ⟨okB, rfl, hg, Un.kept kp, ⟨_, hn.push _, fun i y v e1 e2 _ => ?_⟩, fun y c e => ?_, I.hok.fresh (Nat.le_refl _), fun y c e => I.freeC y c (cm e), fun p hp => ?_, I.hok.kept kp, ?_⟩
  · cases i with
    | zero => cases e2
    | succ i =>
      have e1 : (own.map (·.1))[i]? = some y := e1
      have e2 : (own.map fun p => (σ[p.2]?).getD none)[i]? = some (some v) := e2
      rw [List.getElem?_map] at e1 e2
      cases q : own[i]? with
      | none => rw [q] at e1; cases e1
      | some p =>
        rw [q] at e1 e2
        cases e1
        obtain ⟨hN, hf, hk⟩ := caps_at hc q
        have e3 : σ[p.2]? = some (some v) := by
          have e2 : some ((σ[p.2]?).getD none) = some (some v) := e2
          cases r : σ[p.2]? with
          | none => rw [r] at e2; cases e2
          | some u => rw [r] at e2; exact e2
        obtain ⟨m, _, hl⟩ := I.loc
        obtain ⟨u, r, lk⟩ := hl p.2 p.1 v hN e3 (.inr hk)
        refine ⟨u, r, .inr ⟨.inr hf, ?_⟩⟩
        rcases lk with ⟨k, _⟩ | ⟨_, c, e, o, ho, hd⟩
        · have k : X.env.scope.names.lookup p.1 = some .local := k
          rcases hk with hk | hk <;> (rw [hk] at k; cases k)
        · exact ⟨c, clo_has S.free (PySem.mem_of_lookup hf) e, o, kp c o ho, hd⟩
  · obtain ⟨v, o, ho, hd⟩ := I.cell y c (cm e)
    exact ⟨v, o, kp c o ho, hd⟩
  · have hp : p = (a, go) := by simpa [gcx] using hp
    subst hp
    refine ⟨?_, I.hok.fresh (by rw [ha, hsz]; exact Nat.le_succ _), ?_, fun z => ?_, hnc⟩
    · show (h'.push go).get? a = some go
      rw [ha]
      exact Heap.get?_push_size _ hfr
    · show a ≠ s.heap.objs.size
      rw [ha, hsz]
      exact Nat.succ_ne_self _
    · have hlt : ∀ b, b ∈ frs X.stack → b < s.heap.objs.size := fun b hb => by
        rcases List.mem_cons.mp (I.stkSub b hb) with y | y
        · rw [y]; exact I.lt
        · by_cases q : b < s.heap.objs.size
          · exact q
          · exact absurd y (I.nofs (Nat.le_of_not_lt q))
      have q := hlt a z
      rw [ha, hsz] at q
      exact absurd q (Nat.not_lt.mpr (Nat.le_succ _))
  · simp [gσ, gN, gcx]
end

theorem bne_of : ∀ {a b : Bool}, ¬ a = b → a = !b
  | true, true, h => absurd rfl h
  | true, false, _ => rfl
  | false, true, _ => rfl
  | false, false, h => absurd rfl h
/-! ### the generator's turns -/
section
variable {X : Cx} {al : Bool} {W : Nat → Nat → Hp → Prop} {QF : V → Hp → Prop}
/-- what a turn hands out: the answer is settled, or it goes on -/
def YAll (X' : Cx) (pn : List (Addr × Obj)) (al : Bool) (QF : V → Hp → Prop) : Protocol := fun _ _ v s kap =>
  ∃ σ H, Inv X' pn σ H s ∧ ((v = .bool (!al) ∧ QF (.bl (!al)) H) ∨ (v = .bool al ∧ ∀ s', s'.heap = s.heap → s'.os = s.os → AllBare s'.gens → kap (.send .none) s'))
def PAll (X' : Cx) (pn : List (Addr × Obj)) (al : Bool) (QF : V → Hp → Prop) (_ : Nat) (_ s : Shared) : Prop := ∃ σ H, Inv X' pn σ H s ∧ QF (.bl al) H
/-- one turn of the reading -/
def TAll (σ : L2.St) (own : List (Str × Nat)) (te : TE) (al : Bool) (J : It) (W : Nat → Nat → Hp → Prop) (QF : V → Hp → Prop) : Prop := ∀ i m H, W i m H →
  (J.stop i H ∧ QF (.bl al) H) ∨ (J.go i H ∧ ∃ Nx : Hp → Prop, (∀ H', Nx H' → ∃ m', m' < m ∧ W (i + 1) m' H') ∧ ∀ v H', J.yld i H v H' → te (gσ σ own (some v)) H' fun y H2 => ∃ b, y = .bl b ∧ if b = al then Nx H2 else QF (.bl (!al)) H2)
theorem seg_all {A : Around} {elt iter : Expr} {x : Str} {px gpos : Pos} {scope : Scope} {cenv : Env} {s₁ : Shared} {H₁ : Hp} {own : List (Str × Nat)} {fp : List Addr} {it : Addr} {a : Addr} {go : Obj} {J : It} {tn : Nat → Heap → Prop} {σ : L2.St} {te : TE}
    (hsc : cenv.scope = scope) (hx : scope.names.lookup x = some .local) (hco : scope.isCoroutine = false) (hnd : (gN x own).Nodup) (haf : ∀ b ∈ fp, a ≠ b)
    (T : Turn X.prog X.w X.K (.Name x px) J fp it tn)
    (he : PE (gcx X s₁ H₁ (A.over (.compLoop (.GeneratorExp elt [⟨.Name x px, iter, [], 0⟩] scope gpos) 0 (.ref it) .none cenv) []) (gN x own) cenv fp) elt te)
    (turn : TAll σ own te al J W QF) : ∀ (m n i : Nat) (s₀ s : Shared) (H : Hp) (v₀ : Option V), m < n →
      Inv (gcx X s₁ H₁ (A.over (.compLoop (.GeneratorExp elt [⟨.Name x px, iter, [], 0⟩] scope gpos) 0 (.ref it) .none cenv) []) (gN x own) cenv fp) [(a, go)] (gσ σ own v₀) H s → tn i s.heap → (∀ b ∈ fp, H b = none) → W i m H →
      Seg (model X.prog X.w) A (fun n s₀ r s₂ => r = .ok .next ∧ PAll (gcx X s₁ H₁ (A.over (.compLoop (.GeneratorExp elt [⟨.Name x px, iter, [], 0⟩] scope gpos) 0 (.ref it) .none cenv) []) (gN x own) cenv fp) [(a, go)] al QF n s₀ s₂)
        (YAll (gcx X s₁ H₁ (A.over (.compLoop (.GeneratorExp elt [⟨.Name x px, iter, [], 0⟩] scope gpos) 0 (.ref it) .none cenv) []) (gN x own) cenv fp) [(a, go)] al QF) n s₀
        (.compLoop (.GeneratorExp elt [⟨.Name x px, iter, [], 0⟩] scope gpos) 0 (.ref it) .none cenv)
        ((model X.prog X.w).den (.compLoop (.GeneratorExp elt [⟨.Name x px, iter, [], 0⟩] scope gpos) 0 (.ref it) .none cenv)) [] s := by
  generalize hcd : (Code.compLoop (.GeneratorExp elt [⟨.Name x px, iter, [], 0⟩] scope gpos) 0 (.ref it) .none cenv) = cd at *
  have hcalm : ∀ (Y : Cx), (gcx X s₁ H₁ (A.over cd []) (gN x own) cenv fp).calm = true := fun _ => rfl
  intro m
  induction m using Nat.strongRecOn with
  | _ m ih =>
    intro n i s₀ s H v₀ hmn I st hfn w
    have stat : ∀ {σ' : L2.St} {H' : Hp} {s' : Shared}, Inv (gcx X s₁ H₁ (A.over cd []) (gN x own) cenv fp) [(a, go)] σ' H' s' → (∀ b ∈ fp, H' b = none) → ∀ b ∈ fp, FpOk (gcx X s₁ H₁ (A.over cd []) (gN x own) cenv fp) [(a, go)] H' b := fun {σ' H' s'} I' hn b hb =>
      ⟨hn b hb, (I'.ok.exf b hb).1, I'.ok.exfs b hb, .inl hb, fun x c e => (I'.ok.exf b hb).2 x c e, fun p hp => by
        have hp : p = (a, go) := by simpa [gcx] using hp
        rw [hp]
        exact haf b hb⟩
    have den : (model X.prog X.w).den cd = (compTurn (.GeneratorExp elt [⟨.Name x px, iter, [], 0⟩] scope gpos) 0 (.ref it) .none cenv).onRaise (leaving cenv) := by rw [← hcd]; rfl
    rw [den, compTurn_gen, Sem.onRaise_eq_wrap, hcd]
    refine seg_bind_wrap (wpAny_standAt ?_)
    rcases turn i m H w with ⟨stop, qq⟩ | ⟨gg, Nx, hNx, step⟩
    · refine seg_bind_wrap (thnF (T.done (gcx X s₁ H₁ (A.over cd []) (gN x own) cenv fp) rfl rfl rfl rfl i [(a, go)] s _ H (fun _ _ => False) I (stat I hfn) st stop) fun r s2 ⟨hr, I2⟩ => ?_)
      subst hr
      exact seg_end (.ok .next) ⟨rfl, _, H, I2, qq⟩
    · refine seg_bind_wrap (thnF (T.item (gcx X s₁ H₁ (A.over cd []) (gN x own) cenv fp) rfl rfl rfl rfl i [(a, go)] s _ H (fun _ _ => False) I (stat I hfn) st gg) fun r s2 ⟨u, hr, h2⟩ => ?_)
      subst hr
      refine seg_bind_wrap (thnF h2 fun _ s3 ⟨v, H3, I3, r3, y3, st3, n3⟩ => ?_)
      have I3' := I3.pinned (stat I3 n3) (T.obj _ _ st3)
      have hsx : cenv.scope.names.lookup x = some .local := by rw [hsc]; exact hx
      refine seg_bind_wrap (wpAny_assign_Name (store_ok (i := 0) (x := x) I3' hnd rfl (.inl hsx) r3 (fun s4 I4 => ?_) (.inr hsx)))
      have I4 : Inv (gcx X s₁ H₁ (A.over cd []) (gN x own) cenv fp) ([(a, go)] ++ pinsAt fp s3.heap) (gσ σ own (some v)) H3 s4 := I4
      refine seg_bind_wrap (wpAny_tests_nil ?_)
      simp only [if_true]
      have hy : ∀ v, yieldOut cenv v = yieldValue v := fun v => by simp only [yieldOut, hsc, hco, Bool.false_eq_true, if_false]
      simp only [hy]
      rw [Sem.bind_eq_wrap', Sem.bind_eq_wrap', Sem.wrap_wrap, Sem.wrap_wrap]
      refine seg_wrap (thnF (he.run _ s4 _ H3 _ I4 (step v H3 y3)) fun y s5 ⟨z, H5, I5, r5, b, hz, q5⟩ => ?_)
      subst hz
      obtain rfl : y = .bool b := r5
      obtain ⟨k, rfl⟩ : ∃ k, n = k + 1 := ⟨n - 1, by omega⟩
      refine seg_at (seg_yield rfl rfl rfl ⟨_, H5, I5.unpinned, ?_⟩)
      by_cases hb : b = al
      · subst hb
        rw [if_pos rfl] at q5
        obtain ⟨m', hm', w'⟩ := hNx H5 q5
        refine .inr ⟨rfl, fun s6 e6 o6 b6 => ?_⟩
        have pin' : ∀ b ∈ fp, ∀ o, s3.heap.get? b = some o → s5.heap.get? b = some o ∧ H5 b = none := fun b hb o e =>
          let z := I5.pin (b, o) (List.mem_append_right _ (List.mem_append_right _ (mem_pinsAt hb e)))
          ⟨z.1, z.2.1⟩
        refine seg_again (c' := cd) (by rw [← hcd]; rfl) (ih m' hm' k (i + 1) _ s6 H5 (some v) (by omega) (inv_same I5.unpinned e6 o6 b6) (T.keep _ _ _ st3 fun b hb o e => by rw [e6]; exact (pin' b hb o e).1) (fun b hb => ?_) w')
        obtain ⟨o, e, _⟩ := T.obj _ _ st3 b hb
        exact (pin' b hb o e).2
      · rw [if_neg hb] at q5
        have e : b = !al := bne_of hb
        exact .inl ⟨by rw [e], q5⟩
end
end My

set_option Elab.async false
set_option linter.all false
set_option maxRecDepth 100000
set_option maxHeartbeats 4000000
namespace My
open PySem PySem.Spec PyProof.Rows L2 GxR NdefX GenW
section
variable {Y : Cx} {QF : V → Hp → Prop} {a : Addr} {go : Obj} {g : Nat} {A0 : Around} {Re : Result → Shared → Prop}
theorem pull_all {al : Bool} {n : Nat} {s : Shared} {gs : GenState} {Q : Option Value → Shared → Prop} {E : Value → Shared → Prop} (hh : A0.handled = none) (hroom : A0.depth < recursionLimit) (hgen : ∀ h : Heap, h.get? a = some go → h.IsGen a g)
    (hgs : s.gens[g]? = some gs) (hI : ∃ σ H, Inv Y [(a, go)] σ H s)
    (hgo : gs.Goes (model Y.prog Y.w) A0.in1 (fun n s₀ r s₁ => r = .ok .next ∧ PAll Y [(a, go)] al QF n s₀ s₁) (YAll Y [(a, go)] al QF) n (.send .none) (s.setGen g .running))
    (hN : ∀ σ H s', Inv Y [(a, go)] σ H s' → QF (.bl al) H → Q none s') (hS : ∀ σ H s', Inv Y [(a, go)] σ H s' → QF (.bl (!al)) H → Q (some (.bool (!al))) s')
    (hG : ∀ m gs' s', n = m + 1 → s'.gens[g]? = some gs' → (∃ σ H, Inv Y [(a, go)] σ H s') →
      gs'.Goes (model Y.prog Y.w) A0.in1 (fun n s₀ r s₁ => r = .ok .next ∧ PAll Y [(a, go)] al QF n s₀ s₁) (YAll Y [(a, go)] al QF) m (.send .none) (s'.setGen g .running) → Q (some (.bool al)) s') :
    wpAny (model Y.prog Y.w) A0 (pyNext (.ref a)) Q E s := by
  obtain ⟨σ, H, I⟩ := hI
  have hlt : g + 1 ≤ s.gens.size := by
    obtain ⟨h, _⟩ := Array.getElem?_eq_some_iff.mp hgs
    exact h
  refine wpAny_gsz hlt ?_
  refine wpAny_pyNext_genexpQ (P := PAll Y [(a, go)] al QF) hh I.nolimit hroom (hgen _ (I.pin (a, go) (List.mem_append_right _ List.mem_cons_self)).1) hgs hgo (fun v s₁ gs' hb hy => ?_) (fun s₁ hp h' hk => ?_)
  · intro hz
    obtain ⟨σ1, H1, I1, hv⟩ := hy
    have I2 : Inv Y [(a, go)] σ1 H1 (s₁.setGen g gs') := inv_same I1 rfl rfl (allBare_setGen I1.bare hb)
    rcases hv with ⟨rfl, q⟩ | ⟨rfl, kap⟩
    · exact hS _ _ _ I2 q
    · have e := kap ((s₁.setGen g gs').setGen g .running) rfl rfl (allBare_setGen I2.bare rfl)
      cases n with
      | zero => exact e.elim
      | succ m =>
        have hz' : g < s₁.gens.size := by
          rw [setGen_size] at hz
          exact hz
        exact hG m gs' _ rfl (setGen_at hz') ⟨_, _, I2⟩ e
  · intro _
    obtain ⟨σ1, H1, I1, q⟩ := hp
    exact hN σ1 H1 _ ((inv_same (s' := s₁.setGen g .finished) I1 rfl rfl (allBare_setGen I1.bare rfl)).kept (t' := s₁.toks) hk) q
theorem all_turns (hh : A0.handled = none) (hroom : A0.depth < recursionLimit) (hgen : ∀ h : Heap, h.get? a = some go → h.IsGen a g)
    (hR : ∀ σ H b s, Inv Y [(a, go)] σ H s → QF (.bl b) H → Re (.ok (.ret (.bool b))) s) : ∀ (n : Nat) (s : Shared) (gs : GenState), s.gens[g]? = some gs → (∃ σ H, Inv Y [(a, go)] σ H s) →
      gs.Goes (model Y.prog Y.w) A0.in1.in1 (fun n s₀ r s₁ => r = .ok .next ∧ PAll Y [(a, go)] true QF n s₀ s₁) (YAll Y [(a, go)] true QF) n (.send .none) (s.setGen g .running) →
      codeAny (model Y.prog Y.w) A0 (.builtin "all.loop" ⟨[.ref a], []⟩) Re s := by
  intro n
  induction n with
  | zero =>
    intro s gs hgs hI hgo
    refine codeAny_builtin F.entry_all_loop ?_
    rw [Around.under_plainId F.plain_all_loop _]
    show wpAny _ A0.in1 (pyNext (.ref a) >>= _) _ _ s
    refine wpAny_bind (pull_all (A0 := A0.in1) hh hroom hgen hgs hI hgo (fun σ H s' I q => ?_) (fun σ H s' I q => ?_) fun m gs' s' e _ _ _ => ?_)
    · exact wpAny_bind (wpAny_rule (wpAny_pure (hR σ H true s' I q)))
    · refine wpAny_bind (wpAny_holding (wpAny_truthy_bool ?_))
      refine wpAny_bind (wpAny_letGo ?_)
      exact wpAny_bind (wpAny_rule (wpAny_pure (hR σ H false s' I q)))
    · cases e
  | succ n ih =>
    intro s gs hgs hI hgo
    refine codeAny_builtin F.entry_all_loop ?_
    rw [Around.under_plainId F.plain_all_loop _]
    show wpAny _ A0.in1 (pyNext (.ref a) >>= _) _ _ s
    refine wpAny_bind (pull_all (A0 := A0.in1) hh hroom hgen hgs hI hgo (fun σ H s' I q => ?_) (fun σ H s' I q => ?_) fun m gs' s' e h1 h2 h3 => ?_)
    · exact wpAny_bind (wpAny_rule (wpAny_pure (hR σ H true s' I q)))
    · refine wpAny_bind (wpAny_holding (wpAny_truthy_bool ?_))
      refine wpAny_bind (wpAny_letGo ?_)
      exact wpAny_bind (wpAny_rule (wpAny_pure (hR σ H false s' I q)))
    · obtain rfl : n = m := Nat.succ.inj e
      refine wpAny_bind (wpAny_holding (wpAny_truthy_bool ?_))
      refine wpAny_bind (wpAny_letGo ?_)
      exact wpAny_pure ⟨plainId_quiet F.plain_all_loop _, ih s' gs' h1 h2 h3⟩
theorem any_turns (hh : A0.handled = none) (hroom : A0.depth < recursionLimit) (hgen : ∀ h : Heap, h.get? a = some go → h.IsGen a g)
    (hR : ∀ σ H b s, Inv Y [(a, go)] σ H s → QF (.bl b) H → Re (.ok (.ret (.bool b))) s) : ∀ (n : Nat) (s : Shared) (gs : GenState), s.gens[g]? = some gs → (∃ σ H, Inv Y [(a, go)] σ H s) →
      gs.Goes (model Y.prog Y.w) A0.in1.in1 (fun n s₀ r s₁ => r = .ok .next ∧ PAll Y [(a, go)] false QF n s₀ s₁) (YAll Y [(a, go)] false QF) n (.send .none) (s.setGen g .running) →
      codeAny (model Y.prog Y.w) A0 (.builtin "any.loop" ⟨[.ref a], []⟩) Re s := by
  intro n
  induction n with
  | zero =>
    intro s gs hgs hI hgo
    refine codeAny_builtin F.entry_any_loop ?_
    rw [Around.under_plainId F.plain_any_loop _]
    show wpAny _ A0.in1 (pyNext (.ref a) >>= _) _ _ s
    refine wpAny_bind (pull_all (A0 := A0.in1) hh hroom hgen hgs hI hgo (fun σ H s' I q => ?_) (fun σ H s' I q => ?_) fun m gs' s' e _ _ _ => ?_)
    · exact wpAny_bind (wpAny_rule (wpAny_pure (hR σ H false s' I q)))
    · refine wpAny_bind (wpAny_holding (wpAny_truthy_bool ?_))
      refine wpAny_bind (wpAny_letGo ?_)
      exact wpAny_bind (wpAny_rule (wpAny_pure (hR σ H true s' I q)))
    · cases e
  | succ n ih =>
    intro s gs hgs hI hgo
    refine codeAny_builtin F.entry_any_loop ?_
    rw [Around.under_plainId F.plain_any_loop _]
    show wpAny _ A0.in1 (pyNext (.ref a) >>= _) _ _ s
    refine wpAny_bind (pull_all (A0 := A0.in1) hh hroom hgen hgs hI hgo (fun σ H s' I q => ?_) (fun σ H s' I q => ?_) fun m gs' s' e h1 h2 h3 => ?_)
    · exact wpAny_bind (wpAny_rule (wpAny_pure (hR σ H false s' I q)))
    · refine wpAny_bind (wpAny_holding (wpAny_truthy_bool ?_))
      refine wpAny_bind (wpAny_letGo ?_)
      exact wpAny_bind (wpAny_rule (wpAny_pure (hR σ H true s' I q)))
    · obtain rfl : n = m := Nat.succ.inj e
      refine wpAny_bind (wpAny_holding (wpAny_truthy_bool ?_))
      refine wpAny_bind (wpAny_letGo ?_)
      exact wpAny_pure ⟨plainId_quiet F.plain_any_loop _, ih s' gs' h1 h2 h3⟩
end
end My

set_option Elab.async false
set_option linter.all false
set_option maxRecDepth 100000
set_option maxHeartbeats 4000000
namespace My
open PySem PySem.Spec PyProof.Rows L2 GxR NdefX GenW
/-- all(e for x in ..): P the def's table of code objects; W by the turn and a measure -/
def tGen (al : Bool) (P : Addr) (wi : TI) (own : List (Str × Nat)) (te : TE) : TE := fun σ H Q => wi σ H fun J H1 => TabG H1 P ∧ ∀ H2, Tabbed P H1 H2 → ∃ W : Nat → Nat → Hp → Prop, (∃ m, W 0 m H2) ∧ TAll σ own te al J W Q
/-- the generator's scope is in order -/
def genOk (scope : Scope) (x : Str) : Bool := scope.kind == .function && !scope.isCoroutine && scope.names.all (fun y => y.2 != .cell) && scope.names.lookup (".0" : Str) == some NameKind.local && scope.names.lookup x == some NameKind.local
def freeOk (sc scope : Scope) : Bool := scope.names.all fun y => y.2 != .free || sc.names.lookup y.1 == some NameKind.cell || sc.names.lookup y.1 == some NameKind.free
theorem gens_of {env : Env} {scope : Scope} {x : Str} (h : genOk scope x = true) (hf : freeOk env.scope scope = true) (has : ∀ y, (env.kindOf y = some .cell ∨ env.kindOf y = some .free) → ∃ c, env.cells.lookup y = some c) : GenS env scope x := by
  unfold genOk at h
  simp only [Bool.and_eq_true, beq_iff_eq, Bool.not_eq_true', List.all_eq_true, bne_iff_ne] at h
  obtain ⟨⟨⟨⟨h1, h2⟩, h3⟩, h4⟩, h5⟩ := h
  refine ⟨h1, h2, h3, h4, h5, fun y hy e => ?_⟩
  unfold freeOk at hf
  have q := List.all_eq_true.mp hf y hy
  simp only [Bool.or_eq_true, bne_iff_ne, beq_iff_eq] at q
  refine has y.1 ?_
  rcases q with (q | q) | q
  · exact absurd e q
  · exact .inl q
  · exact .inr q
section
variable {X : Cx} {pins : List (Addr × Obj)} {σ : L2.St} {H : Hp} {s : Shared}
theorem gen_made {al : Bool} {c P : Addr} {elt iter : Expr} {x : Str} {px gpos : Pos} {scope : Scope} {wi : TI} {te : TE} {own : List (Str × Nat)} {k : Nat} {Q : VK} {Q' : Value → Shared → Prop}
    (hr : Room (k + 1) X.A) (hcalm : X.calm = true) (TB : TabB X.base X.mg c P) (hcode : X.env.code = .ref c) (S : GenS X.env scope x) (hc : Caps X scope own) (hnd : (gN x own).Nodup) (hi : PI X (.Name x px) iter wi)
    (he : ∀ (s : Shared) (H : Hp) (A : Around) (cl : List (Str × Addr)) (C : Addr) (code : Value) (bi : Addr) (fp : List Addr), Room k A → PE (gcx X s H A (gN x own) (genEnv scope cl C code bi X.env) fp) elt te)
    (hs : ∀ v, genFold iter X.env v = pure v) (I : Inv X pins σ H s) (h : tGen al P wi own te σ H Q)
    (hQ : ∀ (Y : Cx) (a g : Nat) (go : Obj) (n : Nat) (cs : Code) (s5 : Shared), Y.prog = X.prog → Y.w = X.w → (∀ h : Heap, h.get? a = some go → h.IsGen a g) → s5.gens[g]? = some (.fresh cs) → (∃ σ H, Inv Y [(a, go)] σ H s5) → s5.heap.IsGen a g →
      GenState.Goes (model X.prog X.w) X.A.in1.in1 (fun n s₀ r s₁ => r = .ok .next ∧ PAll Y [(a, go)] al Q n s₀ s₁) (YAll Y [(a, go)] al Q) n (.fresh cs) (.send .none) (s5.setGen g .running) →
      (∀ σ' H' s', Inv Y [(a, go)] σ' H' s' → Inv X pins σ H' s') → Q' (.ref a) s5) :
    wpAny (model X.prog X.w) X.A (eval (.GeneratorExp elt [⟨.Name x px, iter, [], 0⟩] scope gpos) X.env) Q' X.xe s := by
  refine wpAny_GeneratorExp_make S.co (closure_ok S.free) S.cell S.dot S.kind (by have := hr.dp; omega) ?_ hs
  refine thn (hi.run pins s σ H _ I h) fun xv s1 hx => thn hx fun itv s2 h2 => ?_
  obtain ⟨it, fp, tn, J, H2, e, I2, T, st2, f2, ⟨ps, hP, ht⟩, q⟩ := h2
  subst e
  refine ⟨I2.nolimit, ?_⟩
  have hPs : s2.heap.get? P = some { cls := .none, data := .fields ps } := I2.hok P _ hP
  have cd : PySem.W.CodeHd s2.heap c P := TB.code.keeps fun b u e => I2.bk b u e
  have nP : ∀ b ∈ fp, b ≠ P := fun b hb z => by
    have := (f2 b hb).1
    rw [z, hP] at this
    cases this
  have cont : ∀ (code : Value) (s3 : Shared) (H3 : Hp), Inv X pins σ H3 s3 → Tabbed P H2 H3 → (∀ b u, b ≠ P → s2.heap.get? b = some u → s3.heap.get? b = some u) →
      wpAny (model X.prog X.w) X.A (builtinsFor X.env.globals X.env.builtins) (fun bi s₄ =>
        ∀ h', h'.Ns s₄.heap.objs.size (fun y => if y = ".0" then some (.ref it) else none) → Heap.SameBut s₄.heap.objs.size (s₄.heap.push { cls := .type "frame", data := .dict #[] }) h' →
          Q' (.ref h'.objs.size) { s₄ with
            gens := s₄.gens.push (.fresh (.compStart (.GeneratorExp elt [⟨.Name x px, iter, [], 0⟩] scope gpos) 0 (.ref it) .none (genEnv scope (cloFrom X.env.cells scope.names []) s₄.heap.objs.size code bi X.env))),
            toks := s₄.toks + 1 + 1 + 1,
            heap := h'.push { cls := .type "generator", data := .fields #[.int s₄.gens.size 0, .str "<genexpr>" (s₄.toks + 1), .str (X.env.qual ++ "<genexpr>") (s₄.toks + 1 + 1)] } }) X.xe s3 := by
    intro code s3 H3 I3 hT kp3
    obtain ⟨bm, ob, e1, e2, e3, e4, e5, e6, e7, e8⟩ := TB.bm
    refine wpAny_builtinsFor (m := X.mg) (by rw [I3.ok.glob]; exact I3.mod.glob.keeps I3.bk) e1 e2 (I3.bk _ _ e5) e6 e7 e8 ?_
    intro h' hn' hs'
    have keep' : ∀ b o, s3.heap.get? b = some o → h'.get? b = some o := fun b o e => hs'.extBut b o (Nat.ne_of_lt (Heap.lt_size e)) (Heap.get?_push_of_some _ e)
    have hsz : h'.objs.size = s3.heap.objs.size + 1 := by rw [hs'.1, Heap.size_push]
    have ffp : ∀ b ∈ fp, FpOk X pins H3 b ∧ b < s3.heap.objs.size := fun b hb => by
      obtain ⟨o, e, _⟩ := T.obj _ _ st2 b hb
      exact ⟨⟨by rw [hT.2 b (nP b hb)]; exact (f2 b hb).1, (f2 b hb).2⟩, Heap.lt_size (kp3 b o (nP b hb) e)⟩
    have st3 : tn 0 s3.heap := T.keep _ _ _ st2 fun b hb o e => kp3 b o (nP b hb) e
    obtain ⟨W, ⟨m0, w0⟩, turn⟩ := q H3 hT
    generalize hgo : ({ cls := .type "generator", data := .fields #[.int s3.gens.size 0, .str "<genexpr>" (s3.toks + 1), .str (X.env.qual ++ "<genexpr>") (s3.toks + 1 + 1)] } : Obj) = go
    have kp5 : ∀ b o, s3.heap.get? b = some o → (h'.push go).get? b = some o := fun b o e => Heap.get?_push_of_some _ (keep' b o e)
    have hisg : ∀ h : Heap, h.get? h'.objs.size = some go → h.IsGen h'.objs.size s3.gens.size := fun h e => ⟨go, _, _, e, by rw [← hgo], by rw [← hgo], by rw [← hgo]⟩
    have hA : (X.A.in1.in1.over (.compLoop (.GeneratorExp elt [⟨.Name x px, iter, [], 0⟩] scope gpos) 0 (.ref it) .none (genEnv scope (cloFrom X.env.cells scope.names []) s3.heap.objs.size code builtinsNs X.env)) []).frames = some (genEnv scope (cloFrom X.env.cells scope.names []) s3.heap.objs.size code builtinsNs X.env :: X.stack) := by
      show pushEnvs [genEnv scope (cloFrom X.env.cells scope.names []) s3.heap.objs.size code builtinsNs X.env] (pushEnvs [] X.A.frames) = _
      rw [I3.ok.frames]
      rfl
    have hRm : Room k (X.A.in1.in1.over (.compLoop (.GeneratorExp elt [⟨.Name x px, iter, [], 0⟩] scope gpos) 0 (.ref it) .none (genEnv scope (cloFrom X.env.cells scope.names []) s3.heap.objs.size code builtinsNs X.env)) []) := by
      have d := hr.dp
      have u := hr.un
      refine ⟨hr.hd, ?_, ?_⟩
      · show X.A.depth + 0 + 1 + 3 * k + 5 < _
        omega
      · show X.A.units + 1 + 1 + 0 + 3 + 16 * k + 200 < _
        omega
    have I5 := gen_start (it := it) (a := h'.objs.size) (go := go) (fp := fp) (own := own) (A := X.A.in1.in1.over (.compLoop (.GeneratorExp elt [⟨.Name x px, iter, [], 0⟩] scope gpos) 0 (.ref it) .none (genEnv scope (cloFrom X.env.cells scope.names []) s3.heap.objs.size code builtinsNs X.env)) [])
      (gg := s3.gens.push (.fresh (.compStart (.GeneratorExp elt [⟨.Name x px, iter, [], 0⟩] scope gpos) 0 (.ref it) .none (genEnv scope (cloFrom X.env.cells scope.names []) s3.heap.objs.size code builtinsNs X.env)))) (tk := s3.toks + 1 + 1 + 1)
      I3 ffp S hc hr.hd hA rfl hn' kp5 hsz rfl (fun v z => by rw [← hgo] at z; cases z) (by rw [← hgo]; rfl) (I3.bare.push rfl)
    have haf : ∀ b ∈ fp, h'.objs.size ≠ b := fun b hb z => by
      have := (ffp b hb).2
      rw [← z, hsz] at this
      exact absurd this (Nat.not_lt.mpr (Nat.le_succ _))
    refine hQ (gcx X s3 H3 (X.A.in1.in1.over (.compLoop (.GeneratorExp elt [⟨.Name x px, iter, [], 0⟩] scope gpos) 0 (.ref it) .none (genEnv scope (cloFrom X.env.cells scope.names []) s3.heap.objs.size code builtinsNs X.env)) []) (gN x own) (genEnv scope (cloFrom X.env.cells scope.names []) s3.heap.objs.size code builtinsNs X.env) fp) h'.objs.size s3.gens.size go (m0 + 1) _ _ rfl rfl hisg (Array.getElem?_push_size ..) ⟨_, _, I5⟩ (hisg _ (Heap.get?_push_size _ (by rw [← hgo]; rfl))) ⟨rfl, ?_⟩ (fun σ' H' s' I6 => ?_)
    · have loop := seg_all (X := X) (A := X.A.in1.in1) (al := al) (W := W) (QF := Q) (elt := elt) (iter := iter) (x := x) (px := px) (gpos := gpos) (scope := scope) (cenv := genEnv scope (cloFrom X.env.cells scope.names []) s3.heap.objs.size code builtinsNs X.env)
        (s₁ := s3) (H₁ := H3) (own := own) (fp := fp) (it := it) (a := h'.objs.size) (go := go) (J := J) (tn := tn) (σ := σ) (te := te) rfl S.loc S.co hnd haf T (he _ _ _ _ _ _ _ _ hRm) turn m0 (m0 + 1) 0
      have st5 : tn 0 (h'.push go) := T.keep _ _ _ st3 fun b _ o e => kp5 b o e
      have nf5 : ∀ b ∈ fp, H3 b = none := fun b hb => (ffp b hb).1.1
      generalize hs5 : ({ s3 with gens := s3.gens.push (.fresh (.compStart (.GeneratorExp elt [⟨.Name x px, iter, [], 0⟩] scope gpos) 0 (.ref it) .none (genEnv scope (cloFrom X.env.cells scope.names []) s3.heap.objs.size code builtinsNs X.env))), toks := s3.toks + 1 + 1 + 1, heap := h'.push go } : Shared) = s5 at I5 ⊢
      have h5 : s5.heap = h'.push go := by rw [← hs5]
      have I5' := inv_same (s' := s5.setGen s3.gens.size .running) I5 rfl rfl (allBare_setGen I5.bare rfl)
      have lp := loop (s5.setGen s3.gens.size .running) (s5.setGen s3.gens.size .running) H3 none (Nat.lt_succ_self _) I5' (by show tn 0 s5.heap; rw [h5]; exact st5) nf5 w0
      show Seg _ _ _ _ _ _ _ ((compStart (.GeneratorExp elt [⟨.Name x px, iter, [], 0⟩] scope gpos) 0 (.ref it) .none (genEnv scope (cloFrom X.env.cells scope.names []) s3.heap.objs.size code builtinsNs X.env)).onRaise (leaving (genEnv scope (cloFrom X.env.cells scope.names []) s3.heap.objs.size code builtinsNs X.env))) [] _
      unfold compStart
      rw [Sem.onRaise_eq_wrap]
      show Seg _ _ _ _ _ _ _ ((ask >>= _).wrap _ _ _ _) [] _
      refine seg_bind_wrap (wpAny_askSetting ?_)
      have slf : tn 0 (s5.setGen s3.gens.size .running).heap := by
        show tn 0 s5.heap
        rw [h5]
        exact st5
      split
      · exact seg_again rfl lp
      · first
          | exact seg_bind_wrap (wpAny_rule (seg_bind_wrap (wpAny_standAt (seg_bind_wrap (T.self _ 0 _ _ _ slf (seg_again rfl lp))))))
          | (refine seg_bind_wrap (wpAny_rule ?_); show Seg _ _ _ _ _ _ _ ((standAt iter.pos >>= _).wrap _ _ _ _) [] _; exact seg_bind_wrap (wpAny_standAt (seg_bind_wrap (T.self _ 0 _ _ _ slf (seg_again rfl lp)))))
    · exact I3.call' (ch := fp) I6.os I6.base I6.hok I6.bare fun b hb => ⟨(ffp b hb).1.2.2.2.1, (ffp b hb).1.2.1, (ffp b hb).1.2.2.2.2.1, (ffp b hb).1.2.2.2.2.2⟩
  cases hf : codeAmong gpos ps.toList with
  | none =>
    refine wpAny_genexprCodeX hcode (cd.code hPs ht) (cd.tab hPs) hf fun c' h3 tk hx hge hlt hco' _ htab' _ => ?_
    obtain ⟨o1, vs, f1, tf, fl, tg, inF, tx, tt, op, _, _, _, _, _, _, _, _, _, htr, _⟩ := hco'
    have I3 := inv_tab (g' := s2.gens) (d' := s2.drawn) (t' := tk) I2 hP (fun b o hb e => hx b o hb e) htab'.2 I2.bare
    exact cont _ _ _ I3 ⟨⟨_, upd_same, htr⟩, fun b hb => upd_ne hb⟩ fun b u hb e => hx b u hb e
  | some cv =>
    refine wpAny_genexprCode_hit hcode (cd.code hPs ht) hf ?_
    exact cont cv s2 H2 I2 ⟨⟨ps, hP, ht⟩, fun _ _ => rfl⟩ fun _ _ _ e => e
theorem pe_allG {c P : Addr} {elt iter : Expr} {x : Str} {px p pos gpos : Pos} {scope : Scope} {wi : TI} {te : TE} (own : List (Str × Nat)) {k : Nat}
    (hr : Room (k + 1) X.A) (hg : Gl X "all") (hm : X.mg "all" = none) (TB : TabB X.base X.mg c P) (hcode : X.env.code = .ref c) (gk : genOk scope x = true) (fk : freeOk X.env.scope scope = true) (hc : Caps X scope own) (hnd : (gN x own).Nodup) (hcalm : X.calm = true) (hi : PI X (.Name x px) iter wi)
    (he : ∀ (s : Shared) (H : Hp) (A : Around) (cl : List (Str × Addr)) (C : Addr) (code : Value) (bi : Addr) (fp : List Addr), Room k A → PE (gcx X s H A (gN x own) (genEnv scope cl C code bi X.env) fp) elt te)
    (hs : ∀ v, genFold iter X.env v = pure v := by intro _; rfl)
    (hE : starEach [.GeneratorExp elt [⟨.Name x px, iter, [], 0⟩] scope gpos] X.env = (false, eval (.GeneratorExp elt [⟨.Name x px, iter, [], 0⟩] scope gpos) X.env) :: starEach [] X.env := by rfl) :
    PE X (.Call (.Name "all" p) [.GeneratorExp elt [⟨.Name x px, iter, [], 0⟩] scope gpos] [] pos) (tGen true P wi own te) := by
  refine ⟨fun pins s σ H Q I h => ?_⟩
  refine wpAny_Call_Name_kw (ld_blt I hg hm (by decide +kernel : bootBuiltins "all" = some (.builtin "all")) ?_)
  refine PyProof.Rows.callWith_builtin1 ?_ hE (by rfl)
  rw [hE]
  show wpAny _ _ (spliced ((false, eval (.GeneratorExp elt [⟨.Name x px, iter, [], 0⟩] scope gpos) X.env) :: backTo pos (starEach [] X.env))) _ _ s
  refine Calls.spliced_cons (gen_made hr hcalm TB hcode (gens_of gk fk I.ok.has) hc hnd hi he hs I h fun Y a g go n cs s5 hp hw hgen hgs hI hisg hgo hback => ?_)
  refine Calls.spliced_nil ?_
  refine call_function_tree F.kind_all F.plain_all F.entry_all (F.args_all1 _) ?_
  unfold Builtin.«all»
  refine wpAny_bind (m := oneArg "all" _) (wpAny_pure ?_)
  refine wpAny_bind (wpAny_pyIter_gen hisg ?_)
  rw [← hp, ← hw] at hgo ⊢
  exact wpAny_pure ⟨plainId_quiet F.plain_all_loop _, all_turns (A0 := X.A) (QF := Q) hr.hd (by have := hr.dp; omega) hgen (fun σ' H' b s6 I6 q => ⟨.bl b, H', hback _ _ _ I6, rfl, q⟩) n s5 _ hgs hI hgo⟩
theorem pe_anyG {c P : Addr} {elt iter : Expr} {x : Str} {px p pos gpos : Pos} {scope : Scope} {wi : TI} {te : TE} (own : List (Str × Nat)) {k : Nat}
    (hr : Room (k + 1) X.A) (hg : Gl X "any") (hm : X.mg "any" = none) (TB : TabB X.base X.mg c P) (hcode : X.env.code = .ref c) (gk : genOk scope x = true) (fk : freeOk X.env.scope scope = true) (hc : Caps X scope own) (hnd : (gN x own).Nodup) (hcalm : X.calm = true) (hi : PI X (.Name x px) iter wi)
    (he : ∀ (s : Shared) (H : Hp) (A : Around) (cl : List (Str × Addr)) (C : Addr) (code : Value) (bi : Addr) (fp : List Addr), Room k A → PE (gcx X s H A (gN x own) (genEnv scope cl C code bi X.env) fp) elt te)
    (hs : ∀ v, genFold iter X.env v = pure v := by intro _; rfl)
    (hE : starEach [.GeneratorExp elt [⟨.Name x px, iter, [], 0⟩] scope gpos] X.env = (false, eval (.GeneratorExp elt [⟨.Name x px, iter, [], 0⟩] scope gpos) X.env) :: starEach [] X.env := by rfl) :
    PE X (.Call (.Name "any" p) [.GeneratorExp elt [⟨.Name x px, iter, [], 0⟩] scope gpos] [] pos) (tGen false P wi own te) := by
  refine ⟨fun pins s σ H Q I h => ?_⟩
  refine wpAny_Call_Name_kw (ld_blt I hg hm (by decide +kernel : bootBuiltins "any" = some (.builtin "any")) ?_)
  refine PyProof.Rows.callWith_builtin1 ?_ hE (by rfl)
  rw [hE]
  show wpAny _ _ (spliced ((false, eval (.GeneratorExp elt [⟨.Name x px, iter, [], 0⟩] scope gpos) X.env) :: backTo pos (starEach [] X.env))) _ _ s
  refine Calls.spliced_cons (gen_made hr hcalm TB hcode (gens_of gk fk I.ok.has) hc hnd hi he hs I h fun Y a g go n cs s5 hp hw hgen hgs hI hisg hgo hback => ?_)
  refine Calls.spliced_nil ?_
  refine call_function_tree F.kind_any F.plain_any F.entry_any (F.args_any1 _) ?_
  unfold Builtin.«any»
  refine wpAny_bind (m := oneArg "any" _) (wpAny_pure ?_)
  refine wpAny_bind (wpAny_pyIter_gen hisg ?_)
  rw [← hp, ← hw] at hgo ⊢
  exact wpAny_pure ⟨plainId_quiet F.plain_any_loop _, any_turns (A0 := X.A) (QF := Q) hr.hd (by have := hr.dp; omega) hgen (fun σ' H' b s6 I6 q => ⟨.bl b, H', hback _ _ _ I6, rfl, q⟩) n s5 _ hgs hI hgo⟩
end
/-! ### a def whose code object is known -/
structure FunC (K : PySem.W.Frag) (x qual : Str) (st : Stmt) (f : Addr) (fd : FuncData) (c : Addr) : Prop where
  ex : ∃ (oc : Value) (od : Option Addr) (kV doc pm : Value) (an : Option Addr) (ct : Value) (osl : Array (Option Value)),
    fd = PySem.W.fnOf x qual (defArgs st) (defBody st) (defScope st) .none kV doc pm an (.ref c) ct ∧ K.lookup f = some ⟨oc, od, .func fd, osl⟩ ∧ PySem.W.codeIn K (.ref c) qual = true
  kp : PySem.W.keepIn K (.ref f) = true
section
variable {P : Program} {w : World} {K : PySem.W.Frag} {mg : Str → Option Value} {base : Heap}
theorem FunC.fun {x qual : Str} {st : Stmt} {f : Addr} {fd : FuncData} {c : Addr} (F : FunC K x qual st f fd c) : Fun K x qual st f fd :=
  ⟨let ⟨oc, od, kV, doc, pm, an, ct, osl, h⟩ := F.ex; ⟨oc, od, kV, doc, pm, an, .ref c, ct, osl, h⟩, F.kp⟩
theorem FunC.ok {x qual : Str} {st : Stmt} {f : Addr} {fd : FuncData} {c : Addr} {N ps : List Str} {k : Nat} {sp : Sp} (F : FunC K x qual st f fd c) (S : FnScope N ps (defScope st)) (len : ∀ vs H Q E, sp vs H Q E → vs.length = ps.length)
    (hbody : ∀ (A : Around) (outer : List Env) (s : Shared) (H : Hp) (vs : List V) (Q : VK) (E : XK), Room k (A.deeper (envOfC qual (defScope st) s.heap.objs.size f (.ref c))) → sp vs H Q E →
      ∃ t, PSs (cxOf CX0 P w K mg base N qual (defScope st) f (.ref c) A outer s H E).nox (defBody st) t ∧ t { nx := fun _ H' => Q .non H', rt := Q } (start N vs) H) : FnOk P w K mg base CX0 (k + 1) f fd ps sp := by
  obtain ⟨oc, od, kV, doc, pm, an, ct, osl, e, lk, hcd⟩ := F.ex
  cases e
  refine fn_of lk hcd S len fun A outer s H vs Q E hr hsp => ?_
  obtain ⟨t, h, q⟩ := hbody A outer s H vs Q E hr hsp
  exact ⟨t, h.nox, q⟩
theorem func_mk {x qual : Str} {st : Stmt} {f c : Addr} {oc : Value} {od an : Option Addr} {osl : Array (Option Value)} {kV doc pm ct : Value} (l : K.lookup f = some ⟨oc, od, .func (PySem.W.fnOf x qual (defArgs st) (defBody st) (defScope st) .none kV doc pm an (.ref c) ct), osl⟩)
    (h : PySem.W.codeIn K (.ref c) qual = true) (k : PySem.W.keepIn K (.ref f) = true) : FunC K x qual st f (PySem.W.fnOf x qual (defArgs st) (defBody st) (defScope st) .none kV doc pm an (.ref c) ct) c := ⟨⟨oc, od, kV, doc, pm, an, ct, osl, rfl, l, h⟩, k⟩
end
end My

set_option Elab.async false
set_option linter.all false
set_option maxRecDepth 100000
/-! data of ints, texts, truth values, None and tuples; heaps that keep all but some places -/
namespace My
open PySem PySem.Spec PyProof.Rows L2
/-! ### what is kept -/
structure KT (S : List Addr) (H H' : Hp) : Prop where
  kp : ∀ b o, b ∉ S → H b = some o → H' b = some o
  tp : ∀ b xs, H b = some (.tup xs) → H' b = some (.tup xs)
  fz : ∀ b o u, H b = some (.frz o u) → H' b = some (.frz o u)
  th : ∀ b o, H b = some o → ∃ o', H' b = some o'
  hd : ∀ b c t, H b = some (.lst (.ref c :: t)) → ∃ t', H' b = some (.lst (.ref c :: t'))
section
variable {S S' : List Addr} {H H1 H2 H' : Hp} {K : PySem.W.Frag}
theorem KT.refl (S : List Addr) (H : Hp) : KT S H H := ⟨fun _ _ _ e => e, fun _ _ e => e, fun _ _ _ e => e, fun _ o e => ⟨o, e⟩, fun _ _ t e => ⟨t, e⟩⟩
theorem KT.trans (a : KT S H H1) (b : KT S H1 H2) : KT S H H2 :=
  ⟨fun c o n e => b.kp c o n (a.kp c o n e), fun c xs e => b.tp c xs (a.tp c xs e), fun c o u e => b.fz c o u (a.fz c o u e), fun c o e => let ⟨o', e'⟩ := a.th c o e; b.th c o' e', fun c d t e => let ⟨t', e'⟩ := a.hd c d t e; b.hd c d t' e'⟩
theorem KT.mono (a : KT S H H1) (h : ∀ b ∈ S, b ∈ S') : KT S' H H1 := ⟨fun b o n e => a.kp b o (fun z => n (h b z)) e, a.tp, a.fz, a.th, a.hd⟩
theorem KT.new (S : List Addr) {p : Addr} {o : HO} (h : H p = none) : KT S H (upd H p o) :=
  ⟨fun b x _ e => by rw [upd_ne (ne_of_none e h)]; exact e, fun b x e => by rw [upd_ne (ne_of_none e h)]; exact e, fun b x u e => by rw [upd_ne (ne_of_none e h)]; exact e, fun b x e => ⟨x, by rw [upd_ne (ne_of_none e h)]; exact e⟩, fun b c t e => ⟨t, by rw [upd_ne (ne_of_none e h)]; exact e⟩⟩
theorem KT.of_same (a : Same H H1) : KT S H H1 := ⟨fun b o _ e => a b o e, fun b xs e => a b _ e, fun b o u e => a b _ e, fun b o e => ⟨o, a b o e⟩, fun b c t e => ⟨t, a b _ e⟩⟩
/-- a place changes that is no tuple and not locked -/
theorem KT.put {p : Addr} {u o : HO} (hp : p ∈ S) (h : H p = some u) (h1 : ∀ xs, u ≠ .tup xs) (h2 : ∀ o v, u ≠ .frz o v) (h3 : ∀ xs, u ≠ .lst xs) : KT S H (upd H p o) :=
  ⟨fun b x n e => by rw [upd_ne (fun z => n (by rw [z]; exact hp))]; exact e, fun b x e => by
    rw [upd_ne (fun z => by rw [z, h] at e; exact h1 x (Option.some.inj e))]; exact e, fun b x v e => by
    rw [upd_ne (fun z => by rw [z, h] at e; exact h2 x v (Option.some.inj e))]; exact e, fun b x e => by
    by_cases z : b = p
    · exact ⟨o, by rw [z, upd_same]⟩
    · exact ⟨x, by rw [upd_ne z]; exact e⟩, fun b c t e => ⟨t, by rw [upd_ne (fun z => by rw [z, h] at e; exact h3 _ (Option.some.inj e))]; exact e⟩⟩
/-- a place changes that did not stand at the start -/
theorem KT.late {p : Addr} {o : HO} (a : KT S H H1) (h : H p = none) : KT S H (upd H1 p o) :=
  ⟨fun b x n e => by rw [upd_ne (ne_of_none e h)]; exact a.kp b x n e, fun b x e => by rw [upd_ne (ne_of_none e h)]; exact a.tp b x e, fun b x u e => by rw [upd_ne (ne_of_none e h)]; exact a.fz b x u e,
    fun b x e => by rw [upd_ne (ne_of_none e h)]; exact a.th b x e, fun b c t e => by rw [upd_ne (ne_of_none e h)]; exact a.hd b c t e⟩
theorem KT.free (a : KT S H H1) {p : Addr} (h : H1 p = none) : H p = none := by
  cases q : H p with
  | none => rfl
  | some o =>
    obtain ⟨o', e⟩ := a.th p o q
    rw [h] at e
    cases e
theorem KT.tab {P : Addr} (h : GxR.Tabbed P H H1) (t : GxR.TabG H P) (hP : P ∈ S) : KT S H H1 := by
  obtain ⟨ps, e, _⟩ := t
  obtain ⟨⟨ps', e', _⟩, k⟩ := h
  have ne : ∀ b o, H b = some o → (∀ q, o ≠ .tbl q) → b ≠ P := fun b o q n z => by rw [z, e] at q; exact n ps (Option.some.inj q).symm
  refine ⟨fun b o n q => ?_, fun b xs q => ?_, fun b o u q => ?_, fun b o q => ?_, fun b c t q => ⟨t, by rw [k b (ne b _ q (fun _ z => by cases z))]; exact q⟩⟩
  · rw [k b (fun z => n (by rw [z]; exact hP))]; exact q
  · rw [k b (ne b _ q (fun _ z => by cases z))]; exact q
  · rw [k b (ne b _ q (fun _ z => by cases z))]; exact q
  · by_cases z : b = P
    · exact ⟨_, by rw [z]; exact e'⟩
    · exact ⟨o, by rw [k b z]; exact q⟩
theorem KT.sqT (a : KT S H H1) {p : Addr} {xs : List V} (h : SqT K H p xs) : SqT K H1 p xs := by
  rcases h with (h | ⟨o, h⟩) | h
  · exact .inl (.inl (a.tp _ _ h))
  · exact .inl (.inr ⟨o, a.fz _ _ _ h⟩)
  · exact .inr h
theorem KT.sqL (a : KT S H H1) {p : Addr} {xs : List V} (n : p ∉ S) (h : SqL K H p xs) : SqL K H1 p xs := by
  rcases h with (h | ⟨o, h⟩) | h
  · exact .inl (.inl (a.kp _ _ n h))
  · exact .inl (.inr ⟨o, a.fz _ _ _ h⟩)
  · exact .inr h
end
/-! ### data -/
mutual
inductive Rp (K : PySem.W.Frag) (H : Hp) : V → PyData → Prop
  | non : Rp K H .non .none
  | bl (b : Bool) : Rp K H (.bl b) (.bool b)
  | int (i : Int) : Rp K H (.int i) (.int i)
  | str (x : Str) : Rp K H (.str x) (.str x)
  | tup {a : Addr} {xs : List V} {ds : List PyData} : SqT K H a xs → RpA K H xs ds → Rp K H (.ref a) (.tuple ds)
inductive RpA (K : PySem.W.Frag) (H : Hp) : List V → List PyData → Prop
  | nil : RpA K H [] []
  | cons {v : V} {vs : List V} {d : PyData} {ds : List PyData} : Rp K H v d → RpA K H vs ds → RpA K H (v :: vs) (d :: ds)
end
section
variable {K : PySem.W.Frag} {S : List Addr} {H H' : Hp}
mutual
theorem Rp.keep (k : KT S H H') : ∀ {d : PyData} {v : V}, Rp K H v d → Rp K H' v d
  | .none, _, h => by cases h; exact .non
  | .bool b, _, h => by cases h; exact .bl b
  | .int i, _, h => by cases h; exact .int i
  | .str x, _, h => by cases h; exact .str x
  | .list ds, _, h => by cases h
  | .dict ds, _, h => by cases h
  | .tuple ds, _, h => by
    cases h with
    | tup hs ha => exact .tup (k.sqT hs) (RpA.keep k ha)
theorem RpA.keep (k : KT S H H') : ∀ {ds : List PyData} {vs : List V}, RpA K H vs ds → RpA K H' vs ds
  | [], _, h => by cases h; exact .nil
  | d :: ds, _, h => by
    cases h with
    | cons h1 h2 => exact .cons (Rp.keep k h1) (RpA.keep k h2)
end
mutual
theorem Rp.dp : ∀ {d : PyData} {v : V}, Rp K H v d → Dp K H v d
  | .none, _, h => by cases h; exact .non
  | .bool b, _, h => by cases h; exact .bl b
  | .int i, _, h => by cases h; exact .int i
  | .str x, _, h => by cases h; exact .str x
  | .list ds, _, h => by cases h
  | .dict ds, _, h => by cases h
  | .tuple ds, _, h => by
    cases h with
    | tup hs ha => exact .tup hs (RpA.dp ha)
theorem RpA.dp : ∀ {ds : List PyData} {vs : List V}, RpA K H vs ds → DpAll K H vs ds
  | [], _, h => by cases h; exact .nil
  | d :: ds, _, h => by
    cases h with
    | cons h1 h2 => exact .cons (Rp.dp h1) (RpA.dp h2)
end
theorem RpA.length : ∀ {ds : List PyData} {vs : List V}, RpA K H vs ds → vs.length = ds.length
  | [], _, h => by cases h; rfl
  | d :: ds, _, h => by
    cases h with
    | cons h1 h2 => rw [List.length_cons, List.length_cons, RpA.length h2]
theorem RpA.get : ∀ {ds : List PyData} {vs : List V} {i : Nat} {v : V}, RpA K H vs ds → vs[i]? = some v → ∃ d, ds[i]? = some d ∧ Rp K H v d
  | [], _, i, v, h, e => by cases h; simp at e
  | d :: ds, _, i, v, h, e => by
    cases h with
    | cons h1 h2 =>
      cases i with
      | zero => simp at e; subst e; exact ⟨d, rfl, h1⟩
      | succ i =>
        obtain ⟨d', e', r⟩ := RpA.get h2 (i := i) (v := v) (by simpa using e)
        exact ⟨d', by simpa using e', r⟩
theorem RpA.app : ∀ {ds es : List PyData} {vs us : List V}, RpA K H vs ds → RpA K H us es → RpA K H (vs ++ us) (ds ++ es)
  | [], _, _, _, h, g => by cases h; exact g
  | d :: ds, _, _, _, h, g => by
    cases h with
    | cons h1 h2 => exact .cons h1 (RpA.app h2 g)
theorem RpA.snoc {ds : List PyData} {vs : List V} {v : V} {d : PyData} (h : RpA K H vs ds) (g : Rp K H v d) : RpA K H (vs ++ [v]) (ds ++ [d]) := h.app (.cons g .nil)
theorem RpA.take : ∀ {ds : List PyData} {vs : List V} (n : Nat), RpA K H vs ds → RpA K H (vs.take n) (ds.take n)
  | _, _, 0, _ => by simp only [List.take_zero]; exact .nil
  | [], _, n + 1, h => by cases h; simp only [List.take_nil]; exact .nil
  | d :: ds, _, n + 1, h => by
    cases h with
    | cons h1 h2 => rw [List.take_succ_cons, List.take_succ_cons]; exact .cons h1 (RpA.take n h2)
theorem RpA.drop : ∀ {ds : List PyData} {vs : List V} (n : Nat), RpA K H vs ds → RpA K H (vs.drop n) (ds.drop n)
  | _, _, 0, h => h
  | [], _, n + 1, h => by cases h; simp only [List.drop_nil]; exact .nil
  | d :: ds, _, n + 1, h => by
    cases h with
    | cons h1 h2 => rw [List.drop_succ_cons, List.drop_succ_cons]; exact RpA.drop n h2
/-- a tuple just made -/
theorem Rp.made {p : Addr} {vs : List V} {ds : List PyData} (hp : H p = none) (h : RpA K H vs ds) : Rp K (upd H p (.tup vs)) (.ref p) (.tuple ds) := .tup (SqT.of upd_same) (h.keep (KT.new [] hp))
theorem Rp.inv {v : V} {ds : List PyData} (h : Rp K H v (.tuple ds)) : ∃ a xs, v = .ref a ∧ SqT K H a xs ∧ RpA K H xs ds := by
  cases h with
  | tup hs ha => exact ⟨_, _, rfl, hs, ha⟩
theorem RpA.inv {vs : List V} {d : PyData} {ds : List PyData} (h : RpA K H vs (d :: ds)) : ∃ v r, vs = v :: r ∧ Rp K H v d ∧ RpA K H r ds := by
  cases h with
  | cons h1 h2 => exact ⟨_, _, rfl, h1, h2⟩
theorem RpA.inv0 {vs : List V} (h : RpA K H vs []) : vs = [] := by cases h; rfl
theorem Rp.sInv {v : V} {x : Str} (h : Rp K H v (.str x)) : v = .str x := by cases h; rfl
theorem Rp.iInv {v : V} {x : Int} (h : Rp K H v (.int x)) : v = .int x := by cases h; rfl
end
end My

set_option Elab.async false
set_option linter.all false
set_option maxRecDepth 100000
/-! the end of a row whose defs hold generator expressions -/
namespace My
open PySem PySem.Spec PyProof.Rows L2
/-- what the head tells of the defs' code objects: their tables are empty -/
def RecTabs (q : Program) (mg : Str → Option Value) (h : Heap) : Prop := ∀ d ∈ recsOf q, ∃ a o fd c P, mg d.name = some (.ref a) ∧ h.get? a = some o ∧ o.data = .func fd ∧ fd.code = .ref c ∧ h.IsCode c P #[] ∧ h.TableAt c P #[]
theorem walk_ofG {l : PySem.W.OpenLaw} {n k : Nat} {q : Program} {loose : List Str} {XP : (Str → Option Value) → Heap → Prop} {YP : World → Heap → Prop} {d : DefRec} {K : Params → PySem.W.Frag} {x : Str}
    (hn : l.most = some n) (hn2 : n ≤ sizeLine) (hdf : d.params.defaults = []) (hr : Room k callerA) (hY : ∀ (w : World) (h : Heap), YP w h → (K w.params).In h)
    (F : ∀ (w : World) (mg : Str → Option Value) (fa : Addr) (h : Heap), (K w.params).In h → h.Ns mainGlobals mg → mg d.name = some (.ref fa) → RecTabs q mg h → LamX.LawAtS l w (K w.params) CX0 k n x mg fa h) :
    PySem.W.WalkO q loose XP YP l.row.toRowW d [] (fun f vs => PySem.call f vs) := by
  refine Att.attach_callB hn hdf fun w s₀ s₁ mg mb fa o pm cd doc a vs ns G Y ho hd hcd hmg hobj hints hlen hbits hg => ?_
  have KX := hY w _ Y
  obtain ⟨fd, cs, sp, hT, nT, C, hb, hsp, hF⟩ := F w mg fa _ KX G.T.g hmg G.T.tab
  exact LamX.law_callTs KX G.T.g G.T.b G.T.builtins G.T.nolimit hg hT nT C G.T.bmain hobj hints (Nat.le_trans hlen hn2) hr hF hb (fun H hH hS => hsp H a ns hlen hbits hH hS) fun H e s' h => h
/-- the table of the code object at c -/
def codeTab (K : PySem.W.Frag) (c : Addr) : Option Addr := match K.lookup c with
  | some ⟨_, _, .fields vs, _⟩ => (match (vs[11]? : Option Value) with | some (.ref P) => some P | _ => none)
  | _ => none
/-- the table of the def that bears this name stands empty -/
theorem tab_of {q : Program} {mg : Str → Option Value} {h : Heap} {K : PySem.W.Frag} {nm : Str} {f c P : Addr} {oc : Value} {od : Option Addr} {fd : FuncData} {osl : Array (Option Value)} (T : RecTabs q mg h) (X : K.In h)
    (hrec : ((recsOf q).any fun e => e.name == nm) = true) (hm : mg nm = some (.ref f)) (lk : K.lookup f = some ⟨oc, od, .func fd, osl⟩) (hc : fd.code = .ref c) (hd : codeTab K c = some P) : h.get? P = some { cls := .none, data := .fields #[] } := by
  obtain ⟨d, hd1, e⟩ := List.any_eq_true.mp hrec
  have e : d.name = nm := beq_iff_eq.mp e
  obtain ⟨a, o, fd', c', P', h1, h2, h3, h4, h5, h6⟩ := T d hd1
  rw [e, hm] at h1
  cases h1
  rw [X _ _ lk] at h2
  cases h2
  cases h3
  rw [hc] at h4
  cases h4
  obtain ⟨⟨oc', vc, e1, _, e3, e4⟩, hP⟩ := h6
  unfold codeTab at hd
  split at hd
  · rename_i vs _ hk
    rw [X _ _ hk] at e1
    cases e1
    cases e3
    rw [e4] at hd
    cases hd
    exact hP
  · cases hd
/-- the code object's fields are in order -/
def hdOk (vs : Array Value) (c P : Addr) : Bool := (match (vs[11]? : Option Value) with | some (.ref P') => P' == P | _ => false) &&
  (match vs.getD 18 .none with | .str _ _ => true | _ => false) && (match vs.getD 7 .none with | .int _ _ => true | _ => false) &&
  (match vs.getD 9 .none with | .bool _ => true | _ => false) && (match vs.getD 10 .none with | .int _ _ => true | _ => false) && c != P
theorem codeHd_mk {K : PySem.W.Frag} {c P : Addr} {vs : Array Value} {dd : Option Addr} {sl : Array (Option Value)} (lk : K.lookup c = some ⟨.type "code", dd, .fields vs, sl⟩) (_ : vs[11]? = some (.ref P)) (h : hdOk vs c P = true) : PySem.W.codeHdIn K c P = true := by
  unfold PySem.W.codeHdIn
  rw [lk]
  exact h
theorem codeTab_mk {K : PySem.W.Frag} {c P : Addr} {vs : Array Value} {dd : Option Addr} {sl : Array (Option Value)} (lk : K.lookup c = some ⟨.type "code", dd, .fields vs, sl⟩) (h : vs[11]? = some (.ref P)) : codeTab K c = some P := by
  unfold codeTab
  rw [lk]
  show (match (vs[11]? : Option Value) with | some (.ref P) => some P | _ => none) = _
  rw [h]
end My

set_option Elab.async false
set_option linter.all false
/-! words: the ten ops by bits and by whole numbers -/
namespace My
open PySem PySem.Spec PyProof.Rows L2
theorem bit_and (a b k : Nat) : (a &&& b) / 2 ^ k % 2 = if a / 2 ^ k % 2 + b / 2 ^ k % 2 = 2 then 1 else 0 := by
  have h := Nat.testBit_and a b k
  rw [Nat.testBit_eq_decide_div_mod_eq, Nat.testBit_eq_decide_div_mod_eq, Nat.testBit_eq_decide_div_mod_eq] at h
  have h1 := Nat.mod_lt (a / 2 ^ k) (show 2 > 0 by decide)
  have h2 := Nat.mod_lt (b / 2 ^ k) (show 2 > 0 by decide)
  have h3 := Nat.mod_lt ((a &&& b) / 2 ^ k) (show 2 > 0 by decide)
  have h4 : ((a &&& b) / 2 ^ k % 2 = 1) ↔ (a / 2 ^ k % 2 = 1 ∧ b / 2 ^ k % 2 = 1) := by
    rw [← decide_eq_true_iff (p := (a &&& b) / 2 ^ k % 2 = 1), h, Bool.and_eq_true, decide_eq_true_iff, decide_eq_true_iff]
  split <;> omega
theorem bit_or (a b k : Nat) : (a ||| b) / 2 ^ k % 2 = if 0 < a / 2 ^ k % 2 + b / 2 ^ k % 2 then 1 else 0 := by
  have h := Nat.testBit_or a b k
  rw [Nat.testBit_eq_decide_div_mod_eq, Nat.testBit_eq_decide_div_mod_eq, Nat.testBit_eq_decide_div_mod_eq] at h
  have h1 := Nat.mod_lt (a / 2 ^ k) (show 2 > 0 by decide)
  have h2 := Nat.mod_lt (b / 2 ^ k) (show 2 > 0 by decide)
  have h3 := Nat.mod_lt ((a ||| b) / 2 ^ k) (show 2 > 0 by decide)
  have h4 : ((a ||| b) / 2 ^ k % 2 = 1) ↔ (a / 2 ^ k % 2 = 1 ∨ b / 2 ^ k % 2 = 1) := by
    rw [← decide_eq_true_iff (p := (a ||| b) / 2 ^ k % 2 = 1), h, Bool.or_eq_true, decide_eq_true_iff, decide_eq_true_iff]
  split <;> omega
theorem bit_xor (a b k : Nat) : (a ^^^ b) / 2 ^ k % 2 = if a / 2 ^ k % 2 + b / 2 ^ k % 2 = 1 then 1 else 0 := by
  have h := Nat.testBit_xor (x := a) (y := b) (i := k)
  rw [Nat.testBit_eq_decide_div_mod_eq, Nat.testBit_eq_decide_div_mod_eq, Nat.testBit_eq_decide_div_mod_eq] at h
  have h1 := Nat.mod_lt (a / 2 ^ k) (show 2 > 0 by decide)
  have h2 := Nat.mod_lt (b / 2 ^ k) (show 2 > 0 by decide)
  have h3 := Nat.mod_lt ((a ^^^ b) / 2 ^ k) (show 2 > 0 by decide)
  by_cases c1 : a / 2 ^ k % 2 = 1 <;> by_cases c2 : b / 2 ^ k % 2 = 1 <;> by_cases c3 : (a ^^^ b) / 2 ^ k % 2 = 1 <;> simp [c1, c2, c3] at h ⊢ <;> first | omega | (split <;> omega)
/-- and, or, xor of two numbers by their name -/
def bitF (op : Str) (a b : Nat) : Nat := if op = "and" then a &&& b else if op = "or" then a ||| b else a ^^^ b
/-- does the bit count -/
def bitC (op : Str) (both : Int) : Bool := if op = "and" then decide (both = 2) else if op = "or" then decide (0 < both) else decide (both = 1)
theorem bitF_step (op : Str) (a b k : Nat) : ((bitF op a b % 2 ^ (k + 1) : Nat) : Int) = ((bitF op a b % 2 ^ k : Nat) : Int) + (if bitC op (((a / 2 ^ k % 2 : Nat) : Int) + ((b / 2 ^ k % 2 : Nat) : Int)) = true then (2 : Int) ^ k else 0) := by
  have e : bitF op a b / 2 ^ k % 2 = if bitC op (((a / 2 ^ k % 2 : Nat) : Int) + ((b / 2 ^ k % 2 : Nat) : Int)) = true then 1 else 0 := by
    unfold bitF bitC
    by_cases c1 : op = "and"
    · rw [if_pos c1, if_pos c1, bit_and]
      simp only [decide_eq_true_eq]
      split <;> split <;> omega
    · rw [if_neg c1, if_neg c1]
      by_cases c2 : op = "or"
      · rw [if_pos c2, if_pos c2, bit_or]
        simp only [decide_eq_true_eq]
        split <;> split <;> omega
      · rw [if_neg c2, if_neg c2, bit_xor]
        simp only [decide_eq_true_eq]
        split <;> split <;> omega
  rw [Nat.mod_pow_succ, e]
  have hk : ((2 ^ k : Nat) : Int) = (2 : Int) ^ k := PySem.W.kbt_cast k
  split
  · rw [Nat.mul_one]; omega
  · rw [Nat.mul_zero]; omega
theorem bitF_lt (op : Str) {a b n : Nat} (ha : a < 2 ^ n) (hb : b < 2 ^ n) : bitF op a b < 2 ^ n := by
  unfold bitF
  split
  · exact Nat.and_lt_two_pow a hb
  · split
    · exact Nat.or_lt_two_pow ha hb
    · exact Nat.xor_lt_two_pow ha hb
theorem bitOr_nat (a b : Nat) : Builtin.bitOr (a : Int) (b : Int) = ((a ||| b : Nat) : Int) := by
  show Spec.bitOr (a : Int) (b : Int) = _
  have h1 : ¬ (0 ≤ -(a : Int) - 1) := by omega
  have h2 : ¬ (0 ≤ -(b : Int) - 1) := by omega
  have e1 : (-(-(a : Int) - 1) - 1).toNat = a := by omega
  have e2 : (-(-(b : Int) - 1) - 1).toNat = b := by omega
  unfold Spec.bitOr Spec.bitAnd Spec.bitNot
  rw [decide_eq_false h1, decide_eq_false h2]
  show -(-(((-(-(a : Int) - 1) - 1).toNat ||| (-(-(b : Int) - 1) - 1).toNat : Nat) : Int) - 1) - 1 = _
  rw [e1, e2]
  omega
theorem bitAnd_nat (a b : Nat) : Builtin.bitAnd (a : Int) (b : Int) = ((a &&& b : Nat) : Int) := PySem.W.os_band a b
theorem or_sub_and (a b : Nat) : (a ||| b) - (a &&& b) = a ^^^ b ∧ (a &&& b) ≤ (a ||| b) := by
  -- by bits from below
  have key : ∀ n : Nat, ∀ a b : Nat, a < 2 ^ n → b < 2 ^ n → (a ||| b) = (a ^^^ b) + (a &&& b) := by
    intro n
    induction n with
    | zero =>
      intro a b ha hb
      have : a = 0 := by omega
      have : b = 0 := by omega
      subst_vars
      rfl
    | succ n ih =>
      intro a b ha hb
      have h1 := bit_and a b 0
      have h2 := bit_or a b 0
      have h3 := bit_xor a b 0
      have e1 : (a &&& b) / 2 = (a / 2) &&& (b / 2) := Nat.and_div_two
      have e2 : (a ||| b) / 2 = (a / 2) ||| (b / 2) := Nat.or_div_two
      have e3 : (a ^^^ b) / 2 = (a / 2) ^^^ (b / 2) := Nat.xor_div_two
      have hp : 2 ^ (n + 1) = 2 ^ n * 2 := Nat.pow_succ ..
      have := ih (a / 2) (b / 2) (by omega) (by omega)
      simp only [Nat.pow_zero, Nat.div_one] at h1 h2 h3
      have m1 := Nat.mod_lt a (show 2 > 0 by decide)
      have m2 := Nat.mod_lt b (show 2 > 0 by decide)
      split at h1 <;> split at h2 <;> split at h3 <;> omega
  have hm : ∀ a : Nat, a < 2 ^ a := fun a => Nat.lt_two_pow_self
  have ha : a < 2 ^ (a + b) := Nat.lt_of_lt_of_le (hm a) (Nat.pow_le_pow_right (by decide) (by omega))
  have hb : b < 2 ^ (a + b) := Nat.lt_of_lt_of_le (hm b) (Nat.pow_le_pow_right (by decide) (by omega))
  have := key (a + b) a b ha hb
  omega
theorem bitXor_nat (a b : Nat) : Builtin.bitXor (a : Int) (b : Int) = ((a ^^^ b : Nat) : Int) := by
  show Builtin.bitOr (a : Int) (b : Int) - Builtin.bitAnd (a : Int) (b : Int) = _
  rw [bitOr_nat, bitAnd_nat]
  have := or_sub_and a b
  omega
/-- the word of an op, as the document has it -/
def cmpS (op : Str) (n : Nat) (x y : Int) : Int :=
  if op = "add" then (x + y) % 2 ^ n else if op = "sub" then (x - y) % 2 ^ n else if op = "mul" then (x * y) % 2 ^ n
  else if op = "and" then Builtin.bitAnd x y else if op = "or" then Builtin.bitOr x y else if op = "xor" then Builtin.bitXor x y
  else if op = "less" then (if x < y then 1 else 0) else if op = "equal" then (if x = y then 1 else 0)
  else if (n : Int) ≤ y then 0 else if op = "shl" then (x * 2 ^ y.toNat) % 2 ^ n else x / 2 ^ y.toNat
theorem bitF_cmp {op : Str} (h : op = "and" ∨ op = "or" ∨ op = "xor") (n a b : Nat) : cmpS op n (a : Int) (b : Int) = ((bitF op a b : Nat) : Int) := by
  rcases h with rfl | rfl | rfl
  · exact bitAnd_nat a b
  · exact bitOr_nat a b
  · exact bitXor_nat a b
end My

set_option Elab.async false
set_option linter.all false
set_option maxRecDepth 100000
set_option maxHeartbeats 4000000
namespace My
open PySem PySem.Spec PyProof.Rows L2
theorem tuple_mul1 (l : Addr) (items : Array Value) (n : Nat) (dd : Option Addr) (sl : Array (Option Value)) (x : Int) (u : Tok) (c0 : (decide (x < -(2 ^ 63)) || decide (x ≥ 2 ^ 63)) = false) (c1 : (items.isEmpty || x == 1) = true) :
    Meets (Builtin.«tuple.__mul__» ⟨[.ref l, .int x u], []⟩) (fun _ R s => s.heap.get? l = some { cls := .type "tuple", dict := dd, data := .seq items n, slots := sl } ∧
      R (.ok (.ret (Value.ref l))) s) :=
  .of_wp fun prog w A R s h => by
    obtain ⟨hp, g, d, tk, os⟩ := s
    obtain ⟨hl, h⟩ := h
    have f1 := AutoSeq1.idx_int
    wp_walk using wpAny_loadPart' hl
    repeat (first
      | (refine wpAny_ite_false (decide_eq_false (by rw [c0]; exact Bool.false_ne_true)) ?_; wp_walk using wpAny_loadPart' hl)
      | (refine wpAny_ite_true (decide_eq_true c1) ?_; wp_walk using wpAny_loadPart' hl))
    exact ⟨_, rfl, h⟩
/-- (x,) * k, k from 1 on: the same tuple for 1, else a new one -/
def rRepZ (K : PySem.W.Frag) : R2 := fun x y H Q => ∃ l k xs, x = .ref l ∧ y = .int k ∧ SqT K H l xs ∧ xs ≠ [] ∧ 1 ≤ k ∧ k ≤ 1000 ∧ xs.length ≤ 1000 ∧ (k = 1 → Q (.ref l) H) ∧ (2 ≤ k → ∀ p, H p = none → Q (.ref p) (upd H p (.tup (List.replicate k.toNat xs).flatten)))
section
variable {X : Cx} {K : PySem.W.Frag}
theorem op_repZ (h : X.K = K) : OpR X (binaryOp .Mult) (rRepZ K) := by
  subst h
  intro pins s σ H x y v u Q I rx ry h
  obtain ⟨l, k, xs, rfl, rfl, hT, hne, h1, h2, hz, q1, q2⟩ := h
  by_cases hk : k = 1
  · subst hk
    have q := q1 rfl
    cases rx
    obtain ⟨t, rfl⟩ := ry
    obtain ⟨its, r, ⟨⟨cls, dd, data, sl⟩, ho, hc, n, hd⟩, hs⟩ := I.tuple hT
    simp only at hc hd
    subst hc hd
    refine wpAny_binaryOp_repeat_ref (T := "tuple") (U := "int") (by decide) ⟨_, ho, rfl⟩ (fun s' => typeIs_int s' 1 t) noFill_tuple_mul F.fills_int_mul F.slot_int_rmul repeat_tuple F.slot_int_index.lookup
      (call_meets F.slot_int_rmul (typeIs_int s 1 t) F.entry_int_rmul (F.args_int_rmul_2 _ _) (int_rmul_tuple 1 t l its.toArray n dd sl)
        ⟨ho, rfl, ⟨_, ho, rfl⟩, call_meets F.slot_tuple_mul ⟨_, ho, rfl⟩ F.entry_tuple_mul (F.args_tuple_mul_2 _ _) (tuple_mul1 l its.toArray n dd sl 1 t (by decide) (by simp)) ⟨ho, ?_⟩⟩)
    exact ⟨.ref l, H, I, rfl, q⟩
  · exact op_repT pins s σ H _ _ v u Q I rx ry ⟨l, k, xs, rfl, rfl, hT, hne, by omega, h2, hz, q2 (by omega)⟩
end
/-- the truth of the name in the i-th slot -/
theorem pt_truthK {X : Cx} {K : PySem.W.Frag} (h : X.K = K) (i : Nat) {x : Str} {pos : Pos} (hN : X.N[i]? = some x := by rfl) (hv : Vis X.env.scope x := by first | exact Or.inl rfl | exact Or.inr (Or.inl rfl) | exact Or.inr (Or.inr rfl)) (hd : (x == ("__debug__" : Str)) = false := by decide)
    (hcd : (x == ("__classdict__" : Str)) = false := by decide) : PT X (.Name x pos) (fun σ H Q => tVar i σ H fun x H' => ∃ k, TruV K x H' k ∧ Q k H') := by
  subst h
  exact pt_truth (pv i hN hv hd hcd) (by intro _; rfl)
end My

set_option Elab.async false
set_option linter.all false
set_option maxRecDepth 100000
namespace My
open PySem PySem.Spec PyProof.Rows L2
/-! small steps of a reading -/
theorem ite_f {c A B : Prop} [Decidable c] (h : ¬ c) (q : B) : if c then A else B := by rw [if_neg h]; exact q
theorem ite_t {c A B : Prop} [Decidable c] (h : c) (q : A) : if c then A else B := by rw [if_pos h]; exact q
theorem dstr_ne {a b : Str} (h : ¬ a = b) : ¬ decide (V.str a = V.str b) = true := fun z => h (V.str.inj (of_decide_eq_true z))
theorem dstr_eq {a b : Str} (h : a = b) : decide (V.str a = V.str b) = true := decide_eq_true (by rw [h])
theorem dint_ne {a b : Int} (h : ¬ a = b) : ¬ decide (V.int a = V.int b) = true := fun z => h (V.int.inj (of_decide_eq_true z))
theorem dint_eq {a b : Int} (h : a = b) : decide (V.int a = V.int b) = true := decide_eq_true (by rw [h])
theorem dget_s {H : Hp} {a : Addr} {kvs : List (Key × V)} {x : Str} {v : V} (e : H a = some (.dK kvs)) (h : valV kvs (.inr x) = some v) : DGet H a (.str x) (some v) := by
  rw [← h]
  exact DGet.k (k := Sum.inr x) e
theorem dget_f {H : Hp} {a : Addr} {o : Obj} {kvs : List (Key × V)} {x : Str} {v : V} (e : H a = some (.frz o (.dK kvs))) (h : valV kvs (.inr x) = some v) : DGet H a (.str x) (some v) := by
  rw [← h]
  exact .inl ⟨kvs, .inr x, .inr ⟨o, e⟩, rfl, rfl⟩
theorem not_bl {b : Bool} (h : b = false) : ¬ b = true := by rw [h]; exact Bool.false_ne_true
end My
namespace My
open PySem PySem.Spec PyProof.Rows L2
theorem or_bl {a b : Bool} {p : Prop} (h : ¬ a = true) (g : b = true ∨ p) : b = true ∨ p := g
theorem dp_strL {K : PySem.W.Frag} {H : Hp} : ∀ xs : List Str, DpAll K H (xs.map V.str) (xs.map PyData.str)
  | [] => .nil
  | x :: r => .cons (.str x) (dp_strL r)
theorem layAll_strs : ∀ xs : List Str, (∀ x ∈ xs, (PyData.str x).canLay0 = true) → PyData.canLayAll0 (xs.map PyData.str) = true
  | [], _ => rfl
  | x :: r, h => by
    show (PyData.canLay0 (.str x) && PyData.canLayAll0 (r.map PyData.str)) = true
    rw [layAll_strs r (fun y hy => h y (List.mem_cons_of_mem _ hy)), Bool.and_true]
    exact h x List.mem_cons_self
theorem depthAll_strs : ∀ xs : List Str, PyData.depthAll (xs.map PyData.str) = 0
  | [] => rfl
  | x :: r => by
    show max (PyData.depth (.str x)) (PyData.depthAll (r.map PyData.str)) = 0
    rw [depthAll_strs r]
    rfl
theorem shaped_strs (xs : List Str) (h : ∀ x ∈ xs, (PyData.str x).canLay0 = true) : SeqAt.shaped (.list (xs.map PyData.str)) = true := by
  unfold SeqAt.shaped
  rw [Bool.and_eq_true]
  refine ⟨layAll_strs xs h, decide_eq_true ?_⟩
  show PyData.depthAll (xs.map PyData.str) + 1 ≤ 64
  rw [depthAll_strs]
  decide
theorem eqv_nil (xs : List PyData) : PyData.eqv (.list xs) (.list []) = xs.isEmpty := by
  cases xs with
  | nil => rfl
  | cons x r => rfl
/-! a statement laid open -/
theorem seq_asg_op {r : R2} {ta tb : TE} {g : TG} {u : TS} {D : Ends} {σ : L2.St} {H : Hp} (h : ta σ H fun x H1 => tb σ H1 fun y H2 => r x y H2 fun v H3 => g v σ H3 (u D)) : tSeq (tAsg (tOp r ta tb) g) u D σ H := h
theorem seq_asg {te : TE} {g : TG} {u : TS} {D : Ends} {σ : L2.St} {H : Hp} (h : te σ H fun v H3 => g v σ H3 (u D)) : tSeq (tAsg te g) u D σ H := h
theorem seq_any {t u : TS} {D : Ends} {σ : L2.St} {H : Hp} (h : t { D with nx := u D } σ H) : tSeq t u D σ H := h
end My
namespace My
open PySem PySem.Spec PyProof.Rows L2
/-! the same operators, the written part by its name: within a comprehension's block -/
section
variable {X : Cx} {K : PySem.W.Frag}
theorem opNI (h : X.K = K) : OpR X (compareOp .NotIn) (rIn K true) := by subst h; exact op_notIn_seq
theorem opIN (h : X.K = K) : OpR X (compareOp .In) (rIn K false) := by subst h; exact op_in_seq
theorem ixL (h : X.K = K) : IxR X (rIxL K) := by subst h; exact ix_list
theorem ixT (h : X.K = K) : IxR X (rIxT K) := by subst h; exact ix_tup
theorem ixQ (h : X.K = K) : IxR X (rIx K) := by subst h; exact ix_seq
theorem opED (h : X.K = K) (hu : X.A.units + 64 < cLine) : OpR X (compareOp .Eq) (rEqD K) := by subst h; exact op_eqD hu
theorem opND (h : X.K = K) (hu : X.A.units + 64 < cLine) : OpR X (compareOp .NotEq) (rNeD K) := by subst h; exact op_neD hu
theorem slL (h : X.K = K) : SlR X (rSlL K) := by subst h; exact sl_list
theorem slT (h : X.K = K) : SlR X (rSlA K) := by subst h; exact sl_tupA
theorem catT (h : X.K = K) : OpR X (binaryOp .Add) (rCatA K) := by subst h; exact op_catA
theorem lnQ (h : X.K = K) : CallR X (.builtin "len") (fun xs H Q => ∃ p ys, xs = [.ref p] ∧ (SqL K H p ys ∨ SqT K H p ys) ∧ Q (.int ys.length) H) := by subst h; exact call_len_seq
theorem lsO (h : X.K = K) : CallR X (.type "list") (fun xs H Q => ∃ p ys, xs = [.ref p] ∧ (SqL K H p ys ∨ SqT K H p ys) ∧ ∀ l, H l = none → Q (.ref l) (upd H l (.lst ys))) := by subst h; exact call_list_of
theorem tpO (h : X.K = K) : CallR X (.type "tuple") (fun xs H Q => ∃ p ys, xs = [.ref p] ∧ ((SqL K H p ys ∧ ∀ l, H l = none → Q (.ref l) (upd H l (.tup ys))) ∨ (SqT K H p ys ∧ Q (.ref p) H))) := by subst h; exact call_tuple_of
theorem isI (h : X.K = K) : CallR X (.builtin "isinstance") (rIsi K) := by subst h; exact call_isi
end
end My
namespace My
open PySem PySem.Spec PyProof.Rows L2
/-! a walk over a list or a tuple, as it comes -/
section
variable {X : Cx} {tg : Expr}
def iSeq (K : PySem.W.Frag) (tl : TE) : TI := fun σ H R => tl σ H fun x H1 => ∃ (a : Addr) (xs : List V) (G : Hp → Prop), x = .ref a ∧ ((G = fun H => SqL K H a xs) ∨ (G = fun H => SqT K H a xs)) ∧ G H1 ∧ ∀ J, Walk J xs.length G (YAt xs) → R J H1
theorem pi_seq {l : Expr} {tl : TE} (hl : PE X l tl) : PI X tg l (iSeq X.K tl) := by
  refine ⟨fun pins s σ H R I h => ?_⟩
  refine thn (hl.run pins s σ H _ I h) fun v s1 ⟨x, H1, I1, r1, q1⟩ => ?_
  obtain ⟨a, xs, G, e, hG, g1, q⟩ := q1
  subst e
  cases r1
  have fp : ∀ b ∈ [s1.heap.objs.size], FpOk X pins H1 b := fun b hb => by
    rw [List.mem_singleton.mp hb]
    exact I1.fpOk (Nat.le_refl _) (I1.hok.fresh (Nat.le_refl _))
  rcases hG with rfl | rfl
  · have hq : SqL X.K H1 a xs := g1
    obtain ⟨its, _, p, _⟩ := I1.list hq
    refine wpAny_pyIter_list p.isList ?_
    exact ⟨_, _, _, _, H1, rfl, I1.kept (t' := s1.toks) fun b o e => Heap.get?_push_of_some _ e, turn_list a _, ⟨_, Heap.get?_push_size _ rfl, rfl, rfl⟩, fp, q _ walk_list⟩
  · have hq : SqT X.K H1 a xs := g1
    obtain ⟨its, _, p, _⟩ := I1.tuple hq
    refine wpAny_pyIter_tuple (show s1.heap.IsTuple a its.toArray from p) ?_
    exact ⟨_, _, _, _, H1, rfl, I1.kept (t' := s1.toks) fun b o e => Heap.get?_push_of_some _ e, turn_tuple a _, ⟨_, Heap.get?_push_size _ rfl, rfl, rfl⟩, fp, q _ walk_tup⟩
end
theorem lookup_memG {β : Type} {nm : List (Str × β)} (nd : (nm.map (·.1)).Nodup) {x : Str} {s : β} (h : (x, s) ∈ nm) : nm.lookup x = some s := by
  induction nm with
  | nil => cases h
  | cons p r ih =>
    obtain ⟨y, t⟩ := p
    rw [List.map_cons, List.nodup_cons] at nd
    rcases List.mem_cons.mp h with e | h
    · cases e
      rw [List.lookup_cons_self]
    · have ne : ¬ x = y := fun z => nd.1 (by rw [← z]; exact List.mem_map.mpr ⟨_, h, rfl⟩)
      rw [List.lookup_cons]
      have : (x == y) = false := by simpa using ne
      rw [this]
      exact ih nd.2 h
end My

set_option Elab.async false
set_option linter.all false
set_option maxRecDepth 100000
/-! methods of built-in types within a comprehension -/
namespace My
open PySem PySem.Spec PyProof.Rows L2
section
variable {X : Cx} {K : PySem.W.Frag} {o e : Expr} {es : List Expr} {to : TE} {t : TA} {name : Str} {apos cpos : Pos} {T id : String} {r : V → List V → Hp → VK → Prop}
theorem pe_bmK (h : X.K = K) (pa : PlainAttrs T) (slot : Slot T name id) (hty : typeOf (.builtin id) = pure (.type "method_descriptor")) (hm : MtR X id r) (ho : PE X o to) (ha : PA X (e :: es) t) (hbase : attributeBase o name X.env (eval o X.env) = eval o X.env := by rfl)
    (hfew : ((backTo cpos (starEach (e :: es) X.env)).all (fun x => !x.1) && (backToKw cpos (keywordEach [] X.env)).all (fun x => x.1.isSome) && decide ((e :: es).length + ([] : List Keyword).length + (if ([] : List Keyword).isEmpty then 0 else 1) < 30)) = true := by rfl)
    (hline : (apos.endLine == cpos.line) = true := by rfl) (hs : starEach (e :: es) X.env = (false, eval e X.env) :: starEach es X.env := by rfl) (hplain : (backTo cpos (starEach es X.env)).any (·.1) = false := by rfl) :
    PE X (.Call (.Attribute o name apos) (e :: es) [] cpos) (tBM K T r to t) := by
  subst h
  exact pe_bm pa slot hty hm ho ha hbase hfew hline hs hplain
/-- the truth of any expression -/
def tTru (K : PySem.W.Frag) (ta : TE) : TT := fun σ H Q => ta σ H fun x H' => ∃ k, TruV K x H' k ∧ Q k H'
theorem pt_truthE {a : Expr} {ta : TE} (h : X.K = K) (ha : PE X a ta) (he : ∀ whole, isTrue a X.env whole = (do let v ← whole; standAt a.pos; holding [v] (truthy v))) : PT X a (tTru K ta) := by
  subst h
  exact pt_truth ha he
end
end My

set_option Elab.async false
set_option linter.all false
set_option maxRecDepth 100000
set_option maxHeartbeats 2000000
/-! enumerate over a tuple -/
namespace My
open PySem PySem.Spec PyProof.Rows L2
open AutoSeq1 (wpAny_loadPart')
theorem meets_en {v : Value} {o : Obj} {B : Heap → Prop} (b : Begins v o B) : Meets (Builtin.«enumerate.__new__» ⟨[.type "enumerate", v], []⟩)
    (fun _ R s => B s.heap ∧ R (.ok (.ret (.ref (s.heap.push o).objs.size))) { s with heap := (s.heap.push o).push { cls := .type "enumerate", data := .fields #[.none, .bool false, .ref s.heap.objs.size, rawInt 0, .none, .none] } }) :=
  .of_wp fun prog w A R s h => by
    obtain ⟨hp, g, d, tk, os⟩ := s
    obtain ⟨h1, h⟩ := h
    have sb := sub_enumerate
    have it : ∀ {A' : Around} {E : Value → Shared → Prop} {Q : Value → Shared → Prop}, Q (.ref hp.objs.size) ⟨hp.push o, g, d, tk, os⟩ → wpAny (model prog w) A' (pyIter v) Q E ⟨hp, g, d, tk, os⟩ := fun q => b.iter prog w _ _ ⟨hp, g, d, tk, os⟩ _ h1 q
    wp_walk using it
    refine wpAny_stack_any fun u => wpAny_pure ?_
    split
    · rename_i c _ _ _ _ _
      cases (c == Value.type "enumerate") <;> (wp_walk using it; exact ⟨_, rfl, h⟩)
    · wp_walk using it
      exact ⟨_, rfl, h⟩
section
variable {prog : Program} {w : World} {A : Around} {E : Value → Shared → Prop} {s : Shared}
theorem call_en {v : Value} {o : Obj} {B : Heap → Prop} {Q : Value → Shared → Prop} (b : Begins v o B) (h1 : B s.heap)
    (h : ∀ h', IsEnum h' (s.heap.objs.size + 1) s.heap.objs.size 0 .none → h'.get? s.heap.objs.size = some o → (∀ c u, s.heap.get? c = some u → h'.get? c = some u) → Q (.ref (s.heap.objs.size + 1)) { s with heap := h' }) :
    wpAny (model prog w) A (call (.type "enumerate") [v]) Q E s := by
  refine callType_new F.called_enumerate (by decide) (F.typeCall_enumerate_1 _) (F.newCall_enumerate_1 _) (fun u => F.args_object_init_2 u _) F.entry_enumerate_new (meets_en b) ⟨h1, ?_⟩
  have z : (s.heap.push o).objs.size = s.heap.objs.size + 1 := Heap.size_push ..
  have e := Heap.get?_push_size (s.heap.push o) (o := { cls := .type "enumerate", data := .fields #[.none, .bool false, .ref s.heap.objs.size, rawInt 0, .none, .none] }) rfl
  rw [z] at e
  show _ ∧ _
  rw [z]
  exact ⟨⟨_, e, rfl⟩, h _ e (Heap.get?_push_of_some _ (Heap.get?_push_size _ b.free)) fun c u x => Heap.get?_push_of_some _ (Heap.get?_push_of_some _ x)⟩
end
/-- the tuple at a, each item in a new pair -/
def IteT (K : PySem.W.Frag) (a : Addr) : It where
  go := fun i H => ∃ (xs : List V) (x : V), SqT K H a xs ∧ xs[i]? = some x
  yld := fun i H v H' => ∃ T x, v = .ref T ∧ H T = none ∧ H' = upd H T (.tup [.int (i : Nat), x]) ∧ ∀ xs, SqT K H a xs → xs[i]? = some x
  stop := fun i H => ∃ xs : List V, SqT K H a xs ∧ xs.length ≤ i
theorem turn_enT {P : Program} {w : World} {K : PySem.W.Frag} {elts : List Expr} {kk : Nat} {tpos : Pos} (a e it : Addr) (hne : e ≠ it) (hea : e ≠ a) (hai : a ≠ it) :
    Turn P w K (.Tuple elts kk tpos) (IteT K a) [e, it] e (fun i h => (∃ old, IsEnum h e it ((i : Nat) : Int) old) ∧ h.IsTupleIter it a i) where
  mem := List.mem_cons_self
  obj := fun i h st b hb => by
    obtain ⟨⟨old, he⟩, o, ho, _, hd⟩ := st
    rcases List.mem_cons.mp hb with z | z
    · rw [z]; exact ⟨_, he, fun v q => nomatch q⟩
    · rw [List.mem_singleton.mp z]; exact ⟨o, ho, fun v q => by rw [hd] at q; cases q⟩
  keep := fun i h h' ⟨⟨old, he⟩, hi⟩ k => ⟨⟨old, k e (by simp) _ he⟩, hi.at fun o q => k it (by simp) o q⟩
  item := by
    intro X hP hw hK hc i pins s σ H E I hf st hg
    subst hP hw hK
    obtain ⟨⟨old, he⟩, hit⟩ := st
    obtain ⟨xs, x, hq, hx⟩ := hg
    obtain ⟨its, rv, ⟨po, p⟩, hz⟩ := I.tuple hq
    obtain ⟨u, hu, ru⟩ := rv.get hx
    have hi : i < its.toArray.size := by
      rw [List.size_toArray]
      exact (List.getElem?_eq_some_iff.mp hu).1
    have hel := Heap.lt_size he
    have hil : it < s.heap.objs.size := let ⟨_, q, _⟩ := hit; Heap.lt_size q
    have D : Draws X.prog X.w X.A.in1 it [it, a] its.toArray.size (fun i v => its.toArray[i]? = some v) (fun i h => h.IsTupleIter it a i ∧ h.IsTuple a its.toArray) := Draws.tuple (A := X.A.in1) (I.ok.hd hc) it a hai its.toArray
    refine wpAny_pyNext_enum_itemD (n := its.toArray.size) D he ⟨hit, ⟨po, p⟩⟩ hi hne (fun z => (List.mem_cons.mp z).elim hne fun z => hea (List.mem_singleton.mp z)) fun y h' tk hy ho hst hT hsz hk => ?_
    have hy : y = u := by
      have : its.toArray[i]? = some u := by simpa using hu
      exact Option.some.inj (hy.symm.trans this)
    subst hy
    refine ⟨_, rfl, wpAny_letOwnedTupleGo_enum (s := { s with heap := h', toks := tk + 1 }) ho fun h'' he' sb => ?_⟩
    have nT : s.heap.objs.size ≠ e := Nat.ne_of_gt hel
    have hT2 := (sb.2 _ nT).trans hT
    have new : ObjOk X.prog X.w (upd H s.heap.objs.size (.tup [.int (i : Nat), x])) h'' s.heap.objs.size (.tup [.int (i : Nat), x]) :=
      ⟨(by show 2 ≤ sizeLine; decide), [.int i tk, y], .cons ⟨_, rfl⟩ (.cons ru .nil), ⟨_, hT2, rfl, _, rfl⟩⟩
    have I1 : Inv X pins σ (upd H s.heap.objs.size (.tup [.int (i : Nat), x])) { s with heap := h'', toks := tk + 1 } :=
      I.turnedNew (ch := [e, it]) (fun b ob hb q => by
        have n1 : b ≠ e := fun z => hb (by rw [z]; simp)
        have n2 : b ≠ it := fun z => hb (by rw [z]; simp)
        exact (sb.2 b n1).trans (hk b ob n1 n2 q)) hf (Nat.le_refl _) new
    refine ⟨.ref s.heap.objs.size, _, I1, rfl, ⟨_, x, rfl, I.hok.fresh (Nat.le_refl _), rfl, fun ys hy => (I.tuple_inj hy hq) ▸ hx⟩, ⟨⟨y, ?_⟩, hst.1.at fun o q => (sb.2 it (Ne.symm hne)).trans q⟩, fun b hb => ?_⟩
    · have e1 : ((i + 1 : Nat) : Int) = (i : Int) + 1 := by omega
      rw [e1]; exact he'
    · have hb' : b ≠ s.heap.objs.size := by
        rcases List.mem_cons.mp hb with z | z
        · rw [z]; exact Nat.ne_of_lt hel
        · rw [List.mem_singleton.mp z]; exact Nat.ne_of_lt hil
      rw [upd_ne hb']
      exact (hf b hb).1
  done := by
    intro X hP hw hK hc i pins s σ H E I hf st hg
    subst hP hw hK
    obtain ⟨⟨old, he⟩, hit⟩ := st
    obtain ⟨xs, hq, hx⟩ := hg
    obtain ⟨its, rv, ⟨po, p⟩, hz⟩ := I.tuple hq
    obtain ⟨f0, f1, f2, f3, f4, f5⟩ := hf it (by simp)
    have D : wpAny (model X.prog X.w) X.A (pyNext (.ref e)) (fun r s1 => r = none ∧ Inv X pins σ H s1) E s := by
      have hT : s.TypeIs (.ref e) "enumerate" := ⟨_, he, rfl⟩
      unfold pyNext
      refine wpAny_bind (wpAny_attempt (wpAny_callSpecial?_slot (name := Str.ofString "__next__") hT F.slot_enumerate_next (wpAny_call_entry F.slot_enumerate_next hT F.entry_enumerate_next ?_ (F.args_enumerate_next_1 _))))
      show wpAny _ _ (field (.ref e) 2 >>= _) _ _ _
      refine wpAny_bind (wpAny_field he rfl (x := .ref it) rfl (wpAny_bind ?_))
      refine RZ.nextOf_tuple_end (I.ok.hd hc) hit ⟨po, p⟩ (by have := rv.length; simp; omega) fun h' x hx' hs => ?_
      obtain ⟨o, ho, hc'⟩ := hs
      exact wpAny_bind (wpAny_isInstance (T := "StopIteration") (b := true) ⟨o, ho, hc'⟩ isSubtype_stop (wpAny_pure ⟨rfl, I.turned (t' := s.toks) (fun b o hb q => hx' b o hb q) f0 f1 f3 f4 f5⟩))
    exact D
  self := fun A i s Q E st h => let ⟨⟨_, he⟩, _⟩ := st; wpAny_pyIter_enum he h
def iEnT (K : PySem.W.Frag) (ta : TA) : TI := fun σ H R => ta σ H fun vs H1 => ∃ a xs, vs = [.ref a] ∧ SqT K H1 a xs ∧ R (IteT K a) H1
theorem pi_enT {X : Cx} {e : Expr} {ta : TA} {p pos tpos : Pos} {elts : List Expr} {kk : Nat} (hg : Gl X "enumerate") (hm : X.mg "enumerate" = none) (ha : PA X [e] ta) (hs : starEach [e] X.env = [(false, eval e X.env)] := by rfl) :
    PI X (.Tuple elts kk tpos) (.Call (.Name "enumerate" p) [e] [] pos) (iEnT X.K ta) := by
  refine ⟨fun pins s σ H R I h => Call_ (ld_blt I hg hm boot_enumerate (PyProof.Rows.callWith_type1 (thn (ha.run pos pins s σ H _ I h) fun us s1 ⟨vs, H1, I1, r1, q1⟩ => ?_) hs rfl))⟩
  obtain ⟨a, xs, rfl, hq, q⟩ := q1
  cases r1 with
  | cons r rr =>
    cases rr
    cases r
    obtain ⟨its, rv, ⟨po, p'⟩, hz⟩ := I1.tuple hq
    have hal : a < s1.heap.objs.size := let ⟨q', _⟩ := p'; Heap.lt_size q'
    refine call_en (begins_tuple a its.toArray) ⟨po, p'⟩ fun h' he hit hk => wpAny_pyIter_enum he ?_
    refine ⟨s1.heap.objs.size + 1, [s1.heap.objs.size + 1, s1.heap.objs.size], _, _, H1, rfl, I1.kept (t' := s1.toks) hk, turn_enT a (s1.heap.objs.size + 1) s1.heap.objs.size (Nat.succ_ne_self _) (Nat.ne_of_gt (Nat.lt_succ_of_lt hal)) (Nat.ne_of_lt hal), ⟨⟨.none, he⟩, ⟨_, hit, rfl, rfl⟩⟩, fun b hb => ?_, q⟩
    have hle : s1.heap.objs.size ≤ b := by
      rcases List.mem_cons.mp hb with z | z
      · rw [z]; exact Nat.le_add_right _ _
      · rw [List.mem_singleton.mp z]; exact Nat.le_refl _
    exact I1.fpOk hle (I1.hok.fresh hle)
theorem walk_enT {K : PySem.W.Frag} {a : Addr} {xs : List V} : Walk (IteT K a) xs.length (fun H => SqT K H a xs) (YPair (fun i => some (.int (i : Nat))) (fun i => xs[i]?)) where
  goes := fun i _ hi q => ⟨xs, xs[i], q, by simp [hi]⟩
  stops := fun _ q => ⟨xs, q, Nat.le_refl _⟩
  yields := fun i H v H' _ q ⟨T, x, h1, h2, h3, h4⟩ => ⟨T, .int (i : Nat), x, h1, h2, h3, rfl, h4 xs q⟩
end My

set_option Elab.async false
set_option linter.all false
set_option maxRecDepth 100000
/-! a call of a name that holds one of several defs, told where it is called -/
namespace My
open PySem PySem.Spec PyProof.Rows L2
def tCallH (P : Program) (w : World) (K : PySem.W.Frag) (mg : Str → Option Value) (base : Heap) (k i : Nat) (t : TA) : TE := fun σ H Q => ∃ f sp, σ[i]? = some (some (.ref f)) ∧ Held P w K mg base k f sp ∧ t σ H fun vs H1 => sp vs H1 Q fun _ _ _ => False
theorem pe_callH {X : Cx} {k i : Nat} {x : Str} {p pos : Pos} {e : Expr} {es : List Expr} {t : TA} (hr : Room k X.A) (hN : X.N[i]? = some x) (hv : Vis X.env.scope x) (ha : PA X (e :: es) t)
    (h1 : (x == Str.ofString "__debug__") = false := by rfl) (h2 : (x == Str.ofString "__classdict__") = false := by rfl) (h3 : starEach (e :: es) X.env = (false, eval e X.env) :: starEach es X.env := by rfl) (h4 : ((backTo pos (starEach es X.env)).any fun x => x.1) = false := by rfl) :
    PE X (.Call (.Name x p) (e :: es) [] pos) (tCallH X.prog X.w X.K X.mg X.base k i t) :=
  ⟨fun pins s σ H Q I h => by
    obtain ⟨f, sp, hf, hh, ht⟩ := h
    refine (pe_callA (S := fun g => if g = f then some sp else none) (fun g sp' e => ?_) hr hN hv ha h1 h2 h3 h4).run pins s σ H Q I ⟨f, sp, hf, if_pos rfl, ht⟩
    by_cases z : g = f
    · rw [if_pos z] at e
      cases e
      rw [z]
      exact hh
    · rw [if_neg z] at e
      cases e⟩
theorem Held.of {P : Program} {w : World} {K : PySem.W.Frag} {mg : Str → Option Value} {base : Heap} {k k' : Nat} {f : Addr} {fd : FuncData} {ps : List Str} {sp : Sp} (F : FnOk P w K mg base CX0 k f fd ps sp) (hk : PySem.W.keepIn K (.ref f) = true) (hb : L2.Binds K fd ps []) (h : k ≤ k') : Held P w K mg base k' f sp :=
  ⟨fd, ps, ⟨F.len, fun A outer s H args us vs Q E r => F.run A outer s H args us vs Q E (r.mono h)⟩, hk, hb⟩
theorem fun_kbn {K : PySem.W.Frag} {x qual : Str} {st : Stmt} {f : Addr} {fd : FuncData} {ps ks : List Str} {n : Nat} (F : Fun K x qual st f fd)
    (h : ∀ (kV doc pm : Value) (an : Option Addr) (cdv ct : Value) (us ws : List Value), us.length = n → ws.length = ks.length → bindArgs (PySem.W.fnOf x qual (defArgs st) (defBody st) (defScope st) .none kV doc pm an cdv ct) { pos := us, kw := ks.zip ws } = pure (ps.zip (us ++ ws))) :
    KBn K fd ps n ks (fun us ws => us ++ ws) (fun vs zs => vs ++ zs) := by
  obtain ⟨oc, od, kV, doc, pm, an, cdv, ct, osl, rfl, _, _⟩ := F.ex
  exact ⟨fun s us ws _ hu hw => .of_eq (h kV doc pm an cdv ct us ws hu hw), fun a b => a.append b⟩
end My

set_option Elab.async false
set_option linter.all false
set_option maxRecDepth 100000
set_option maxHeartbeats 2000000
/-! zip of a text and a tuple -/
namespace My
open PySem PySem.Spec PyProof.Rows L2
/-- the signs of x and the tuple's items at b, in new pairs -/
def Izs (K : PySem.W.Frag) (x : Str) (b : Addr) : It :=
  ⟨fun i H => ∃ (ys : List V) (y : V), i < x.cps.size ∧ SqT K H b ys ∧ ys[i]? = some y,
    fun i H v H' => ∃ T c y, v = .ref T ∧ H T = none ∧ H' = upd H T (.tup [.str ⟨#[c]⟩, y]) ∧ x.cps[i]? = some c ∧ ∀ ys, SqT K H b ys → ys[i]? = some y,
    fun i H => ∃ ys : List V, SqT K H b ys ∧ i ≤ x.cps.size ∧ i ≤ ys.length ∧ (i = x.cps.size ∨ i = ys.length)⟩
def zsT (z TI TO i1 i2 : Addr) (x : Str) (t : Tok) (b : Addr) (i : Nat) (h : Heap) : Prop :=
  IsZip h z TI TO .none ∧ IsTupOf2 h TI (.ref i1) (.ref i2) ∧ (∃ x y, IsTupOf2 h TO x y) ∧ h.IsStrIter i1 (strIterType x) x t i ∧ h.IsTupleIter i2 b i
theorem zs_sep {I b : Nat} (h : b < I) : ZipSep2 (I + 4) (I + 2) (I + 3) I (I + 1) [I] [I + 1, b] := by
  have ne : ∀ {m n : Nat}, m ≠ n → (m : Addr) ≠ n := fun h => h
  have n1 : ∀ {m n : Nat}, m ≠ n → (m : Addr) ∉ ([n] : List Addr) := fun h z => h (List.mem_singleton.mp z)
  have n2 : ∀ {m n k : Nat}, m ≠ n → m ≠ k → (m : Addr) ∉ ([n, k] : List Addr) := fun h g z => by
    rcases List.mem_cons.mp z with e | e
    · exact h e
    · exact g (List.mem_singleton.mp e)
  exact ⟨ne (by omega), ne (by omega), ne (by omega), ne (by omega), List.mem_singleton.mpr rfl, n1 (by omega), n1 (by omega), ne (by omega), List.mem_cons_self, n2 (by omega) (by omega), n2 (by omega) (by omega), n2 (by omega) (by omega), n1 (by omega)⟩
theorem turn_zs {P : Program} {w : World} {K : PySem.W.Frag} {elts : List Expr} {kk : Nat} {tpos : Pos} {b z TI TO i1 i2 : Addr} {x : Str} {t : Tok} (D : ZipSep2 z TI TO i1 i2 [i1] [i2, b]) :
    Turn P w K (.Tuple elts kk tpos) (Izs K x b) [z, TI, TO, i1, i2] z (zsT z TI TO i1 i2 x t b) where
  mem := by simp
  obj := fun i h st c hc => by
    obtain ⟨hz, hTI, ⟨u, v, hTO⟩, ⟨o1, e1, _, d1⟩, ⟨o2, e2, _, d2⟩⟩ := st
    simp only [List.mem_cons, List.not_mem_nil, or_false] at hc
    rcases hc with rfl | rfl | rfl | rfl | rfl
    · exact ⟨_, hz, fun v q => nomatch q⟩
    · exact ⟨_, hTI, fun v q => nomatch q⟩
    · exact ⟨_, hTO, fun v q => nomatch q⟩
    · exact ⟨o1, e1, fun v q => by rw [d1] at q; cases q⟩
    · exact ⟨o2, e2, fun v q => by rw [d2] at q; cases q⟩
  keep := fun i h h' st k => by
    obtain ⟨hz, hTI, ⟨u, v, hTO⟩, ⟨o1, e1, r1⟩, h2⟩ := st
    exact ⟨k z (by simp) _ hz, k TI (by simp) _ hTI, ⟨u, v, k TO (by simp) _ hTO⟩, ⟨o1, k i1 (by simp) o1 e1, r1⟩, h2.at fun o q => k i2 (by simp) o q⟩
  item := by
    intro X hP hw hK hc i pins s σ H E I hf st hg
    subst hP hw hK
    obtain ⟨hz, hTI, ⟨u0, v0, hTO⟩, h1, h2⟩ := st
    obtain ⟨ys, y, hi, hq, hy⟩ := hg
    obtain ⟨its, rv, p, _⟩ := I.tuple hq
    have lv := rv.length
    have hd := I.ok.hd hc
    have hi2 : i < its.toArray.size := by
      have := (List.getElem?_eq_some_iff.mp hy).1
      simp only [List.size_toArray]
      omega
    have ib : b ≠ i2 := fun e => by
      obtain ⟨o, e1, c1, _⟩ := h2
      obtain ⟨o', e2, c2, _⟩ := p
      rw [e, e1] at e2
      cases e2
      rw [c1] at c2
      exact absurd (Value.type.inj c2) (by decide)
    have hzl := Heap.lt_size hz
    have D1 := Draws.text (prog := X.prog) (w := X.w) (A := X.A.in1) hd i1 x t
    have D2 := Draws.tuple (prog := X.prog) (w := X.w) (A := X.A.in1) hd i2 b ib its.toArray
    refine wpAny_pyNext_zipD2_item D D1 D2 hz hTI hTO h1 ⟨h2, p⟩ hi hi2 fun x1 x2 h' tk p1 p2 z' TO' k1 k2 hT hsz hk => ?_
    obtain ⟨c, u1, hc1, rfl⟩ := p1
    obtain ⟨y', hu, ru⟩ := rv.get hy
    have ex2 : x2 = y' := by
      have p2' : its.toArray[i]? = some x2 := p2
      rw [List.getElem?_toArray, hu] at p2'
      exact (Option.some.inj p2').symm
    subst ex2
    refine ⟨_, rfl, wpAny_letOwnedTupleGo_zip (s := { s with heap := h', toks := tk }) z' fun h'' z'' sb => ?_⟩
    have hT2 : h''.get? s.heap.objs.size = some { cls := .type "tuple", data := .seq #[.str ⟨#[c]⟩ u1, x2] } := (sb.2 _ (Nat.ne_of_gt hzl)).trans hT
    have new : ObjOk X.prog X.w (upd H s.heap.objs.size (.tup [.str ⟨#[c]⟩, y])) h'' s.heap.objs.size (.tup [.str ⟨#[c]⟩, y]) :=
      ⟨by show 2 ≤ sizeLine; decide, [.str ⟨#[c]⟩ u1, x2], .cons ⟨u1, rfl⟩ (.cons ru .nil), ⟨_, hT2, rfl, _, rfl⟩⟩
    have nin : ∀ {c : Addr}, c ∉ [z, TI, TO, i1, i2] → c ≠ z ∧ c ≠ TI ∧ c ≠ TO ∧ c ≠ i1 ∧ c ≠ i2 := fun h => by
      simp only [List.mem_cons, List.not_mem_nil, or_false, not_or] at h
      exact h
    have I1 : Inv X pins σ (upd H s.heap.objs.size (.tup [.str ⟨#[c]⟩, y])) { s with heap := h'', toks := tk } :=
      I.turnedNew (t' := tk) (ch := [z, TI, TO, i1, i2]) (fun c o hb q => by
        obtain ⟨n1, _, n3, n4, n5⟩ := nin hb
        exact (sb.2 c n1).trans (hk c o n1 n3 n4 n5 q)) hf (Nat.le_refl _) new
    refine ⟨.ref s.heap.objs.size, _, I1, rfl, ⟨_, c, y, rfl, I.hok.fresh (Nat.le_refl _), rfl, hc1, fun l hl => by rw [I.tuple_inj hl hq]; exact hy⟩, ⟨z'', ?_, ⟨.str ⟨#[c]⟩ u1, x2, ?_⟩, ?_, ?_⟩, fun c hcm => ?_⟩
    · exact (sb.2 _ D.TIz).trans (hk _ _ D.TIz D.TITO D.TIi1 D.TIi2 hTI)
    · exact (sb.2 _ D.TOz).trans TO'
    · obtain ⟨o, e1, r⟩ := k1
      exact ⟨o, (sb.2 _ D.zi1.symm).trans e1, r⟩
    · exact k2.1.at fun o q => (sb.2 _ D.zi2.symm).trans q
    · have hlt : c < s.heap.objs.size := by
        simp only [List.mem_cons, List.not_mem_nil, or_false] at hcm
        rcases hcm with rfl | rfl | rfl | rfl | rfl
        · exact hzl
        · exact Heap.lt_size hTI
        · exact Heap.lt_size hTO
        · obtain ⟨_, e1, _⟩ := h1; exact Heap.lt_size e1
        · obtain ⟨_, e2, _⟩ := h2; exact Heap.lt_size e2
      rw [upd_ne (Nat.ne_of_lt hlt)]
      exact (hf c hcm).1
  done := by
    intro X hP hw hK hc i pins s σ H E I hf st hg
    subst hP hw hK
    obtain ⟨hz, hTI, ⟨u0, v0, hTO⟩, h1, h2⟩ := st
    obtain ⟨ys, hq, le1, le2, hend⟩ := hg
    obtain ⟨its, rv, p, _⟩ := I.tuple hq
    have lv := rv.length
    have hd := I.ok.hd hc
    have ib : b ≠ i2 := fun e => by
      obtain ⟨o, e1, c1, _⟩ := h2
      obtain ⟨o', e2, c2, _⟩ := p
      rw [e, e1] at e2
      cases e2
      rw [c1] at c2
      exact absurd (Value.type.inj c2) (by decide)
    have sz : its.toArray.size = ys.length := by simp only [List.size_toArray]; omega
    have D1 := Draws.text (prog := X.prog) (w := X.w) (A := X.A.in1) hd i1 x t
    have D2 := Draws.tuple (prog := X.prog) (w := X.w) (A := X.A.in1) hd i2 b ib its.toArray
    refine wpAny_pyNext_zipD2_end D D1 D2 hz hTI hTO h1 ⟨h2, p⟩ le1 (by rw [sz]; exact le2) (by rw [sz]; exact hend) fun h' tk hk => ⟨rfl, I.turnedL (t' := tk) (ch := [z, TI, TO, i1, i2]) (fun c o hb q => ?_) hf⟩
    simp only [List.mem_cons, List.not_mem_nil, or_false, not_or] at hb
    exact hk c o hb.1 hb.2.2.1 hb.2.2.2.1 hb.2.2.2.2 q
  self := fun A i s Q E st h => wpAny_pyIter_zip st.1 h
def iZipS (K : PySem.W.Frag) (ta : TA) : TI := fun σ H R => ta σ H fun vs H1 => ∃ x b ys, vs = [.str x, .ref b] ∧ SqT K H1 b ys ∧ R (Izs K x b) H1
theorem pi_zipS {X : Cx} {e e2 : Expr} {ta : TA} {p pos tpos : Pos} {elts : List Expr} {kk : Nat} (hg : Gl X "zip") (hm : X.mg "zip" = none) (ha : PA X [e, e2] ta)
    (hs : starEach [e, e2] X.env = (false, eval e X.env) :: starEach [e2] X.env := by rfl) (hpl : (backTo pos (starEach [e2] X.env)).any (·.1) = false := by rfl) :
    PI X (.Tuple elts kk tpos) (.Call (.Name "zip" p) [e, e2] [] pos) (iZipS X.K ta) := by
  refine ⟨fun pins s σ H R I h => ?_⟩
  refine Call_ (ld_blt I hg hm PyProof.Rows.boot_zip (PyProof.Rows.callWith_type1 (thn (ha.run pos pins s σ H _ I h) fun us s1 ⟨vs, H1, I1, r1, q1⟩ => ?_) hs hpl))
  obtain ⟨x, b, ys, rfl, hq, q⟩ := q1
  obtain ⟨v1, v2, rfl, r1, r2⟩ := Vals.two r1
  obtain ⟨t, rfl⟩ := r1
  obtain rfl : v2 = Value.ref b := r2
  obtain ⟨its, rv, p1, _⟩ := I1.tuple hq
  obtain ⟨o1, ho1, _⟩ := id p1
  refine zip_begins2 (begins_text x t) (begins_tuple b its.toArray) trivial p1 fun h' hz hTI hTO h1 h2 hsz hk => wpAny_pyIter_zip hz ?_
  have I2 : Inv X pins σ H1 { s1 with heap := h' } := I1.kept (t' := s1.toks) hk
  refine ⟨s1.heap.objs.size + 4, [s1.heap.objs.size + 4, s1.heap.objs.size + 2, s1.heap.objs.size + 3, s1.heap.objs.size, s1.heap.objs.size + 1], zsT (s1.heap.objs.size + 4) (s1.heap.objs.size + 2) (s1.heap.objs.size + 3) s1.heap.objs.size (s1.heap.objs.size + 1) x t b, _, H1, rfl, I2, turn_zs (zs_sep (Heap.lt_size ho1)),
    ⟨hz, hTI, ⟨_, _, hTO⟩, ⟨_, h1, rfl, rfl⟩, ⟨_, h2, rfl, rfl⟩⟩, fun c hcm => ?_, q⟩
  have hle : s1.heap.objs.size ≤ c := by
    simp only [List.mem_cons, List.not_mem_nil, or_false] at hcm
    rcases hcm with rfl | rfl | rfl | rfl | rfl
    · exact Nat.le_add_right _ _
    · exact Nat.le_add_right _ _
    · exact Nat.le_add_right _ _
    · exact Nat.le_refl _
    · exact Nat.le_add_right _ _
  exact I1.fpOk hle (I1.hok.fresh hle)
/-- as a Walk: ys has as many items as x has signs -/
theorem walk_zs {K : PySem.W.Frag} {x : Str} {b : Addr} {ys : List V} {n : Nat} (hn : n = x.cps.size) (hl : ys.length = n) :
    Walk (Izs K x b) n (fun H => SqT K H b ys) (fun i H v H' => ∃ T c y, v = .ref T ∧ H T = none ∧ H' = upd H T (.tup [.str ⟨#[c]⟩, y]) ∧ x.cps[i]? = some c ∧ ys[i]? = some y) := by
  subst hn
  refine ⟨fun i H lt h => ?_, fun H h => ⟨ys, h, Nat.le_refl _, by omega, .inl rfl⟩, fun i H v H' lt h y => ?_⟩
  · have : i < ys.length := by omega
    exact ⟨ys, ys[i], lt, h, List.getElem?_eq_getElem this⟩
  · obtain ⟨T, c, y0, e1, e2, e3, e4, e5⟩ := y
    exact ⟨T, c, y0, e1, e2, e3, e4, e5 ys h⟩
end My

set_option Elab.async false
set_option linter.all false
set_option maxRecDepth 100000
/-! t.count(x), d.get(x) of a dict of the module -/
namespace My
open PySem PySem.Spec PyProof.Rows L2
def cntV (x : V) (xs : List V) : Nat := xs.countP fun y => eqV y x
def rCntT (K : PySem.W.Frag) : V → List V → Hp → VK → Prop := fun x vs H Q => ∃ p ys y, x = .ref p ∧ vs = [y] ∧ SqT K H p ys ∧ flatV y = true ∧ ys.all flatV = true ∧ Q (.int (cntV y ys : Nat)) H
theorem cnt_eqU {x : V} : ∀ {xs : List V} {us : List Value}, Vals xs us → xs.all flatV = true → us.countP (eqU x) = cntV x xs
  | _, _, .nil, _ => rfl
  | y :: xs, u :: us, .cons r t, f => by
    rw [List.all_cons, Bool.and_eq_true] at f
    unfold cntV
    rw [List.countP_cons, List.countP_cons, eqU_of r f.1, cnt_eqU t f.2]
    rfl
section
variable {X : Cx}
theorem mt_tcount : MtR X "tuple.count" (rCntT X.K) := by
  intro pins s σ H x vs v us Q I rx rv h
  obtain ⟨p, ys, y, rfl, rfl, hq, fy, fs, q⟩ := h
  cases rx
  obtain ⟨u, rfl, ru⟩ := rv.one
  obtain ⟨its, r, pl, hz⟩ := I.tuple hq
  obtain ⟨⟨cls, dd, data, sl⟩, ho, hc, n, hd'⟩ := id pl
  simp only at hc hd'
  subst hc hd'
  refine call_meets PySem.F.slot_tuple_count ⟨_, ho, rfl⟩ PySem.F.entry_tuple_count (PySem.F.args_tuple_count_2 _ _) (SeqAt.tuple_countAt p its.toArray n dd sl u (eqU y)) ⟨ho, fun w hw => mem_eqAt ru fy r fs w (by simpa using hw), ?_⟩
  refine ⟨.int _, H, I.tok _, ⟨_, rfl⟩, ?_⟩
  show Q (.int ((its.countP (eqU y) : Nat) : Int)) H
  rw [cnt_eqU r fs]
  exact q
theorem mt_tcountK {K : PySem.W.Frag} (h : X.K = K) : MtR X "tuple.count" (rCntT K) := by subst h; exact mt_tcount
end
/-! ### d.get(x), d of the module -/
inductive KO : Option V → Option Value → Prop
  | no : KO none none
  | yes {v : V} {u : Value} : RelV v u → KO (some v) (some u)
/-- what stands at a word, if anything does -/
def KDgt (K : PySem.W.Frag) (w : World) (a : Addr) (x : Str) (o : Option V) : Prop :=
  ∃ es n r, K.lookup a = some ⟨.type "dict", none, .dict es n, #[]⟩ ∧ PySem.W.KeysLit w.params es.toList ∧ PySem.W.nsIn K a x = some r ∧ KO o r ∧ (a == sysModules) = false
def tKGet (K : PySem.W.Frag) (w : World) (td ty : TE) : TE := fun σ H Q => td σ H fun x H1 => ∃ a es n, x = .ref a ∧ K.lookup a = some ⟨.type "dict", none, .dict es n, #[]⟩ ∧ PySem.W.KeysLit w.params es.toList ∧ ty σ H1 fun y H2 => ∃ z o, y = .str z ∧ KDgt K w a z o ∧ Q (o.getD .non) H2
section
variable {X : Cx} {o e : Expr} {apos cpos : Pos} {td ty : TE}
theorem pe_kget (ho : PE X o td) (he : PE X e ty) (m : M1 X o "get" apos e cpos) : PE X (.Call (.Attribute o "get" apos) [e] [] cpos) (tKGet X.K X.w td ty) := by
  refine ⟨fun pins s σ H Q I h => ?_⟩
  refine wpAny_Call_method m.base m.few m.line PySem.F.plainAttrs_dict PySem.F.slot_dict_get PySem.F.type_dict_get (thn (ho.run pins s σ H _ I h) fun u s1 ⟨x, H1, I1, rx, a, es, n, ex, hl, hk, q1⟩ => ?_)
  subst ex
  obtain rfl : u = Value.ref a := rx
  refine ⟨(PySem.W.mapOf_K (prog := X.prog) (w := X.w) I1.kIn hl hk).typeIs, fun b q => ?_, ?_⟩
  · cases q
    exact ⟨_, I1.kIn _ _ hl, rfl⟩
  rw [m.trees]
  refine Calls.callWith_builtin rfl (Calls.evalArgs_plain (Calls.spliced_cons (thn (he.run pins s1 σ H1 _ I1 q1) fun iv s2 ⟨y, H2, I2, ry, z, ov, ey, ⟨es', n', r, hl', hk', e', ko, low⟩, q2⟩ => Calls.spliced_nil ?_)))
  subst ey
  obtain ⟨t, rfl⟩ := ry
  have hm := PySem.W.mapOf_K (prog := X.prog) (w := X.w) I2.kIn hl' hk'
  refine call_meetsIn PySem.F.slot_dict_get hm.typeIs PySem.F.entry_dict_get (PySem.F.args_dict_get_2 _ _) (meets_dict_get (PySem.strKind X.prog X.w) a (PySem.strKind_is X.prog X.w z t) low) ⟨_, hm, ?_⟩
  rw [PySem.W.find_K hl' e']
  refine ⟨_, H2, I2.tok _, ?_, q2⟩
  cases ko with
  | no => exact rfl
  | yes r => exact r
end
end My

set_option Elab.async false
set_option linter.all false
set_option maxRecDepth 100000
/-! x in D, D a written dict of the module -/
namespace My
open PySem PySem.Spec PyProof.Rows L2
def rKIn (K : PySem.W.Frag) (w : World) : R2 := fun x y H Q => ∃ z a o, x = .str z ∧ y = .ref a ∧ KDgt K w a z o ∧ Q (.bl o.isSome) H
theorem op_kin {X : Cx} : OpR X (compareOp .In) (rKIn X.K X.w) := by
  intro pins s σ H x y v u Q I rx ry h
  obtain ⟨z, a, o, rfl, rfl, ⟨es, n, r, hl, hk, e, ko, low⟩, q⟩ := h
  obtain ⟨t, rfl⟩ := rx
  obtain rfl : u = Value.ref a := ry
  have hm := PySem.W.mapOf_K (prog := X.prog) (w := X.w) I.kIn hl hk
  refine wpAny_in_of (PySem.strKind_is X.prog X.w z t) low hm ?_
  rw [PySem.W.find_K hl e]
  refine ⟨.bl o.isSome, H, I.tok _, ?_, q⟩
  cases ko with
  | no => exact rfl
  | yes r => exact rfl
theorem KDgt.ix {K : PySem.W.Frag} {w : World} {a : Addr} {x : Str} {v : V} (h : KDgt K w a x (some v)) : KDct K w a x v := by
  obtain ⟨es, n, r, hl, hk, e, ko, _⟩ := h
  cases ko with
  | yes r => exact ⟨es, n, _, hl, hk, e, r⟩
end My

set_option Elab.async false
set_option linter.all false
set_option maxRecDepth 100000
set_option maxHeartbeats 2000000
/-! an own base class's __init__ called by name; D.get(x, y), x not in D of a written dict -/
namespace My
open PySem PySem.Spec PyProof.Rows L2
/-- what must be known of the base class at B, which has no __init__ of its own -/
structure BaseC (K : PySem.W.Frag) (B : Addr) : Prop where
  rd : PySem.W.readsIn K B (.type "type") = true
  ga : PySem.W.specialIn K (.ref B) "__getattribute__" = some (some (.builtin "type.__getattribute__"))
  vV : PySem.W.findCls K (.ref B) (.type "type") "__init__" = some (.val (.builtin "ValueError.__init__"))
section
variable {X : Cx} {e : Expr} {es : List Expr} {ta : TA} {x : Str} {p1 p2 pos : Pos} {B : Addr}
theorem pe_beinit {pl : Sem Bool} (hg : Gl X x) (hm : X.mg x = some (.ref B)) (hB : BaseC X.K B) (ha : PA X (e :: es) ta)
    (hc : eval (.Call (.Attribute (.Name x p1) "__init__" p2) (e :: es) [] pos) X.env = (do
      let ov ← eval (.Name x p1) X.env
      standAt p2.atName
      let r ← holding [ov] (getMethod ov "__init__" pl)
      callWith pos r.1 r.2 (backTo pos (starEach (e :: es) X.env)) (backToKw pos (keywordEach [] X.env))) := by rfl)
    (hd : (x == ("__debug__" : Str)) = false := by decide) (he : starEach (e :: es) X.env = (false, eval e X.env) :: starEach es X.env := by rfl) (hpl : (backTo pos (starEach es X.env)).any (·.1) = false := by rfl) :
    PE X (.Call (.Attribute (.Name x p1) "__init__" p2) (e :: es) [] pos) (tVeI X.K ta) := by
  refine ⟨fun pins s σ H Q I h => ?_⟩
  refine PySem.W.methodCall_KW (ld_glob I hg hm ?_ hd) hc
  refine PySem.W.method_cls I.kIn hB.ga ?_
  refine PySem.W.cls_value I.kIn hB.rd hB.vV (by decide +kernel) ?_
  show wpAny _ _ (callWith pos (Value.builtin "ValueError.__init__") [] (backTo pos (starEach (e :: es) X.env)) []) _ _ _
  refine PyProof.Rows.callWith_method1 (thn (ha.run pos pins _ σ H _ (I.tok _) h) fun us s1 ⟨vs, H1, I1, r1, a, C, ws, ev, hl, T, ea, q⟩ => ?_) he hpl
  obtain rfl := ev
  obtain ⟨u0, ur, rfl, ra, rw'⟩ : ∃ u0 ur, us = u0 :: ur ∧ RelV (.ref a) u0 ∧ Vals ws ur := by
    cases r1 with
    | cons r t => exact ⟨_, _, rfl, r, t⟩
  obtain rfl : u0 = Value.ref a := ra
  have hlen : ur.length ≤ sizeLine := by
    have := rw'.length
    rw [sizeLine_eq]
    omega
  exact oinit_ok T I1 ea hlen fun s' J => ⟨.non, H1, J, rfl, q⟩
/-- D.get(x, y) -/
def tKGet2 (K : PySem.W.Frag) (w : World) (td ty tz : TE) : TE := fun σ H Q => td σ H fun x H1 => ∃ a es n, x = .ref a ∧ K.lookup a = some ⟨.type "dict", none, .dict es n, #[]⟩ ∧ PySem.W.KeysLit w.params es.toList ∧ ty σ H1 fun y H2 => tz σ H2 fun z H3 => ∃ k o, y = .str k ∧ KDgt K w a k o ∧ Q (o.getD z) H3
def rKNin (K : PySem.W.Frag) (w : World) : R2 := fun x y H Q => ∃ z a o, x = .str z ∧ y = .ref a ∧ KDgt K w a z o ∧ Q (.bl (!o.isSome)) H
theorem op_knin {X : Cx} : OpR X (compareOp .NotIn) (rKNin X.K X.w) := by
  intro pins s σ H x y v u Q I rx ry h
  obtain ⟨z, a, o, rfl, rfl, ⟨es, n, r, hl, hk, e, ko, low⟩, q⟩ := h
  obtain ⟨t, rfl⟩ := rx
  obtain rfl : u = Value.ref a := ry
  have hm := PySem.W.mapOf_K (prog := X.prog) (w := X.w) I.kIn hl hk
  refine wpAny_notIn_of (PySem.strKind_is X.prog X.w z t) low hm ?_
  rw [PySem.W.find_K hl e]
  refine ⟨.bl (!o.isSome), H, I.tok _, ?_, q⟩
  cases ko with
  | no => exact rfl
  | yes r => exact rfl
variable {o f : Expr} {apos cpos : Pos} {td ty tz : TE}
theorem pe_kget2 (ho : PE X o td) (he : PE X e ty) (hf : PE X f tz) (m : M2 X o "get" apos e f cpos) : PE X (.Call (.Attribute o "get" apos) [e, f] [] cpos) (tKGet2 X.K X.w td ty tz) := by
  refine ⟨fun pins s σ H Q I h => ?_⟩
  refine wpAny_Call_method m.base m.few m.line PySem.F.plainAttrs_dict PySem.F.slot_dict_get PySem.F.type_dict_get (thn (ho.run pins s σ H _ I h) fun u s1 hh => ?_)
  obtain ⟨x, H1, I1, rx, a, es, n, ex, hl, hk, q1⟩ := hh
  subst ex
  obtain rfl : u = Value.ref a := rx
  refine ⟨(PySem.W.mapOf_K (prog := X.prog) (w := X.w) I1.kIn hl hk).typeIs, fun b q => ?_, ?_⟩
  · cases q
    exact ⟨_, I1.kIn _ _ hl, rfl⟩
  rw [m.trees]
  refine Calls.callWith_builtin rfl (Calls.evalArgs_plain (Calls.spliced_cons (thn (he.run pins s1 σ H1 _ I1 q1) fun iv s2 h2 => ?_)))
  obtain ⟨y, H2, I2, ry, q2⟩ := h2
  refine Calls.spliced_cons (thn (hf.run pins s2 σ H2 _ I2 q2) fun fv s3 h3 => Calls.spliced_nil ?_)
  obtain ⟨z, H3, I3, rz, k, ov, rfl, ⟨es', n', r, hl', hk', e', ko, low⟩, q3⟩ := h3
  obtain ⟨t, rfl⟩ := ry
  have hm := PySem.W.mapOf_K (prog := X.prog) (w := X.w) I3.kIn hl' hk'
  refine call_meetsIn PySem.F.slot_dict_get hm.typeIs PySem.F.entry_dict_get (PySem.F.args_dict_get_3 _ _ _) (meets_dict_get_default (PySem.strKind X.prog X.w) a (PySem.strKind_is X.prog X.w k t) low fv) ⟨_, hm, ?_⟩
  rw [PySem.W.find_K hl' e']
  refine ⟨_, H3, I3.tok _, ?_, q3⟩
  cases ko with
  | no => exact rz
  | yes r => exact r
end
end My

set_option Elab.async false
set_option linter.all false
set_option maxRecDepth 100000
set_option maxHeartbeats 2000000
/-! x.replace(y, [z0, z1][e]) of three written texts -/
namespace My
open PySem PySem.Spec PyProof.Rows L2
theorem booked_of {K : PySem.W.Frag} {h : Heap} (X : K.In h) (e : PySem.W.nsIn K cStatics sharingNotToldKey = some none) (n : h.NoLimit) : NoneBooked h := by
  obtain ⟨mc, hn, _⟩ := n
  refine ⟨mc, hn, ?_⟩
  obtain ⟨o, es, ep, ho, hd, _, hf⟩ := hn
  unfold PySem.W.nsIn at e
  split at e
  · rename_i q
    have z := ho.symm.trans (X _ _ q)
    cases z; cases hd
    split at e
    · cases e
    · rename_i he
      refine (hf _).symm.trans ?_
      unfold nsFind findBy; rw [← Array.find?_toList, he]; rfl
  · cases e
/-- x.replace(y, [z0, z1][e]) -/
def tRepP (to te : TE) (y z0 z1 : Str) : TE := fun σ H Q => to σ H fun v H1 => ∃ x, v = .str x ∧ ∀ (a : Addr) (o : Obj), H1 a = none → te σ (upd H1 a (.frz o (.lst [.str z0, .str z1]))) fun k H2 => H2 a = some (.frz o (.lst [.str z0, .str z1])) ∧ ∃ b : Bool, k = .int (if b then 1 else 0) ∧
  x.length + (x.length + 1) * (if b then z1 else z0).length ≤ 16777216 ∧ Q (.str (Txt.replace x y (if b then z1 else z0))) H2
section
variable {X : Cx} {o e : Expr} {to te : TE} {y z0 z1 : Str} {j k0 k1 : Nat} {c0 c1 c2 lp sp apos pos : Pos}
theorem pe_repP (nb : PySem.W.nsIn X.K cStatics sharingNotToldKey = some none) (ho : PE X o to) (he : PE X e te) (hpl : PlainIx e)
    (hst : starEach [.Constant (.str y) j c0, .Subscript (.List [.Constant (.str z0) k0 c1, .Constant (.str z1) k1 c2] lp) e sp] X.env = [(false, eval (.Constant (.str y) j c0) X.env), (false, eval (.Subscript (.List [.Constant (.str z0) k0 c1, .Constant (.str z1) k1 c2] lp) e sp) X.env)] := by rfl)
    (hbase : attributeBase o "replace" X.env (eval o X.env) = eval o X.env := by rfl) (hline : (apos.endLine == pos.line) = true := by rfl) :
    PET X (.Call (.Attribute o "replace" apos) [.Constant (.str y) j c0, .Subscript (.List [.Constant (.str z0) k0 c1, .Constant (.str z1) k1 c2] lp) e sp] [] pos) (tRepP to te y z0 z1) := by
  intro pins s σ H Q h0 I h
  refine PySem.Call_method2 hbase hst hline (wpAny_mono (PySem.wpAny_toks (ho.run pins s σ H _ I h)) (fun v s1 hv => ?_) fun _ _ z => z.2)
  obtain ⟨hk, v', H1, I1, r1, x, rfl, q⟩ := hv
  obtain ⟨tx, rfl⟩ := r1
  refine ⟨"str", _, PySem.F.plainAttrs_str, PySem.F.slot_str_replace, PySem.F.type_str_replace, typeIs_str _ _ _, (fun _ z => nomatch z), Calls.callWith_builtin rfl (Calls.evalArgs_plain (Calls.spliced_cons (Calls.Constant_str (Calls.spliced_cons ?_))))⟩
  refine Subscript_ (wpAny_List_spliced ?_)
  show wpAny _ _ (spliced ((false, eval (.Constant (.str z0) k0 c1) X.env) :: backTo lp (starEach [.Constant (.str z1) k1 c2] X.env))) _ _ _
  refine Calls.spliced_cons (Calls.Constant_str ?_)
  show wpAny _ _ (spliced ((false, eval (.Constant (.str z1) k1 c2) X.env) :: backTo lp (starEach [] X.env))) _ _ _
  refine Calls.spliced_cons (Calls.Constant_str (Calls.spliced_nil ⟨by show 2 ≤ sizeLine; decide, ?_⟩))
  -- the list is known as it stands
  have I2 : Inv X pins σ (upd H1 s1.heap.objs.size (.frz { cls := .type "list", data := .seq #[.str z0 (s1.toks + 1), .str z1 (s1.toks + 1 + 1)] 0 } (.lst [.str z0, .str z1]))) { s1 with toks := s1.toks + 1 + 1 + 1, heap := s1.heap.push { cls := .type "list", data := .seq #[.str z0 (s1.toks + 1), .str z1 (s1.toks + 1 + 1)] } } :=
    I1.laid (t' := s1.toks + 1 + 1 + 1) (fun b u z => Heap.get?_push_of_some _ z) (Nat.le_refl _) ⟨Heap.get?_push_size _ rfl, by show 2 ≤ sizeLine; decide, [.str z0 (s1.toks + 1), .str z1 (s1.toks + 1 + 1)], 0, .cons ⟨_, rfl⟩ (.cons ⟨_, rfl⟩ .nil), Heap.get?_push_size _ rfl⟩
  refine thn (he.run pins _ σ _ _ I2 (q _ _ (I1.hok.fresh (Nat.le_refl _)))) fun u s2 h2 => ?_
  obtain ⟨k, H3, I3, ru, efz, b, rfl, hb, qq⟩ := h2
  obtain ⟨tk, rfl⟩ := ru
  have hobj : s2.heap.get? s1.heap.objs.size = some { cls := .type "list", data := .seq #[.str z0 (s1.toks + 1), .str z1 (s1.toks + 1 + 1)] 0 } := (I3.hok _ _ efz).1
  have hl : s2.heap.IsList s1.heap.objs.size #[.str z0 (s1.toks + 1), .str z1 (s1.toks + 1 + 1)] := ⟨_, hobj, rfl, 0, rfl⟩
  have hx : (#[.str z0 (s1.toks + 1), .str z1 (s1.toks + 1 + 1)] : Array Value)[(if b then (1 : Int) else 0).toNat]? = some (.str (if b then z1 else z0) (if b then s1.toks + 1 + 1 else s1.toks + 1)) := by
    cases b <;> rfl
  refine PyProof.Rows.item_listR hl (by cases b <;> decide) (by cases b <;> decide) hx ?_ (hpl _ _)
  refine Calls.spliced_nil ?_
  have v1 : ∀ b : Bool, (if b then s1.toks + 1 + 1 else s1.toks + 1) ≠ 0 := fun b => by cases b <;> exact Nat.succ_ne_zero _
  have v2 : ∀ b : Bool, s1.toks ≠ (if b then s1.toks + 1 + 1 else s1.toks + 1) := fun b => by
    cases b
    · show s1.toks ≠ s1.toks + 1
      exact Nat.ne_of_lt (Nat.lt_succ_self _)
    · show s1.toks ≠ s1.toks + 1 + 1
      exact Nat.ne_of_lt (Nat.lt_succ_of_lt (Nat.lt_succ_self _))
  have v0 : s1.toks ≠ 0 := Nat.ne_of_gt (Nat.lt_of_lt_of_le h0 hk)
  exact PySem.SC.replaceA v0 (v1 b) (v2 b) hb (fun t' k => ⟨.str (Txt.replace x y (if b then z1 else z0)), H3, I3.tok k, ⟨t', rfl⟩, qq⟩) (booked_of I3.kIn nb I3.nolimit)
/-- a text's name, one token out -/
theorem pst_setT {i : Nat} {x : Str} {pos' : Pos} (hN : X.N.Nodup) (hi : X.N[i]? = some x) (hx : Loc X.env.scope x) (he : PET X e te) (hs : swapsWith e (some (.Name x pos')) pos.line X.env = pure false := by rfl) (hf : X.fn x = true ∨ X.env.scope.names.lookup x = some .local := by first | exact .inl rfl | exact .inr rfl | assumption) :
    PST X (.Assign [.Name x pos'] e pos) (tAsg te (gName i)) := by
  intro pins s σ H D h0 I h
  exact wpAny_Assign_Name (thn (he pins s σ H _ h0 I h) fun v s1 hh => by
    obtain ⟨y, H1, I1, r1, q1⟩ := hh
    exact store_ok I1 hN hi hx r1 (fun s2 I2 => ⟨_, H1, I2, q1⟩) hf) hs
/-- an if whose test ends with a written number: behind it a token is out -/
theorem pss_ifT {n : Int} {a b rest : List Stmt} {t u v : TS} {c : Expr} {tc : TE} (hc : PE X c tc) (ha : PSs X a t) (hb : PSs X b u) (hr : PSsT X rest v) (hm : behindInMarks .Eq (.Constant (.int n) j c0) = false) :
    PSs X (.If (.Compare c [.Eq] [.Constant (.int n) j c0] lp) a b pos :: rest) (tSeq (tIfS (tTest (tOp rEq tc (tC (.int n)))) t u) v) := by
  refine ⟨fun pins s σ H D I h => ?_⟩
  refine wpAny_execs_cons (wpAny_If (wpAny_isTrue_Compare1 (thn (hc.run pins s σ H _ I h) fun w1 s1 hh => wpAny_Constant_int ?_) hm))
  obtain ⟨x, H1, I1, r1, q1⟩ := hh
  have tk : 1 ≤ ({ s1 with toks := s1.toks + 1 } : Shared).toks := Nat.succ_le_succ (Nat.zero_le _)
  have q2 : rEq x (.int n) H1 (fun z H' => ∃ k, z = .bl k ∧ (if k = true then t { D with nx := v D } σ H' else u { D with nx := v D } σ H')) := q1
  refine wpAny_mono (PySem.wpAny_toks_of tk (op_eq pins _ σ H1 x (.int n) w1 (.int n s1.toks) _ (I1.tok _) r1 ⟨_, rfl⟩ q2)) (fun c' s3 q3 => ?_) fun _ _ z => z.2
  obtain ⟨k3, z, H3, I3, r3, k, rfl, q4⟩ := q3
  obtain rfl : c' = Value.bool k := r3
  refine wpAny_truthy_bool ?_
  have tail : ∀ (f : Flow) (s' : Shared), (1 ≤ s'.toks ∧ SP X pins { D with nx := v D } f s') → (match f with | .next => wpAny (model X.prog X.w) X.A (execs rest X.env) (SP X pins D) X.xe s' | f => SP X pins D f s') := fun f s' hf => by
    cases f with
    | next =>
      obtain ⟨tk', σ', H', I', q'⟩ := hf
      exact hr pins s' σ' H' D tk' I' q'
    | _ => exact hf.2
  cases k with
  | true => exact wpAny_mono (PySem.wpAny_toks_of k3 (ha.run pins s3 σ H3 { D with nx := v D } I3 q4)) tail fun _ _ z => z.2
  | false => exact wpAny_mono (PySem.wpAny_toks_of k3 (hb.run pins s3 σ H3 { D with nx := v D } I3 q4)) tail fun _ _ z => z.2
end
end My
namespace My
open PySem PySem.Spec PyProof.Rows L2
section
variable {X : Cx} {a : Expr} {ta : TE} {y z : Str} {n : Int} {j j1 j2 : Nat} {c c0 c1 sp apos pos : Pos} {r : R2}
/-- a[n].replace(y, z): behind the written number a token is out -/
theorem pe_replI (ha : PE X a ta) (hr : IxR X r) (hs : PlainIx (.Constant (.int n) j c)) (hyz : (y == z) = false := by decide)
    (hst : starEach [.Constant (.str y) j1 c0, .Constant (.str z) j2 c1] X.env = [(false, eval (.Constant (.str y) j1 c0) X.env), (false, eval (.Constant (.str z) j2 c1) X.env)] := by rfl)
    (hbase : attributeBase (.Subscript a (.Constant (.int n) j c) sp) "replace" X.env (eval (.Subscript a (.Constant (.int n) j c) sp) X.env) = eval (.Subscript a (.Constant (.int n) j c) sp) X.env := by rfl) (hline : (apos.endLine == pos.line) = true := by rfl) :
    PE X (.Call (.Attribute (.Subscript a (.Constant (.int n) j c) sp) "replace" apos) [.Constant (.str y) j1 c0, .Constant (.str z) j2 c1] [] pos) (CwR.tReplC (tOp r ta (tC (.int n))) y z) := by
  refine ⟨fun pins s σ H Q I h => ?_⟩
  refine PySem.Call_method2 hbase hst hline (Subscript_ (thn (ha.run pins s σ H _ I h) fun v s1 h1 => wpAny_Constant_int ?_))
  obtain ⟨x, H1, I1, r1, q1⟩ := h1
  have tk : 1 ≤ ({ s1 with toks := s1.toks + 1 } : Shared).toks := Nat.succ_le_succ (Nat.zero_le _)
  have q2 : r x (.int n) H1 (fun v H2 => ∃ t, v = .str t ∧ t.length + (t.length + 1) * z.length ≤ 16777216 ∧ Q (.str (Txt.replace t y z)) H2) := q1
  refine wpAny_mono (PySem.wpAny_toks_of tk (hr a _ pins _ σ H1 x (.int n) v (.int n s1.toks) _ (I1.tok _) r1 ⟨_, rfl⟩ q2 (hs _ _))) (fun u s2 h2 => ?_) fun _ _ z => z.2
  obtain ⟨k2, y2, H2, I2, r2, t, rfl, hb, qq⟩ := h2
  obtain ⟨tx, rfl⟩ := r2
  refine ⟨"str", _, PySem.F.plainAttrs_str, PySem.F.slot_str_replace, PySem.F.type_str_replace, typeIs_str _ _ _, (fun _ z => nomatch z), Calls.callWith_builtin rfl (Calls.evalArgs_plain (Calls.spliced_cons (Calls.Constant_str (Calls.spliced_cons (Calls.Constant_str (Calls.spliced_nil ?_))))))⟩
  have v0 : s2.toks ≠ 0 := Nat.ne_of_gt k2
  exact PySem.SC.replace v0 (Nat.succ_ne_zero _) (Nat.ne_of_lt (Nat.lt_succ_self _)) hyz hb fun t' k => ⟨.str (Txt.replace t y z), H2, I2.tok k, ⟨t', rfl⟩, qq⟩
end
end My

set_option Elab.async false
set_option linter.all false
set_option maxRecDepth 100000
/-! texts cut at a sign, words of a line, numbers as texts -/
namespace My
open PySem
def toL (s : Str) : List Nat := s.cps.toList
def ofL (l : List Nat) : Str := ⟨l.toArray⟩
theorem toL_ofL (l : List Nat) : toL (ofL l) = l := by simp [toL, ofL]
theorem ofL_toL (s : Str) : ofL (toL s) = s := by
  cases s
  simp [toL, ofL]
theorem toL_inj {a b : Str} (h : toL a = toL b) : a = b := by rw [← ofL_toL a, ← ofL_toL b, h]
theorem toL_app (a b : Str) : toL (a ++ b) = toL a ++ toL b := by
  show (a.cps ++ b.cps).toList = _
  rw [Array.toList_append]
  rfl
theorem toL_len (a : Str) : (toL a).length = a.length := by simp [toL, Str.length]
/-- the parts between the signs c -/
def pcs (c : Nat) : List Nat → List (List Nat)
  | [] => [[]]
  | x :: r => if x = c then [] :: pcs c r else match pcs c r with
    | [] => [[x]]
    | p :: ps => (x :: p) :: ps
def joinL (y : List Nat) : List (List Nat) → List Nat
  | [] => []
  | [p] => p
  | p :: q :: r => p ++ y ++ joinL y (q :: r)
theorem pcs_ne (c : Nat) : ∀ l, pcs c l ≠ []
  | [], h => by cases h
  | x :: r, h => by
    unfold pcs at h
    split at h
    · cases h
    · split at h <;> cases h
theorem pcs_free {c : Nat} : ∀ {l : List Nat}, c ∉ l → pcs c l = [l]
  | [], _ => rfl
  | x :: r, h => by
    have h1 : x ≠ c := fun e => h (by rw [e]; exact List.mem_cons_self)
    unfold pcs
    rw [if_neg h1, pcs_free fun m => h (List.mem_cons_of_mem _ m)]
theorem pcs_app {c : Nat} : ∀ (a b : List Nat), pcs c (a ++ c :: b) = pcs c a ++ pcs c b
  | [], b => by
    show pcs c (c :: b) = [[]] ++ pcs c b
    rw [pcs, if_pos rfl]
    rfl
  | x :: r, b => by
    show pcs c (x :: (r ++ c :: b)) = pcs c (x :: r) ++ pcs c b
    rw [pcs, pcs, pcs_app r b]
    by_cases h : x = c
    · rw [if_pos h, if_pos h]
      rfl
    · rw [if_neg h, if_neg h]
      cases e : pcs c r with
      | nil => exact absurd e (pcs_ne c r)
      | cons p ps => rfl
theorem pcs_join {c : Nat} : ∀ {ps : List (List Nat)}, ps ≠ [] → (∀ p ∈ ps, c ∉ p) → pcs c (joinL [c] ps) = ps
  | [], h, _ => absurd rfl h
  | [p], _, h => pcs_free (h p List.mem_cons_self)
  | p :: q :: r, _, h => by
    have e : joinL [c] (p :: q :: r) = p ++ c :: joinL [c] (q :: r) := by
      show p ++ [c] ++ joinL [c] (q :: r) = _
      simp
    rw [e, pcs_app, pcs_free (h p List.mem_cons_self), pcs_join (by simp) fun x m => h x (List.mem_cons_of_mem _ m)]
    rfl
theorem toL_join (y : Str) : ∀ ps : List Str, toL (Str.join y ps) = joinL (toL y) (ps.map toL)
  | [] => rfl
  | [p] => rfl
  | p :: q :: r => by
    show toL (p ++ y ++ Str.join y (q :: r)) = _
    rw [toL_app, toL_app, toL_join y (q :: r)]
    rfl
theorem joinT (y : Str) (ps : List Str) : Txt.join y ps = Str.join y ps := by
  show Builtin.Str.glued y ps = _
  exact StrLaws.glued_eq_join y ps
theorem split_ne (x : Str) (c : Nat) : Txt.split x ⟨#[c]⟩ ≠ [] := fun h => by
  have j := StrLaws.join_split x ⟨#[c]⟩
  rw [h] at j
  have e : x = Str.empty := j.symm
  subst e
  unfold Txt.split at h
  rw [if_pos (by rw [Bool.or_eq_true]; exact .inl (decide_eq_true (show (0 : Nat) < 1 by decide)))] at h
  cases h
theorem split_pcs (x : Str) (c : Nat) : (Txt.split x ⟨#[c]⟩).map toL = pcs c (toL x) := by
  have j := congrArg toL (StrLaws.join_split x ⟨#[c]⟩)
  rw [toL_join] at j
  rw [← j]
  refine (pcs_join (fun z => split_ne x c (List.map_eq_nil_iff.mp z)) fun p m => ?_).symm
  obtain ⟨s, hs, rfl⟩ := List.mem_map.mp m
  exact StrLaws.split_free x c s hs
theorem split_ofL (x : Str) (c : Nat) : Txt.split x ⟨#[c]⟩ = (pcs c (toL x)).map ofL := by
  rw [← split_pcs, List.map_map]
  conv => lhs; rw [← List.map_id (Txt.split x ⟨#[c]⟩)]
  exact List.map_congr_left fun s _ => (ofL_toL s).symm
theorem toL_replace (x z : Str) (c : Nat) : toL (Txt.replace x ⟨#[c]⟩ z) = joinL (toL z) (pcs c (toL x)) := by
  rw [StrLaws.replace_one, toL_join, split_pcs]
/-! ### the words of a line -/
def cutW (ps : List (List Nat)) : List (List Nat) := (ps.takeWhile fun p => decide (p.head? ≠ some 35)).filter fun p => decide (p ≠ [])
def wdsL (l : List Nat) : List (List Nat) := cutW (pcs 32 l)
theorem cutW_app {a b : List (List Nat)} (h : ∀ p ∈ a, p.head? ≠ some 35) : cutW (a ++ b) = a.filter (fun p => decide (p ≠ [])) ++ cutW b := by
  unfold cutW
  rw [List.takeWhile_append_of_pos (fun p m => decide_eq_true (h p m)), List.filter_append]
theorem cutW_stop {a : List (List Nat)} {p : List Nat} {b : List (List Nat)} (h : ∀ p ∈ a, p.head? ≠ some 35) (hp : p.head? = some 35) : cutW (a ++ p :: b) = a.filter fun p => decide (p ≠ []) := by
  rw [cutW_app h]
  unfold cutW
  rw [List.takeWhile_cons_of_neg (by simp [hp])]
  simp
/-! ### numbers as texts -/
def natL (n : Nat) : List Nat := (Nat.toDigits 10 n).map Char.toNat
def intL : Int → List Nat
  | .ofNat n => natL n
  | .negSucc n => 45 :: natL (n + 1)
theorem toL_ofString (s : String) : toL (Str.ofString s) = s.toList.map Char.toNat := by
  rw [Str.ofString_eq_toList]
  simp [toL]
theorem toL_int (i : Int) : toL (Str.ofString (toString i)) = intL i := by
  rw [toL_ofString]
  cases i with
  | ofNat n =>
    show ((Nat.repr n).toList).map Char.toNat = _
    unfold Nat.repr
    rw [String.toList_ofList]
    rfl
  | negSucc n =>
    show (("-" ++ Nat.repr (n + 1)).toList).map Char.toNat = _
    unfold Nat.repr
    have e : (String.ofList (Nat.toDigits 10 (n + 1))).toList = Nat.toDigits 10 (n + 1) := String.toList_ofList
    rw [String.toList_append, List.map_append, e]
    rfl
def isDg (d : Nat) : Bool := decide (48 ≤ d) && decide (d ≤ 57)
def decL (l : List Nat) : Nat := l.foldl (fun n d => n * 10 + (d - 48)) 0
theorem decL_snoc (l : List Nat) (d : Nat) : decL (l ++ [d]) = decL l * 10 + (d - 48) := by
  unfold decL
  rw [List.foldl_append]
  rfl
theorem dgc : ∀ d < 10, (Nat.digitChar d).toNat = d + 48 := by decide
theorem natL_step (n : Nat) : natL n = if n < 10 then [n + 48] else natL (n / 10) ++ [n % 10 + 48] := by
  unfold natL
  rw [Nat.toDigits_eq_if (by decide)]
  split
  · rename_i h
    show [_] = _
    rw [dgc n h]
  · rw [List.map_append]
    show _ ++ [_] = _
    rw [dgc _ (Nat.mod_lt _ (by decide))]
theorem natL_facts (n : Nat) : decL (natL n) = n ∧ (natL n).all isDg = true ∧ natL n ≠ [] ∧ ((natL n).head? = some 48 → n = 0) := by
  induction n using Nat.strongRecOn with
  | ind n ih =>
    rw [natL_step]
    by_cases h : n < 10
    · rw [if_pos h]
      refine ⟨?_, ?_, by simp, fun e => ?_⟩
      · show 0 * 10 + (n + 48 - 48) = n
        omega
      · simp only [List.all_cons, List.all_nil, Bool.and_true, isDg, Bool.and_eq_true, decide_eq_true_eq]
        omega
      · have : n + 48 = 48 := Option.some.inj e
        omega
    · rw [if_neg h]
      obtain ⟨a, b, c, d⟩ := ih (n / 10) (by omega)
      refine ⟨?_, ?_, by simp, fun e => ?_⟩
      · rw [decL_snoc, a]
        omega
      · rw [List.all_append, b]
        simp only [List.all_cons, List.all_nil, Bool.and_true, Bool.true_and, isDg, Bool.and_eq_true, decide_eq_true_eq]
        omega
      · cases e2 : natL (n / 10) with
        | nil => exact absurd e2 c
        | cons p ps =>
          rw [e2] at e d
          have := d e
          omega
/-- the number that a word shows -/
def dgsL (w : List Nat) : List Nat := if w.head? = some 45 then w.tail else w
def numL (w : List Nat) : Option Int :=
  if dgsL w = [] ∨ (dgsL w).all isDg = false then none else if (dgsL w).head? = some 48 ∧ w ≠ [48] then none
  else some (if w.head? = some 45 then -(decL (dgsL w) : Int) else (decL (dgsL w) : Int))
theorem head_dg {l : List Nat} (h : l.all isDg = true) : l.head? ≠ some 45 := fun e => by
  cases l with
  | nil => cases e
  | cons p ps =>
    obtain rfl : p = 45 := Option.some.inj e
    simp [isDg] at h
theorem natL_zero : natL 0 = [48] := by decide
theorem numL_int (i : Int) : numL (intL i) = some i := by
  cases i with
  | ofNat n =>
    obtain ⟨a, b, c, d⟩ := natL_facts n
    have hd := head_dg b
    show numL (natL n) = _
    have e : dgsL (natL n) = natL n := if_neg hd
    unfold numL
    rw [e, if_neg (by rw [b]; simp [c]), if_neg, if_neg hd, a]
    · rfl
    · rintro ⟨z, y⟩
      rw [d z, natL_zero] at y
      exact y rfl
  | negSucc n =>
    obtain ⟨a, b, c, d⟩ := natL_facts (n + 1)
    show numL (45 :: natL (n + 1)) = _
    have e : dgsL (45 :: natL (n + 1)) = natL (n + 1) := if_pos rfl
    unfold numL
    have hm : (45 :: natL (n + 1)).head? = some 45 := rfl
    rw [e, if_neg (by rw [b]; simp [c]), if_neg, if_pos hm, a]
    · rfl
    · rintro ⟨z, _⟩
      have := d z
      omega
end My

set_option Elab.async false
set_option linter.all false
set_option maxRecDepth 100000
namespace My
open PySem PySem.Spec PyProof.Rows L2
structure TxA (K : PySem.W.Frag) (mg : Str → Option Value) (w : World) where
  a_PARTS : Addr
  m_PARTS : mg "PARTS" = some (.ref a_PARTS)
  p_add : KDgt K w a_PARTS "add" (some (.str "rr"))
  p_sub : KDgt K w a_PARTS "sub" (some (.str "rr"))
  p_xor : KDgt K w a_PARTS "xor" (some (.str "rr"))
  p_addi : KDgt K w a_PARTS "addi" (some (.str "rn"))
  p_xori : KDgt K w a_PARTS "xori" (some (.str "rn"))
  p_and : KDgt K w a_PARTS "and" (some (.str "rrr"))
  p_or : KDgt K w a_PARTS "or" (some (.str "rrr"))
  p_mul : KDgt K w a_PARTS "mul" (some (.str "rrr"))
  p_less : KDgt K w a_PARTS "less" (some (.str "rrr"))
  p_equal : KDgt K w a_PARTS "equal" (some (.str "rrr"))
  p_shl : KDgt K w a_PARTS "shl" (some (.str "rrr"))
  p_shr : KDgt K w a_PARTS "shr" (some (.str "rrr"))
  p_rem : KDgt K w a_PARTS "rem" (some (.str "rrr"))
  p_differ : KDgt K w a_PARTS "differ" (some (.str "rrr"))
  p_test : KDgt K w a_PARTS "test" (some (.str "rr"))
  p_swap : KDgt K w a_PARTS "swap" (some (.str "rr"))
  p_exch : KDgt K w a_PARTS "exch" (some (.str "rr"))
  p_addr : KDgt K w a_PARTS "addr" (some (.str "rr"))
  p_subr : KDgt K w a_PARTS "subr" (some (.str "rr"))
  p_addl : KDgt K w a_PARTS "addl" (some (.str "rm"))
  p_neg : KDgt K w a_PARTS "neg" (some (.str "r"))
  p_over : KDgt K w a_PARTS "over" (some (.str "rrm"))
  p_swapbr : KDgt K w a_PARTS "swapbr" (some (.str "r"))
  p_bra : KDgt K w a_PARTS "bra" (some (.str "o"))
  p_brz : KDgt K w a_PARTS "brz" (some (.str "ro"))
  p_brn : KDgt K w a_PARTS "brn" (some (.str "ro"))
  p_rbra : KDgt K w a_PARTS "rbra" (some (.str "o"))
  p_skip : KDgt K w a_PARTS "skip" (some (.str ""))
  p_halt : KDgt K w a_PARTS "halt" (some (.str ""))
  p_fail : KDgt K w a_PARTS "fail" (some (.str "k"))
  n_move : KDgt K w a_PARTS "move" none
  n_Halt : KDgt K w a_PARTS "Halt" none
  n_width : KDgt K w a_PARTS "width" none
  n_semi : KDgt K w a_PARTS "skip;" none
  n_8 : KDgt K w a_PARTS "8" none
  n_Width : KDgt K w a_PARTS "Width" none

def topS (i : Nat) : Stmt := PySem.Challenge.pw_backrun_k23_code_as_text.main.body.getD i (.Pass ⟨0, 0, 0, 0⟩)
abbrev s_top : Stmt := topS 4
abbrev N_top : List Str := ["w"]
theorem sc_top : FnScope N_top ["w"] (defScope s_top) := ⟨rfl, rfl, rfl, by decide +kernel, rfl, by decide +kernel, by decide +kernel⟩
abbrev s_is_whole : Stmt := topS 6
abbrev N_is_whole : List Str := ["value"]
theorem sc_is_whole : FnScope N_is_whole ["value"] (defScope s_is_whole) := ⟨rfl, rfl, rfl, by decide +kernel, rfl, by decide +kernel, by decide +kernel⟩
abbrev s_is_integer : Stmt := topS 7
abbrev N_is_integer : List Str := ["value", "low", "high"]
theorem sc_is_integer : FnScope N_is_integer ["value", "low", "high"] (defScope s_is_integer) := ⟨rfl, rfl, rfl, by decide +kernel, rfl, by decide +kernel, by decide +kernel⟩
abbrev s_is_count : Stmt := topS 8
abbrev N_is_count : List Str := ["value"]
theorem sc_is_count : FnScope N_is_count ["value"] (defScope s_is_count) := ⟨rfl, rfl, rfl, by decide +kernel, rfl, by decide +kernel, by decide +kernel⟩
abbrev s_begins_with_word : Stmt := topS 9
abbrev N_begins_with_word : List Str := ["value"]
theorem sc_begins_with_word : FnScope N_begins_with_word ["value"] (defScope s_begins_with_word) := ⟨rfl, rfl, rfl, by decide +kernel, rfl, by decide +kernel, by decide +kernel⟩
abbrev s_is_number_of : Stmt := topS 16
abbrev N_is_number_of : List Str := ["kind", "part", "width"]
theorem sc_is_number_of : FnScope N_is_number_of ["kind", "part", "width"] (defScope s_is_number_of) := ⟨rfl, rfl, rfl, by decide +kernel, rfl, by decide +kernel, by decide +kernel⟩
abbrev s_instruction_fault : Stmt := topS 15
abbrev N_instruction_fault : List Str := ["value", "width", "kinds", "registers", "kind", "part"]
theorem sc_instruction_fault : FnScope N_instruction_fault ["value", "width"] (defScope s_instruction_fault) := ⟨rfl, rfl, rfl, by decide +kernel, rfl, by decide +kernel, by decide +kernel⟩
abbrev s_show_instruction : Stmt := topS 20
abbrev N_show_instruction : List Str := ["instruction", "shown", "kind", "part"]
theorem sc_show_instruction : FnScope N_show_instruction ["instruction"] (defScope s_show_instruction) := ⟨rfl, rfl, rfl, by decide +kernel, rfl, by decide +kernel, by decide +kernel⟩
abbrev s_show_code : Stmt := topS 19
abbrev N_show_code : List Str := ["machine", "width", "code", "lines", "instruction", "line"]
theorem sc_show_code : FnScope N_show_code ["machine"] (defScope s_show_code) := ⟨rfl, rfl, rfl, by decide +kernel, rfl, by decide +kernel, by decide +kernel⟩
abbrev s_number_of : Stmt := topS 28
abbrev N_number_of : List Str := ["word", "digits", "number", "digit"]
theorem sc_number_of : FnScope N_number_of ["word"] (defScope s_number_of) := ⟨rfl, rfl, rfl, by decide +kernel, rfl, by decide +kernel, by decide +kernel⟩
abbrev s_register_of : Stmt := topS 27
abbrev N_register_of : List Str := ["word", "number"]
theorem sc_register_of : FnScope N_register_of ["word"] (defScope s_register_of) := ⟨rfl, rfl, rfl, by decide +kernel, rfl, by decide +kernel, by decide +kernel⟩
abbrev s_instruction_of : Stmt := topS 26
abbrev N_instruction_of : List Str := ["words", "kinds", "instruction", "at", "word", "is_register"]
theorem sc_instruction_of : FnScope N_instruction_of ["words"] (defScope s_instruction_of) := ⟨rfl, rfl, rfl, by decide +kernel, rfl, by decide +kernel, by decide +kernel⟩
abbrev s_words_of : Stmt := topS 23
abbrev N_words_of : List Str := ["line", "words", "word"]
theorem sc_words_of : FnScope N_words_of ["line"] (defScope s_words_of) := ⟨rfl, rfl, rfl, by decide +kernel, rfl, by decide +kernel, by decide +kernel⟩
abbrev s_lines_of : Stmt := topS 22
abbrev N_lines_of : List Str := ["text", "lines"]
theorem sc_lines_of : FnScope N_lines_of ["text"] (defScope s_lines_of) := ⟨rfl, rfl, rfl, by decide +kernel, rfl, by decide +kernel, by decide +kernel⟩
abbrev s_CodeError___init__ : Stmt := inClass (topS 2) 0
abbrev N_CodeError___init__ : List Str := ["self", "line"]
theorem sc_CodeError___init__ : FnScope N_CodeError___init__ ["self", "line"] (defScope s_CodeError___init__) := ⟨rfl, rfl, rfl, by decide +kernel, rfl, by decide +kernel, by decide +kernel⟩
abbrev s_read_width : Stmt := topS 24
abbrev N_read_width : List Str := ["row", "line", "words", "width"]
theorem sc_read_width : FnScope N_read_width ["row"] (defScope s_read_width) := ⟨rfl, rfl, rfl, by decide +kernel, rfl, by decide +kernel, by decide +kernel⟩
abbrev s_read_instructions : Stmt := topS 25
abbrev N_read_instructions : List Str := ["rows", "width", "code", "line", "words", "instruction"]
theorem sc_read_instructions : FnScope N_read_instructions ["rows", "width"] (defScope s_read_instructions) := ⟨rfl, rfl, rfl, by decide +kernel, rfl, by decide +kernel, by decide +kernel⟩
abbrev s_read_code : Stmt := topS 21
abbrev N_read_code : List Str := ["text", "lines", "rows", "told", "width", "at", "line", "words", "_"]
theorem sc_read_code : FnScope N_read_code ["text"] (defScope s_read_code) := ⟨rfl, rfl, rfl, by decide +kernel, rfl, by decide +kernel, by decide +kernel⟩
abbrev s_z_draw : Stmt := topS 30
abbrev N_z_draw : List Str := ["script", "seed", "cell"]
theorem sc_z_draw : FnScope N_z_draw ["script"] (defScope s_z_draw) := ⟨rfl, rfl, rfl, by decide +kernel, rfl, by decide +kernel, by decide +kernel⟩
abbrev s_z_take : Stmt := topS 31
abbrev N_z_take : List Str := ["draw", "many", "found"]
theorem sc_z_take : FnScope N_z_take ["draw", "many"] (defScope s_z_take) := ⟨rfl, rfl, rfl, by decide +kernel, rfl, by decide +kernel, by decide +kernel⟩
abbrev s_z_shapes : Stmt := topS 32
abbrev N_z_shapes : List Str := ["shapes", "op", "rest"]
theorem sc_z_shapes : FnScope N_z_shapes [] (defScope s_z_shapes) := ⟨rfl, rfl, rfl, by decide +kernel, rfl, by decide +kernel, by decide +kernel⟩
abbrev s_z_words : Stmt := topS 33
abbrev N_z_words : List Str := []
theorem sc_z_words : FnScope N_z_words [] (defScope s_z_words) := ⟨rfl, rfl, rfl, by decide +kernel, rfl, by decide +kernel, by decide +kernel⟩
abbrev s_z_number : Stmt := topS 34
abbrev N_z_number : List Str := ["draw", "bits", "top_v", "k"]
theorem sc_z_number : FnScope N_z_number ["draw", "bits"] (defScope s_z_number) := ⟨rfl, rfl, rfl, by decide +kernel, rfl, by decide +kernel, by decide +kernel⟩
abbrev s_z_different : Stmt := topS 35
abbrev N_z_different : List Str := ["draw", "many", "found", "r"]
theorem sc_z_different : FnScope N_z_different ["draw", "many"] (defScope s_z_different) := ⟨rfl, rfl, rfl, by decide +kernel, rfl, by decide +kernel, by decide +kernel⟩
abbrev s_z_instruction : Stmt := topS 36
abbrev N_z_instruction : List Str := ["draw", "width", "near", "op", "shape", "registers", "parts", "k"]
theorem sc_z_instruction : FnScope N_z_instruction ["draw", "width", "near"] (defScope s_z_instruction) := ⟨rfl, rfl, rfl, by decide +kernel, rfl, by decide +kernel, by decide +kernel⟩
abbrev s_z_line : Stmt := topS 38
abbrev N_z_line : List Str := ["ins", "shape", "items", "k"]
theorem sc_z_line : FnScope N_z_line ["ins"] (defScope s_z_line) := ⟨rfl, rfl, rfl, by decide +kernel, rfl, by decide +kernel, by decide +kernel⟩
abbrev s_z_loose : Stmt := topS 39
abbrev N_z_loose : List Str := ["draw", "lines", "found", "line", "text"]
theorem sc_z_loose : FnScope N_z_loose ["draw", "lines"] (defScope s_z_loose) := ⟨rfl, rfl, rfl, by decide +kernel, rfl, by decide +kernel, by decide +kernel⟩
abbrev s_z_told : Stmt := topS 40
abbrev N_z_told : List Str := ["text", "error"]
theorem sc_z_told : FnScope N_z_told ["text"] (defScope s_z_told) := ⟨rfl, rfl, rfl, by decide +kernel, rfl, by decide +kernel, by decide +kernel⟩
abbrev s_law : Stmt := topS 41
abbrev N_law : List Str := ["script", "draw", "width", "code", "lines", "text", "machine", "loose", "wrong", "first", "at", "bad", "k", "ins"]
theorem sc_law : FnScope N_law ["script"] (defScope s_law) := ⟨rfl, rfl, rfl, by decide +kernel, rfl, by decide +kernel, by decide +kernel⟩
/-- what the top has left -/
structure Txt (K : PySem.W.Frag) (mg : Str → Option Value) where
  f_top : Addr
  d_top : FuncData
  F_top : Fun K "top" "top" s_top f_top d_top
  g_top : mg "top" = some (.ref f_top)
  b_top : Binds K d_top ["w"] []
  f_is_whole : Addr
  d_is_whole : FuncData
  F_is_whole : Fun K "is_whole" "is_whole" s_is_whole f_is_whole d_is_whole
  g_is_whole : mg "is_whole" = some (.ref f_is_whole)
  b_is_whole : Binds K d_is_whole ["value"] []
  f_is_integer : Addr
  d_is_integer : FuncData
  F_is_integer : Fun K "is_integer" "is_integer" s_is_integer f_is_integer d_is_integer
  g_is_integer : mg "is_integer" = some (.ref f_is_integer)
  b_is_integer : Binds K d_is_integer ["value", "low", "high"] []
  f_is_count : Addr
  d_is_count : FuncData
  F_is_count : Fun K "is_count" "is_count" s_is_count f_is_count d_is_count
  g_is_count : mg "is_count" = some (.ref f_is_count)
  b_is_count : Binds K d_is_count ["value"] []
  f_begins_with_word : Addr
  d_begins_with_word : FuncData
  F_begins_with_word : Fun K "begins_with_word" "begins_with_word" s_begins_with_word f_begins_with_word d_begins_with_word
  g_begins_with_word : mg "begins_with_word" = some (.ref f_begins_with_word)
  b_begins_with_word : Binds K d_begins_with_word ["value"] []
  f_is_number_of : Addr
  d_is_number_of : FuncData
  F_is_number_of : Fun K "is_number_of" "is_number_of" s_is_number_of f_is_number_of d_is_number_of
  g_is_number_of : mg "is_number_of" = some (.ref f_is_number_of)
  b_is_number_of : Binds K d_is_number_of ["kind", "part", "width"] []
  f_instruction_fault : Addr
  d_instruction_fault : FuncData
  F_instruction_fault : Fun K "instruction_fault" "instruction_fault" s_instruction_fault f_instruction_fault d_instruction_fault
  g_instruction_fault : mg "instruction_fault" = some (.ref f_instruction_fault)
  b_instruction_fault : Binds K d_instruction_fault ["value", "width"] []
  f_show_instruction : Addr
  d_show_instruction : FuncData
  F_show_instruction : Fun K "show_instruction" "show_instruction" s_show_instruction f_show_instruction d_show_instruction
  g_show_instruction : mg "show_instruction" = some (.ref f_show_instruction)
  b_show_instruction : Binds K d_show_instruction ["instruction"] []
  f_show_code : Addr
  d_show_code : FuncData
  F_show_code : Fun K "show_code" "show_code" s_show_code f_show_code d_show_code
  g_show_code : mg "show_code" = some (.ref f_show_code)
  b_show_code : Binds K d_show_code ["machine"] []
  f_number_of : Addr
  d_number_of : FuncData
  c_number_of : Addr
  P_number_of : Addr
  F_number_of : FunC K "number_of" "number_of" s_number_of f_number_of d_number_of c_number_of
  g_number_of : mg "number_of" = some (.ref f_number_of)
  b_number_of : Binds K d_number_of ["word"] []
  f_register_of : Addr
  d_register_of : FuncData
  F_register_of : Fun K "register_of" "register_of" s_register_of f_register_of d_register_of
  g_register_of : mg "register_of" = some (.ref f_register_of)
  b_register_of : Binds K d_register_of ["word"] []
  f_instruction_of : Addr
  d_instruction_of : FuncData
  F_instruction_of : Fun K "instruction_of" "instruction_of" s_instruction_of f_instruction_of d_instruction_of
  g_instruction_of : mg "instruction_of" = some (.ref f_instruction_of)
  b_instruction_of : Binds K d_instruction_of ["words"] []
  f_words_of : Addr
  d_words_of : FuncData
  F_words_of : Fun K "words_of" "words_of" s_words_of f_words_of d_words_of
  g_words_of : mg "words_of" = some (.ref f_words_of)
  b_words_of : Binds K d_words_of ["line"] []
  f_lines_of : Addr
  d_lines_of : FuncData
  F_lines_of : Fun K "lines_of" "lines_of" s_lines_of f_lines_of d_lines_of
  g_lines_of : mg "lines_of" = some (.ref f_lines_of)
  b_lines_of : Binds K d_lines_of ["text"] []
  f_read_width : Addr
  d_read_width : FuncData
  F_read_width : Fun K "read_width" "read_width" s_read_width f_read_width d_read_width
  g_read_width : mg "read_width" = some (.ref f_read_width)
  b_read_width : Binds K d_read_width ["row"] []
  f_read_instructions : Addr
  d_read_instructions : FuncData
  F_read_instructions : Fun K "read_instructions" "read_instructions" s_read_instructions f_read_instructions d_read_instructions
  g_read_instructions : mg "read_instructions" = some (.ref f_read_instructions)
  b_read_instructions : Binds K d_read_instructions ["rows", "width"] []
  f_read_code : Addr
  d_read_code : FuncData
  F_read_code : Fun K "read_code" "read_code" s_read_code f_read_code d_read_code
  g_read_code : mg "read_code" = some (.ref f_read_code)
  b_read_code : Binds K d_read_code ["text"] []
  f_z_draw : Addr
  d_z_draw : FuncData
  F_z_draw : Fun K "_law_draw" "_law_draw" s_z_draw f_z_draw d_z_draw
  g_z_draw : mg "_law_draw" = some (.ref f_z_draw)
  b_z_draw : Binds K d_z_draw ["script"] []
  f_z_take : Addr
  d_z_take : FuncData
  F_z_take : Fun K "_law_take" "_law_take" s_z_take f_z_take d_z_take
  g_z_take : mg "_law_take" = some (.ref f_z_take)
  b_z_take : Binds K d_z_take ["draw", "many"] []
  f_z_shapes : Addr
  d_z_shapes : FuncData
  F_z_shapes : Fun K "_law_shapes" "_law_shapes" s_z_shapes f_z_shapes d_z_shapes
  g_z_shapes : mg "_law_shapes" = some (.ref f_z_shapes)
  b_z_shapes : Binds K d_z_shapes [] []
  f_z_words : Addr
  d_z_words : FuncData
  F_z_words : Fun K "_law_words" "_law_words" s_z_words f_z_words d_z_words
  g_z_words : mg "_law_words" = some (.ref f_z_words)
  b_z_words : Binds K d_z_words [] []
  f_z_number : Addr
  d_z_number : FuncData
  F_z_number : Fun K "_law_number" "_law_number" s_z_number f_z_number d_z_number
  g_z_number : mg "_law_number" = some (.ref f_z_number)
  b_z_number : Binds K d_z_number ["draw", "bits"] []
  f_z_different : Addr
  d_z_different : FuncData
  F_z_different : Fun K "_law_different" "_law_different" s_z_different f_z_different d_z_different
  g_z_different : mg "_law_different" = some (.ref f_z_different)
  b_z_different : Binds K d_z_different ["draw", "many"] []
  f_z_instruction : Addr
  d_z_instruction : FuncData
  F_z_instruction : Fun K "_law_instruction" "_law_instruction" s_z_instruction f_z_instruction d_z_instruction
  g_z_instruction : mg "_law_instruction" = some (.ref f_z_instruction)
  b_z_instruction : Binds K d_z_instruction ["draw", "width", "near"] []
  f_z_line : Addr
  d_z_line : FuncData
  F_z_line : Fun K "_law_line" "_law_line" s_z_line f_z_line d_z_line
  g_z_line : mg "_law_line" = some (.ref f_z_line)
  b_z_line : Binds K d_z_line ["ins"] []
  f_z_loose : Addr
  d_z_loose : FuncData
  F_z_loose : Fun K "_law_loose" "_law_loose" s_z_loose f_z_loose d_z_loose
  g_z_loose : mg "_law_loose" = some (.ref f_z_loose)
  b_z_loose : Binds K d_z_loose ["draw", "lines"] []
  f_z_told : Addr
  d_z_told : FuncData
  F_z_told : Fun K "_law_told" "_law_told" s_z_told f_z_told d_z_told
  g_z_told : mg "_law_told" = some (.ref f_z_told)
  b_z_told : Binds K d_z_told ["text"] []
  f_law : Addr
  d_law : FuncData
  F_law : Fun K "law" "law" s_law f_law d_law
  g_law : mg "law" = some (.ref f_law)
  m_abs : mg "abs" = none
  m_all : mg "all" = none
  m_any : mg "any" = none
  m_bool : mg "bool" = none
  m_enumerate : mg "enumerate" = none
  m_int : mg "int" = none
  m_isinstance : mg "isinstance" = none
  m_len : mg "len" = none
  m_min : mg "min" = none
  m_range : mg "range" = none
  m_str : mg "str" = none
  m_tuple : mg "tuple" = none
  m_zip : mg "zip" = none
  k_REGISTERS : Tok
  m_REGISTERS : mg "REGISTERS" = some (.int 16 k_REGISTERS)
  k_WORD_BITS : Tok
  m_WORD_BITS : mg "WORD_BITS" = some (.int 32 k_WORD_BITS)
  k_FARTHEST : Tok
  m_FARTHEST : mg "FARTHEST" = some (.int 2147483648 k_FARTHEST)
  k_DIGITS : Tok
  m_DIGITS : mg "DIGITS" = some (.str "0123456789" k_DIGITS)
  x_a : Addr
  x_g : mg "CodeError" = some (.ref x_a)
  x_o : OexC K x_a
  x_f : Addr
  x_d : FuncData
  x_F : Fun K "__init__" "CodeError.__init__" s_CodeError___init__ x_f x_d
  x_bi : Binds K x_d ["self", "line"] []
  x_n : PySem.W.findIn K (.ref x_a) "__init__" = some (some (.ref x_f))
  x_y : PySem.W.typeIn K (.ref x_f) = some (.type "function")
  x_c : XfC K x_a
  x_l : PySem.W.findIn K (.ref x_a) "line" = some none
  x_s : PySem.W.exmOne K (.ref x_a) (.ref x_a) = some true
  y_a : Addr
  y_g : mg "BackrunError" = some (.ref y_a)
  y_b : BaseC K y_a
  z_n : PySem.W.nsIn K cStatics sharingNotToldKey = some none
/-- the code objects and tables of the defs that hold generator expressions -/
def Txt.tabs {K : PySem.W.Frag} {mg : Str → Option Value} (T : Txt K mg) : List (Addr × Addr) := [(T.c_number_of, T.P_number_of)]
structure TBs {K : PySem.W.Frag} {mg : Str → Option Value} (T : Txt K mg) (base : Heap) : Prop where
  B_number_of : GxR.TabB base mg T.c_number_of T.P_number_of

section
variable {P : Program} {w : World} {K : PySem.W.Frag} {mg : Str → Option Value} {base : Heap}
/-! ### the draw -/
/-- the cells stay where they are -/
def Cs (p : Addr) (H H' : Hp) : Prop := ∀ c t, H p = some (.lst (.ref c :: t)) → ∃ t', H' p = some (.lst (.ref c :: t'))
theorem Cs.refl (p : Addr) (H : Hp) : Cs p H H := fun _ t e => ⟨t, e⟩
theorem Cs.trans {p : Addr} {H H1 H2 : Hp} (a : Cs p H H1) (b : Cs p H1 H2) : Cs p H H2 := fun c t e => let ⟨t', e'⟩ := a c t e; b c t' e'
theorem Cs.new {p q : Addr} {H : Hp} {o : HO} (h : H q = none) : Cs p H (upd H q o) := fun c t e => ⟨t, by rw [upd_ne (ne_of_none e h)]; exact e⟩
/-- a number from 0 to m - 1, the draw turned -/
def spTake : Sp := fun vs H Q _ => ∃ (p : Addr) (m : Int), vs = [.ref p, .int m] ∧ DrawAt H p ∧ 0 < m ∧ m ≤ 2 ^ 40 ∧ ∀ (r : Int) (H' : Hp), 0 ≤ r → r < m → KeepBut p H H' → Cs p H H' → DrawAt H' p → Q (.int r) H'
theorem ok_z_take (T : Txt K mg) : FnOk P w K mg base CX0 1 T.f_z_take T.d_z_take ["draw", "many"] spTake := by
  refine T.F_z_take.ok sc_z_take (fun vs H Q E h => ?_) (fun cdv A outer s H vs Q E hr h => ?_)
  · obtain ⟨p, m, rfl, _⟩ := h
    rfl
  · obtain ⟨p, m, rfl, ⟨c, cells, pos, rest, seed, D⟩, hm, hm2, q⟩ := h
    have hc0 := D.hp
    refine ⟨_, (pss_cons (ps_cut (ps_if (pt_cmpR op_eq (pe_ix ix_list (pv 0) pe_int (fun _ _ => rfl)) pe_int (nomark _))
        (pss_cons (ps_asg (pe_op op_add (pe_ix ix_list (pv 0) pe_int (fun _ _ => rfl)) pe_int) (pg_sub (pv 0) pe_int set_list))
        (pss_cons (ps_cut (ps_if (pt_cmpR op_lt (pe_ix ix_list (pv 0) pe_int (fun _ _ => rfl)) (pe_callB call_len_seq (by rfl) T.m_len (by decide +kernel) (pa_cons (pe_ix ix_list (pv 0) pe_int (fun _ _ => rfl)) pa_nil)) (nomark _))
          (pss_one (ps_asg (pe_ix ix_list (pe_ix ix_list (pv 0) pe_int (fun _ _ => rfl)) (pe_ix ix_list (pv 0) pe_int (fun _ _ => rfl)) (fun _ _ => rfl)) (pg_sub (pv 0) pe_int set_list)))
          pss_nil))
        (pss_one (ps_if (pt_cmpR op_eq (pe_ix ix_list (pv 0) pe_int (fun _ _ => rfl)) pe_int (nomark _))
          (pss_cons (ps_asg (pe_op op_modN (pe_callTy call_int1 (by rfl) T.m_int (by decide +kernel) (pa_cons (pe_op op_add (pe_op op_mul (pe_ix ix_list (pv 0) pe_int (fun _ _ => rfl)) pe_int) pe_int) pa_nil)) pe_int) (pg_sub (pv 0) pe_int set_list))
          (pss_one (ps_asg (pe_ix ix_list (pv 0) pe_int (fun _ _ => rfl)) (pg_sub (pv 0) pe_int set_list))))
          pss_nil))))
        pss_nil))
      (pss_cons (ps_set (i := 2) sc_z_take.nd rfl (Or.inl rfl) (pe_op op_modN (pe_callTy call_int1 (by rfl) T.m_int (by decide +kernel) (pa_cons (pe_ix ix_list (pv 0) pe_int (fun _ _ => rfl)) pa_nil)) (pv 1)))
      (pss_cons (ps_asg (pe_op op_fdivW (pe_ix ix_list (pv 0) pe_int (fun _ _ => rfl)) (pv 1)) (pg_sub (pv 0) pe_int set_list))
      (pss_one (ps_ret (pv 2)))))), ?_⟩
    refine ⟨fun σ H1 => ∃ pos rest seed, σ = [some (.ref p), some (.int m), none] ∧ DrawIs H1 p c cells pos rest seed ∧ KeepBut p H H1, ?_, ?_⟩
    · -- draw[2] == 0
      refine ⟨_, rfl, _, _, _, _, rfl, rfl, SqL.of D.hp, rfl, rfl, _, rfl, ite2 (fun e => ?_) (fun e => ?_)⟩
      · -- draw[1] = draw[1] + 1
        refine ⟨_, rfl, _, _, _, _, rfl, rfl, SqL.of D.hp, rfl, _, _, rfl, rfl, _, rfl, _, _, _, 1, rfl, rfl, D.hp, rfl, ?_⟩
        have h1 := D.po
        have D1 : DrawIs (upd H p (.lst [.ref c, .int (pos + 1), .int rest, .int seed])) p c cells (pos + 1) rest seed := D.put (by omega) D.re D.s0 D.s1
        have k1 : KeepBut p H (upd H p (.lst [.ref c, .int (pos + 1), .int rest, .int seed])) := .put _ _ _
        refine ⟨fun σ H1 => ∃ rest, σ = [some (.ref p), some (.int m), none] ∧ DrawIs H1 p c cells (pos + 1) rest seed ∧ KeepBut p H H1, ?_, ?_⟩
        · -- draw[1] < len(draw[0])
          refine ⟨_, rfl, _, _, _, _, rfl, rfl, SqL.of D1.hp, rfl, _, rfl, _, _, _, _, rfl, rfl, SqL.of D1.hp, rfl, _, _, rfl, .inl (SqL.of D1.hc), _, _, rfl, rfl, _, rfl, ite2 (fun e => ?_) (fun e => ?_)⟩
          · have e1 : pos + 1 < ((cells.map V.int).length : Int) := of_decide_eq_true e
            rw [List.length_map] at e1
            obtain ⟨n, hn⟩ := int_nat (show 0 ≤ pos + 1 by omega)
            have hn2 : n < cells.length := by omega
            refine ⟨_, rfl, _, _, _, _, rfl, rfl, SqL.of D1.hp, rfl, _, rfl, _, _, _, _, rfl, rfl, SqL.of D1.hp, rfl, _, _, _, .int cells[n], rfl, rfl, SqL.of D1.hc, ?_, _, rfl, _, _, _, 2, rfl, rfl, D1.hp, rfl, ?_⟩
            · rw [hn]
              exact atI_nat (by rw [List.getElem?_map, List.getElem?_eq_getElem hn2]; rfl)
            · exact ⟨_, rfl, D1.put D1.po (D1.nn _ (List.getElem_mem hn2)) D1.s0 D1.s1, k1.trans (.put _ _ _)⟩
          · exact ⟨rest, rfl, D1, k1⟩
        · rintro σ H1 ⟨rest1, rfl, D2, k2⟩
          -- draw[2] == 0
          refine ⟨_, rfl, _, _, _, _, rfl, rfl, SqL.of D2.hp, rfl, rfl, _, rfl, ite2 (fun e => ?_) (fun e => ?_)⟩
          · have s0 := D2.s0
            have s1 := D2.s1
            refine ⟨_, rfl, _, _, _, _, rfl, rfl, SqL.of D2.hp, rfl, _, _, rfl, rfl, .inl ⟨by omega, by omega⟩, _, _, rfl, rfl, .inl ⟨_, rfl, _, _, rfl, rfl, (show (2147483647 : Int) ≠ 0 by decide), _, rfl, _, _, _, 3, rfl, rfl, D2.hp, rfl, ?_⟩⟩
            have f0 : 0 ≤ (seed * 48271 + 11).fmod 2147483647 := fmod_lo (by decide)
            have f1 : (seed * 48271 + 11).fmod 2147483647 < 2147483647 := fmod_hi (by decide)
            have D3 := D2.put (seed' := (seed * 48271 + 11).fmod 2147483647) D2.po D2.re f0 f1
            refine ⟨_, rfl, _, _, _, _, rfl, rfl, SqL.of D3.hp, rfl, _, rfl, _, _, _, 2, rfl, rfl, D3.hp, rfl, ?_⟩
            exact ⟨_, _, _, rfl, D3.put D3.po f0 f0 f1, (k2.trans (.put _ _ _)).trans (.put _ _ _)⟩
          · exact ⟨_, _, _, rfl, D2, k2⟩
      · exact ⟨_, _, _, rfl, D, .refl _ _⟩
    · rintro σ H1 ⟨pos, rest, seed, rfl, D, k⟩
      -- found = int(draw[2]) % many; draw[2] = draw[2] // many
      refine ⟨_, rfl, _, _, _, _, rfl, rfl, SqL.of D.hp, rfl, .inl ⟨_, rfl, _, rfl, _, _, rfl, rfl, (by omega), ?_⟩⟩
      refine ⟨_, rfl, _, _, _, _, rfl, rfl, SqL.of D.hp, rfl, _, rfl, _, _, rfl, rfl, wide_div (b := 41) hm (by omega) (by decide) (by decide), _, rfl, _, _, _, 2, rfl, rfl, D.hp, rfl, ?_⟩
      exact ⟨_, rfl, q _ _ (fmod_lo hm) (fmod_hi hm) (k.trans (.put _ _ _)) (fun c' t e => by rw [hc0] at e; cases e; exact ⟨_, upd_same⟩) ⟨_, _, _, _, _, D.put D.po (div_lo D.re hm) D.s0 D.s1⟩⟩
theorem drawAt_isl {H : Hp} {p : Addr} (D : DrawAt H p) : ∃ xs, H p = some (.lst xs) := by
  obtain ⟨c, cells, pos, rest, seed, d⟩ := D
  exact ⟨_, d.hp⟩
theorem KT.of_but {H H' : Hp} {p : Addr} (D : DrawAt H p) (D' : DrawAt H' p) (k : KeepBut p H H') (cs : Cs p H H') : KT [p] H H' := by
  obtain ⟨xs, e⟩ := (drawAt_isl D)
  obtain ⟨ys, e'⟩ := (drawAt_isl D')
  have ne : ∀ b o, H b = some o → (∀ q, o ≠ .lst q) → b ≠ p := fun b o q n z => by rw [z, e] at q; exact n xs (Option.some.inj q).symm
  refine ⟨fun b o n q => k b o (fun z => n (by rw [z]; exact List.mem_singleton.mpr rfl)) q, fun b xs q => k b _ (ne b _ q fun _ z => by cases z) q, fun b o u q => k b _ (ne b _ q fun _ z => by cases z) q, fun b o q => ?_, fun b c t q => ?_⟩
  rotate_left
  · by_cases z : b = p
    · subst z
      exact cs c t q
    · exact ⟨t, k b _ z q⟩
  by_cases z : b = p
  · exact ⟨_, by rw [z]; exact e'⟩
  · exact ⟨o, k b o z q⟩
/-- the draw is led on: all else stays -/
structure GS (dr : Addr) (H H' : Hp) : Prop where
  k : KT [dr] H H'
  d : DrawAt H' dr
  c : Cs dr H H'
theorem GS.trans {dr : Addr} {H H1 H2 : Hp} (a : GS dr H H1) (b : GS dr H1 H2) : GS dr H H2 := ⟨a.k.trans b.k, b.d, a.c.trans b.c⟩
theorem GS.new {dr p : Addr} {H : Hp} {o : HO} (D : DrawAt H dr) (h : H p = none) : GS dr H (upd H p o) := ⟨KT.new _ h, D.upd h, .new h⟩
theorem GS.refl {dr : Addr} {H : Hp} (D : DrawAt H dr) : GS dr H H := ⟨KT.refl _ _, D, .refl _ _⟩
theorem GS.late {dr p : Addr} {H H1 : Hp} {o : HO} (a : GS dr H H1) (D : DrawAt H dr) (h : H p = none) : GS dr H (upd H1 p o) := by
  obtain ⟨u, e⟩ := D.some
  have n : dr ≠ p := ne_of_none e h
  obtain ⟨c, cells, pos, rest, seed, d⟩ := id D
  have hp1 : H1 p = none ∨ ∃ o', H1 p = some o' := by cases e : H1 p <;> simp
  refine ⟨a.k.late h, ?_, fun c' t e' => ?_⟩
  · obtain ⟨c1, cells1, pos1, rest1, seed1, d1⟩ := a.d
    obtain ⟨t', e1⟩ := a.c _ _ d.hp
    have hc1 : c1 = c := by
      have := d1.hp.symm.trans e1
      simp at this
      exact this.1
    subst hc1
    have nc : c1 ≠ p := fun z => by
      have := d.hc
      rw [z, h] at this
      cases this
    exact ⟨c1, cells1, pos1, rest1, seed1, ⟨by rw [upd_ne n]; exact d1.hp, by rw [upd_ne nc]; exact d1.hc, d1.nn, d1.po, d1.re, d1.s0, d1.s1⟩⟩
  · obtain ⟨t', e1⟩ := a.c c' t e'
    exact ⟨t', by rw [upd_ne n]; exact e1⟩
def spTakeG : Sp := fun vs H Q _ => ∃ (p : Addr) (m : Int), vs = [.ref p, .int m] ∧ DrawAt H p ∧ 0 < m ∧ m ≤ 2 ^ 40 ∧ ∀ (r : Int) (H' : Hp), 0 ≤ r → r < m → GS p H H' → Q (.int r) H'
theorem okG_z_take (T : Txt K mg) : FnOk P w K mg base CX0 1 T.f_z_take T.d_z_take ["draw", "many"] spTakeG :=
  (ok_z_take T).imp fun vs H Q E ⟨p, m, h1, h2, h3, h4, h5⟩ => ⟨p, m, h1, h2, h3, h4, fun r H' r0 r1 k c D => h5 r H' r0 r1 ⟨KT.of_but h2 D k c, D, c⟩⟩
theorem sz1 : (1 : Nat) ≤ sizeLine := by decide
theorem sz2 : (2 : Nat) ≤ sizeLine := by decide
end

section
variable {P : Program} {w : World} {K : PySem.W.Frag} {mg : Str → Option Value} {base : Heap}
def spDraw (K : PySem.W.Frag) : Sp := fun vs H Q _ => ∃ (a : Addr) (ns : List Int), vs = [.ref a] ∧ SqL K H a (ns.map V.int) ∧ ns.length ≤ 63 ∧ ∀ (H' : Hp) (p : Addr), Same H H' → H p = none → DrawAt H' p → Q (.ref p) H'
def absI (i : Int) : Int := if i < 0 then -i else i
theorem absI_nn (i : Int) : 0 ≤ absI i := by
  unfold absI
  split <;> omega
theorem ok_z_draw (T : Txt K mg) : FnOk P w K mg base CX0 1 T.f_z_draw T.d_z_draw ["script"] (spDraw K) := by
  refine T.F_z_draw.ok sc_z_draw (fun vs H Q E h => ?_) (fun cdv A outer s H vs Q E hr h => ?_)
  · obtain ⟨a, ns, rfl, _⟩ := h
    rfl
  · obtain ⟨a, ns, rfl, hS, hlen, q⟩ := h
    have itm : ∀ (i : Nat) (x : V), (ns.map V.int)[i]? = some x → ∃ z, ns[i]? = some z ∧ x = V.int z := fun i x e => by
      rw [List.getElem?_map] at e
      cases e2 : ns[i]? with
      | none => rw [e2] at e; cases e
      | some z => rw [e2] at e; exact ⟨z, rfl, (Option.some.inj e).symm⟩
    refine ⟨_, (pss_cons (ps_set (i := 1) sc_z_draw.nd rfl (Or.inl rfl) pe_int)
      (pss_cons (ps_for PassesOwn.never rfl (pi_list (pv 0)) (pg_name (i := 2) sc_z_draw.nd rfl (Or.inl rfl))
        (pss_one (ps_set (i := 1) sc_z_draw.nd rfl (Or.inl rfl) (pe_op op_modN (pe_callTy call_int1 (by rfl) T.m_int (by decide +kernel) (pa_cons (pe_op op_add (pe_op op_add (pe_op op_mul (pv 1) pe_int) (pe_op op_modN (pe_callB call_abs (by rfl) T.m_abs (by decide +kernel) (pa_cons (pe_callTy call_int1 (by rfl) T.m_int (by decide +kernel) (pa_cons (pv 2) pa_nil)) pa_nil)) pe_int)) pe_int) pa_nil)) pe_int))))
      (pss_one (ps_ret (pe_lst (pa_cons (pe_lc (own := [("cell", 2)]) (g := gName 2) (by rfl) sc_z_draw.nd (pi_list (pv 0)) (blkOk_by (own := [("cell", 2)]) (N := N_z_draw) (sc := defScope s_z_draw) (by decide +kernel)) (fun _ _ _ _ _ => (pg_name (i := 2) sc_z_draw.nd rfl (Or.inl rfl))) (fun _ _ _ _ _ => pts_nil) (fun _ _ _ _ _ => (pe_callB call_abs (by rfl) T.m_abs (by decide +kernel) (pa_cons (pe_callTy call_int1 (by rfl) T.m_int (by decide +kernel) (pa_cons (pv 2) pa_nil)) pa_nil)))) (pa_cons (pe_un un_neg pe_int) (pa_cons pe_int (pa_cons (pv 1) pa_nil))))))))), ?_⟩
    refine ⟨_, rfl, a, rfl, ⟨_, hS⟩, for_list (xs := ns.map V.int) (fun i σ H1 => ∃ (seed : Int) (c : Option V), σ = [some (.ref a), some (.int seed), c] ∧ H1 = H ∧ 0 ≤ seed ∧ seed < 2147483647) ⟨7, none, rfl, rfl, by decide, by decide⟩ ?_ ?_ ?_⟩
    · rintro i σ H1 _ ⟨_, _, _, rfl, _⟩
      exact hS
    · rintro i x σ H1 hx ⟨seed, c, rfl, rfl, s0, s1⟩
      obtain ⟨z, hz, rfl⟩ := itm i x hx
      refine ⟨_, rfl, _, _, rfl, rfl, .inl ⟨by omega, by omega⟩, _, rfl, .inl ⟨_, rfl, _, rfl, _, _, rfl, rfl, (show (65521 : Int) ≠ 0 by decide), _, _, rfl, rfl, _, _, rfl, rfl, .inl ⟨_, rfl, _, _, rfl, rfl, (show (2147483647 : Int) ≠ 0 by decide), ?_⟩⟩⟩
      exact ⟨_, _, rfl, rfl, fmod_lo (by decide), fmod_hi (by decide)⟩
    · rintro σ H1 ⟨seed, c, rfl, rfl, s0, s1⟩
      -- the cells
      refine ⟨_, rfl, a, rfl, ⟨_, hS⟩, fun D hD => lc_list (xs := ns.map V.int) (fun i H2 => ∃ acc : List Int, Same H1 H2 ∧ H2 D = some (.lst (acc.map V.int)) ∧ acc.length = i ∧ ∀ x ∈ acc, 0 ≤ x) ⟨[], same_upd hD, upd_same, rfl, fun _ z => nomatch z⟩ ?_ ?_ ?_⟩
      · rintro i H2 _ ⟨acc, sm, _⟩
        exact sm.seq hS
      · rintro i x H2 hx ⟨acc, sm, hA, hl, hn⟩
        obtain ⟨z, hz, rfl⟩ := itm i x hx
        have hi : i < ns.length := (List.getElem?_eq_some_iff.mp hz).1
        refine ⟨rfl, ⟨_, rfl, .inl ⟨_, rfl, _, rfl, _, hA, small1000 (by rw [List.length_map]; omega), acc ++ [absI z], fun b o e => ?_, ?_, ?_, fun x hx => ?_⟩⟩⟩
        · rw [upd_ne (ne_of_none e hD)]
          exact sm _ _ e
        · rw [upd_same, List.map_append]
          rfl
        · rw [List.length_append, hl]; rfl
        · rcases List.mem_append.mp hx with h | h
          · exact hn x h
          · rw [List.mem_singleton.mp h]
            exact absI_nn z
      · rintro H2 ⟨acc, sm, hA, hl, hn⟩
        refine ⟨_, rfl, _, rfl, (by show 4 ≤ sizeLine; decide), fun p hp => ?_⟩
        refine q _ p (sm.trans (same_upd hp)) (sm.free hp) ⟨D, acc, -1, 0, seed, ⟨upd_same, ?_, hn, by decide, by decide, s0, s1⟩⟩
        rw [upd_ne (ne_of_none hA hp)]
        exact hA
/-! ### the law -/
theorem atI_in {α : Type} {xs : List α} {r : Int} (h0 : 0 ≤ r) (h1 : r < xs.length) : ∃ v, atI xs r = some v ∧ v ∈ xs := by
  obtain ⟨n, rfl⟩ := int_nat h0
  have hn : n < xs.length := by omega
  exact ⟨xs[n], atI_nat (List.getElem?_eq_getElem hn), List.getElem_mem hn⟩
end

section
variable {P : Program} {w : World} {K : PySem.W.Frag} {mg : Str → Option Value} {base : Heap}
/-- the words of instructions and their shapes, in the order in which they are put down -/
def shL : List (Str × Str) := [("add", "rr"), ("sub", "rr"), ("xor", "rr"), ("swap", "rr"), ("exch", "rr"), ("addr", "rr"), ("subr", "rr"), ("test", "rr"),
  ("and", "rrr"), ("or", "rrr"), ("mul", "rrr"), ("less", "rrr"), ("equal", "rrr"), ("shl", "rrr"), ("shr", "rrr"), ("rem", "rrr"), ("differ", "rrr"),
  ("addi", "rn"), ("xori", "rn"), ("addl", "rm"), ("neg", "r"), ("over", "rrm"), ("swapbr", "r"), ("bra", "o"), ("brz", "ro"),
  ("brn", "ro"), ("rbra", "o"), ("skip", ""), ("halt", ""), ("fail", "k")]
def shD : Str × Str := ("", "")
def shK (n : Nat) : List (Key × V) := (shL.take n).map fun p => (.inr p.1, .str p.2)
def shX (a n : Nat) : List V := ((shL.drop a).take n).map fun p => V.str p.1
def shR (a n : Nat) : List (Key × V) := ((shL.drop a).take n).map fun p => (.inr p.1, .str p.2)
theorem shK_put : ∀ n, n < 30 → putK (shK n) (.inr (shL.getD n shD).1) (.str (shL.getD n shD).2) = shK (n + 1) := by decide +kernel
theorem shK_len (n : Nat) : (shK n).length < sizeLine := by
  unfold shK
  rw [List.length_map, List.length_take]
  exact Nat.lt_of_le_of_lt (Nat.min_le_right _ _) (by decide)
theorem sh_rr : ∀ n, n < 8 → (shL.getD (0 + n) shD).2 = "rr" := by decide +kernel
theorem sh_rrr : ∀ n, n < 9 → (shL.getD (8 + n) shD).2 = "rrr" := by decide +kernel
theorem shR_new1 : mergeK [] (shR 17 8) = shR 17 8 := by decide +kernel
theorem shR_new2 : mergeK [] (shR 25 5) = shR 25 5 := by decide +kernel
theorem shR_val1 : ∀ n, n < 8 → valV (shR 17 8) (.inr (shL.getD (17 + n) shD).1) = some (.str (shL.getD (17 + n) shD).2) := by decide +kernel
theorem shR_val2 : ∀ n, n < 5 → valV (shR 25 5) (.inr (shL.getD (25 + n) shD).1) = some (.str (shL.getD (25 + n) shD).2) := by decide +kernel
theorem shX_get {a n i : Nat} {x : V} (h : (shX a n)[i]? = some x) : i < n ∧ x = .str (shL.getD (a + i) shD).1 := by
  unfold shX at h
  rw [List.getElem?_map] at h
  cases e : ((shL.drop a).take n)[i]? with
  | none => rw [e] at h; cases h
  | some p =>
    rw [e] at h
    have hi : i < n := by
      have := (List.getElem?_eq_some_iff.mp e).1
      rw [List.length_take] at this
      omega
    rw [List.getElem?_take_of_lt hi, List.getElem?_drop] at e
    refine ⟨hi, ?_⟩
    rw [List.getD_eq_getElem?_getD, e]
    exact (Option.some.inj h).symm
theorem shR_get {a n i : Nat} {k : Key} {v : V} (h : (shR a n)[i]? = some (k, v)) : i < n ∧ k = .inr (shL.getD (a + i) shD).1 := by
  have h2 : (shX a n)[i]? = some (kV k) := by
    unfold shR at h
    unfold shX
    rw [List.getElem?_map] at h ⊢
    cases e : ((shL.drop a).take n)[i]? with
    | none => rw [e] at h; cases h
    | some p => rw [e] at h; cases h; rfl
  obtain ⟨h3, h4⟩ := shX_get h2
  refine ⟨h3, ?_⟩
  cases k with
  | inl z => cases h4
  | inr z => cases h4; rfl
def spShapes : Sp := fun vs H Q _ => vs = [] ∧ ∀ (p : Addr) (H' : Hp), KT [] H H' → H' p = some (.dK (shK 30)) → Q (.ref p) H'
set_option maxHeartbeats 4000000 in
theorem ok_z_shapes (T : Txt K mg) : FnOk P w K mg base CX0 1 T.f_z_shapes T.d_z_shapes [] spShapes := by
  refine T.F_z_shapes.ok sc_z_shapes (fun vs H Q E h => ?_) (fun cdv A outer s H vs Q E hr h => ?_)
  · obtain ⟨rfl, _⟩ := h
    rfl
  · obtain ⟨rfl, q⟩ := h
    refine ⟨_, (pss_cons (ps_set (i := 0) sc_z_shapes.nd rfl (Or.inl rfl) pe_dnewK)
      (pss_cons (ps_for PassesOwn.never rfl (pi_list (pe_lst (pa_cons pe_str (pa_cons pe_str (pa_cons pe_str (pa_cons pe_str (pa_cons pe_str (pa_cons pe_str (pa_cons pe_str (pa_cons pe_str pa_nil)))))))))) (pg_name (i := 1) sc_z_shapes.nd rfl (Or.inl rfl))
        (pss_one (ps_dput (hu_of hr) (pv 0) (pv 1) pe_str rfl)))
      (pss_cons (ps_for PassesOwn.never rfl (pi_list (pe_lst (pa_cons pe_str (pa_cons pe_str (pa_cons pe_str (pa_cons pe_str (pa_cons pe_str (pa_cons pe_str (pa_cons pe_str (pa_cons pe_str (pa_cons pe_str pa_nil))))))))))) (pg_name (i := 1) sc_z_shapes.nd rfl (Or.inl rfl))
        (pss_one (ps_dput (hu_of hr) (pv 0) (pv 1) pe_str rfl)))
      (pss_cons (ps_set (i := 2) sc_z_shapes.nd rfl (Or.inl rfl) (pe_disp (pps_cons pe_str pe_str (pps_cons pe_str pe_str (pps_cons pe_str pe_str (pps_cons pe_str pe_str (pps_cons pe_str pe_str (pps_cons pe_str pe_str (pps_cons pe_str pe_str (pps_cons pe_str pe_str pps_nil)))))))) (by rfl) (by rfl) (fun z => by cases z) (by decide)))
      (pss_cons (ps_lock (ps_for PassesOwn.never rfl (pi_keys (pv 2)) (pg_name (i := 1) sc_z_shapes.nd rfl (Or.inl rfl))
        (pss_one (ps_dput (hu_of hr) (pv 0) (pv 1) (pe_dget (hu_of hr) (pv 2) (pv 1) (fun _ _ => rfl)) rfl))))
      (pss_cons (ps_set (i := 2) sc_z_shapes.nd rfl (Or.inl rfl) (pe_disp (pps_cons pe_str pe_str (pps_cons pe_str pe_str (pps_cons pe_str pe_str (pps_cons pe_str pe_str (pps_cons pe_str pe_str pps_nil))))) (by rfl) (by rfl) (fun z => by cases z) (by decide)))
      (pss_cons (ps_lock (ps_for PassesOwn.never rfl (pi_keys (pv 2)) (pg_name (i := 1) sc_z_shapes.nd rfl (Or.inl rfl))
        (pss_one (ps_dput (hu_of hr) (pv 0) (pv 1) (pe_dget (hu_of hr) (pv 2) (pv 1) (fun _ _ => rfl)) rfl))))
      (pss_one (ps_ret (pv 0)))))))))), ?_⟩
    refine fun p np => ?_
    have k0 := KT.new [] np (o := .dK [])
    refine ⟨(by show 8 ≤ sizeLine; decide), fun l nl => ⟨l, rfl, ⟨_, SqL.of upd_same⟩, ?_⟩⟩
    have k1 := k0.trans (KT.new [] nl (o := .lst (shX 0 8)))
    refine for_list (xs := shX 0 8) (fun i σ H1 => ∃ c, σ = [some (.ref p), c, none] ∧ KT [] H H1 ∧ H1 l = some (.lst (shX 0 8)) ∧ H1 p = some (.dK (shK i))) ⟨none, rfl, k1, upd_same, (KT.new [] nl).kp _ _ (by simp) upd_same⟩ ?_ ?_ ?_
    · rintro i σ H1 _ ⟨c, rfl, _, hl, _⟩
      exact SqL.of hl
    · rintro i x σ H1 hx ⟨c, rfl, k, hl, hp⟩
      obtain ⟨hi, rfl⟩ := shX_get hx
      have e2 := sh_rr i hi
      have e3 := shK_put i (by omega)
      rw [Nat.zero_add] at e2
      rw [e2] at e3
      rw [Nat.zero_add]
      refine ⟨_, rfl, _, rfl, p, _, rfl, DPut.k (k := Sum.inr _) hp (shK_len i), _, rfl, k.late np, ?_, ?_⟩
      · rw [upd_ne (ne_of hl hp (by intro z; cases z))]
        exact hl
      · rw [upd_same, e3]
    rintro σ H1 ⟨c, rfl, k2, hl, hp⟩
    refine ⟨(by show 9 ≤ sizeLine; decide), fun l2 nl2 => ⟨l2, rfl, ⟨_, SqL.of upd_same⟩, ?_⟩⟩
    have k3 := k2.trans (KT.new [] nl2 (o := .lst (shX 8 9)))
    refine for_list (xs := shX 8 9) (fun i σ H1 => ∃ c, σ = [some (.ref p), c, none] ∧ KT [] H H1 ∧ H1 l2 = some (.lst (shX 8 9)) ∧ H1 p = some (.dK (shK (8 + i)))) ⟨c, rfl, k3, upd_same, (KT.new [] nl2).kp _ _ (by simp) hp⟩ ?_ ?_ ?_
    · rintro i σ H1 _ ⟨c, rfl, _, hl, _⟩
      exact SqL.of hl
    · rintro i x σ H1 hx ⟨c, rfl, k, hl, hp⟩
      obtain ⟨hi, rfl⟩ := shX_get hx
      have e2 := sh_rrr i hi
      have e3 := shK_put (8 + i) (by omega)
      rw [e2] at e3
      refine ⟨_, rfl, _, rfl, p, _, rfl, DPut.k (k := Sum.inr _) hp (shK_len _), _, rfl, k.late np, ?_, ?_⟩
      · rw [upd_ne (ne_of hl hp (by intro z; cases z))]
        exact hl
      · rw [upd_same, e3]
        rfl
    clear hp hl k1 k0 k2 k3
    rintro σ H1 ⟨c, rfl, k2, hl, hp⟩
    have hp : H1 p = some (.dK (shK 17)) := hp
    -- rest, for the first time
    refine fun r nr => ⟨upd_same, shR 17 8, rfl, (by decide), ?_⟩
    rw [upd_upd, shR_new1]
    have kr := k2.trans (KT.new [] nr (o := .dK (shR 17 8)))
    have hp1 := (KT.new [] nr (o := .dK (shR 17 8))).kp _ _ (by simp) hp
    have nrH : H r = none := by
      cases e : H r with
      | none => rfl
      | some o => rw [k2.kp _ _ (by simp) e] at nr; cases nr
    have npr : p ≠ r := ne_of_none hp nr
    refine ⟨r, .dK (shR 17 8), upd_same, trivial, fun od => ⟨_, rfl, r, od, rfl, .inl ⟨shR 17 8, upd_same, ?_⟩⟩⟩
    refine for_it (walk_keys (o := od) (kvs := shR 17 8)) (fun i σ H1 => ∃ c, σ = [some (.ref p), c, some (.ref r)] ∧ KT [] H H1 ∧ H1 r = some (.frz od (.dK (shR 17 8))) ∧ H1 p = some (.dK (shK (17 + i)))) ⟨c, rfl, kr.late nrH, upd_same, by rw [upd_ne npr]; exact hp1⟩ ?_ ?_ ?_
    · rintro i σ H1 _ ⟨c, rfl, _, h, _⟩
      exact h
    · rintro i x σ H1 H2 hi ⟨c, rfl, k, hr, hp⟩ ⟨rfl, kk, v, hk, rfl⟩
      obtain ⟨hi, rfl⟩ := shR_get hk
      have e3 := shK_put (17 + i) (by omega)
      refine ⟨_, rfl, _, rfl, _, _, rfl, dget_f hr (shR_val1 i hi), _, rfl, _, rfl, p, _, rfl, DPut.k (k := Sum.inr _) hp (shK_len _), _, rfl, k.late np, ?_, ?_⟩
      · rw [upd_ne (Ne.symm npr)]
        exact hr
      · rw [upd_same, e3]
        rfl
    clear hp hp1
    rintro σ H2 ⟨c, rfl, k3, hr, hp⟩
    refine ⟨hr, ?_⟩
    have hp : H2 p = some (.dK (shK 25)) := hp
    have k4 := k3.late nrH (o := .dK (shR 17 8))
    have hp2 : (upd H2 r (.dK (shR 17 8))) p = some (.dK (shK 25)) := by rw [upd_ne npr]; exact hp
    generalize upd H2 r (.dK (shR 17 8)) = H3 at k4 hp2 ⊢
    -- and again
    refine fun r2 nr2 => ⟨upd_same, shR 25 5, rfl, (by decide), ?_⟩
    rw [upd_upd, shR_new2]
    have kr2 := k4.trans (KT.new [] nr2 (o := .dK (shR 25 5)))
    have hp3 := (KT.new [] nr2 (o := .dK (shR 25 5))).kp _ _ (by simp) hp2
    have nrH2 : H r2 = none := by
      cases e : H r2 with
      | none => rfl
      | some o => rw [k4.kp _ _ (by simp) e] at nr2; cases nr2
    have npr2 : p ≠ r2 := ne_of_none hp2 nr2
    refine ⟨r2, .dK (shR 25 5), upd_same, trivial, fun od2 => ⟨_, rfl, r2, od2, rfl, .inl ⟨shR 25 5, upd_same, ?_⟩⟩⟩
    refine for_it (walk_keys (o := od2) (kvs := shR 25 5)) (fun i σ H1 => ∃ c, σ = [some (.ref p), c, some (.ref r2)] ∧ KT [] H H1 ∧ H1 r2 = some (.frz od2 (.dK (shR 25 5))) ∧ H1 p = some (.dK (shK (25 + i)))) ⟨c, rfl, kr2.late nrH2, upd_same, by rw [upd_ne npr2]; exact hp3⟩ ?_ ?_ ?_
    · rintro i σ H1 _ ⟨c, rfl, _, h, _⟩
      exact h
    · rintro i x σ H1 H2 hi ⟨c, rfl, k, hr, hp⟩ ⟨rfl, kk, v, hk, rfl⟩
      obtain ⟨hi, rfl⟩ := shR_get hk
      have e3 := shK_put (25 + i) (by omega)
      refine ⟨_, rfl, _, rfl, _, _, rfl, dget_f hr (shR_val2 i hi), _, rfl, _, rfl, p, _, rfl, DPut.k (k := Sum.inr _) hp (shK_len _), _, rfl, k.late np, ?_, ?_⟩
      · rw [upd_ne (Ne.symm npr2)]
        exact hr
      · rw [upd_same, e3]
        rfl
    clear hp
    rintro σ H4 ⟨c, rfl, k5, hr2, hp⟩
    refine ⟨hr2, ?_⟩
    have hp : H4 p = some (.dK (shK 30)) := hp
    refine ⟨_, rfl, q p _ (k5.late nrH2) ?_⟩
    rw [upd_ne npr2]
    exact hp
/-- the words, as they are drawn -/
def wdL : List Str := ["add", "sub", "xor", "addi", "xori", "and", "or", "mul", "less", "equal", "shl", "shr", "rem", "differ", "test", "swap", "exch", "addr", "subr", "addl", "neg", "over", "swapbr", "bra", "brz", "brn", "rbra", "skip", "halt", "fail"]
def spWords : Sp := fun vs H Q _ => vs = [] ∧ ∀ l, H l = none → Q (.ref l) (upd H l (.lst (wdL.map V.str)))
theorem ok_z_words (T : Txt K mg) : FnOk P w K mg base CX0 1 T.f_z_words T.d_z_words [] spWords := by
  refine T.F_z_words.ok sc_z_words (fun vs H Q E h => ?_) (fun cdv A outer s H vs Q E hr h => ?_)
  · obtain ⟨rfl, _⟩ := h
    rfl
  · obtain ⟨rfl, q⟩ := h
    refine ⟨_, (pss_one (ps_ret (pe_lst (pa_cons pe_str (pa_cons pe_str (pa_cons pe_str (pa_cons pe_str (pa_cons pe_str (pa_cons pe_str (pa_cons pe_str (pa_cons pe_str (pa_cons pe_str (pa_cons pe_str (pa_cons pe_str (pa_cons pe_str (pa_cons pe_str (pa_cons pe_str (pa_cons pe_str (pa_cons pe_str (pa_cons pe_str (pa_cons pe_str (pa_cons pe_str (pa_cons pe_str (pa_cons pe_str (pa_cons pe_str (pa_cons pe_str (pa_cons pe_str (pa_cons pe_str (pa_cons pe_str (pa_cons pe_str (pa_cons pe_str (pa_cons pe_str (pa_cons pe_str pa_nil))))))))))))))))))))))))))))))))), ?_⟩
    exact ⟨(by show 30 ≤ sizeLine; decide), fun l nl => q l nl⟩
end

end My

set_option Elab.async false
set_option linter.all false
set_option maxRecDepth 100000
set_option maxHeartbeats 2000000
/-! the head's facts for the texts: functions, tables -/
namespace My
open PySem PySem.Spec PyProof.Rows L2
section
variable {K : PySem.W.Frag} {w : World}
theorem fun_ofX {x q : Str} {st : Stmt} {f : Addr} (h : ∃ fd, FunD K x q (defArgs st) (defBody st) (defScope st) [] [] f fd) : ∃ fd, Fun K x q st f fd := by
  obtain ⟨fd, F⟩ := h
  obtain ⟨oc, od, dV, kV, doc, pm, an, cdv, ct, osl, e, lk, hcd, hD, hK⟩ := F.ex
  rcases hD with ⟨_, rfl⟩ | ⟨n, _⟩
  · exact ⟨fd, ⟨oc, od, kV, doc, pm, an, cdv, ct, osl, e, lk, hcd⟩, F.kp⟩
  · exact absurd rfl n
theorem func_ofX {x q : Str} {st : Stmt} {p : He.Defn} (h : ∃ fd, FunD K x q (defArgs st) (defBody st) (defScope st) [] [] (He.fAd K p) fd) : ∃ fd, FunC K x q st (He.fAd K p) fd (He.codeOf K p) := by
  obtain ⟨fd, F⟩ := h
  obtain ⟨oc, od, dV, kV, doc, pm, an, cdv, ct, osl, e, lk, hcd, hD, hK⟩ := F.ex
  obtain ⟨c, rfl⟩ := He.codeIn_ref hcd
  have ec : He.codeOf K p = c := He.codeOf_eq lk (by rw [e] <;> rfl)
  rw [ec]
  rcases hD with ⟨_, rfl⟩ | ⟨n, _⟩
  · exact ⟨fd, ⟨oc, od, kV, doc, pm, an, ct, osl, e, lk, hcd⟩, F.kp⟩
  · exact absurd rfl n
theorem kdgt_y {a : Addr} {kvs : List (Str × He.Dv)} {x : Str} {v : He.Dv} (D : ∃ es n, KDict K w a es n) (hv : He.valsB K a kvs = true) (i : Nat) (h : kvs[i]? = some (x, v)) : KDgt K w a x (some (v.v K)) := by
  obtain ⟨es, n, D⟩ := D
  obtain ⟨u, e, r⟩ := He.valsB_ok hv (List.mem_of_getElem? h)
  exact ⟨es, n, some u, D.at_, D.lit, e, .yes r, D.low⟩
theorem kdgt_n {a : Addr} {x : Str} (D : ∃ es n, KDict K w a es n) (hv : He.eqO (PySem.W.nsIn K a x) (some none) = true) : KDgt K w a x none := by
  obtain ⟨es, n, D⟩ := D
  exact ⟨es, n, none, D.at_, D.lit, He.eqO_ok hv, .no, D.low⟩
end
end My
namespace My
open PySem PySem.Spec PyProof.Rows L2
/-! ### a Hook over chosen objects: defs, classes, dicts, code objects, and the tuples of the module by name -/
def keepO : Obj → Bool
  | ⟨_, _, .func _, _⟩ => true
  | ⟨_, _, .cls _, _⟩ => true
  | ⟨_, _, .dict _ _, _⟩ => true
  | ⟨.type c, _, .fields _, _⟩ => decide (c = "code")
  | _ => false
def pickA (g : Addr → Option Obj) : Nat → Nat → List Addr
  | 0, _ => []
  | m + 1, a => match g a with
    | some o => (match keepO o with
      | true => a :: pickA g m (a + 1)
      | false => pickA g m (a + 1))
    | none => []
def asY (g : Addr → Option Obj) (tn : List Str) : List Addr := mainGlobals :: (tn.map (fun x => He.ga (He.frG g [mainGlobals]) x) ++ pickA g 4000 0)
def kY (g : Addr → Option Obj) (tn : List Str) : PySem.W.Frag := He.frT g (asY g tn)
def obsY (tn : List Str) (fa : List He.Fa) (fn : List He.DefD) (ts : List He.Tab) (tf : List He.Defn) (ex : PySem.W.Frag → Bool) (g : Addr → Option Obj) : He.AlX :=
  (fun K => (He.obsT fa fn ts K, ex K && He.tabsB g tf K)) (kY g tn)
theorem tabsB_mem {g : Addr → Option Obj} {tf : List He.Defn} {K : PySem.W.Frag} (h : He.tabsB g tf K = true) {p : He.Defn} (hp : p ∈ tf) : PySem.W.codeHdIn K (He.cT K p).1 (He.cT K p).2 = true ∧ ∃ o, g (He.cT K p).2 = some o ∧ He.emptyTab o = true := by
  have z := Bool.and_eq_true_iff.mp (List.all_eq_true.mp h p hp)
  refine ⟨z.1, ?_⟩
  have z2 := z.2
  split at z2
  · rename_i o e
    exact ⟨o, e, z2⟩
  · cases z2
def hookY (tn : List Str) (fa : List He.Fa) (fn : List He.DefD) (ts : List He.Tab) (tf : List He.Defn) (ex : PySem.W.Frag → Bool) : PySem.W.Hook where
  α := He.AlX
  obs := fun s => obsY tn fa fn ts tf ex s.heap.get?
  val := fun w => He.valX fn ts w
  says := fun w h => ∃ K : PySem.W.Frag, K.In h ∧ He.SaysX fa fn ts tf ex w h K
  of := fun w s e => by
    have e1 := congrArg (fun z : He.AlX => z.1) e
    have e2 := Bool.and_eq_true_iff.mp (congrArg (fun z : He.AlX => z.2) e)
    refine ⟨kY s.heap.get? tn, He.frT_in, e1, e2.1, fun p hp => (tabsB_mem e2.2 hp).1, fun p hp => ?_, fun p hp => ?_⟩
    · obtain ⟨_, o, q, z⟩ := tabsB_mem e2.2 hp
      exact He.frT_none q z
    · obtain ⟨_, o, q, z⟩ := tabsB_mem e2.2 hp
      exact q.trans (congrArg some (He.emptyTab_eq z))
  keeps := fun _ _ _ ⟨K, hK, c⟩ k => ⟨K, hK.keeps k, c.t, c.more, c.hd, c.out, fun p hp => k _ _ (c.empty p hp)⟩
theorem obsY_eq {tn : List Str} {fa : List He.Fa} {fn : List He.DefD} {ts : List He.Tab} {tf : List He.Defn} {ex : PySem.W.Frag → Bool} {g : Addr → Option Obj} {s : Shared} (h : ∀ a, g a = s.heap.get? a) : obsY tn fa fn ts tf ex g = (hookY tn fa fn ts tf ex).obs s :=
  congrArg (obsY tn fa fn ts tf ex) (funext h)
end My

set_option Elab.async false
set_option linter.all false
set_option maxRecDepth 100000
set_option maxHeartbeats 2000000
/-! an own exception class with an own __init__, read by the head -/
namespace My
open PySem PySem.Spec PyProof.Rows L2
def oexO (C : Addr) : Obj → Bool
  | ⟨.type t, _, .cls ⟨_, _, .ref C' :: bm, _, _, true, _, _, _, _, false⟩, ⟨[_, _, _, _, some (.builtin n), _]⟩⟩ => decide (t = "type") && (decide (C' = C) && (decide (n = "ValueError.__new__") && PySem.HandSPX.refsVE bm))
  | _ => false
def oexB (K : PySem.W.Frag) (C : Addr) : Bool := (match K.lookup C with
  | some o => oexO C o
  | none => false) && (He.eqO (PySem.W.findIn K (.ref C) "__setattr__") (some (some (.builtin "object.__setattr__"))) && (decide (PySem.W.subIn K (.ref C) (.type "BaseException") = some true) && (decide (PySem.W.typeIn K (.ref C) = some (.type "type")) && PySem.W.keepIn K (.ref C))))
theorem oexO_ok {C : Addr} {o : Obj} (h : oexO C o = true) : ∃ nm q N bs bm sn sub ab col dd k0 k1 k2 k3 k5, o = excClassObj nm q C N bs bm true sn sub ab col dd k0 k1 k2 k3 k5 "ValueError.__new__" ∧ PySem.HandSPX.refsVE bm = true := by
  unfold oexO at h
  split at h
  · rename_i t dd nm bs C' bm N q sn sub ab col k0 k1 k2 k3 n k5
    simp only [Bool.and_eq_true, decide_eq_true_eq] at h
    obtain ⟨rfl, rfl, rfl, hr⟩ := h
    exact ⟨_, _, _, _, _, _, _, _, _, _, _, _, _, _, _, rfl, hr⟩
  · cases h
theorem oexB_ok {K : PySem.W.Frag} {C : Addr} (h : oexB K C = true) : OexC K C := by
  unfold oexB at h
  simp only [Bool.and_eq_true] at h
  obtain ⟨h1, h2, h3, h4, h5⟩ := h
  refine ⟨?_, He.eqO_ok h2, of_decide_eq_true h3, of_decide_eq_true h4, h5⟩
  split at h1
  · rename_i o e
    obtain ⟨nm, q, N, bs, bm, sn, sub, ab, col, dd, k0, k1, k2, k3, k5, rfl, hr⟩ := oexO_ok h1
    exact ⟨nm, q, N, bs, bm, sn, sub, ab, col, dd, k0, k1, k2, k3, k5, e, hr⟩
  · cases h1
def isVei : Option PySem.W.CFound → Bool
  | some (.val (.builtin s)) => decide (s = "ValueError.__init__")
  | _ => false
def baseB (K : PySem.W.Frag) (B : Addr) : Bool := PySem.W.readsIn K B (.type "type") && (He.eqO (PySem.W.specialIn K (.ref B) "__getattribute__") (some (some (.builtin "type.__getattribute__"))) && isVei (PySem.W.findCls K (.ref B) (.type "type") "__init__"))
theorem baseB_ok {K : PySem.W.Frag} {B : Addr} (h : baseB K B = true) : BaseC K B := by
  unfold baseB at h
  simp only [Bool.and_eq_true] at h
  obtain ⟨h1, h2, h3⟩ := h
  refine ⟨h1, He.eqO_ok h2, ?_⟩
  cases e : PySem.W.findCls K (.ref B) (.type "type") "__init__" with
  | none => rw [e] at h3; cases h3
  | some c =>
    rw [e] at h3
    unfold isVei at h3
    split at h3
    · rename_i s q
      cases q
      rw [of_decide_eq_true h3]
    · cases h3
end My

set_option Elab.async false
set_option linter.all false
set_option maxRecDepth 100000
namespace My
open PySem PySem.Spec PyProof.Rows L2
def fnL0 : List He.DefD := [⟨("top", none), "top", "top", defArgs s_top, defBody s_top, defScope s_top, [], []⟩,
  ⟨("is_whole", none), "is_whole", "is_whole", defArgs s_is_whole, defBody s_is_whole, defScope s_is_whole, [], []⟩,
  ⟨("is_integer", none), "is_integer", "is_integer", defArgs s_is_integer, defBody s_is_integer, defScope s_is_integer, [], []⟩,
  ⟨("is_count", none), "is_count", "is_count", defArgs s_is_count, defBody s_is_count, defScope s_is_count, [], []⟩,
  ⟨("begins_with_word", none), "begins_with_word", "begins_with_word", defArgs s_begins_with_word, defBody s_begins_with_word, defScope s_begins_with_word, [], []⟩,
  ⟨("is_number_of", none), "is_number_of", "is_number_of", defArgs s_is_number_of, defBody s_is_number_of, defScope s_is_number_of, [], []⟩,
  ⟨("instruction_fault", none), "instruction_fault", "instruction_fault", defArgs s_instruction_fault, defBody s_instruction_fault, defScope s_instruction_fault, [], []⟩,
  ⟨("show_instruction", none), "show_instruction", "show_instruction", defArgs s_show_instruction, defBody s_show_instruction, defScope s_show_instruction, [], []⟩,
  ⟨("show_code", none), "show_code", "show_code", defArgs s_show_code, defBody s_show_code, defScope s_show_code, [], []⟩,
  ⟨("number_of", none), "number_of", "number_of", defArgs s_number_of, defBody s_number_of, defScope s_number_of, [], []⟩,
  ⟨("register_of", none), "register_of", "register_of", defArgs s_register_of, defBody s_register_of, defScope s_register_of, [], []⟩,
  ⟨("instruction_of", none), "instruction_of", "instruction_of", defArgs s_instruction_of, defBody s_instruction_of, defScope s_instruction_of, [], []⟩,
  ⟨("words_of", none), "words_of", "words_of", defArgs s_words_of, defBody s_words_of, defScope s_words_of, [], []⟩,
  ⟨("lines_of", none), "lines_of", "lines_of", defArgs s_lines_of, defBody s_lines_of, defScope s_lines_of, [], []⟩,
  ⟨("CodeError", some "__init__"), "__init__", "CodeError.__init__", defArgs s_CodeError___init__, defBody s_CodeError___init__, defScope s_CodeError___init__, [], []⟩,
  ⟨("read_width", none), "read_width", "read_width", defArgs s_read_width, defBody s_read_width, defScope s_read_width, [], []⟩,
  ⟨("read_instructions", none), "read_instructions", "read_instructions", defArgs s_read_instructions, defBody s_read_instructions, defScope s_read_instructions, [], []⟩,
  ⟨("read_code", none), "read_code", "read_code", defArgs s_read_code, defBody s_read_code, defScope s_read_code, [], []⟩,
  ⟨("_law_draw", none), "_law_draw", "_law_draw", defArgs s_z_draw, defBody s_z_draw, defScope s_z_draw, [], []⟩,
  ⟨("_law_take", none), "_law_take", "_law_take", defArgs s_z_take, defBody s_z_take, defScope s_z_take, [], []⟩,
  ⟨("_law_shapes", none), "_law_shapes", "_law_shapes", defArgs s_z_shapes, defBody s_z_shapes, defScope s_z_shapes, [], []⟩,
  ⟨("_law_words", none), "_law_words", "_law_words", defArgs s_z_words, defBody s_z_words, defScope s_z_words, [], []⟩,
  ⟨("_law_number", none), "_law_number", "_law_number", defArgs s_z_number, defBody s_z_number, defScope s_z_number, [], []⟩,
  ⟨("_law_different", none), "_law_different", "_law_different", defArgs s_z_different, defBody s_z_different, defScope s_z_different, [], []⟩,
  ⟨("_law_instruction", none), "_law_instruction", "_law_instruction", defArgs s_z_instruction, defBody s_z_instruction, defScope s_z_instruction, [], []⟩,
  ⟨("_law_line", none), "_law_line", "_law_line", defArgs s_z_line, defBody s_z_line, defScope s_z_line, [], []⟩,
  ⟨("_law_loose", none), "_law_loose", "_law_loose", defArgs s_z_loose, defBody s_z_loose, defScope s_z_loose, [], []⟩,
  ⟨("_law_told", none), "_law_told", "_law_told", defArgs s_z_told, defBody s_z_told, defScope s_z_told, [], []⟩,
  ⟨("law", none), "law", "law", defArgs s_law, defBody s_law, defScope s_law, [], []⟩]
def fnL : List He.DefD := fnL0
def tsL0 : List He.Tab := [(fun K => He.ga K "PARTS", ["add", "sub", "xor", "addi", "xori", "and", "or", "mul", "less", "equal", "shl", "shr", "rem", "differ", "test", "swap", "exch", "addr", "subr", "addl", "neg", "over", "swapbr", "bra", "brz", "brn", "rbra", "skip", "halt", "fail"])]
def tsL : List He.Tab := tsL0
def tfL : List He.Defn := [("number_of", none)]
def faL0 : List He.Fa := [.glo "top",
  .glo "is_whole",
  .glo "is_integer",
  .glo "is_count",
  .glo "begins_with_word",
  .glo "is_number_of",
  .glo "instruction_fault",
  .glo "show_instruction",
  .glo "show_code",
  .glo "number_of",
  .glo "register_of",
  .glo "instruction_of",
  .glo "words_of",
  .glo "lines_of",
  .glo "read_width",
  .glo "read_instructions",
  .glo "read_code",
  .glo "_law_draw",
  .glo "_law_take",
  .glo "_law_shapes",
  .glo "_law_words",
  .glo "_law_number",
  .glo "_law_different",
  .glo "_law_instruction",
  .glo "_law_line",
  .glo "_law_loose",
  .glo "_law_told",
  .glo "law",
  .free "abs",
  .free "all"]
def faL1 : List He.Fa := [.free "any",
  .free "bool",
  .free "enumerate",
  .free "int",
  .free "isinstance",
  .free "len",
  .free "min",
  .free "range",
  .free "str",
  .free "tuple",
  .free "zip",
  .int "REGISTERS" 16,
  .int "WORD_BITS" 32,
  .int "FARTHEST" 2147483648,
  .str "DIGITS" "0123456789",
  .glo "CodeError",
  .noat "CodeError" "line",
  .exm "CodeError" "CodeError" true,
  .glo "BackrunError",
  .glo "PARTS"]
def faL : List He.Fa := faL0 ++ (faL1)
def tnL : List Str := []
def exL (K : PySem.W.Frag) : List Bool := [oexB K (He.ga K "CodeError"),
  He.eqO (PySem.W.findIn K (.ref (He.ga K "CodeError")) "__init__") (some (some (.ref (He.ma K (He.ga K "CodeError") "__init__")))),
  decide (PySem.W.typeIn K (.ref (He.ma K (He.ga K "CodeError") "__init__")) = some (.type "function")),
  xfB K (He.ga K "CodeError"),
  baseB K (He.ga K "BackrunError"),
  He.eqO (PySem.W.nsIn K cStatics sharingNotToldKey) (some none),
  He.valsB K (He.ga K "PARTS") [("add", .str "rr"), ("sub", .str "rr"), ("xor", .str "rr"), ("addi", .str "rn"), ("xori", .str "rn"), ("and", .str "rrr"), ("or", .str "rrr"), ("mul", .str "rrr"), ("less", .str "rrr"), ("equal", .str "rrr"), ("shl", .str "rrr"), ("shr", .str "rrr"), ("rem", .str "rrr"), ("differ", .str "rrr"), ("test", .str "rr"), ("swap", .str "rr"), ("exch", .str "rr"), ("addr", .str "rr"), ("subr", .str "rr"), ("addl", .str "rm"), ("neg", .str "r"), ("over", .str "rrm"), ("swapbr", .str "r"), ("bra", .str "o"), ("brz", .str "ro"), ("brn", .str "ro"), ("rbra", .str "o"), ("skip", .str ""), ("halt", .str ""), ("fail", .str "k")],
  He.eqO (PySem.W.nsIn K (He.ga K "PARTS") "move") (some none),
  He.eqO (PySem.W.nsIn K (He.ga K "PARTS") "Halt") (some none),
  He.eqO (PySem.W.nsIn K (He.ga K "PARTS") "width") (some none),
  He.eqO (PySem.W.nsIn K (He.ga K "PARTS") "skip;") (some none),
  He.eqO (PySem.W.nsIn K (He.ga K "PARTS") "8") (some none),
  He.eqO (PySem.W.nsIn K (He.ga K "PARTS") "Width") (some none)]
end My
namespace My
open PySem PySem.W PySem.Calls PyProof.Rows
abbrev rwL : OpenRow := OpenLaw.row PySem.Challenge.rw_backrun_k23_code_as_text
abbrev hkL : Hook := hookY tnL faL fnL tsL tfL (fun K => (exL K).all id)
def obL (s : SharedT) : He.AlX := obsY tnL faL fnL tsL tfL (fun K => (exL K).all id) (HandSHeadRun.getT s)
theorem obL_eq (s : SharedT) : obL s = hkL.obs s.abs := obsY_eq (HandSHeadRun.getT_eq s)
def loL : List PySem.Str := (rwL.prog.main.scope.names.map (·.1)).filter fun x => x != "law" && x != "__name__"
set_option maxHeartbeats 0 in
theorem runF (w : World) : HandSHeadRun.RunEq rwL (view rwL.prog [41]) hkL obL 20000 loL (w.withFollow "special-get-raises" false) := by
  intro os
  kernel_rfl
set_option maxHeartbeats 0 in
theorem runT (w : World) : HandSHeadRun.RunEq rwL (view rwL.prog [41]) hkL obL 20000 loL (w.withFollow "special-get-raises" true) := by
  intro os
  kernel_rfl
theorem runL (w : World) : HandSHeadRun.RunEq rwL (view rwL.prog [41]) hkL obL 20000 loL w := byRow2 "special-get-raises" (P := fun w => HandSHeadRun.RunEq rwL (view rwL.prog [41]) hkL obL 20000 loL w) runF runT w
end My

set_option Elab.async false
set_option linter.all false
set_option maxRecDepth 100000
set_option maxHeartbeats 4000000
namespace My
open PySem PySem.Spec PyProof.Rows L2
section
variable {P : Program} {w : World} {K : PySem.W.Frag} {mg : Str → Option Value} {base : Heap}
theorem ne_new {H : Hp} {dr D : Addr} (d : DrawAt H dr) (h : H D = none) : D ≠ dr := fun z => by
  obtain ⟨o, e⟩ := d.some
  rw [z, e] at h
  cases h
theorem KT.same {H H' : Hp} (k : KT [] H H') : Same H H' := fun b o e => k.kp b o (by simp) e
theorem GS.of {dr : Addr} {H H' : Hp} (d : DrawAt H dr) (k : KT [] H H') : GS dr H H' := ⟨k.mono (fun _ h => (nomatch h)), d.keep k.same, fun c t e => ⟨t, k.same _ _ e⟩⟩
def spNumber : Sp := fun vs H Q _ => ∃ (p : Addr) (n : Nat), vs = [.ref p, .int n] ∧ DrawAt H p ∧ n ≤ 32 ∧ ∀ (r : Int) (H' : Hp), 0 ≤ r → r < 2 ^ n → GS p H H' → Q (.int r) H'
theorem ok_z_number (T : Txt K mg) : FnOk P w K mg base CX0 2 T.f_z_number T.d_z_number ["draw", "bits"] spNumber := by
  have G_z_take := okG_z_take (P := P) (w := w) (base := base) T
  refine T.F_z_number.ok sc_z_number (fun vs H Q E h => ?_) (fun cdv A outer s H vs Q E hr h => ?_)
  · obtain ⟨p, n, rfl, _⟩ := h
    rfl
  · obtain ⟨p, n, rfl, D, hn, q⟩ := h
    have hp : (0 : Int) < 2 ^ n := Int.pow_pos (by decide)
    refine ⟨_, (pss_cons (ps_set (i := 2) sc_z_number.nd rfl (Or.inl rfl) (pe_op op_sub (pe_op op_shl pe_int (pv 1)) pe_int))
      (pss_cons (ps_set (i := 3) sc_z_number.nd rfl (Or.inl rfl) (pe_call G_z_take (hr.mono (by omega)) (by rfl) T.g_z_take T.F_z_take.kp T.b_z_take .nil pass0 (pa_cons (pv 0) (pa_cons pe_int pa_nil))))
      (pss_cons (ps_if (pt_cmpR op_lt (pv 3) pe_int (nomark _))
        (pss_one (ps_ret (pe_callB (call_min2 rfl) (by rfl) T.m_min (by decide +kernel) (pa_cons (pv 2) (pa_cons (pe_call G_z_take (hr.mono (by omega)) (by rfl) T.g_z_take T.F_z_take.kp T.b_z_take .nil pass0 (pa_cons (pv 0) (pa_cons pe_int pa_nil))) pa_nil)))))
        pss_nil)
      (pss_cons (ps_if (pt_cmpR op_eq (pv 3) pe_int (nomark _))
        (pss_one (ps_ret (pe_op op_sub (pv 2) (pe_callB (call_min2 rfl) (by rfl) T.m_min (by decide +kernel) (pa_cons (pv 2) (pa_cons (pe_call G_z_take (hr.mono (by omega)) (by rfl) T.g_z_take T.F_z_take.kp T.b_z_take .nil pass0 (pa_cons (pv 0) (pa_cons pe_int pa_nil))) pa_nil))))))
        pss_nil)
      (pss_one (ps_ret (pe_op op_andM (pe_callTy call_int1 (by rfl) T.m_int (by decide +kernel) (pa_cons (pe_op op_add (pe_op op_mul (pe_call G_z_take (hr.mono (by omega)) (by rfl) T.g_z_take T.F_z_take.kp T.b_z_take .nil pass0 (pa_cons (pv 0) (pa_cons pe_int pa_nil))) pe_int) (pe_call G_z_take (hr.mono (by omega)) (by rfl) T.g_z_take T.F_z_take.kp T.b_z_take .nil pass0 (pa_cons (pv 0) (pa_cons pe_int pa_nil)))) pa_nil)) (pv 2)))))))), ?_⟩
    refine ⟨_, rfl, _, _, rfl, rfl, ⟨by omega, by omega, by decide⟩, _, _, rfl, rfl, ?_⟩
    have e : (1 : Int) * 2 ^ (n : Int).toNat - 1 = 2 ^ n - 1 := by rw [Int.one_mul]; rfl
    dsimp only
    rw [e]
    refine ⟨_, rfl, p, 6, rfl, D, by decide, by decide, fun k H1 k0 k1 g1 => ?_⟩
    refine ⟨_, rfl, _, _, rfl, rfl, _, rfl, ite2 (fun e => ?_) (fun e => ?_)⟩
    · refine ⟨_, rfl, _, rfl, p, 5, rfl, g1.d, by decide, by decide, fun r H2 r0 r1 g2 => ⟨_, _, rfl, q _ _ ?_ ?_ (g1.trans g2)⟩⟩
      · split <;> omega
      · split <;> omega
    · refine ⟨_, rfl, rfl, _, rfl, ite2 (fun e => ?_) (fun e => ?_)⟩
      · refine ⟨_, rfl, _, rfl, _, rfl, p, 3, rfl, g1.d, by decide, by decide, fun r H2 r0 r1 g2 => ⟨_, _, rfl, _, _, rfl, rfl, q _ _ ?_ ?_ (g1.trans g2)⟩⟩
        · split <;> omega
        · split <;> omega
      · refine ⟨_, rfl, p, 65536, rfl, g1.d, by decide, by decide, fun a H2 a0 a1 g2 => ⟨_, _, rfl, rfl, .inl ⟨by omega, by omega⟩, _, rfl, p, 65536, rfl, g2.d, by decide, by decide, fun b H3 b0 b1 g3 => ⟨_, _, rfl, rfl, .inl ⟨_, rfl, _, rfl, _, n, rfl, rfl, ?_⟩⟩⟩⟩
        exact q _ _ (Int.emod_nonneg _ (Int.ne_of_gt hp)) (Int.emod_lt_of_pos _ hp) ((g1.trans g2).trans g3)
def RgIn (rs : List Int) : Prop := ∀ r ∈ rs, 0 ≤ r ∧ r < 16
theorem flat_ints (xs : List Int) : (xs.map V.int).all flatV = true := List.all_eq_true.mpr fun x hx => by
  obtain ⟨n, _, rfl⟩ := List.mem_map.mp hx
  rfl
theorem inV_ints (x : Int) : ∀ xs : List Int, inV (V.int x) (xs.map V.int) = decide (x ∈ xs)
  | [] => by simp [inV]
  | y :: r => by
    have ih := inV_ints x r
    have e : inV (V.int x) ((y :: r).map V.int) = (eqV (V.int y) (V.int x) || inV (V.int x) (r.map V.int)) := rfl
    rw [e, ih]
    have e2 : eqV (V.int y) (V.int x) = decide (x = y) := by
      show (y == x) = _
      rw [Bool.eq_iff_iff, beq_iff_eq, decide_eq_true_iff]
      exact eq_comm
    rw [e2]
    by_cases h : x = y <;> simp [h]
theorem free_turn {fs : List Int} (h : fs.length < 3) (hr : RgIn fs) (r : Int) (r0 : 0 ≤ r) (r1 : r < 16) : ∃ m : Nat, (r + m) % 16 ∉ fs := by
  cases fs with
  | nil => exact ⟨0, by simp⟩
  | cons a t =>
    cases t with
    | nil =>
      by_cases e : (r + (0 : Nat)) % 16 = a
      · refine ⟨1, fun z => ?_⟩
        rw [List.mem_singleton] at z
        omega
      · exact ⟨0, fun z => e (List.mem_singleton.mp z)⟩
    | cons b t =>
      cases t with
      | nil =>
        by_cases e0 : (r + (0 : Nat)) % 16 ∈ [a, b]
        · by_cases e1 : (r + (1 : Nat)) % 16 ∈ [a, b]
          · refine ⟨2, fun z => ?_⟩
            simp only [List.mem_cons, List.not_mem_nil, or_false] at e0 e1 z
            omega
          · exact ⟨1, e1⟩
        · exact ⟨0, e0⟩
      | cons c t => exact absurd h (by simp only [List.length_cons]; omega)
def spDifferent : Sp := fun vs H Q _ => ∃ (p : Addr), vs = [.ref p, .int 3] ∧ DrawAt H p ∧ ∀ (a b c : Int) (l : Addr) (H' : Hp), RgIn [a, b, c] → a ≠ b → a ≠ c → b ≠ c → H l = none → GS p H H' → H' l = some (.lst [.int a, .int b, .int c]) → Q (.ref l) H'
theorem ok_z_different (T : Txt K mg) : FnOk P w K mg base CX0 2 T.f_z_different T.d_z_different ["draw", "many"] spDifferent := by
  have G_z_take := okG_z_take (P := P) (w := w) (base := base) T
  refine T.F_z_different.ok sc_z_different (fun vs H Q E h => ?_) (fun cdv A outer s H vs Q E hr h => ?_)
  · obtain ⟨p, rfl, _⟩ := h
    rfl
  · obtain ⟨p, rfl, D, q⟩ := h
    refine ⟨_, (pss_cons (ps_set (i := 2) sc_z_different.nd rfl (Or.inl rfl) (pe_lst pa_nil))
      (pss_cons (ps_while PassesOwn.never (pt_cmpR op_lt (pe_callB call_len_seq (by rfl) T.m_len (by decide +kernel) (pa_cons (pv 2) pa_nil)) (pv 1) (nomark _))
        (pss_cons (ps_set (i := 3) sc_z_different.nd rfl (Or.inl rfl) (pe_ix ix_list (pe_lst (pa_cons (pe_call G_z_take (hr.mono (by omega)) (by rfl) T.g_z_take T.F_z_take.kp T.b_z_take .nil pass0 (pa_cons (pv 0) (pa_cons pe_int pa_nil))) (pa_cons (pe_call G_z_take (hr.mono (by omega)) (by rfl) T.g_z_take T.F_z_take.kp T.b_z_take .nil pass0 (pa_cons (pv 0) (pa_cons pe_int pa_nil))) pa_nil))) (pe_call G_z_take (hr.mono (by omega)) (by rfl) T.g_z_take T.F_z_take.kp T.b_z_take .nil pass0 (pa_cons (pv 0) (pa_cons pe_int pa_nil))) (fun _ _ => rfl)))
        (pss_cons (ps_while PassesOwn.never (pt_cmpR op_in_seq (pv 3) (pv 2) (by rfl))
          (pss_one (ps_set (i := 3) sc_z_different.nd rfl (Or.inl rfl) (pe_op op_modN (pe_callTy call_int1 (by rfl) T.m_int (by decide +kernel) (pa_cons (pe_op op_add (pv 3) pe_int) pa_nil)) pe_int))))
        (pss_one (ps_expr (pe_bm PySem.F.plainAttrs_list PySem.F.slot_list_append PySem.F.type_list_append mt_append (pv 2) (pa_cons (pv 3) pa_nil)))))))
      (pss_one (ps_ret (pv 2))))), ?_⟩
    refine ⟨Nat.zero_le _, fun l nl => ?_⟩
    have lp : l ∉ [p] := by
      rw [List.mem_singleton]
      exact ne_new D nl
    refine ⟨fun m σ H1 => ∃ (fs : List Int) (c : Option V), m = 3 - fs.length ∧ σ = [some (.ref p), some (.int 3), some (.ref l), c] ∧ GS p H H1 ∧ H1 l = some (.lst (fs.map V.int)) ∧ fs.length ≤ 3 ∧ RgIn fs ∧ fs.Nodup, ⟨3, [], none, rfl, rfl, GS.new D nl, upd_same, by decide, fun r h => (nomatch h), .nil⟩, ?_⟩
    rintro m σ H1 ⟨fs, c, rfl, rfl, g, hl, h3, hin, hnd⟩
    refine ⟨_, rfl, _, _, rfl, .inl (SqL.of hl), _, rfl, _, _, rfl, rfl, _, rfl, ite2 (fun e => ?_) (fun e => ?_)⟩
    · have e1 : ((fs.map V.int).length : Int) < 3 := of_decide_eq_true e
      rw [List.length_map] at e1
      have e2 : fs.length < 3 := by omega
      refine ⟨_, fun σ' H' n => n, ?_⟩
      refine ⟨_, rfl, p, 5, rfl, g.d, by decide, by decide, fun a H2 a0 a1 g2 => ⟨_, rfl, p, 16, rfl, g2.d, by decide, by decide, fun b H3 b0 b1 g3 => ⟨(by show 2 ≤ sizeLine; decide), fun l2 nl2 => ?_⟩⟩⟩
      have g4 := ((g.trans g2).trans g3).trans (GS.new g3.d nl2 (o := .lst [.int a, .int b]))
      have hl4 := (GS.new g3.d nl2 (o := .lst [.int a, .int b])).k.kp _ _ lp (g3.k.kp _ _ lp (g2.k.kp _ _ lp hl))
      have l2p : l2 ∉ [p] := by
        rw [List.mem_singleton]
        exact ne_new g3.d nl2
      refine ⟨_, rfl, p, 2, rfl, g4.d, by decide, by decide, fun k H4 k0 k1 g5 => ?_⟩
      have hk : ∃ v : Int, atI [V.int a, V.int b] k = some (.int v) ∧ 0 ≤ v ∧ v < 16 := by
        have : k = 0 ∨ k = 1 := by omega
        rcases this with rfl | rfl
        · exact ⟨a, rfl, a0, by omega⟩
        · exact ⟨b, rfl, b0, b1⟩
      obtain ⟨v, hv, v0, v1⟩ := hk
      refine ⟨_, _, _, _, rfl, rfl, SqL.of (g5.k.kp _ _ l2p upd_same), hv, ?_⟩
      obtain ⟨m0, hm0⟩ := free_turn e2 hin v v0 v1
      refine ⟨fun m σ H2 => ∃ r : Int, σ = [some (.ref p), some (.int 3), some (.ref l), some (.int r)] ∧ GS p H H2 ∧ H2 l = some (.lst (fs.map V.int)) ∧ 0 ≤ r ∧ r < 16 ∧ (r + m) % 16 ∉ fs, ⟨m0, v, rfl, g4.trans g5, g5.k.kp _ _ lp hl4, v0, v1, hm0⟩, ?_⟩
      rintro m σ H5 ⟨r, rfl, g6, hl6, r0, r1, hm⟩
      refine ⟨_, rfl, _, rfl, l, _, rfl, .inl (SqL.of hl6), rfl, flat_ints fs, _, rfl, ?_⟩
      have ein : (if false = true then !inV (V.int r) (fs.map V.int) else inV (V.int r) (fs.map V.int)) = decide (r ∈ fs) := by rw [if_neg (by decide), inV_ints]
      refine ite2 (fun e => ?_) (fun e => ?_)
      · have e : (if false = true then !inV (V.int r) (fs.map V.int) else inV (V.int r) (fs.map V.int)) = true := e
        rw [ein] at e
        have hr := of_decide_eq_true e
        refine ⟨fun σ' H' => ∃ m', m' < m ∧ ∃ r : Int, σ' = [some (.ref p), some (.int 3), some (.ref l), some (.int r)] ∧ GS p H H' ∧ H' l = some (.lst (fs.map V.int)) ∧ 0 ≤ r ∧ r < 16 ∧ (r + m') % 16 ∉ fs, fun σ' H' h => h, ?_⟩
        refine ⟨_, rfl, _, _, rfl, rfl, .inl ⟨_, rfl, _, _, rfl, rfl, (show (16 : Int) ≠ 0 by decide), ?_⟩⟩
        have f0 : 0 ≤ (r + 1).fmod 16 := fmod_lo (by decide)
        have f1 : (r + 1).fmod 16 < 16 := fmod_hi (by decide)
        have m1 : m ≠ 0 := fun z => by
          subst z
          apply hm
          have : (r + (0 : Nat)) % 16 = r := by omega
          rw [this]
          exact hr
        refine ⟨m - 1, by omega, _, rfl, g6, hl6, f0, f1, ?_⟩
        have : ((r + 1).fmod 16 + ((m - 1 : Nat) : Int)) % 16 = (r + m) % 16 := by
          rw [fmod_e (by decide)]
          omega
        rw [this]
        exact hm
      · have e : ¬ (if false = true then !inV (V.int r) (fs.map V.int) else inV (V.int r) (fs.map V.int)) = true := e
        rw [ein] at e
        have hr : r ∉ fs := fun z => e (decide_eq_true z)
        refine ⟨_, rfl, .inl ⟨rfl, _, SqL.of hl6⟩, _, rfl, l, _, _, rfl, rfl, hl6, ?_, ?_⟩
        · rw [List.length_map]
          exact Nat.lt_of_le_of_lt (by omega : _ ≤ 1000) (by decide)
        · refine ⟨3 - (fs.length + 1), by omega, fs ++ [r], _, by rw [List.length_append]; rfl, rfl, g6.late D nl, ?_, ?_, ?_, ?_⟩
          · rw [upd_same, List.map_append]
            rfl
          · rw [List.length_append]
            exact e2
          · intro x hx
            rcases List.mem_append.mp hx with hx | hx
            · exact hin x hx
            · rw [List.mem_singleton.mp hx]
              exact ⟨r0, r1⟩
          · rw [List.nodup_append]
            refine ⟨hnd, by simp, fun x hx y hy z => ?_⟩
            rw [List.mem_singleton.mp hy] at z
            exact hr (z ▸ hx)
    · have e1 : ¬ ((fs.map V.int).length : Int) < 3 := fun z => e (decide_eq_true z)
      rw [List.length_map] at e1
      have e2 : fs.length = 3 := by omega
      match fs, e2 with
      | [a, b, c], _ =>
        have n1 := List.nodup_cons.mp hnd
        have n2 := List.nodup_cons.mp n1.2
        refine ⟨_, rfl, q a b c l H1 hin ?_ ?_ ?_ nl g hl⟩
        · intro z
          exact n1.1 (by simp [z])
        · intro z
          exact n1.1 (by simp [z])
        · intro z
          exact n2.1 (by simp [z])
end

end My

set_option Elab.async false
set_option linter.all false
set_option maxRecDepth 100000
set_option maxHeartbeats 4000000
namespace My
open PySem PySem.Spec PyProof.Rows L2
section
variable {P : Program} {w : World} {K : PySem.W.Frag} {mg : Str → Option Value} {base : Heap}
def shapeOf (op : Str) : Str := ((shL.find? fun p => decide (p.1 = op)).map (·.2)).getD ""
theorem sh_val : ∀ k, k < 30 → valV (shK 30) (.inr (wdL.getD k "")) = some (.str (shapeOf (wdL.getD k ""))) := by decide +kernel
theorem sh_small : ∀ k, k < 30 → (shapeOf (wdL.getD k "")).cps.size ≤ 3 := by decide +kernel
theorem chr_is (c d : Nat) : (V.str ⟨#[c]⟩ = V.str ⟨#[d]⟩) ↔ c = d := by
  constructor
  · intro h
    have h2 := V.str.inj h
    simpa using h2
  · intro h
    rw [h]
/-- what may stand as the j-th part of an instruction, by the letter of the shape -/
def PtOk (n near : Nat) (rs : List Int) (j ch : Nat) (p : Int) : Prop :=
  if ch = 114 then rs[j]? = some p else if ch = 110 then 0 ≤ p ∧ p < 2 ^ n else if ch = 109 then 0 ≤ p ∧ p < 2 ^ 32 else if ch = 111 then -(near : Int) ≤ p ∧ p ≤ near else 0 ≤ p ∧ p < 9
def PtsOk (n near : Nat) (rs : List Int) (cs : List Nat) (ps : List Int) : Prop := ∀ j ch p, cs[j]? = some ch → ps[j]? = some p → PtOk n near rs j ch p
theorem pts_snoc {n near : Nat} {rs : List Int} {cs : List Nat} {ps : List Int} {c : Nat} {x : Int} (h : PtsOk n near rs cs ps) (hc : cs[ps.length]? = some c) (hx : PtOk n near rs ps.length c x) : PtsOk n near rs cs (ps ++ [x]) := by
  intro j ch p h1 h2
  rcases Nat.lt_trichotomy j ps.length with l | l | l
  · rw [List.getElem?_append_left l] at h2
    exact h j ch p h1 h2
  · subst l
    rw [List.getElem?_append_right (Nat.le_refl _), Nat.sub_self] at h2
    rw [hc] at h1
    cases h1
    cases h2
    exact hx
  · rw [List.getElem?_append_right (by omega)] at h2
    obtain ⟨m, hm⟩ : ∃ m, j - ps.length = m + 1 := ⟨j - ps.length - 1, by omega⟩
    rw [hm] at h2
    simp at h2
structure InsOk (n near : Nat) (op : Str) (ps : List Int) : Prop where
  wd : ∃ k, k < 30 ∧ op = wdL.getD k ""
  ln : ps.length = (shapeOf op).cps.size
  rs : ∃ a b c : Int, RgIn [a, b, c] ∧ a ≠ b ∧ a ≠ c ∧ PtsOk n near [a, b, c] (shapeOf op).cps.toList ps
def InsV (H : Hp) (v : V) (d : Str × List Int) : Prop := ∃ t, v = .ref t ∧ H t = some (.tup (.str d.1 :: d.2.map V.int))
def spInstruction : Sp := fun vs H Q _ => ∃ (p : Addr) (n near : Nat), vs = [.ref p, .int n, .int near] ∧ DrawAt H p ∧ n ≤ 32 ∧ near ≤ 1000 ∧
  ∀ (v : V) (op : Str) (ps : List Int) (H' : Hp), GS p H H' → InsV H' v (op, ps) → InsOk n near op ps → Q v H'
set_option maxHeartbeats 4000000 in
theorem ok_z_instruction (T : Txt K mg) : FnOk P w K mg base CX0 3 T.f_z_instruction T.d_z_instruction ["draw", "width", "near"] spInstruction := by
  have G_z_take := okG_z_take (P := P) (w := w) (base := base) T
  have G_z_words := ok_z_words (P := P) (w := w) (base := base) T
  have G_z_shapes := ok_z_shapes (P := P) (w := w) (base := base) T
  have G_z_number := ok_z_number (P := P) (w := w) (base := base) T
  have G_z_different := ok_z_different (P := P) (w := w) (base := base) T
  refine T.F_z_instruction.ok sc_z_instruction (fun vs H Q E h => ?_) (fun cdv A outer s H vs Q E hr h => ?_)
  · obtain ⟨p, n, near, rfl, _⟩ := h
    rfl
  · obtain ⟨p, n, near, rfl, D, hn, hnear, q⟩ := h
    refine ⟨_, (pss_cons (ps_set (i := 3) sc_z_instruction.nd rfl (Or.inl rfl) (pe_ix ix_list (pe_call0 G_z_words (hr.mono (by omega)) (by rfl) T.g_z_words T.F_z_words.kp T.b_z_words .nil pass0) (pe_call G_z_take (hr.mono (by omega)) (by rfl) T.g_z_take T.F_z_take.kp T.b_z_take .nil pass0 (pa_cons (pv 0) (pa_cons pe_int pa_nil))) (fun _ _ => rfl)))
      (pss_cons (ps_set (i := 4) sc_z_instruction.nd rfl (Or.inl rfl) (pe_dget (hu_of hr) (pe_call0 G_z_shapes (hr.mono (by omega)) (by rfl) T.g_z_shapes T.F_z_shapes.kp T.b_z_shapes .nil pass0) (pv 3) (fun _ _ => rfl)))
      (pss_cons (ps_set (i := 5) sc_z_instruction.nd rfl (Or.inl rfl) (pe_call G_z_different (hr.mono (by omega)) (by rfl) T.g_z_different T.F_z_different.kp T.b_z_different .nil pass0 (pa_cons (pv 0) (pa_cons pe_int pa_nil))))
      (pss_cons (ps_cut (ps_if (PW.pt (pw_and (pt_cmpR op_eq (pv 4) pe_str (nomark _)) (pw_and1 (pt_cmpR op_eq (pe_call G_z_take (hr.mono (by omega)) (by rfl) T.g_z_take T.F_z_take.kp T.b_z_take .nil pass0 (pa_cons (pv 0) (pa_cons pe_int pa_nil))) pe_int (nomark _)))))
        (pss_one (ps_set (i := 5) sc_z_instruction.nd rfl (Or.inl rfl) (pe_lst (pa_cons (pe_ix ix_list (pv 5) pe_int (fun _ _ => rfl)) (pa_cons (pe_ix ix_list (pv 5) pe_int (fun _ _ => rfl)) (pa_cons (pe_ix ix_list (pv 5) pe_int (fun _ _ => rfl)) pa_nil))))))
        pss_nil))
      (pss_cons (ps_set (i := 6) sc_z_instruction.nd rfl (Or.inl rfl) (pe_lst (pa_cons (pv 3) pa_nil)))
      (pss_cons (ps_for PassesOwn.never rfl (pi_range1 (by rfl) T.m_range (pa_cons (pe_callB call_len_str (by rfl) T.m_len (by decide +kernel) (pa_cons (pv 4) pa_nil)) pa_nil)) (pg_name (i := 7) sc_z_instruction.nd rfl (Or.inl rfl))
        (pss_one (ps_if (pt_cmpR op_eq (pe_ix ix_str (pv 4) (pv 7) (fun _ _ => rfl)) pe_str (nomark _))
          (pss_one (ps_expr (pe_bm PySem.F.plainAttrs_list PySem.F.slot_list_append PySem.F.type_list_append mt_append (pv 6) (pa_cons (pe_ix ix_list (pv 5) (pv 7) (fun _ _ => rfl)) pa_nil))))
          (pss_one (ps_if (pt_cmpR op_eq (pe_ix ix_str (pv 4) (pv 7) (fun _ _ => rfl)) pe_str (nomark _))
            (pss_one (ps_expr (pe_bm PySem.F.plainAttrs_list PySem.F.slot_list_append PySem.F.type_list_append mt_append (pv 6) (pa_cons (pe_call G_z_number (hr.mono (by omega)) (by rfl) T.g_z_number T.F_z_number.kp T.b_z_number .nil pass0 (pa_cons (pv 0) (pa_cons (pv 1) pa_nil))) pa_nil))))
            (pss_one (ps_if (pt_cmpR op_eq (pe_ix ix_str (pv 4) (pv 7) (fun _ _ => rfl)) pe_str (nomark _))
              (pss_one (ps_expr (pe_bm PySem.F.plainAttrs_list PySem.F.slot_list_append PySem.F.type_list_append mt_append (pv 6) (pa_cons (pe_call G_z_number (hr.mono (by omega)) (by rfl) T.g_z_number T.F_z_number.kp T.b_z_number .nil pass0 (pa_cons (pv 0) (pa_cons pe_int pa_nil))) pa_nil))))
              (pss_one (ps_if (pt_cmpR op_eq (pe_ix ix_str (pv 4) (pv 7) (fun _ _ => rfl)) pe_str (nomark _))
                (pss_one (ps_expr (pe_bm PySem.F.plainAttrs_list PySem.F.slot_list_append PySem.F.type_list_append mt_append (pv 6) (pa_cons (pe_op op_sub (pe_call G_z_take (hr.mono (by omega)) (by rfl) T.g_z_take T.F_z_take.kp T.b_z_take .nil pass0 (pa_cons (pv 0) (pa_cons (pe_op op_add (pe_op op_mul pe_int (pv 2)) pe_int) pa_nil))) (pv 2)) pa_nil))))
                (pss_one (ps_expr (pe_bm PySem.F.plainAttrs_list PySem.F.slot_list_append PySem.F.type_list_append mt_append (pv 6) (pa_cons (pe_call G_z_take (hr.mono (by omega)) (by rfl) T.g_z_take T.F_z_take.kp T.b_z_take .nil pass0 (pa_cons (pv 0) (pa_cons pe_int pa_nil))) pa_nil)))))))))))))
      (pss_one (ps_ret (pe_callTy call_tuple_of (by rfl) T.m_tuple (by decide +kernel) (pa_cons (pv 6) pa_nil)))))))))), ?_⟩
    refine ⟨rfl, fun lw nlw => ?_⟩
    have g1 := GS.new D nlw (o := .lst (wdL.map V.str))
    have lwp : lw ∉ [p] := by rw [List.mem_singleton]; exact ne_new D nlw
    refine ⟨_, rfl, p, 30, rfl, g1.d, by decide, by decide, fun k H2 k0 k1 g2 => ?_⟩
    obtain ⟨nk, rfl⟩ := int_nat k0
    have hnk : nk < 30 := by omega
    have hat : atI (wdL.map V.str) (nk : Int) = some (.str (wdL.getD nk "")) := by
      refine atI_nat ?_
      have hl : nk < wdL.length := hnk
      rw [List.getElem?_map, List.getElem?_eq_getElem hl, List.getD_eq_getElem?_getD, List.getElem?_eq_getElem hl]
      rfl
    refine ⟨_, _, _, _, rfl, rfl, SqL.of (g2.k.kp _ _ lwp upd_same), hat, ?_⟩
    have hop : ∃ k, k < 30 ∧ wdL.getD nk "" = wdL.getD k "" := ⟨nk, hnk, rfl⟩
    have hval := sh_val nk hnk
    have hsm := sh_small nk hnk
    generalize wdL.getD nk "" = op at hop hval hsm ⊢
    have g3 := g1.trans g2
    clear hat g1 g2
    refine ⟨rfl, fun sp H3 k3 hsp => ⟨_, rfl, _, _, rfl, dget_s hsp hval, ?_⟩⟩
    have g4 := g3.trans (GS.of g3.d k3)
    refine ⟨_, rfl, p, rfl, g4.d, fun a b c l H4 hin hab hac hbc nl g5 hl => ?_⟩
    have g6 := g4.trans g5
    refine ⟨fun σ H5 => ∃ (l : Addr) (a b c : Int), σ = [some (.ref p), some (.int n), some (.int near), some (.str op), some (.str (shapeOf op)), some (.ref l), none, none] ∧ GS p H H5 ∧ RgIn [a, b, c] ∧ a ≠ b ∧ a ≠ c ∧ H5 l = some (.lst [.int a, .int b, .int c]), ?_, ?_⟩
    · refine ⟨_, rfl, rfl, _, rfl, ite2 (fun e => ?_) (fun e => ?_)⟩
      · refine ⟨_, rfl, p, 3, rfl, g6.d, by decide, by decide, fun r H5 r0 r1 g7 => ?_⟩
        have lp : l ∉ [p] := by rw [List.mem_singleton]; exact ne_new g4.d nl
        have hl5 := g7.k.kp _ _ lp hl
        have g8 := g6.trans g7
        refine ⟨rfl, _, rfl, ite2 (fun e => ?_) (fun e => ?_)⟩
        · refine ⟨_, rfl, _, _, _, _, rfl, rfl, SqL.of hl5, rfl, _, rfl, _, _, _, _, rfl, rfl, SqL.of hl5, rfl, _, rfl, _, _, _, _, rfl, rfl, SqL.of hl5, rfl, (by show 3 ≤ sizeLine; decide), fun l2 nl2 => ?_⟩
          refine ⟨l2, a, b, b, rfl, g8.trans (GS.new g8.d nl2), ?_, hab, hab, upd_same⟩
          intro x hx
          refine hin x ?_
          simp only [List.mem_cons, List.not_mem_nil, or_false] at hx ⊢
          omega
        · exact ⟨l, a, b, c, rfl, g8, hin, hab, hac, hl5⟩
      · exact ite_f (by decide) ⟨l, a, b, c, rfl, g6, hin, hab, hac, hl⟩
    clear hin hab hac hbc hl g6 g5 nl
    rintro σ H5 ⟨l, a, b, c, rfl, g, hin, hab, hac, hl⟩
    refine ⟨_, rfl, (by show 1 ≤ sizeLine; decide), fun M nM => ?_⟩
    have lM : l ≠ M := ne_of_none hl nM
    have gM := GS.new g.d nM (o := .lst [.str op])
    have Mp : M ∉ [p] := by rw [List.mem_singleton]; exact ne_new g.d nM
    have lp : l ∉ [p] := by
      rw [List.mem_singleton]
      intro z
      obtain ⟨c', cells, pos, rest, seed, I⟩ := g.d
      rw [z, I.hp] at hl
      cases hl
    have hsz : (shapeOf op).length = (shapeOf op).cps.size := rfl
    refine ⟨_, rfl, _, rfl, (by rw [hsz]; exact Nat.le_trans hsm (by decide)), ((shapeOf op).length : Int), rfl, by omega, by rw [hsz]; omega, ?_⟩
    have e0 : (((shapeOf op).length : Nat) : Int).toNat = (shapeOf op).cps.size := by rw [hsz]; rfl
    rw [e0]
    refine for_range (n := (shapeOf op).cps.size) (fun i σ H6 => ∃ (x7 : Option V) (ps : List Int), σ = [some (.ref p), some (.int n), some (.int near), some (.str op), some (.str (shapeOf op)), some (.ref l), some (.ref M), x7] ∧ GS p H H6 ∧ H6 l = some (.lst [.int a, .int b, .int c]) ∧ H6 M = some (.lst (.str op :: ps.map V.int)) ∧ ps.length = i ∧ PtsOk n near [a, b, c] (shapeOf op).cps.toList ps) ?_ ?_ ?_
    · exact ⟨none, [], rfl, g.trans gM, gM.k.kp _ _ lp hl, upd_same, rfl, fun j ch p _ h => by simp at h⟩
    · rintro i σ H6 hi ⟨x7, ps, rfl, g6, hl6, hM, hlen, hps⟩
      rw [Int.zero_add]
      have nMH : H M = none := by
        cases e : H M with
        | none => rfl
        | some o => rw [g.k.kp _ _ Mp e] at nM; cases nM
      have hil : i < (shapeOf op).cps.toList.length := by simpa using hi
      obtain ⟨ch, hch⟩ : ∃ ch, (shapeOf op).cps.toList[i]? = some ch := ⟨_, List.getElem?_eq_getElem hil⟩
      have hchI : atI (shapeOf op).cps.toList (i : Int) = some ch := atI_nat hch
      have hzl : (shapeOf op).length ≤ sizeLine := by rw [hsz]; exact Nat.le_trans hsm (by decide)
      have hsz2 : (V.str op :: ps.map V.int).length < sizeLine := by
        rw [List.length_cons, List.length_map]
        exact Nat.lt_of_le_of_lt (by omega : _ ≤ 1000) (by decide)
      have fin : ∀ (x : Int) (H7 : Hp), GS p H H7 → H7 l = some (.lst [.int a, .int b, .int c]) → H7 M = some (.lst (.str op :: ps.map V.int)) → PtOk n near [a, b, c] i ch x →
          ∃ (x7' : Option V) (ps' : List Int), ([some (.ref p), some (.int n), some (.int near), some (.str op), some (.str (shapeOf op)), some (.ref l), some (.ref M), some (.int (i : Int))] : L2.St) = [some (.ref p), some (.int n), some (.int near), some (.str op), some (.str (shapeOf op)), some (.ref l), some (.ref M), x7'] ∧ GS p H (upd H7 M (.lst ((V.str op :: ps.map V.int) ++ [.int x]))) ∧ (upd H7 M (.lst ((V.str op :: ps.map V.int) ++ [.int x]))) l = some (.lst [.int a, .int b, .int c]) ∧ (upd H7 M (.lst ((V.str op :: ps.map V.int) ++ [.int x]))) M = some (.lst (.str op :: ps'.map V.int)) ∧ ps'.length = i + 1 ∧ PtsOk n near [a, b, c] (shapeOf op).cps.toList ps' := by
        intro x H7 g7 hl7 hM7 hp
        refine ⟨_, ps ++ [x], rfl, g7.late D nMH, ?_, ?_, ?_, ?_⟩
        · rw [upd_ne lM]
          exact hl7
        · rw [upd_same, List.map_append]
          rfl
        · rw [List.length_append, hlen]
          rfl
        · exact pts_snoc hps (by rw [hlen]; exact hch) (by rw [hlen]; exact hp)
      have hi3 : i < 3 := by omega
      refine ⟨_, rfl, _, rfl, _, _, _, rfl, rfl, hzl, hchI, rfl, _, rfl, ite2 (fun e => ?_) (fun e => ?_)⟩
      · have e1 : ch = 114 := (chr_is ch 114).mp (of_decide_eq_true e)
        obtain ⟨x, hx⟩ : ∃ x, ([a, b, c] : List Int)[i]? = some x := ⟨_, List.getElem?_eq_getElem (by simpa using hi3)⟩
        have hxI : atI [V.int a, V.int b, V.int c] (i : Int) = some (.int x) := atI_nat (by
          show ([a, b, c].map V.int)[i]? = _
          rw [List.getElem?_map, hx]
          rfl)
        refine ⟨_, rfl, .inl ⟨rfl, _, SqL.of hM⟩, _, rfl, _, rfl, l, _, _, _, rfl, rfl, SqL.of hl6, hxI, M, _, _, rfl, rfl, hM, hsz2, ?_⟩
        refine fin x _ g6 hl6 hM ?_
        unfold PtOk
        rw [if_pos e1]
        exact hx
      have n1 : ch ≠ 114 := fun z => e (decide_eq_true ((chr_is ch 114).mpr z))
      refine ⟨_, rfl, _, rfl, _, _, _, rfl, rfl, hzl, hchI, rfl, _, rfl, ite2 (fun e => ?_) (fun e => ?_)⟩
      · have e1 : ch = 110 := (chr_is ch 110).mp (of_decide_eq_true e)
        refine ⟨_, rfl, .inl ⟨rfl, _, SqL.of hM⟩, _, rfl, _, rfl, p, n, rfl, g6.d, hn, fun r H7 r0 r1 g7 => ?_⟩
        refine ⟨M, _, _, rfl, rfl, g7.k.kp _ _ Mp hM, hsz2, ?_⟩
        refine fin r _ (g6.trans g7) (g7.k.kp _ _ lp hl6) (g7.k.kp _ _ Mp hM) ?_
        unfold PtOk
        rw [if_neg n1, if_pos e1]
        exact ⟨r0, r1⟩
      have n2 : ch ≠ 110 := fun z => e (decide_eq_true ((chr_is ch 110).mpr z))
      refine ⟨_, rfl, _, rfl, _, _, _, rfl, rfl, hzl, hchI, rfl, _, rfl, ite2 (fun e => ?_) (fun e => ?_)⟩
      · have e1 : ch = 109 := (chr_is ch 109).mp (of_decide_eq_true e)
        refine ⟨_, rfl, .inl ⟨rfl, _, SqL.of hM⟩, _, rfl, p, 32, rfl, g6.d, (by decide), fun r H7 r0 r1 g7 => ?_⟩
        refine ⟨M, _, _, rfl, rfl, g7.k.kp _ _ Mp hM, hsz2, ?_⟩
        refine fin r _ (g6.trans g7) (g7.k.kp _ _ lp hl6) (g7.k.kp _ _ Mp hM) ?_
        unfold PtOk
        rw [if_neg n1, if_neg n2, if_pos e1]
        exact ⟨r0, r1⟩
      have n3 : ch ≠ 109 := fun z => e (decide_eq_true ((chr_is ch 109).mpr z))
      refine ⟨_, rfl, _, rfl, _, _, _, rfl, rfl, hzl, hchI, rfl, _, rfl, ite2 (fun e => ?_) (fun e => ?_)⟩
      · have e1 : ch = 111 := (chr_is ch 111).mp (of_decide_eq_true e)
        refine ⟨_, rfl, .inl ⟨rfl, _, SqL.of hM⟩, _, rfl, _, rfl, _, _, rfl, rfl, .inl ⟨by omega, by omega⟩, _, _, rfl, rfl, p, 2 * (near : Int) + 1, rfl, g6.d, by omega, Int.le_trans (by omega : _ ≤ (100000 : Int)) (by decide), fun r H7 r0 r1 g7 => ?_⟩
        refine ⟨_, rfl, _, _, rfl, rfl, M, _, _, rfl, rfl, g7.k.kp _ _ Mp hM, hsz2, ?_⟩
        refine fin (r - near) _ (g6.trans g7) (g7.k.kp _ _ lp hl6) (g7.k.kp _ _ Mp hM) ?_
        unfold PtOk
        rw [if_neg n1, if_neg n2, if_neg n3, if_pos e1]
        omega
      have n4 : ch ≠ 111 := fun z => e (decide_eq_true ((chr_is ch 111).mpr z))
      refine ⟨_, rfl, .inl ⟨rfl, _, SqL.of hM⟩, _, rfl, p, 4, rfl, g6.d, by decide, by decide, fun r H7 r0 r1 g7 => ?_⟩
      refine ⟨M, _, _, rfl, rfl, g7.k.kp _ _ Mp hM, hsz2, ?_⟩
      refine fin r _ (g6.trans g7) (g7.k.kp _ _ lp hl6) (g7.k.kp _ _ Mp hM) ?_
      unfold PtOk
      rw [if_neg n1, if_neg n2, if_neg n3, if_neg n4]
      omega
    · rintro σ H6 ⟨x7, ps, rfl, g6, hl6, hM, hlen, hps⟩
      refine ⟨_, rfl, M, _, rfl, .inl ⟨SqL.of hM, fun t nt => ?_⟩⟩
      exact q _ op ps _ (g6.trans (GS.new g6.d nt)) ⟨t, rfl, upd_same⟩ ⟨hop, hlen, a, b, c, hin, hab, hac, hps⟩
end

end My

set_option Elab.async false
set_option linter.all false
set_option maxRecDepth 100000
set_option maxHeartbeats 4000000
namespace My
open PySem PySem.Spec PyProof.Rows L2
local macro_rules | `(tactic| walk_at "asm") => `(tactic| (refine' of_eq_true (eq_true ?_); assumption))
local macro_rules | `(tactic| walk_at "go1") => `(tactic| first
  | (with_reducible rfl) | walk_at "asm" | (apply And.intro) | (apply Exists.intro)
  | (refine' ite_f (by decide +kernel) ?_) | (refine' ite_t (by decide +kernel) ?_) | (refine' ite_f (dstr_ne (by assumption)) ?_) | (refine' ite_t (dstr_eq (by assumption)) ?_)
  | (exact SqT.of upd_same) | (exact SqL.of upd_same) | (exact SqL.of (by assumption)) | (exact SqT.of (by assumption)) | (exact dget_s (by assumption) (by assumption)) | (exact dget_f (by assumption) (by assumption))
  | (exact Or.inl (by assumption)) | (exact Or.inr (by assumption)) | (exact Or.inl (SqL.of (by assumption))) | (exact Or.inr (SqT.of (by assumption))) | rfl)
local macro_rules | `(tactic| walk_at "go") => `(tactic| repeat' walk_at "go1")

theorem tabG_kt {S : List Addr} {H H' : Hp} {Pt : Addr} (k : KT S H H') (n : Pt ∉ S) (t : GxR.TabG H Pt) : GxR.TabG H' Pt := by
  obtain ⟨ps, e, h⟩ := t
  exact ⟨ps, k.kp _ _ n e, h⟩
theorem tabG_upd {H : Hp} {Pt a : Addr} {o : HO} (n : Pt ≠ a) (t : GxR.TabG H Pt) : GxR.TabG (upd H a o) Pt := by
  obtain ⟨ps, e, h⟩ := t
  exact ⟨ps, by rw [upd_ne n]; exact e, h⟩
theorem tabG_ne {H : Hp} {Pt a : Addr} (t : GxR.TabG H Pt) (n : H a = none) : Pt ≠ a := by
  obtain ⟨ps, e, h⟩ := t
  intro z
  rw [z, n] at e
  cases e

/-! ### tables -/
def Txt.Ps {K : PySem.W.Frag} {mg : Str → Option Value} (T : Txt K mg) : List Addr := T.tabs.map (·.2)
def TbA {K : PySem.W.Frag} {mg : Str → Option Value} (T : Txt K mg) (H : Hp) : Prop := GxR.TabG H T.P_number_of
section
variable {P : Program} {w : World} {K : PySem.W.Frag} {mg : Str → Option Value} {base : Heap} {H : Hp}
theorem TbA.same {T : Txt K mg} {H H' : Hp} (t : TbA T H) (k : KT [] H H') : TbA T H' := tabG_kt k (by simp) t
theorem tall_strB {σ : L2.St} {own : List (Str × Nat)} {te : TE} {z : Str} {QF : V → Hp → Prop} (pz : Nat → Bool) (ht : ∀ c, c ∈ toL z → ∀ Q : VK, Q (.bl (pz c)) H → te (gσ σ own (some (.str ⟨#[c]⟩))) H Q)
    (q : QF (.bl ((toL z).all pz)) H) : ∃ W : Nat → Nat → Hp → Prop, (∃ m, W 0 m H) ∧ TAll σ own te true (Its z) W QF := by
  refine ⟨fun i m H' => m = z.cps.size - i ∧ i ≤ z.cps.size ∧ H' = H ∧ ((toL z).take i).all pz = true, ⟨_, rfl, Nat.zero_le _, rfl, rfl⟩, ?_⟩
  rintro i m H' ⟨rfl, hi, rfl, ha⟩
  have ln : (toL z).length = z.cps.size := Array.length_toList
  by_cases hlt : i < z.cps.size
  · refine .inr ⟨hlt, fun H'' => H'' = H' ∧ ((toL z).take (i + 1)).all pz = true, fun H'' ⟨e, a2⟩ => ⟨_, by omega, rfl, by omega, e, a2⟩, fun v H2 y => ?_⟩
    obtain ⟨e, c, hc, rfl⟩ := y
    subst e
    have hcl : (toL z)[i]? = some c := by rw [← hc]; exact Array.getElem?_toList
    refine ht c (List.mem_of_getElem? hcl) _ ⟨pz c, rfl, ?_⟩
    cases hb : pz c with
    | true =>
      refine ite_t rfl ⟨rfl, ?_⟩
      rw [List.take_succ, hcl, List.all_append, ha]
      show (true && (pz c && true)) = true
      rw [hb]
      rfl
    | false =>
      refine ite_f (by decide) ?_
      have : (toL z).all pz = false := by
        rw [List.all_eq_false]
        exact ⟨c, List.mem_of_getElem? hcl, by rw [hb]; decide⟩
      rw [this] at q
      exact q
  · have e : i = z.cps.size := by omega
    subst e
    rw [List.take_of_length_le (by omega)] at ha
    rw [ha] at q
    exact .inl ⟨Nat.le_refl _, q⟩
/-! ### numbers -/
def optV : Option Int → V
  | some i => .int i
  | none => .non
theorem dig_in (c : Nat) : (!(Builtin.Str.occurrences "0123456789" ⟨#[c]⟩ 0 ("0123456789" : Str).length 1).isEmpty) = isDg c := by
  rw [StrLaws.found_one]
  have e : ("0123456789" : Str).cps.toList = [48, 49, 50, 51, 52, 53, 54, 55, 56, 57] := by decide +kernel
  rw [e]
  unfold isDg
  rw [← Bool.decide_and]
  refine decide_eq_decide.mpr ?_
  simp only [List.mem_cons, List.not_mem_nil, or_false]
  omega
theorem dig_ix : ∀ d, d < 10 → Builtin.Str.occurrences "0123456789" ⟨#[d + 48]⟩ 0 ("0123456789" : Str).length 1 = [d] := by decide +kernel
theorem sw_one (s : Str) (c : Nat) : Txt.startswith s ⟨#[c]⟩ = decide ((toL s).head? = some c) := by
  unfold Txt.startswith
  rw [StrLaws.subAt_eq]
  show (decide (0 + 1 ≤ s.length) && (((toL s).drop 0).take 1 == [c])) = _
  rw [List.drop_zero, ← toL_len]
  cases toL s with
  | nil => rfl
  | cons x r =>
    show (decide (0 + 1 ≤ r.length + 1) && ([x] == [c])) = decide (some x = some c)
    rw [decide_eq_true (by omega), Bool.true_and]
    by_cases h : x = c
    · subst h; simp
    · rw [decide_eq_false (fun z => h (Option.some.inj z))]
      simp [h]
theorem cut1 (s : Str) : toL (cutS s (some 1) none) = (toL s).drop 1 := by
  unfold cutS toL
  have h0 : HT.sIx s.length 0 (some 1) = min 1 s.length := by
    show _ = _
    unfold HT.sIx
    simp
  have h1 : HT.sIx s.length s.length none = s.length := rfl
  rw [h0, h1]
  have l : s.cps.toList.length = s.length := toL_len s
  by_cases z : s.length = 0
  · have : s.cps.toList = [] := List.eq_nil_of_length_eq_zero (l.trans z)
    simp [this]
  · rw [show min 1 s.length = 1 by omega, List.take_of_length_le (by rw [List.length_drop, l]; omega)]
theorem later {P N G : Prop} (f : (P → N) → G) (x : P → N) : G := f x
def spNum (T : Txt K mg) : Sp := fun vs H Q _ => ∃ s : Str, vs = [.str s] ∧ s.length ≤ 1000 ∧ TbA T H ∧ ∀ H', KT T.Ps H H' → TbA T H' → Q (optV (numL (toL s))) H'
theorem str_eq (a b : Str) : decide (V.str a = V.str b) = decide (toL a = toL b) := by
  by_cases h : a = b
  · subst h; simp
  · rw [decide_eq_false (fun z => h (V.str.inj z)), decide_eq_false fun z => h (toL_inj z)]
theorem ok_number_of (T : Txt K mg) (TB : TBs T base) : FnOk P w K mg base CX0 2 T.f_number_of T.d_number_of ["word"] (spNum T) := by
  refine T.F_number_of.ok sc_number_of (fun vs H Q E h => ?_) (fun A outer s H vs Q E hr h => ?_)
  · obtain ⟨s, rfl, _⟩ := h
    rfl
  · obtain ⟨s, rfl, ls, tb, q⟩ := h
    have hr : Room 1 _ := hr
    have sl : s.length ≤ sizeLine := Nat.le_trans ls (by decide)
    refine ⟨_, (pss_cons (ps_set (i := 1) sc_number_of.nd rfl (Or.inl rfl) (pe_cut (pe_ifExp (pt_val (pe_bm PySem.F.plainAttrs_str PySem.F.slot_str_startswith PySem.F.type_str_startswith mt_startswith (pv 0) (pa_cons pe_str pa_nil))) (pe_slice sl_str (pv 0) (po_some pe_int) po_none) (pv 0))))
      (pss_cons (ps_if (PW.pt (pw_or (pt_cmpR op_eq (pv 1) pe_str (nomark _)) (pw_or1 (pt_not (pt_val (pe_allG [] hr (by rfl) T.m_all TB.B_number_of rfl (by rfl) (by rfl) trivial (by decide) rfl (pi_str (pv 1)) (fun _ _ _ _ _ _ _ _ hr => (pe_cmpR op_in_str (pv 0) (pe_glob (v := .str "0123456789") (by rfl) T.m_DIGITS ⟨_, rfl⟩) (by rfl)))))))))
        (pss_one (ps_ret pe_non))
        pss_nil)
      (pss_cons (ps_if (PW.pt (pw_and (pt_cmpR op_eq (pe_ix ix_str (pv 1) pe_int (fun _ _ => rfl)) pe_str (nomark _)) (pw_and1 (pt_cmpR op_ne (pv 0) pe_str (nomark _)))))
        (pss_one (ps_ret pe_non))
        pss_nil)
      (pss_cons (ps_set (i := 2) sc_number_of.nd rfl (Or.inl rfl) pe_int)
      (pss_cons (ps_for PassesOwn.never rfl (pi_str (pv 1)) (pg_name (i := 3) sc_number_of.nd rfl (Or.inl rfl))
        (pss_one (ps_set (i := 2) sc_number_of.nd rfl (Or.inl rfl) (pe_op op_add (pe_op op_mul (pv 2) pe_int) (pe_bm PySem.F.plainAttrs_str PySem.F.slot_str_index PySem.F.type_str_index mt_sindex (pe_glob (v := .str "0123456789") (by rfl) T.m_DIGITS ⟨_, rfl⟩) (pa_cons (pv 3) pa_nil))))))
      (pss_one (ps_ret (pe_ifExp (pt_val (pe_bm PySem.F.plainAttrs_str PySem.F.slot_str_startswith PySem.F.type_str_startswith mt_startswith (pv 0) (pa_cons pe_str pa_nil))) (pe_un un_neg (pv 2)) (pv 2))))))))), ?_⟩
    refine ⟨fun v H' => H' = H ∧ ∃ d : Str, v = .str d ∧ toL d = dgsL (toL s) ∧ d.length ≤ 1000, ?_, ?_⟩
    · refine ⟨_, rfl, rfl, s, "-", rfl, rfl, _, rfl, ?_⟩
      have e : Txt.startswith s "-" = decide ((toL s).head? = some 45) := sw_one s 45
      rw [e]
      refine ite2 (fun z => ?_) (fun z => ?_)
      · have z := of_decide_eq_true z
        refine ⟨_, rfl, 1, rfl, s, rfl, sl, rfl, _, rfl, ?_, ?_⟩
        · rw [cut1]
          unfold dgsL
          rw [if_pos z]
          exact List.drop_one
        · rw [← toL_len, cut1, List.length_drop, toL_len]
          omega
      · have z : ¬ (toL s).head? = some 45 := fun y => z (decide_eq_true y)
        exact ⟨_, rfl, rfl, _, rfl, (if_neg z).symm, ls⟩
    rintro v H1 ⟨rfl, d, rfl, ed, ld⟩
    have dl : d.length ≤ sizeLine := Nat.le_trans ld (by decide)
    have k0 : KT T.Ps H1 H1 := .refl _ _
    have none_q : ∀ {H2 : Hp}, numL (toL s) = none → KT T.Ps H1 H2 → TbA T H2 → Q .non H2 := fun e k t => by
      have := q _ k t
      rw [e] at this
      exact this
    refine ⟨_, rfl, rfl, _, rfl, ite2 (fun z => ?_) (fun z => ?_)⟩
    · have z : d = "" := V.str.inj (of_decide_eq_true z)
      refine none_q ?_ k0 tb
      unfold numL
      rw [if_pos (.inl (by rw [← ed, z]; rfl))]
    have dne : dgsL (toL s) ≠ [] := fun y => z (decide_eq_true (congrArg V.str (toL_inj (ed.trans y))))
    refine ⟨_, rfl, d, rfl, tb, fun H2 tb2 => ?_⟩
    have k2 : KT T.Ps H1 H2 := KT.tab tb2 tb (List.mem_singleton.mpr rfl)
    refine tall_strB isDg (fun c hc Q q => ⟨_, rfl, _, _, rfl, rfl, by rw [dig_in]; exact q⟩) ?_
    refine ⟨_, rfl, ?_⟩
    cases ha : (toL d).all isDg with
    | false =>
      refine ite_t rfl (none_q ?_ k2 tb2.1)
      unfold numL
      rw [if_pos (.inr (by rw [← ed]; exact ha))]
    | true =>
      refine ite_f (by decide) ?_
      rw [← ed] at dne
      obtain ⟨c, r, ec⟩ : ∃ c r, toL d = c :: r := by
        cases e : toL d with
        | nil => exact absurd e dne
        | cons c r => exact ⟨c, r, rfl⟩
      have e0 : atI d.cps.toList 0 = some c := atI_nat (j := 0) (by
        show (toL d)[0]? = _
        rw [ec]
        rfl)
      refine ⟨_, rfl, d, 0, c, rfl, rfl, dl, e0, rfl, _, rfl, ?_⟩
      have n1 : ¬ (dgsL (toL s) = [] ∨ (dgsL (toL s)).all isDg = false) := by
        rw [← ed, ha]
        rintro (y | y)
        · exact dne y
        · cases y
      have hc0 : decide (V.str ⟨#[c]⟩ = V.str "0") = decide (c = 48) := by
        rw [str_eq]
        show decide ([c] = [48]) = _
        simp
      have hh : (dgsL (toL s)).head? = some c := by rw [← ed, ec]; rfl
      apply later (P := ¬ ((dgsL (toL s)).head? = some 48 ∧ toL s ≠ [48]))
      · intro lastt
        rw [hc0]
        refine ite2 (fun z4 => ?_) (fun z4 => lastt fun y => z4 (decide_eq_true (Option.some.inj (hh.symm.trans y.1))))
        have z4 : c = 48 := of_decide_eq_true z4
        refine ⟨_, rfl, rfl, _, rfl, ite2 (fun z5 => ?_) (fun z5 => lastt fun y => z5 ?_)⟩
        · refine none_q ?_ k2 tb2.1
          unfold numL
          refine (if_neg n1).trans (if_pos ⟨by rw [hh, z4], fun y => ?_⟩)
          have z6 : (!decide (V.str s = V.str "0")) = true := z5
          rw [str_eq, y] at z6
          exact absurd z6 (by decide)
        · show (!decide (V.str s = V.str "0")) = true
          rw [str_eq]
          show (!decide (toL s = [48])) = true
          rw [decide_eq_false y.2, Bool.not_false]
      · intro n2
        refine ite_f (by decide) ?_
        refine ⟨_, rfl, _, rfl, ?_⟩
        refine for_it (walk_str (z := d)) (fun i σ H3 => ∃ x : Option V, σ = [some (.str s), some (.str d), some (.int (decL ((toL d).take i) : Nat)), x] ∧ H3 = H2) ?_ ?_ ?_ ?_
        · exact ⟨none, rfl, rfl⟩
        · intro i σ H3 _ _
          trivial
        · rintro i x σ H3 H4 hi ⟨x3, rfl, rfl⟩ ⟨rfl, e, he, rfl⟩
          have hel : (toL d)[i]? = some e := by rw [← he]; exact Array.getElem?_toList
          have hm := List.all_eq_true.mp ha e (List.mem_of_getElem? hel)
          have hm2 : 48 ≤ e ∧ e ≤ 57 := by
            unfold isDg at hm
            rw [Bool.and_eq_true, decide_eq_true_eq, decide_eq_true_eq] at hm
            exact hm
          have hx := dig_ix (e - 48) (by omega)
          rw [show e - 48 + 48 = e by omega] at hx
          refine ⟨_, rfl, _, _, rfl, rfl, .inr ⟨by decide, by decide⟩, ?_⟩
          refine ⟨rfl, _, rfl, _, _, _, _, rfl, rfl, hx, _, _, rfl, rfl, some (.str ⟨#[e]⟩), ?_, rfl⟩
          have ex : (decL ((toL d).take (i + 1)) : Int) = (decL ((toL d).take i) : Int) * 10 + ((e - 48 : Nat) : Int) := by
            rw [List.take_succ, hel]
            show ((decL (List.take i (toL d) ++ [e]) : Nat) : Int) = _
            rw [decL_snoc]
            omega
          rw [ex]
          rfl
        · rintro σ H3 ⟨x3, rfl, rfl⟩
          have lt : (toL d).take d.cps.size = toL d := List.take_of_length_le (by show (d.cps.toList).length ≤ _; simp)
          refine ⟨_, rfl, rfl, s, "-", rfl, rfl, _, rfl, ?_⟩
          have e45 : Txt.startswith s "-" = decide ((toL s).head? = some 45) := sw_one s 45
          rw [e45, lt]
          have fin : ∀ v, v = optV (numL (toL s)) → Q v H3 := fun v e => by rw [e]; exact q _ k2 tb2.1
          refine ite2 (fun y => ?_) (fun y => ?_)
          · refine ⟨_, rfl, _, rfl, fin _ ?_⟩
            unfold numL
            rw [if_neg n1, if_neg n2, if_pos (of_decide_eq_true y), ← ed]
            rfl
          · refine ⟨_, rfl, fin _ ?_⟩
            unfold numL
            rw [if_neg n1, if_neg n2, if_neg (fun z => y (decide_eq_true z)), ← ed]
            rfl
end

end My

set_option Elab.async false
set_option linter.all false
set_option maxRecDepth 100000
set_option maxHeartbeats 4000000
namespace My
open PySem PySem.Spec PyProof.Rows L2
/-! ### registers, words and lines -/
section
variable {P : Program} {w : World} {K : PySem.W.Frag} {mg : Str → Option Value} {base : Heap} {H : Hp}
theorem pcs_lens (c : Nat) : ∀ l, (pcs c l).length ≤ l.length + 1 ∧ ∀ p ∈ pcs c l, p.length ≤ l.length
  | [] => ⟨Nat.le_refl _, fun p h => by rw [List.mem_singleton.mp h]; exact Nat.le_refl _⟩
  | x :: r => by
    obtain ⟨a, b⟩ := pcs_lens c r
    unfold pcs
    split
    · refine ⟨Nat.succ_le_succ a, fun p h => ?_⟩
      rcases List.mem_cons.mp h with rfl | h
      · exact Nat.zero_le _
      · exact Nat.le_trans (b p h) (Nat.le_succ _)
    · split
      · rename_i e
        exact absurd e (pcs_ne c r)
      · rename_i p ps e
        rw [e] at a b
        refine ⟨Nat.le_trans a (Nat.le_succ _), fun y h => ?_⟩
        rcases List.mem_cons.mp h with rfl | h
        · exact Nat.succ_le_succ (b p List.mem_cons_self)
        · exact Nat.le_trans (b y (List.mem_cons_of_mem _ h)) (Nat.le_succ _)
theorem cutW_none {a : List (List Nat)} (h : ∀ p ∈ a, p.head? ≠ some 35) : cutW a = a.filter fun p => decide (p ≠ []) := by
  have := cutW_app (b := []) h
  rw [List.append_nil] at this
  rw [this]
  show _ ++ [] = _
  rw [List.append_nil]
def regL (l : List Nat) : Option Int := if l.head? = some 114 then numL l.tail else none
def spReg (T : Txt K mg) : Sp := fun vs H Q _ => ∃ s : Str, vs = [.str s] ∧ toL s ≠ [] ∧ s.length ≤ 1000 ∧ TbA T H ∧ ∀ H', KT T.Ps H H' → TbA T H' → Q (optV (regL (toL s))) H'
theorem ok_register_of (T : Txt K mg) (TB : TBs T base) : FnOk P w K mg base CX0 3 T.f_register_of T.d_register_of ["word"] (spReg T) := by
  refine T.F_register_of.ok sc_register_of (fun vs H Q E h => ?_) (fun cdv A outer s H vs Q E hr h => ?_)
  · obtain ⟨s, rfl, _⟩ := h
    rfl
  · obtain ⟨s, rfl, ns, ls, tb, q⟩ := h
    have hr : Room 2 _ := hr
    have sl : s.length ≤ sizeLine := Nat.le_trans ls (by decide)
    have G_number_of := ok_number_of (P := P) (w := w) T TB
    refine ⟨_, (pss_cons (ps_set (i := 1) sc_register_of.nd rfl (Or.inl rfl) (pe_call G_number_of (hr.mono (by omega)) (by rfl) T.g_number_of T.F_number_of.kp T.b_number_of .nil pass0 (pa_cons (pe_slice sl_str (pv 0) (po_some pe_int) po_none) pa_nil)))
      (pss_one (ps_ret (pe_ifExp (pt_cmpR op_eq (pe_ix ix_str (pv 0) pe_int (fun _ _ => rfl)) pe_str (nomark _)) (pv 1) pe_non)))), ?_⟩
    obtain ⟨c, r, ec⟩ : ∃ c r, toL s = c :: r := by
      cases e : toL s with
      | nil => exact absurd e ns
      | cons c r => exact ⟨c, r, rfl⟩
    have e0 : atI s.cps.toList 0 = some c := atI_nat (j := 0) (by
      show (toL s)[0]? = _
      rw [ec]
      rfl)
    refine ⟨_, rfl, 1, rfl, s, rfl, sl, _, rfl, ?_, tb, fun H1 k1 t1 => ?_⟩
    · rw [← toL_len, cut1, List.length_drop, toL_len]
      omega
    refine ⟨_, rfl, s, 0, c, rfl, rfl, sl, e0, rfl, _, rfl, ?_⟩
    have hc0 : decide (V.str ⟨#[c]⟩ = V.str "r") = decide (c = 114) := by
      rw [str_eq]
      show decide ([c] = [114]) = _
      simp
    rw [hc0]
    have hq : Q (optV (if some c = some 114 then numL r else none)) H1 := by
      have := q _ k1 t1
      unfold regL at this
      rw [ec] at this
      exact this
    refine ite2 (fun z => ?_) (fun z => ?_)
    · have z := of_decide_eq_true z
      rw [if_pos (by rw [z])] at hq
      refine ⟨_, rfl, ?_⟩
      rw [cut1, ec]
      exact hq
    · rw [if_neg (fun y => z (decide_eq_true (Option.some.inj y)))] at hq
      exact hq
def spWof : Sp := fun vs H Q _ => ∃ s : Str, vs = [.str s] ∧ s.length ≤ 1000 ∧ ∀ H' R (ws : List Str), KT [] H H' → H R = none → H' R = some (.lst (ws.map V.str)) → ws.map toL = wdsL (toL s) → Q (.ref R) H'
theorem ok_words_of (T : Txt K mg) : FnOk P w K mg base CX0 1 T.f_words_of T.d_words_of ["line"] spWof := by
  refine T.F_words_of.ok sc_words_of (fun vs H Q E h => ?_) (fun cdv A outer s H vs Q E hr h => ?_)
  · obtain ⟨s, rfl, _⟩ := h
    rfl
  · obtain ⟨s, rfl, ls, q⟩ := h
    refine ⟨_, (pss_cons (ps_set (i := 1) sc_words_of.nd rfl (Or.inl rfl) (pe_lst pa_nil))
      (pss_cons (ps_for PassesOwn.never rfl (pi_list (pe_bm PySem.F.plainAttrs_str PySem.F.slot_str_split PySem.F.type_str_split mt_split (pv 0) (pa_cons pe_str pa_nil))) (pg_name (i := 2) sc_words_of.nd rfl (Or.inl rfl))
        (pss_cons (ps_if (pt_val (pe_bm PySem.F.plainAttrs_str PySem.F.slot_str_startswith PySem.F.type_str_startswith mt_startswith (pv 2) (pa_cons pe_str pa_nil)))
          (pss_one (ps_ret (pv 1)))
          pss_nil)
        (pss_one (ps_if (pt_truthK (K := K) rfl 2)
          (pss_one (ps_expr (pe_bm PySem.F.plainAttrs_list PySem.F.slot_list_append PySem.F.type_list_append mt_append (pv 1) (pa_cons (pv 2) pa_nil))))
          pss_nil))))
      (pss_one (ps_ret (pv 1))))), ?_⟩
    refine ⟨Nat.zero_le _, fun R nR => ?_⟩
    have k0 := KT.new [] nR (o := .lst [])
    refine ⟨_, rfl, rfl, s, " ", rfl, rfl, rfl, Nat.le_trans (Nat.add_le_add_right ls 2) (by decide), fun D nD => ?_⟩
    have dR : D ≠ R := fun z => by rw [z, upd_same] at nD; cases nD
    have pe : (Txt.split s " ").map toL = pcs 32 (toL s) := split_pcs s 32
    have pl := pcs_lens 32 (toL s)
    refine ⟨D, rfl, ⟨_, SqL.of upd_same⟩, ?_⟩
    refine for_it (walk_list (K := K) (a := D) (xs := (Txt.split s " ").map V.str)) (fun i σ H1 => ∃ (x2 : Option V) (ws : List Str), σ = [some (.str s), some (.ref R), x2] ∧ KT [] H H1 ∧ H1 R = some (.lst (ws.map V.str)) ∧ H1 D = some (.lst ((Txt.split s " ").map V.str)) ∧ ws.length ≤ i ∧
        ws.map toL = ((pcs 32 (toL s)).take i).filter (fun p => decide (p ≠ [])) ∧ ∀ p ∈ (pcs 32 (toL s)).take i, p.head? ≠ some 35) ?_ ?_ ?_ ?_
    · exact ⟨none, [], rfl, (k0.late (k0.free nD)), by rw [upd_ne (Ne.symm dR), upd_same]; rfl, upd_same, Nat.le_refl _, rfl, fun p m => absurd m List.not_mem_nil⟩
    · rintro i σ H1 _ ⟨_, _, _, _, _, h, _⟩
      exact SqL.of h
    · rintro i x σ H1 H2 hi ⟨x2, ws, rfl, k, hR, hD, wl, we, wh⟩ ⟨rfl, hx⟩
      rw [List.getElem?_map] at hx
      obtain ⟨p, hp, rfl⟩ := Option.map_eq_some_iff.mp hx
      have hpc : (pcs 32 (toL s))[i]? = some (toL p) := by rw [← pe, List.getElem?_map, hp]; rfl
      have pln : p.length ≤ 1000 := by
        have := pl.2 _ (List.mem_of_getElem? hpc)
        rw [toL_len, toL_len] at this
        omega
      have il : i < 1001 := by
        have h1 := (List.getElem?_eq_some_iff.mp hpc).1
        have := pl.1
        rw [toL_len] at this
        omega
      have tk : (pcs 32 (toL s)).take (i + 1) = (pcs 32 (toL s)).take i ++ [toL p] := by rw [List.take_succ, hpc]; rfl
      refine ⟨_, rfl, rfl, p, "#", rfl, rfl, ?_⟩
      have e35 : Txt.startswith p "#" = decide ((toL p).head? = some 35) := sw_one p 35
      refine ⟨_, rfl, ?_⟩
      rw [e35]
      refine ite2 (fun z => ?_) (fun z => ?_)
      · refine ⟨_, rfl, q _ R ws k nR hR ?_⟩
        have dr : pcs 32 (toL s) = (pcs 32 (toL s)).take i ++ toL p :: (pcs 32 (toL s)).drop (i + 1) := by
          obtain ⟨hl, rfl'⟩ := List.getElem?_eq_some_iff.mp hpc
          rw [← rfl', List.getElem_cons_drop, List.take_append_drop]
        rw [we]
        unfold wdsL
        conv => rhs; rw [dr]
        exact (cutW_stop wh (of_decide_eq_true z)).symm
      · have z : (toL p).head? ≠ some 35 := fun y => z (decide_eq_true y)
        have wh' : ∀ y ∈ (pcs 32 (toL s)).take (i + 1), y.head? ≠ some 35 := fun y m => by
          rw [tk] at m
          rcases List.mem_append.mp m with m | m
          · exact wh y m
          · rw [List.mem_singleton.mp m]; exact z
        refine ⟨_, rfl, _, ⟨Nat.le_trans pln (by decide), rfl⟩, ?_⟩
        refine ite2 (fun z2 => ?_) (fun z2 => ?_)
        · have n2 : toL p ≠ [] := fun y => by
            have e : p.length = 0 := by rw [← toL_len, y]; rfl
            rw [e] at z2
            exact absurd z2 (by decide)
          refine ⟨_, rfl, .inl ⟨rfl, _, SqL.of hR⟩, _, rfl, R, _, _, rfl, rfl, hR, ?_, ?_⟩
          · rw [List.length_map]
            exact Nat.lt_of_le_of_lt wl (Nat.lt_trans il (by decide))
          · refine ⟨_, ws ++ [p], rfl, k.late nR, by rw [upd_same, List.map_append]; rfl, ?_, ?_, ?_, wh'⟩
            · rw [upd_ne dR]
              exact hD
            · rw [List.length_append]
              exact Nat.succ_le_succ wl
            · rw [tk, List.filter_append, List.map_append, we]
              congr 1
              show [toL p] = _
              simp [n2]
        · have n2 : toL p = [] := by
            have z3 : ¬ ((p.length : Int) != 0) = true := z2
            have e : p.length = 0 := by
              by_cases h0 : p.length = 0
              · exact h0
              · refine absurd ?_ z3
                rw [bne_iff_ne]
                omega
            rw [← toL_len] at e
            exact List.eq_nil_of_length_eq_zero e
          refine ⟨_, ws, rfl, k, hR, hD, Nat.le_succ_of_le wl, ?_, wh'⟩
          rw [tk, List.filter_append, we]
          simp [n2]
    · rintro σ H1 ⟨x2, ws, rfl, k, hR, hD, wl, we, wh⟩
      rw [List.length_map, ← List.length_map (f := toL), pe, List.take_length] at we wh
      refine ⟨_, rfl, q _ R ws k nR hR ?_⟩
      rw [we]
      exact (cutW_none wh).symm
def linL (l : List Nat) : List (List Nat) := if (pcs 10 l).getLast? = some [] then (pcs 10 l).dropLast else pcs 10 l
def spLin : Sp := fun vs H Q _ => ∃ s : Str, vs = [.str s] ∧ s.length ≤ 100000 ∧ ∀ H' R (ws : List Str), KT [] H H' → H R = none → H' R = some (.lst (ws.map V.str)) → ws.map toL = linL (toL s) → Q (.ref R) H'
theorem ok_lines_of (T : Txt K mg) : FnOk P w K mg base CX0 1 T.f_lines_of T.d_lines_of ["text"] spLin := by
  refine T.F_lines_of.ok sc_lines_of (fun vs H Q E h => ?_) (fun cdv A outer s H vs Q E hr h => ?_)
  · obtain ⟨s, rfl, _⟩ := h
    rfl
  · obtain ⟨s, rfl, ls, q⟩ := h
    refine ⟨_, (pss_cons (ps_set (i := 1) sc_lines_of.nd rfl (Or.inl rfl) (pe_bm PySem.F.plainAttrs_str PySem.F.slot_str_split PySem.F.type_str_split mt_split (pv 0) (pa_cons pe_str pa_nil)))
      (pss_cons (ps_cut (ps_if (pt_cmpR op_eq (pe_ix ix_list (pv 1) (pe_un un_neg pe_int) (fun _ _ => rfl)) pe_str (nomark _))
        (pss_one (ps_expr (pe_bm0 PySem.F.plainAttrs_list PySem.F.slot_list_pop PySem.F.type_list_pop mt_pop (pv 1))))
        pss_nil))
      (pss_one (ps_ret (pv 1))))), ?_⟩
    refine ⟨_, rfl, rfl, s, "\n", rfl, rfl, rfl, Nat.le_trans (Nat.add_le_add_right ls 2) (by decide), fun D nD => ?_⟩
    have pe : (Txt.split s "\n").map toL = pcs 10 (toL s) := split_pcs s 10
    have pl := pcs_lens 10 (toL s)
    have k0 := KT.new [] nD (o := .lst ((Txt.split s "\n").map V.str))
    obtain ⟨ps, p, ep⟩ : ∃ ps p, Txt.split s "\n" = ps ++ [p] := by
      rcases List.eq_nil_or_concat (Txt.split s "\n") with e | ⟨ps, p, e⟩
      · exact absurd e (split_ne s 10)
      · exact ⟨ps, p, by rw [e, List.concat_eq_append]⟩
    have el : pcs 10 (toL s) = ps.map toL ++ [toL p] := by rw [← pe, ep, List.map_append]; rfl
    have gl : (pcs 10 (toL s)).getLast? = some (toL p) := by rw [el, List.getLast?_append]; rfl
    refine ⟨fun σ' H' => σ' = [some (.str s), some (.ref D)] ∧ KT [] H H' ∧ ∃ ws : List Str, H' D = some (.lst (ws.map V.str)) ∧ ws.map toL = linL (toL s), ?_, ?_⟩
    · refine ⟨_, rfl, _, rfl, D, _, -1, .str p, rfl, rfl, SqL.of upd_same, ?_, rfl, _, rfl, ite2 (fun z => ?_) (fun z => ?_)⟩
      · rw [ep, List.map_append]
        exact atI_last _ _
      · have z : toL p = [] := by rw [V.str.inj (of_decide_eq_true z)]; rfl
        refine ⟨_, rfl, .inl ⟨rfl, _, SqL.of upd_same⟩, D, _, .str p, rfl, rfl, upd_same, ?_, rfl, (k0.late nD), ps, ?_, ?_⟩
        · rw [ep, List.map_append, List.length_append]
          show (ps.map V.str ++ [V.str p])[(ps.map V.str).length + 1 - 1]? = _
          rw [Nat.add_sub_cancel, List.getElem?_append_right (Nat.le_refl _), Nat.sub_self]
          rfl
        · rw [upd_same, ep, List.map_append]
          show some (HO.lst ((ps.map V.str ++ [V.str p]).dropLast)) = _
          rw [List.dropLast_concat]
        · unfold linL
          rw [gl, z, if_pos rfl, el, List.dropLast_concat]
      · have z : toL p ≠ [] := fun y => z (decide_eq_true (congrArg V.str (toL_inj y)))
        refine ⟨rfl, k0, _, upd_same, ?_⟩
        unfold linL
        rw [gl, if_neg (fun y => z (Option.some.inj y)), pe]
    · rintro σ' H' ⟨rfl, k, ws, hR, we⟩
      exact ⟨_, rfl, q _ D ws k nD hR we⟩
end

end My

set_option Elab.async false
set_option linter.all false
set_option maxRecDepth 100000
set_option maxHeartbeats 4000000
namespace My
open PySem PySem.Spec PyProof.Rows L2
/-! ### kinds of values -/
def isIr (lo hi : Int) : PyData → Bool
  | .int i => decide (lo ≤ i) && decide (i ≤ hi)
  | _ => false
def isTupD : PyData → Bool
  | .tuple _ => true
  | _ => false
def isIntD : PyData → Bool
  | .int _ => true
  | .bool _ => true
  | _ => false
def isBoolD : PyData → Bool
  | .bool _ => true
  | _ => false
section
variable {K : PySem.W.Frag} {H : Hp} {v : V} {d : PyData} {Q : VK}
theorem tyx_tup {H : Hp} {a : Addr} {xs : List V} (h : SqT K H a xs) : TyX K H (.ref a) (.type "tuple") := by
  rcases h with (h | ⟨o, h⟩) | ⟨o, _, _, h, c, _⟩
  · exact .base (.tup h)
  · exact .fTuple h
  · exact .kTuple h c
theorem isi_tup (h : Rp K H v d) : ∃ t, TyX K H v t ∧ PySem.W.kitOne K t (.type "tuple") = some (isTupD d) := by
  cases d with
  | none => cases h; exact ⟨_, .base .non, kit_ty (r := false) (by decide +kernel)⟩
  | bool b => cases h; exact ⟨_, .base (.bl b), kit_ty (r := false) (by decide +kernel)⟩
  | int b => cases h; exact ⟨_, .base (.int b), kit_ty (r := false) (by decide +kernel)⟩
  | str b => cases h; exact ⟨_, .base (.str b), kit_ty (r := false) (by decide +kernel)⟩
  | list ds => cases h
  | dict ds => cases h
  | tuple ds =>
    obtain ⟨a, xs, rfl, hs, _⟩ := h.inv
    exact ⟨_, tyx_tup hs, kit_ty (r := true) (by decide +kernel)⟩
theorem isi_int (h : Rp K H v d) : ∃ t, TyX K H v t ∧ PySem.W.kitOne K t (.type "int") = some (isIntD d) := by
  cases d with
  | none => cases h; exact ⟨_, .base .non, kit_ty (r := false) (by decide +kernel)⟩
  | bool b => cases h; exact ⟨_, .base (.bl b), kit_ty (r := true) (by decide +kernel)⟩
  | int b => cases h; exact ⟨_, .base (.int b), kit_ty (r := true) (by decide +kernel)⟩
  | str b => cases h; exact ⟨_, .base (.str b), kit_ty (r := false) (by decide +kernel)⟩
  | list ds => cases h
  | dict ds => cases h
  | tuple ds =>
    obtain ⟨a, xs, rfl, hs, _⟩ := h.inv
    exact ⟨_, tyx_tup hs, kit_ty (r := false) (by decide +kernel)⟩
theorem isi_bool (h : Rp K H v d) : ∃ t, TyX K H v t ∧ PySem.W.kitOne K t (.type "bool") = some (isBoolD d) := by
  cases d with
  | none => cases h; exact ⟨_, .base .non, kit_ty (r := false) (by decide +kernel)⟩
  | bool b => cases h; exact ⟨_, .base (.bl b), kit_ty (r := true) (by decide +kernel)⟩
  | int b => cases h; exact ⟨_, .base (.int b), kit_ty (r := false) (by decide +kernel)⟩
  | str b => cases h; exact ⟨_, .base (.str b), kit_ty (r := false) (by decide +kernel)⟩
  | list ds => cases h
  | dict ds => cases h
  | tuple ds =>
    obtain ⟨a, xs, rfl, hs, _⟩ := h.inv
    exact ⟨_, tyx_tup hs, kit_ty (r := false) (by decide +kernel)⟩
end
def spWhK (K : PySem.W.Frag) : Sp := fun vs H Q _ => ∃ (v : V) (d : PyData), vs = [v] ∧ Rp K H v d ∧ Q (.bl (isIntD d && !isBoolD d)) H
def spIsI (K : PySem.W.Frag) : Sp := fun vs H Q _ => ∃ (v : V) (lo hi : Int) (d : PyData), vs = [v, .int lo, .int hi] ∧ Rp K H v d ∧ Q (.bl (isIr lo hi d)) H
section
variable {P : Program} {w : World} {K : PySem.W.Frag} {mg : Str → Option Value} {base : Heap}
theorem ok_is_whole (T : Txt K mg) : FnOk P w K mg base CX0 1 T.f_is_whole T.d_is_whole ["value"] (spWhK K) := by
  refine T.F_is_whole.ok sc_is_whole (fun vs H Q E h => ?_) (fun cdv A outer s H vs Q E hr h => ?_)
  · obtain ⟨v, d, rfl, _⟩ := h
    rfl
  · obtain ⟨v, d, rfl, hv, q⟩ := h
    refine ⟨_, (pss_one (ps_ret (pe_and (pe_callB call_isi (by rfl) T.m_isinstance (by decide +kernel) (pa_cons (pv 0) (pa_cons (pe_bltn (v := .ty "int") (by rfl) T.m_int (by decide +kernel) rfl) pa_nil))) (pe_one (pe_not (pe_callB call_isi (by rfl) T.m_isinstance (by decide +kernel) (pa_cons (pv 0) (pa_cons (pe_bltn (v := .ty "bool") (by rfl) T.m_bool (by decide +kernel) rfl) pa_nil)))))))), ?_⟩
    obtain ⟨t1, y1, k1⟩ := isi_int hv
    obtain ⟨t2, y2, k2⟩ := isi_bool hv
    refine ⟨_, rfl, _, _, _, _, _, rfl, .ty "int", y1, k1, _, rfl, ?_⟩
    cases d with
    | none => exact ite_f (fun z => by cases z) q
    | str b => exact ite_f (fun z => by cases z) q
    | list ds => cases hv
    | dict ds => cases hv
    | tuple ds => exact ite_f (fun z => by cases z) q
    | bool b => exact ite_t rfl ⟨_, rfl, _, _, _, _, _, rfl, .ty "bool", y2, k2, _, rfl, q⟩
    | int b => exact ite_t rfl ⟨_, rfl, _, _, _, _, _, rfl, .ty "bool", y2, k2, _, rfl, q⟩
theorem ok_is_integer (T : Txt K mg) : FnOk P w K mg base CX0 2 T.f_is_integer T.d_is_integer ["value", "low", "high"] (spIsI K) := by
  have G_is_whole := ok_is_whole (P := P) (w := w) (base := base) T
  refine T.F_is_integer.ok sc_is_integer (fun vs H Q E h => ?_) (fun cdv A outer s H vs Q E hr h => ?_)
  · obtain ⟨v, lo, hi, d, rfl, _⟩ := h
    rfl
  · obtain ⟨v, lo, hi, d, rfl, hv, q⟩ := h
    refine ⟨_, (pss_one (ps_ret (pe_and (pe_call G_is_whole (hr.mono (by omega)) (by rfl) T.g_is_whole T.F_is_whole.kp T.b_is_whole .nil pass0 (pa_cons (pv 0) pa_nil)) (pe_one (pe_chain op_le op_le (pv 1) (pv 0) (pv 2)))))), ?_⟩
    refine ⟨_, rfl, v, d, rfl, hv, _, rfl, ?_⟩
    cases d with
    | none => exact ite_f (fun z => by cases z) q
    | str b => exact ite_f (fun z => by cases z) q
    | list ds => cases hv
    | dict ds => cases hv
    | tuple ds => exact ite_f (fun z => by cases z) q
    | bool b => exact ite_f (fun z => by cases z) q
    | int b =>
      cases hv
      refine ite_t rfl ?_
      refine ⟨_, rfl, _, rfl, _, _, rfl, rfl, _, rfl, ?_⟩
      have q : Q (.bl (decide (lo ≤ b) && decide (b ≤ hi))) H := q
      by_cases h : lo ≤ b
      · rw [decide_eq_true h, Bool.true_and] at q
        exact ite_t (decide_eq_true h) ⟨_, rfl, _, _, rfl, rfl, q⟩
      · rw [decide_eq_false h, Bool.false_and] at q
        exact ite_f (by rw [decide_eq_false h]; decide) q
end

/-! ### the faults of an instruction -/
def kdTab : List (Str × Str) := [("add", "rr"), ("sub", "rr"), ("xor", "rr"), ("addi", "rn"), ("xori", "rn"), ("and", "rrr"), ("or", "rrr"), ("mul", "rrr"), ("less", "rrr"), ("equal", "rrr"), ("shl", "rrr"), ("shr", "rrr"), ("rem", "rrr"), ("differ", "rrr"), ("test", "rr"), ("swap", "rr"), ("exch", "rr"), ("addr", "rr"), ("subr", "rr"), ("addl", "rm"), ("neg", "r"), ("over", "rrm"), ("swapbr", "r"), ("bra", "o"), ("brz", "ro"), ("brn", "ro"), ("rbra", "o"), ("skip", ""), ("halt", ""), ("fail", "k")]
def kdOf (op : Str) : Option Str := (kdTab.find? fun p => decide (p.1 = op)).map (·.2)
def inO (a b : Int) : Option Int → Bool
  | some i => decide (a ≤ i) && decide (i ≤ b)
  | none => false
def ctO : Option Int → Bool
  | some i => decide (0 ≤ i)
  | none => false
def nOk (n c : Nat) (o : Option Int) : Bool := if c = 110 then inO 0 (2 ^ n - 1) o else if c = 109 then inO 0 (2 ^ 32 - 1) o else if c = 111 then inO (-2147483648) 2147483647 o else decide (c = 114) || ctO o
def regs (l : List (Nat × Option Int)) : List (Option Int) := (l.filter fun x => decide (x.1 = 114)).map (·.2)
def dup : List (Option Int) → Bool
  | [] => false
  | x :: r => inV (optV x) (r.map optV)
def insB (n : Nat) (op : Str) (ps : List (Option Int)) : Bool := match kdOf op with
  | none => false
  | some ks => decide ((toL ks).length = ps.length) && ((regs ((toL ks).zip ps)).all (inO 0 15) && (!dup (regs ((toL ks).zip ps)) && ((toL ks).zip ps).all fun x => nOk n x.1 x.2))
def spIO : Sp := fun vs H Q _ => ∃ (o : Option Int) (x y : V), vs = [optV o, x, y] ∧ ((o = none ∧ Q (.bl false) H) ∨ ∃ a b, x = .int a ∧ y = .int b ∧ Q (.bl (inO a b o)) H)
def spCO : Sp := fun vs H Q _ => ∃ o : Option Int, vs = [optV o] ∧ Q (.bl (ctO o)) H
def spTp : Sp := fun vs H Q _ => ∃ n : Nat, vs = [.int n] ∧ n ≤ 32 ∧ Q (.int (2 ^ n - 1)) H
def spNO : Sp := fun vs H Q _ => ∃ (c n : Nat) (o : Option Int), vs = [.str ⟨#[c]⟩, optV o, .int n] ∧ n ≤ 32 ∧ Q (.bl (nOk n c o)) H
def spBW : Sp := fun vs H Q _ => ∃ (t : Addr) (op : Str) (r : List V), vs = [.ref t] ∧ H t = some (.tup (.str op :: r)) ∧ r.length ≤ 1000 ∧ Q (.bl true) H
section
variable {P : Program} {w : World} {K : PySem.W.Frag} {mg : Str → Option Value} {base : Heap} {H : Hp}
theorem rp_optV (o : Option Int) : Rp K H (optV o) (match o with | some i => .int i | none => .none) := by
  cases o with
  | none => exact .non
  | some i => exact .int i
theorem ok_isI (T : Txt K mg) : FnOk P w K mg base CX0 2 T.f_is_integer T.d_is_integer ["value", "low", "high"] spIO := by
  have G_is_whole := ok_is_whole (P := P) (w := w) (base := base) T
  refine T.F_is_integer.ok sc_is_integer (fun vs H Q E h => ?_) (fun cdv A outer s H vs Q E hr h => ?_)
  · obtain ⟨v, lo, hi, rfl, _⟩ := h
    rfl
  · obtain ⟨o, x, y, rfl, h⟩ := h
    refine ⟨_, (pss_one (ps_ret (pe_and (pe_call G_is_whole (hr.mono (by omega)) (by rfl) T.g_is_whole T.F_is_whole.kp T.b_is_whole .nil pass0 (pa_cons (pv 0) pa_nil)) (pe_one (pe_chain op_le op_le (pv 1) (pv 0) (pv 2)))))), ?_⟩
    refine ⟨_, rfl, _, _, rfl, rp_optV o, _, rfl, ?_⟩
    cases o with
    | none =>
      refine ite_f (fun z => by cases z) ?_
      rcases h with ⟨_, q⟩ | ⟨_, _, _, _, q⟩ <;> exact q
    | some i =>
      rcases h with ⟨e, _⟩ | ⟨a, b, rfl, rfl, q⟩
      · cases e
      refine ite_t rfl ?_
      refine ⟨_, rfl, _, rfl, _, _, rfl, rfl, _, rfl, ?_⟩
      have q : Q (.bl (decide (a ≤ i) && decide (i ≤ b))) H := q
      by_cases h : a ≤ i
      · rw [decide_eq_true h, Bool.true_and] at q
        exact ite_t (decide_eq_true h) ⟨_, rfl, _, _, rfl, rfl, q⟩
      · rw [decide_eq_false h, Bool.false_and] at q
        exact ite_f (fun z => h (of_decide_eq_true z)) q
theorem ok_isC (T : Txt K mg) : FnOk P w K mg base CX0 3 T.f_is_count T.d_is_count ["value"] spCO := by
  have G_is_integer := ok_isI (P := P) (w := w) (base := base) T
  refine T.F_is_count.ok sc_is_count (fun vs H Q E h => ?_) (fun cdv A outer s H vs Q E hr h => ?_)
  · obtain ⟨i, rfl, _⟩ := h
    rfl
  · obtain ⟨o, rfl, q⟩ := h
    refine ⟨_, (pss_one (ps_ret (pe_call G_is_integer (hr.mono (by omega)) (by rfl) T.g_is_integer T.F_is_integer.kp T.b_is_integer .nil pass0 (pa_cons (pv 0) (pa_cons pe_int (pa_cons (pv 0) pa_nil)))))), ?_⟩
    refine ⟨_, rfl, _, rfl, o, _, _, rfl, ?_⟩
    cases o with
    | none => exact .inl ⟨rfl, q⟩
    | some i =>
      refine .inr ⟨_, _, rfl, rfl, ?_⟩
      have e : inO 0 i (some i) = ctO (some i) := by
        show (decide (0 ≤ i) && decide (i ≤ i)) = decide (0 ≤ i)
        rw [decide_eq_true (Int.le_refl i), Bool.and_true]
      rw [e]
      exact q
theorem ok_tp (T : Txt K mg) : FnOk P w K mg base CX0 1 T.f_top T.d_top ["w"] spTp := by
  refine T.F_top.ok sc_top (fun vs H Q E h => ?_) (fun cdv A outer s H vs Q E hr h => ?_)
  · obtain ⟨n, rfl, _⟩ := h
    rfl
  · obtain ⟨n, rfl, hn, q⟩ := h
    refine ⟨_, (pss_one (ps_ret (pe_op op_sub (pe_op op_shl pe_int (pv 0)) pe_int))), ?_⟩
    refine ⟨_, rfl, _, _, rfl, rfl, ⟨by omega, by omega, by decide⟩, _, _, rfl, rfl, ?_⟩
    rw [Int.one_mul]
    exact q
theorem chr_eqD (c d : Nat) : decide (V.str ⟨#[c]⟩ = V.str ⟨#[d]⟩) = decide (c = d) := by
  rw [str_eq]
  show decide ([c] = [d]) = _
  simp
theorem ok_isN (T : Txt K mg) : FnOk P w K mg base CX0 4 T.f_is_number_of T.d_is_number_of ["kind", "part", "width"] spNO := by
  have G_is_integer := ok_isI (P := P) (w := w) (base := base) T
  have G_is_count := ok_isC (P := P) (w := w) (base := base) T
  have G_top := ok_tp (P := P) (w := w) (base := base) T
  refine T.F_is_number_of.ok sc_is_number_of (fun vs H Q E h => ?_) (fun cdv A outer s H vs Q E hr h => ?_)
  · obtain ⟨c, n, o, rfl, _⟩ := h
    rfl
  · obtain ⟨c, n, o, rfl, hn, q⟩ := h
    have hr : Room 3 _ := hr
    refine ⟨_, (pss_cons (ps_if (pt_cmpR op_eq (pv 0) pe_str (nomark _))
        (pss_one (ps_ret (pe_call G_is_integer (hr.mono (by omega)) (by rfl) T.g_is_integer T.F_is_integer.kp T.b_is_integer .nil pass0 (pa_cons (pv 1) (pa_cons pe_int (pa_cons (pe_call G_top (hr.mono (by omega)) (by rfl) T.g_top T.F_top.kp T.b_top .nil pass0 (pa_cons (pv 2) pa_nil)) pa_nil))))))
        pss_nil)
      (pss_cons (ps_if (pt_cmpR op_eq (pv 0) pe_str (nomark _))
        (pss_one (ps_ret (pe_call G_is_integer (hr.mono (by omega)) (by rfl) T.g_is_integer T.F_is_integer.kp T.b_is_integer .nil pass0 (pa_cons (pv 1) (pa_cons pe_int (pa_cons (pe_call G_top (hr.mono (by omega)) (by rfl) T.g_top T.F_top.kp T.b_top .nil pass0 (pa_cons (pe_glob (v := .int 32) (by rfl) T.m_WORD_BITS ⟨_, rfl⟩) pa_nil)) pa_nil))))))
        pss_nil)
      (pss_cons (ps_if (pt_cmpR op_eq (pv 0) pe_str (nomark _))
        (pss_one (ps_ret (pe_call G_is_integer (hr.mono (by omega)) (by rfl) T.g_is_integer T.F_is_integer.kp T.b_is_integer .nil pass0 (pa_cons (pv 1) (pa_cons (pe_un un_neg (pe_glob (v := .int 2147483648) (by rfl) T.m_FARTHEST ⟨_, rfl⟩)) (pa_cons (pe_op op_sub (pe_glob (v := .int 2147483648) (by rfl) T.m_FARTHEST ⟨_, rfl⟩) pe_int) pa_nil))))))
        pss_nil)
      (pss_one (ps_ret (pe_or (pe_cmpR op_eq (pv 0) pe_str (nomark _)) (pe_one (pe_call G_is_count (hr.mono (by omega)) (by rfl) T.g_is_count T.F_is_count.kp T.b_is_count .nil pass0 (pa_cons (pv 1) pa_nil))))))))), ?_⟩
    unfold nOk at q
    refine ⟨_, rfl, rfl, _, rfl, ite2 (fun z => ?_) (fun z => ?_)⟩
    · have z := of_decide_eq_true ((chr_eqD c 110).symm.trans z)
      rw [if_pos z] at q
      exact ⟨_, rfl, _, rfl, n, rfl, hn, o, _, _, rfl, .inr ⟨_, _, rfl, rfl, q⟩⟩
    have z : ¬ c = 110 := fun y => z ((chr_eqD c 110).trans (decide_eq_true y))
    rw [if_neg z] at q
    refine ⟨_, rfl, rfl, _, rfl, ite2 (fun z => ?_) (fun z => ?_)⟩
    · have z := of_decide_eq_true ((chr_eqD c 109).symm.trans z)
      rw [if_pos z] at q
      exact ⟨_, rfl, 32, rfl, by decide, o, _, _, rfl, .inr ⟨_, _, rfl, rfl, q⟩⟩
    have z : ¬ c = 109 := fun y => z ((chr_eqD c 109).trans (decide_eq_true y))
    rw [if_neg z] at q
    refine ⟨_, rfl, rfl, _, rfl, ite2 (fun z => ?_) (fun z => ?_)⟩
    · have z := of_decide_eq_true ((chr_eqD c 111).symm.trans z)
      rw [if_pos z] at q
      exact ⟨_, rfl, _, rfl, _, _, rfl, rfl, o, _, _, rfl, .inr ⟨_, _, rfl, rfl, q⟩⟩
    have z : ¬ c = 111 := fun y => z ((chr_eqD c 111).trans (decide_eq_true y))
    rw [if_neg z] at q
    refine ⟨_, rfl, rfl, _, rfl, ?_⟩
    have e := chr_eqD c 114
    by_cases h : c = 114
    · rw [decide_eq_true h, Bool.true_or] at q
      rw [decide_eq_true h] at e
      exact ite_t e q
    · rw [decide_eq_false h, Bool.false_or] at q
      rw [decide_eq_false h] at e
      exact ite_f (fun z => Bool.noConfusion (e.symm.trans z)) ⟨_, rfl, o, rfl, q⟩
theorem ok_bw (T : Txt K mg) : FnOk P w K mg base CX0 1 T.f_begins_with_word T.d_begins_with_word ["value"] spBW := by
  refine T.F_begins_with_word.ok sc_begins_with_word (fun vs H Q E h => ?_) (fun cdv A outer s H vs Q E hr h => ?_)
  · obtain ⟨i, _, _, rfl, _⟩ := h
    rfl
  · obtain ⟨t, op, r, rfl, ht, hl, q⟩ := h
    refine ⟨_, (pss_one (ps_ret (pe_and (pe_callB call_isi (by rfl) T.m_isinstance (by decide +kernel) (pa_cons (pv 0) (pa_cons (pe_bltn (v := .ty "tuple") (by rfl) T.m_tuple (by decide +kernel) rfl) pa_nil))) (pe_and (pe_cmpR op_gt (pe_callB call_len_seq (by rfl) T.m_len (by decide +kernel) (pa_cons (pv 0) pa_nil)) pe_int (nomark _)) (pe_one (pe_callB call_isi (by rfl) T.m_isinstance (by decide +kernel) (pa_cons (pe_ix ix_tup (pv 0) pe_int (fun _ _ => rfl)) (pa_cons (pe_bltn (v := .ty "str") (by rfl) T.m_str (by decide +kernel) rfl) pa_nil)))))))), ?_⟩
    refine ⟨_, rfl, _, _, _, _, _, rfl, .ty "tuple", tyx_tup (SqT.of ht), kit_ty (r := true) (by decide +kernel), true, rfl, ite_t rfl ?_⟩
    refine ⟨_, rfl, _, _, rfl, .inr (SqT.of ht), _, _, rfl, rfl, _, rfl, ite_t (decide_eq_true ?_) ?_⟩
    · show (0 : Int) < ((V.str op :: r).length : Int)
      rw [List.length_cons]
      omega
    refine ⟨_, rfl, t, _, 0, .str op, rfl, rfl, SqT.of ht, atI_nat (j := 0) rfl, _, _, _, _, _, rfl, .ty "str", .base (.str op), kit_ty (r := true) (by decide +kernel), q⟩
theorem cutV1 (x : V) (r : List V) : cutV (x :: r) (some 1) none = r := by
  unfold cutV
  have h0 : HT.sIx (x :: r).length 0 (some 1) = 1 := by
    unfold HT.sIx
    simp
  have h1 : HT.sIx (x :: r).length (x :: r).length none = (x :: r).length := rfl
  rw [h0, h1]
  show (r.take _) = r
  exact List.take_of_length_le (by simp)
theorem sIx1 {x : V} {r : List V} {A : Prop} {hi : Option Int} (z : HT.sIx (x :: r).length 0 (some 1) = 0 ∧ HT.sIx (x :: r).length (x :: r).length hi = (x :: r).length) : A := by
  have h0 : HT.sIx (x :: r).length 0 (some 1) = 1 := by
    unfold HT.sIx
    simp
  rw [h0] at z
  cases z.1
theorem zs_at {ps : List (Option Int)} {i : Nat} {y : V} (h : (ps.map optV)[i]? = some y) : ∃ o, ps[i]? = some o ∧ y = optV o := by
  rw [List.getElem?_map] at h
  obtain ⟨o, a, b⟩ := Option.map_eq_some_iff.mp h
  exact ⟨o, a, b.symm⟩
theorem zip_at {cs : List Nat} {ps : List (Option Int)} {i c : Nat} {o : Option Int} (h : cs[i]? = some c) (h2 : ps[i]? = some o) : (cs.zip ps)[i]? = some (c, o) := by
  rw [List.getElem?_zip_eq_some]
  exact ⟨h, h2⟩
theorem regs_snoc {l : List (Nat × Option Int)} {i c : Nat} {o : Option Int} (h : l[i]? = some (c, o)) : regs (l.take (i + 1)) = regs (l.take i) ++ if c = 114 then [o] else [] := by
  unfold regs
  rw [List.take_succ, h, List.filter_append, List.map_append]
  congr 1
  by_cases e : c = 114 <;> simp [e]
theorem regs_len (l : List (Nat × Option Int)) : (regs l).length ≤ l.length := by
  unfold regs
  rw [List.length_map]
  exact List.length_filter_le _ _
theorem yes_go {σ : L2.St} {Q : Bool → Hp → Prop} (h : Q true H) : tYes σ H Q := h
theorem laterH {P N : Hp → Prop} {G : Prop} (f : (∀ H', P H' → N H') → G) (x : ∀ H', P H' → N H') : G := f x
/-- op stands in PARTS as kdOf says -/
def KdA (TA : TxA K mg w) (op : Str) : Prop := KDgt K w TA.a_PARTS op ((kdOf op).map V.str)
def spIns (TA : TxA K mg w) : Sp := fun vs H Q _ => ∃ (t : Addr) (op : Str) (ps : List (Option Int)) (n : Nat), vs = [.ref t, .int n] ∧ n ≤ 32 ∧ H t = some (.tup (.str op :: ps.map optV)) ∧ ps.length ≤ 1000 ∧ KdA TA op ∧
  ∀ H' v, KT [] H H' → (insB n op ps = true → v = .non) → (insB n op ps = false → ∃ s, v = .str s) → Q v H'
theorem ok_instruction_fault (T : Txt K mg) (TA : TxA K mg w) : FnOk P w K mg base CX0 5 T.f_instruction_fault T.d_instruction_fault ["value", "width"] (spIns TA) := by
  have G_is_integer := ok_isI (P := P) (w := w) (base := base) T
  have G_is_number_of := ok_isN (P := P) (w := w) (base := base) T
  have G_begins_with_word := ok_bw (P := P) (w := w) (base := base) T
  refine T.F_instruction_fault.ok sc_instruction_fault (fun vs H Q E h => ?_) (fun cdv A outer s H vs Q E hr h => ?_)
  · obtain ⟨t, op, ps, n, rfl, _⟩ := h
    rfl
  · obtain ⟨t, op, ps, n, rfl, hn, ht, hl, kd, q⟩ := h
    have hr : Room 4 _ := hr
    refine ⟨_, (pss_cons (ps_if (PW.pt (pw_or (pt_not (pt_val (pe_call G_begins_with_word (hr.mono (by omega)) (by rfl) T.g_begins_with_word T.F_begins_with_word.kp T.b_begins_with_word .nil pass0 (pa_cons (pv 0) pa_nil)))) (pw_or (pt_cmpR op_knin (pe_ix ix_tup (pv 0) pe_int (fun _ _ => rfl)) (pe_glob (v := .ref TA.a_PARTS) (by rfl) TA.m_PARTS rfl) (by rfl)) (pw_or1 (pt_cmpR op_ne (pe_op op_add (pe_callB call_len_str (by rfl) T.m_len (by decide +kernel) (pa_cons (pe_ix ix_kdict (pe_glob (v := .ref TA.a_PARTS) (by rfl) TA.m_PARTS rfl) (pe_ix ix_tup (pv 0) pe_int (fun _ _ => rfl)) (fun _ _ => rfl)) pa_nil)) pe_int) (pe_callB call_len_seq (by rfl) T.m_len (by decide +kernel) (pa_cons (pv 0) pa_nil)) (nomark _))))))
        (pss_one (ps_ret pe_str))
        pss_nil)
      (pss_cons (ps_set (i := 2) sc_instruction_fault.nd rfl (Or.inl rfl) (pe_ix ix_kdict (pe_glob (v := .ref TA.a_PARTS) (by rfl) TA.m_PARTS rfl) (pe_ix ix_tup (pv 0) pe_int (fun _ _ => rfl)) (fun _ _ => rfl)))
      (pss_cons (ps_setLc (i := 3) (own := [("kind", 4), ("part", 5)]) (g := gTup K 2 (gCons (gName 4) (gCons (gName 5) gNil))) rfl sc_instruction_fault.nd rfl rfl (sw_true rfl rfl rfl (by decide +kernel)) (pi_zipS (by rfl) T.m_zip (pa_cons (pv 2) (pa_cons (pe_slice sl_tupA (pv 0) (po_some pe_int) po_none) pa_nil))) (blkOk_by (own := [("kind", 4), ("part", 5)]) (N := N_instruction_fault) (sc := defScope s_instruction_fault) (by decide +kernel)) (fun _ _ _ _ _ => (pg_tup (by rfl) (pgs_cons (pg_name (i := 4) sc_instruction_fault.nd rfl (Or.inl rfl)) (pgs_cons (pg_name (i := 5) sc_instruction_fault.nd rfl (Or.inl rfl)) pgs_nil)))) (fun _ _ _ _ _ => (pts_one (pt_cmpR op_eq (pv 4) pe_str (nomark _)))) (fun _ _ _ _ _ => (pv 5)))
      (pss_cons (ps_if (pt_not (pt_val (pe_callB (cr_all rfl) (by rfl) T.m_all (by decide +kernel) (pa_cons (pe_lc (own := [("part", 5)]) (g := gName 5) (by rfl) sc_instruction_fault.nd (pi_list (pv 3)) (blkOk_by (own := [("part", 5)]) (N := N_instruction_fault) (sc := defScope s_instruction_fault) (by decide +kernel)) (fun _ _ _ _ _ => (pg_name (i := 5) sc_instruction_fault.nd rfl (Or.inl rfl))) (fun _ _ _ _ _ => pts_nil) (fun _ _ _ _ _ => (pe_call G_is_integer (hr.mono (by omega)) (by rfl) T.g_is_integer T.F_is_integer.kp T.b_is_integer .nil pass0 (pa_cons (pv 5) (pa_cons pe_int (pa_cons (pe_op op_sub (pe_glob (v := .int 16) (by rfl) T.m_REGISTERS ⟨_, rfl⟩) pe_int) pa_nil)))))) pa_nil))))
        (pss_one (ps_ret pe_str))
        pss_nil)
      (pss_cons (ps_if (PW.pt (pw_and (pt_truthK (K := K) rfl 3) (pw_and1 (pt_cmpR op_in_seq (pe_ix ix_list (pv 3) pe_int (fun _ _ => rfl)) (pe_slice sl_list (pv 3) (po_some pe_int) po_none) (by rfl)))))
        (pss_one (ps_ret pe_str))
        pss_nil)
      (pss_cons (ps_if (pt_not (pt_val (pe_callB (cr_all rfl) (by rfl) T.m_all (by decide +kernel) (pa_cons (pe_lc (own := [("kind", 4), ("part", 5)]) (g := gTup K 2 (gCons (gName 4) (gCons (gName 5) gNil))) (by rfl) sc_instruction_fault.nd (pi_zipS (by rfl) T.m_zip (pa_cons (pv 2) (pa_cons (pe_slice sl_tupA (pv 0) (po_some pe_int) po_none) pa_nil))) (blkOk_by (own := [("kind", 4), ("part", 5)]) (N := N_instruction_fault) (sc := defScope s_instruction_fault) (by decide +kernel)) (fun _ _ _ _ _ => (pg_tup (by rfl) (pgs_cons (pg_name (i := 4) sc_instruction_fault.nd rfl (Or.inl rfl)) (pgs_cons (pg_name (i := 5) sc_instruction_fault.nd rfl (Or.inl rfl)) pgs_nil)))) (fun _ _ _ _ _ => pts_nil) (fun _ _ _ _ _ => (pe_call G_is_number_of (hr.mono (by omega)) (by rfl) T.g_is_number_of T.F_is_number_of.kp T.b_is_number_of .nil pass0 (pa_cons (pv 4) (pa_cons (pv 5) (pa_cons (pv 1) pa_nil)))))) pa_nil))))
        (pss_one (ps_ret pe_str))
        pss_nil)
      (pss_one (ps_ret pe_non)))))))), ?_⟩
    have k0 : KT [] H H := .refl _ _
    have bad : ∀ {H' : Hp} (s : Str), insB n op ps = false → KT [] H H' → Q (.str s) H' := fun s e k => q _ _ k (fun z => by rw [e] at z; cases z) fun _ => ⟨s, rfl⟩
    refine ⟨_, rfl, t, op, _, rfl, ht, by rw [List.length_map]; exact hl, _, rfl, ite_f (by decide) ?_⟩
    have at0 : atI (V.str op :: ps.map optV) 0 = some (.str op) := atI_nat (j := 0) rfl
    cases ek : kdOf op with
    | none =>
      have nb : insB n op ps = false := by unfold insB; rw [ek]
      have kd : KDgt K w TA.a_PARTS op none := by
        have := kd
        unfold KdA at this
        rw [ek] at this
        exact this
      exact ⟨_, rfl, t, _, 0, .str op, rfl, rfl, SqT.of ht, at0, op, TA.a_PARTS, none, rfl, rfl, kd, _, rfl, ite_t rfl (ite_t rfl (bad "op" nb k0))⟩
    | some ks =>
      have kd : KDgt K w TA.a_PARTS op (some (.str ks)) := by
        have := kd
        unfold KdA at this
        rw [ek] at this
        exact this
      have lk : ks.length ≤ 3 := by
        have : ∀ x ∈ kdTab, x.2.length ≤ 3 := by decide +kernel
        unfold kdOf at ek
        obtain ⟨x, hx, rfl⟩ := Option.map_eq_some_iff.mp ek
        exact this x (List.mem_of_find?_eq_some hx)
      refine ⟨_, rfl, t, _, 0, .str op, rfl, rfl, SqT.of ht, at0, op, TA.a_PARTS, _, rfl, rfl, kd, _, rfl, ite_f (fun z => by cases z) ?_⟩
      refine ⟨_, rfl, t, _, 0, .str op, rfl, rfl, SqT.of ht, at0, TA.a_PARTS, op, .str ks, rfl, rfl, kd.ix, ks, rfl, Nat.le_trans lk (by decide), _, _, rfl, rfl, _, rfl, t, _, rfl, .inr (SqT.of ht), rfl, _, rfl, ite2 (fun z => ?_) (fun z => ?_)⟩
      · refine bad "op" ?_ k0
        unfold insB
        rw [ek]
        have z : (!decide (V.int ((ks.length : Int) + 1) = V.int ((V.str op :: ps.map optV).length : Nat))) = true := z
        have : ¬ (toL ks).length = ps.length := fun y => by
          rw [decide_eq_true] at z
          · cases z
          · rw [List.length_cons, List.length_map, ← y, toL_len]
            rfl
        show (decide _ && _) = false
        rw [decide_eq_false this, Bool.false_and]
      have z : (!decide (V.int ((ks.length : Int) + 1) = V.int ((V.str op :: ps.map optV).length : Nat))) = false := Bool.eq_false_iff.mpr z
      have le : (toL ks).length = ps.length := by
        rw [Bool.not_eq_false', decide_eq_true_eq] at z
        have z := V.int.inj z
        rw [List.length_cons, List.length_map] at z
        rw [toL_len]
        omega
      refine ⟨_, rfl, t, _, 0, .str op, rfl, rfl, SqT.of ht, at0, TA.a_PARTS, op, .str ks, rfl, rfl, kd.ix, ?_⟩
      refine ⟨_, rfl, _, rfl, 1, rfl, t, _, rfl, SqT.of ht, fun z => sIx1 z, fun _ z1 nz1 => ?_⟩
      rw [cutV1]
      refine ⟨ks, z1, _, rfl, SqT.of upd_same, fun D nD => ?_⟩
      have lps : (ps.map optV).length = (toL ks).length := by rw [List.length_map, le]
      have lzp : ((toL ks).zip ps).length = ps.length := by rw [List.length_zip]; omega
      have lrg : (regs ((toL ks).zip ps)).length ≤ 1000 := Nat.le_trans (regs_len _) (by rw [lzp]; exact hl)
      have zD : z1 ≠ D := fun y => by rw [← y, upd_same] at nD; cases nD
      refine lc_it (walk_zs (K := K) (b := z1) (x := ks) (ys := ps.map optV) (n := (toL ks).length) (by show ks.cps.toList.length = _; simp) lps) (fun i H1 => KT [] H H1 ∧ H1 z1 = some (.tup (ps.map optV)) ∧ H1 D = some (.lst ((regs (((toL ks).zip ps).take i)).map optV))) ?_ ?_ ?_ ?_
      · exact ⟨(KT.new [] nz1).late ((KT.new [] nz1).free nD), by rw [upd_ne zD, upd_same], upd_same⟩
      · rintro i H1 _ ⟨_, h, _⟩
        exact SqT.of h
      · rintro i x H1 H2 hi ⟨k, hz, hD⟩ ⟨U, c, y, rfl, nU, rfl, hc, hy⟩
        obtain ⟨o, ho, rfl⟩ := zs_at hy
        have hzp := zip_at (show (toL ks)[i]? = some c by rw [← hc]; exact Array.getElem?_toList) ho
        have zU : z1 ≠ U := fun y => by rw [← y, hz] at nU; cases nU
        have DU : D ≠ U := fun y => by rw [← y, hD] at nU; cases nU
        have k2 : KT [] H (upd H1 U (.tup [.str ⟨#[c]⟩, optV o])) := k.late (k.free nU)
        have sn := regs_snoc hzp
        refine ⟨U, _, rfl, SqT.of upd_same, rfl, _, _, rfl, _, _, rfl, rfl, rfl, _, rfl, rfl, _, rfl, ?_⟩
        rw [show decide (V.str ⟨#[c]⟩ = V.str "r") = decide (c = 114) from chr_eqD c 114]
        refine ite2 (fun e => ?_) (fun e => ?_)
        · rw [if_pos (of_decide_eq_true e)] at sn
          refine ⟨_, rfl, _, by rw [upd_ne DU]; exact hD, ?_, k2.late ((KT.late (KT.refl [] _) nz1 : KT [] H (upd H z1 (.tup (ps.map optV)))).free nD), by rw [upd_ne zD, upd_ne zU]; exact hz, by rw [upd_same, sn, List.map_append]; rfl⟩
          rw [List.length_map]
          exact Nat.lt_of_le_of_lt (Nat.le_trans (regs_len _) (Nat.le_trans (List.length_take_le _ _) (Nat.le_trans (Nat.le_of_lt hi) (by rw [le]; exact hl)))) (by decide)
        · rw [if_neg (fun y => e (decide_eq_true y)), List.append_nil] at sn
          exact ⟨k2, by rw [upd_ne zU]; exact hz, by rw [upd_ne DU, sn]; exact hD⟩
      · rintro H1 ⟨k, hz, hD⟩
        rw [show ((toL ks).zip ps).take (toL ks).length = (toL ks).zip ps from List.take_of_length_le (by rw [List.length_zip]; omega)] at hD
        refine ⟨_, rfl, D, rfl, ⟨_, SqL.of hD⟩, fun D2 nD2 => ?_⟩
        have DD2 : D ≠ D2 := fun y => by rw [← y, hD] at nD2; cases nD2
        have zD2 : z1 ≠ D2 := fun y => by rw [← y, hz] at nD2; cases nD2
        refine lc_it (walk_list (K := K) (a := D) (xs := (regs ((toL ks).zip ps)).map optV)) (fun i H2 => KT [] H H2 ∧ H2 z1 = some (.tup (ps.map optV)) ∧ H2 D = some (.lst ((regs ((toL ks).zip ps)).map optV)) ∧ H2 D2 = some (.lst (((regs ((toL ks).zip ps)).take i).map fun o => .bl (inO 0 15 o)))) ?_ ?_ ?_ ?_
        · exact ⟨k.late (k.free nD2), by rw [upd_ne zD2]; exact hz, by rw [upd_ne DD2]; exact hD, upd_same⟩
        · rintro i H2 _ ⟨_, _, h, _⟩
          exact SqL.of h
        · rintro i x H2 H3 hi ⟨k2, hz2, hD2, hE⟩ ⟨rfl, hx⟩
          obtain ⟨o, ho, rfl⟩ := zs_at hx
          refine ⟨rfl, yes_go (ite_t rfl ?_)⟩
          refine ⟨_, rfl, _, _, rfl, rfl, o, _, _, rfl, .inr ⟨_, _, rfl, rfl, _, hE, ?_, k2.late (k.free nD2), by rw [upd_ne zD2]; exact hz2, by rw [upd_ne DD2]; exact hD2, ?_⟩⟩
          · rw [List.length_map]
            rw [List.length_map] at hi
            exact Nat.lt_of_le_of_lt (Nat.le_trans (List.length_take_le _ _) (Nat.le_trans (Nat.le_of_lt hi) lrg)) (by decide)
          · rw [upd_same, List.take_succ, ho, List.map_append]
            rfl
        · rintro H2 ⟨k2, hz2, hD2, hE⟩
          rw [List.length_map, List.take_length] at hE
          refine ⟨D2, (regs ((toL ks).zip ps)).map (inO 0 15), rfl, SqL.of (by rw [hE, List.map_map]; rfl), _, rfl, ?_⟩
          rw [List.all_map]
          cases er : (regs ((toL ks).zip ps)).all (inO 0 15) with
          | false =>
            refine ite_t (by rw [show (regs ((toL ks).zip ps)).all (id ∘ inO 0 15) = false from er]; rfl) ?_
            refine bad "register" ?_ k2
            unfold insB
            rw [ek]
            show (_ && (_ && _)) = false
            rw [er, Bool.false_and, Bool.and_false]
          | true =>
            refine ite_f (by rw [show (regs ((toL ks).zip ps)).all (id ∘ inO 0 15) = true from er]; decide) ?_
            apply laterH (P := fun H' => KT [] H H' ∧ dup (regs ((toL ks).zip ps)) = false)
            · intro last
              cases erg : regs ((toL ks).zip ps) with
              | nil =>
                rw [erg] at hD2
                exact ⟨_, rfl, _, .inl ⟨_, SqL.of hD2, rfl⟩, ite_f (by decide) (ite_f (by decide) (last _ ⟨k2, by rw [erg]; rfl⟩))⟩
              | cons o r =>
                have hD2' : H2 D = some (.lst (optV o :: r.map optV)) := by rw [erg] at hD2; exact hD2
                refine ⟨_, rfl, _, .inl ⟨_, SqL.of hD2, by rw [erg]; rfl⟩, ite_t rfl ?_⟩
                refine ⟨_, rfl, D, _, 0, optV o, rfl, rfl, SqL.of hD2', atI_nat (j := 0) rfl, _, rfl, 1, rfl, D, _, rfl, SqL.of hD2', fun p np => ?_⟩
                rw [cutV1]
                have fl : ∀ o, flatV (optV o) = true := fun o => by cases o <;> rfl
                refine ⟨p, _, rfl, .inl (SqL.of upd_same), fl o, by rw [List.all_map, List.all_eq_true]; exact fun o _ => fl o, _, rfl, ite2 (fun z => ?_) (fun z => ?_)⟩
                · refine bad "same" ?_ (k2.late (k2.free np))
                  have e : dup (regs ((toL ks).zip ps)) = true := by rw [erg]; exact z
                  unfold insB
                  rw [ek]
                  show (_ && (_ && (!dup _ && _))) = false
                  rw [e, Bool.not_true, Bool.false_and, Bool.and_false, Bool.and_false]
                · exact last _ ⟨k2.late (k2.free np), by rw [erg]; exact Bool.eq_false_iff.mpr z⟩
            · rintro H3 ⟨k3, ed⟩
              refine ⟨_, rfl, _, rfl, 1, rfl, t, _, rfl, SqT.of (k3.tp _ _ ht), fun z => sIx1 z, fun _ z2 nz2 => ?_⟩
              rw [cutV1]
              refine ⟨ks, z2, _, rfl, SqT.of upd_same, fun D3 nD3 => ?_⟩
              have zD3 : z2 ≠ D3 := fun y => by rw [← y, upd_same] at nD3; cases nD3
              have k4 := k3.late (o := .tup (ps.map optV)) (k3.free nz2)
              refine lc_it (walk_zs (K := K) (b := z2) (x := ks) (ys := ps.map optV) (n := (toL ks).length) (by show ks.cps.toList.length = _; simp) lps) (fun i H1 => KT [] H H1 ∧ H1 z2 = some (.tup (ps.map optV)) ∧ H1 D3 = some (.lst ((((toL ks).zip ps).take i).map fun x => .bl (nOk n x.1 x.2)))) ?_ ?_ ?_ ?_
              · exact ⟨k4.late (k4.free nD3), by rw [upd_ne zD3, upd_same], upd_same⟩
              · rintro i H1 _ ⟨_, h, _⟩
                exact SqT.of h
              · rintro i x H1 H2 hi ⟨k, hz, hD⟩ ⟨U, c, y, rfl, nU, rfl, hc, hy⟩
                obtain ⟨o, ho, rfl⟩ := zs_at hy
                have hzp := zip_at (show (toL ks)[i]? = some c by rw [← hc]; exact Array.getElem?_toList) ho
                have zU : z2 ≠ U := fun y => by rw [← y, hz] at nU; cases nU
                have DU : D3 ≠ U := fun y => by rw [← y, hD] at nU; cases nU
                have k5 : KT [] H (upd H1 U (.tup [.str ⟨#[c]⟩, optV o])) := k.late (k.free nU)
                refine ⟨U, _, rfl, SqT.of upd_same, rfl, _, _, rfl, _, _, rfl, rfl, rfl, yes_go (ite_t rfl ?_)⟩
                refine ⟨_, rfl, _, rfl, _, rfl, c, n, o, rfl, hn, _, by rw [upd_ne DU]; exact hD, ?_, k5.late (k4.free nD3), by rw [upd_ne zD3, upd_ne zU]; exact hz, ?_⟩
                · rw [List.length_map]
                  exact Nat.lt_of_le_of_lt (Nat.le_trans (List.length_take_le _ _) (Nat.le_trans (Nat.le_of_lt hi) (by rw [le]; exact hl))) (by decide)
                · rw [upd_same, List.take_succ, hzp, List.map_append]
                  rfl
              · rintro H4 ⟨k, hz, hD⟩
                rw [show ((toL ks).zip ps).take (toL ks).length = (toL ks).zip ps from List.take_of_length_le (by rw [lzp, le]; exact Nat.le_refl _)] at hD
                refine ⟨D3, ((toL ks).zip ps).map (fun x => nOk n x.1 x.2), rfl, SqL.of (by rw [hD, List.map_map]; rfl), _, rfl, ?_⟩
                rw [List.all_map]
                have eb : insB n op ps = ((toL ks).zip ps).all (fun x => nOk n x.1 x.2) := by
                  unfold insB
                  rw [ek]
                  show (decide _ && (_ && (!dup _ && _))) = _
                  rw [er, ed, decide_eq_true le]
                  rfl
                cases ez : ((toL ks).zip ps).all (fun x => nOk n x.1 x.2) with
                | false =>
                  refine ite_t (by rw [show ((toL ks).zip ps).all (id ∘ fun x => nOk n x.1 x.2) = false from ez]; rfl) ?_
                  exact bad "number" (eb.trans ez) k
                | true =>
                  refine ite_f (by rw [show ((toL ks).zip ps).all (id ∘ fun x => nOk n x.1 x.2) = true from ez]; decide) ?_
                  exact q _ _ k (fun _ => rfl) fun y => by rw [eb.trans ez] at y; cases y
end

end My

set_option Elab.async false
set_option linter.all false
set_option maxRecDepth 100000
set_option maxHeartbeats 4000000
namespace My
open PySem PySem.Spec PyProof.Rows L2
/-! ### the instruction of a line's words -/
def ptL (cs : List Nat) (i : Nat) (l : List Nat) : Option Int := if cs[i]? = some 114 then regL l else numL l
def partsN (cs : List Nat) (ws : List (List Nat)) (n : Nat) : List (Option Int) := (List.range n).map fun i => ptL cs i (ws.getD i [])
theorem partsN_snoc {cs : List Nat} {ws : List (List Nat)} {i : Nat} {l : List Nat} (h : ws[i]? = some l) : partsN cs ws (i + 1) = partsN cs ws i ++ [ptL cs i l] := by
  unfold partsN
  rw [List.range_succ, List.map_append]
  show _ ++ [ptL cs i (ws.getD i [])] = _
  rw [List.getD_eq_getElem?_getD, h]
  rfl
theorem partsN_len (cs : List Nat) (ws : List (List Nat)) (n : Nat) : (partsN cs ws n).length = n := by unfold partsN; rw [List.length_map, List.length_range]
def kdS (op : Str) : Str := (kdOf op).getD ""
def insP (op : Str) (ws : List (List Nat)) : List (Option Int) := partsN (toL (kdS op)) ws ws.length
theorem kdS_len (op : Str) : (kdS op).length ≤ 3 := by
  unfold kdS
  cases ek : kdOf op with
  | none => decide
  | some ks =>
    have : ∀ x ∈ kdTab, x.2.length ≤ 3 := by decide +kernel
    unfold kdOf at ek
    obtain ⟨x, hx, rfl⟩ := Option.map_eq_some_iff.mp ek
    exact this x (List.mem_of_find?_eq_some hx)
section
variable {P : Program} {w : World} {K : PySem.W.Frag} {mg : Str → Option Value} {base : Heap} {H : Hp}
theorem ps_new {T : Txt K mg} {a : Addr} (t : TbA T H) (n : H a = none) : a ∉ T.Ps := fun z => tabG_ne t n (List.mem_singleton.mp z).symm
/-- a line's words, read -/
def WdOk (TA : TxA K mg w) (op : Str) (r : List Str) : Prop := KdA TA op ∧ op.length ≤ 1000 ∧ r.length ≤ 1000 ∧ ∀ x ∈ r, toL x ≠ [] ∧ x.length ≤ 1000
def spIo (T : Txt K mg) (TA : TxA K mg w) : Sp := fun vs H Q _ => ∃ (a : Addr) (op : Str) (r : List Str), vs = [.ref a] ∧ H a = some (.lst ((op :: r).map V.str)) ∧ WdOk TA op r ∧ TbA T H ∧
  ∀ H' t, KT T.Ps H H' → TbA T H' → H' t = some (.tup (.str op :: (insP op (r.map toL)).map optV)) → Q (.ref t) H'
theorem ok_instruction_of (T : Txt K mg) (TB : TBs T base) (TA : TxA K mg w) : FnOk P w K mg base CX0 4 T.f_instruction_of T.d_instruction_of ["words"] (spIo T TA) := by
  have G_number_of := ok_number_of (P := P) (w := w) T TB
  have G_register_of := ok_register_of (P := P) (w := w) T TB
  refine T.F_instruction_of.ok sc_instruction_of (fun vs H Q E h => ?_) (fun cdv A outer s H vs Q E hr h => ?_)
  · obtain ⟨a, op, r, rfl, _⟩ := h
    rfl
  · obtain ⟨a, op, r, rfl, ha, ⟨kd, lo, lr, hw⟩, tb, q⟩ := h
    have hr : Room 3 _ := hr
    refine ⟨_, (pss_cons (ps_set (i := 1) sc_instruction_of.nd rfl (Or.inl rfl) (pe_kget2 (pe_glob (v := .ref TA.a_PARTS) (by rfl) TA.m_PARTS rfl) (pe_ix ix_list (pv 0) pe_int (fun _ _ => rfl)) pe_str (M2.mk rfl rfl rfl rfl)))
      (pss_cons (ps_set (i := 2) sc_instruction_of.nd rfl (Or.inl rfl) (pe_lst (pa_cons (pe_ix ix_list (pv 0) pe_int (fun _ _ => rfl)) pa_nil)))
      (pss_cons (ps_for PassesOwn.never rfl (pi_enum (by rfl) T.m_enumerate (pa_cons (pe_slice sl_list (pv 0) (po_some pe_int) po_none) pa_nil)) (pg_tup (by rfl) (pgs_cons (pg_name (i := 3) sc_instruction_of.nd rfl (Or.inl rfl)) (pgs_cons (pg_name (i := 4) sc_instruction_of.nd rfl (Or.inl rfl)) pgs_nil)))
        (pss_cons (ps_set (i := 5) sc_instruction_of.nd rfl (Or.inl rfl) (pe_and (pe_cmpR op_lt (pv 3) (pe_callB call_len_str (by rfl) T.m_len (by decide +kernel) (pa_cons (pv 1) pa_nil)) (nomark _)) (pe_one (pe_cmpR op_eq (pe_ix ix_str (pv 1) (pv 3) (fun _ _ => rfl)) pe_str (nomark _)))))
        (pss_one (ps_expr (pe_bm PySem.F.plainAttrs_list PySem.F.slot_list_append PySem.F.type_list_append mt_append (pv 2) (pa_cons (pe_ifExp (pt_val (pv 5)) (pe_call G_register_of (hr.mono (by omega)) (by rfl) T.g_register_of T.F_register_of.kp T.b_register_of .nil pass0 (pa_cons (pv 4) pa_nil)) (pe_call G_number_of (hr.mono (by omega)) (by rfl) T.g_number_of T.F_number_of.kp T.b_number_of .nil pass0 (pa_cons (pv 4) pa_nil))) pa_nil))))))
      (pss_one (ps_ret (pe_callTy call_tuple_of (by rfl) T.m_tuple (by decide +kernel) (pa_cons (pv 2) pa_nil))))))), ?_⟩
    obtain ⟨es, m, rd, hlk, hks, _⟩ := id kd
    refine ⟨TA.a_PARTS, es, m, rfl, hlk, hks, _, rfl, a, _, 0, .str op, rfl, rfl, SqL.of ha, atI_nat (j := 0) rfl, op, _, rfl, kd, ?_⟩
    have ek : ((kdOf op).map V.str).getD (.str "") = .str (kdS op) := by
      unfold kdS
      cases kdOf op <;> rfl
    rw [ek]
    have lk := kdS_len op
    refine ⟨_, rfl, a, _, 0, .str op, rfl, rfl, SqL.of ha, atI_nat (j := 0) rfl, (by show 1 ≤ sizeLine; decide), fun L nL => ?_⟩
    have aL : a ≠ L := fun y => by rw [← y, ha] at nL; cases nL
    refine ⟨_, rfl, 1, rfl, a, _, rfl, SqL.of (by rw [upd_ne aL]; exact ha), fun p np => ?_⟩
    rw [List.map_cons, cutV1]
    have pL : p ≠ L := fun y => by rw [y, upd_same] at np; cases np
    refine ⟨p, _, rfl, SqL.of upd_same, ?_⟩
    have k1 : KT T.Ps H (upd (upd H L (.lst [.str op])) p (.lst (r.map V.str))) := (KT.late (.refl _ _) nL).late ((KT.late (o := .lst [.str op]) (.refl T.Ps H) nL).free np)
    have nLs := ps_new tb nL
    have nps := ps_new tb ((KT.late (o := .lst [.str op]) (.refl T.Ps H) nL).free np)
    have tb1 : TbA T (upd (upd H L (.lst [.str op])) p (.lst (r.map V.str))) := tabG_upd (fun y => nps (List.mem_singleton.mpr y.symm)) (tabG_upd (fun y => nLs (List.mem_singleton.mpr y.symm)) tb)
    refine for_it (walk_enum (K := K) (a := p) (xs := r.map V.str)) (fun i σ H1 => ∃ x3 x4 x5 : Option V, σ = [some (.ref a), some (.str (kdS op)), some (.ref L), x3, x4, x5] ∧ KT T.Ps H H1 ∧ TbA T H1 ∧ H1 p = some (.lst (r.map V.str)) ∧
      H1 L = some (.lst (.str op :: (partsN (toL (kdS op)) (r.map toL) i).map optV))) ?_ ?_ ?_ ?_
    · exact ⟨none, none, none, rfl, k1, tb1, upd_same, by rw [upd_ne (Ne.symm pL), upd_same]; rfl⟩
    · rintro i σ H1 _ ⟨_, _, _, _, _, _, h, _⟩
      exact SqL.of h
    · rintro i x σ H1 H2 hi ⟨x3, x4, x5, rfl, k, tbi, hp, hL⟩ ⟨U, x, y, rfl, nU, rfl, hx, hy⟩
      obtain rfl := Option.some.inj hx
      have hy : (r.map V.str)[i]? = some y := hy
      rw [List.getElem?_map] at hy
      obtain ⟨wd, hwd, rfl⟩ := Option.map_eq_some_iff.mp hy
      have hwl : (r.map toL)[i]? = some (toL wd) := by rw [List.getElem?_map, hwd]; rfl
      obtain ⟨wne, wl⟩ := hw wd (List.mem_of_getElem? hwd)
      have sn := partsN_snoc (cs := toL (kdS op)) hwl
      have pU : p ≠ U := fun y => by rw [← y, hp] at nU; cases nU
      have LU : L ≠ U := fun y => by rw [← y, hL] at nU; cases nU
      have k2 := k.late (o := .tup [.int (i : Nat), .str wd]) (k.free nU)
      have tb2 : TbA T (upd H1 U (.tup [.int (i : Nat), .str wd])) := tabG_upd (fun y => ps_new tbi nU (List.mem_singleton.mpr y.symm)) tbi
      have hL2 : (upd H1 U (.tup [.int (i : Nat), .str wd])) L = some (.lst (.str op :: (partsN (toL (kdS op)) (r.map toL) i).map optV)) := by rw [upd_ne LU]; exact hL
      have hp2 : (upd H1 U (.tup [.int (i : Nat), .str wd])) p = some (.lst (r.map V.str)) := by rw [upd_ne pU]; exact hp
      have il : i < 1000 := by rw [List.length_map] at hi; omega
      have app : ∀ (o : Option Int) (H3 : Hp), o = ptL (toL (kdS op)) i (toL wd) → KT T.Ps (upd H1 U (.tup [.int (i : Nat), .str wd])) H3 → TbA T H3 →
          (H3 L = some (.lst (.str op :: (partsN (toL (kdS op)) (r.map toL) i).map optV)) ∧ (V.str op :: (partsN (toL (kdS op)) (r.map toL) i).map optV).length < sizeLine) ∧
          KT T.Ps H (upd H3 L (.lst ((V.str op :: (partsN (toL (kdS op)) (r.map toL) i).map optV) ++ [optV o]))) ∧ TbA T (upd H3 L (.lst ((V.str op :: (partsN (toL (kdS op)) (r.map toL) i).map optV) ++ [optV o]))) ∧
          (upd H3 L (.lst ((V.str op :: (partsN (toL (kdS op)) (r.map toL) i).map optV) ++ [optV o]))) p = some (.lst (r.map V.str)) ∧
          (upd H3 L (.lst ((V.str op :: (partsN (toL (kdS op)) (r.map toL) i).map optV) ++ [optV o]))) L = some (.lst (.str op :: (partsN (toL (kdS op)) (r.map toL) (i + 1)).map optV)) := by
        rintro o H3 rfl k3 t3
        refine ⟨⟨k3.kp _ _ nLs hL2, ?_⟩, (k2.trans k3).late nL, tabG_upd (fun y => nLs (List.mem_singleton.mpr y.symm)) t3, by rw [upd_ne pL]; exact k3.kp _ _ nps hp2, ?_⟩
        · rw [List.length_cons, List.length_map, partsN_len]
          exact Nat.lt_trans (show i + 1 < 1001 by omega) (by decide)
        · rw [upd_same, sn, List.map_append]
          rfl
      have lks : (kdS op).length ≤ sizeLine := Nat.le_trans lk (by decide)
      refine ⟨U, _, rfl, SqT.of upd_same, rfl, _, _, rfl, _, _, rfl, rfl, ?_⟩
      refine ⟨_, rfl, _, rfl, kdS op, rfl, lks, _, _, rfl, rfl, _, rfl, ite2 (fun z => ?_) (fun z => ?_)⟩
      · have z : ((i : Nat) : Int) < ((kdS op).length : Nat) := of_decide_eq_true z
        have zi : i < (toL (kdS op)).length := by rw [toL_len]; omega
        obtain ⟨c, hc⟩ : ∃ c, (toL (kdS op))[i]? = some c := ⟨_, List.getElem?_eq_getElem zi⟩
        refine ⟨_, rfl, _, rfl, kdS op, (i : Nat), c, rfl, rfl, lks, atI_nat hc, rfl, ?_⟩
        have ec : decide (V.str ⟨#[c]⟩ = V.str "r") = decide (c = 114) := chr_eqD c 114
        refine ⟨_, rfl, .inl ⟨rfl, _, SqL.of hL2⟩, _, rfl, _, rfl, ?_⟩
        rw [ec]
        refine ite2 (fun y => ?_) (fun y => ?_)
        · have y := of_decide_eq_true y
          refine ⟨_, rfl, wd, rfl, wne, wl, tb2, fun H3 k3 t3 => ?_⟩
          obtain ⟨⟨a1, a2⟩, a3, a4, a5, a6⟩ := app _ H3 (by unfold ptL; rw [hc, y, if_pos rfl]) k3 t3
          exact ⟨L, _, _, rfl, rfl, a1, a2, _, _, _, rfl, a3, a4, a5, a6⟩
        · have y : ¬ c = 114 := fun e => y (decide_eq_true e)
          refine ⟨_, rfl, wd, rfl, wl, tb2, fun H3 k3 t3 => ?_⟩
          obtain ⟨⟨a1, a2⟩, a3, a4, a5, a6⟩ := app _ H3 (by unfold ptL; rw [hc, if_neg (fun e => y (Option.some.inj e))]) k3 t3
          exact ⟨L, _, _, rfl, rfl, a1, a2, _, _, _, rfl, a3, a4, a5, a6⟩
      · have z : ¬ ((i : Nat) : Int) < ((kdS op).length : Nat) := fun y => z (decide_eq_true y)
        have hc : (toL (kdS op))[i]? = none := List.getElem?_eq_none (by rw [toL_len]; omega)
        refine ⟨_, rfl, .inl ⟨rfl, _, SqL.of hL2⟩, _, rfl, _, rfl, ite_f (by decide) ?_⟩
        refine ⟨_, rfl, wd, rfl, wl, tb2, fun H3 k3 t3 => ?_⟩
        obtain ⟨⟨a1, a2⟩, a3, a4, a5, a6⟩ := app _ H3 (by unfold ptL; rw [hc, if_neg (fun e => by cases e)]) k3 t3
        exact ⟨L, _, _, rfl, rfl, a1, a2, _, _, _, rfl, a3, a4, a5, a6⟩
    · rintro σ H1 ⟨x3, x4, x5, rfl, k, tbi, hp, hL⟩
      refine ⟨_, rfl, L, _, rfl, .inl ⟨SqL.of hL, fun t nt => q _ t (k.late (k.free nt)) (tabG_upd (fun y => ps_new tbi nt (List.mem_singleton.mpr y.symm)) tbi) ?_⟩⟩
      rw [upd_same, List.length_map]
      unfold insP
      rw [List.length_map]
end

end My

set_option Elab.async false
set_option linter.all false
set_option maxRecDepth 100000
set_option maxHeartbeats 4000000
namespace My
open PySem PySem.Spec PyProof.Rows L2
/-! ### errors -/
theorem KT.del {S : List Addr} {H H1 : Hp} {p : Addr} (a : KT S H H1) (h : H p = none) : KT S H (del H1 p) :=
  ⟨fun b x n e => by rw [del_ne (ne_of_none e h)]; exact a.kp b x n e, fun b x e => by rw [del_ne (ne_of_none e h)]; exact a.tp b x e, fun b x u e => by rw [del_ne (ne_of_none e h)]; exact a.fz b x u e,
    fun b x e => by rw [del_ne (ne_of_none e h)]; exact a.th b x e, fun b c t e => by rw [del_ne (ne_of_none e h)]; exact a.hd b c t e⟩
section
variable {P : Program} {w : World} {K : PySem.W.Frag} {mg : Str → Option Value} {base : Heap} {H : Hp}
def spCE (T : Txt K mg) : Sp := fun vs H Q _ => ∃ (a : Addr) (n : Nat), vs = [.ref a, .int n] ∧ H a = some (exo a T.x_a none) ∧ n ≤ 100000 ∧ ∀ d, H d = none → d ≠ a → Q .non (upd (upd H d (exd d [("line", .int n)])) a (exo a T.x_a (some d)))
theorem log_small {n : Nat} (h : n ≤ 100000) : ((n : Int).natAbs).log2 < 1920 := by
  rw [Int.natAbs_natCast]
  by_cases z : n = 0
  · rw [z]
    decide
  · rw [Nat.log2_lt z]
    exact Nat.lt_of_lt_of_le (show n < 2 ^ 17 by omega) (Nat.pow_le_pow_right (by decide) (by decide))
theorem natL_len (n : Nat) : (natL n).length ≤ n + 1 := by
  induction n using Nat.strongRecOn with
  | ind n ih =>
    rw [natL_step]
    split
    · show 1 ≤ n + 1
      omega
    · rw [List.length_append]
      have := ih (n / 10) (by omega)
      show _ + 1 ≤ n + 1
      omega
theorem int_len (n : Nat) : (Str.ofString (toString (n : Int))).length ≤ n + 1 := by
  rw [← toL_len, toL_int]
  exact natL_len n
theorem app_len (a b : Str) : (a ++ b).length = a.length + b.length := by
  rw [← toL_len, toL_app, List.length_append, toL_len, toL_len]
theorem ok_ce (T : Txt K mg) : FnOk P w K mg base CX0 1 T.x_f T.x_d ["self", "line"] (spCE T) := by
  refine T.x_F.ok sc_CodeError___init__ (fun vs H Q E h => ?_) (fun cdv A outer s H vs Q E hr h => ?_)
  · obtain ⟨a, n, rfl, _⟩ := h
    rfl
  · obtain ⟨a, n, rfl, ha, hn, q⟩ := h
    refine ⟨_, (pss_cons (ps_expr (pe_beinit (by rfl) T.y_g T.y_b (pa_cons (pv 0) (pa_cons (pe_joined (.cons pe_str (.cons (pe_fmt (pv 1)) (.cons pe_str .nil)))) pa_nil))))
      (pss_one (ps_ost (pv 0) (pv 1)))), ?_⟩
    refine ⟨_, rfl, "line ", rfl, by decide, _, rfl, .inr ⟨n, rfl, log_small hn, _, rfl, ?_, " cannot be read as code", rfl, ?_, ?_⟩⟩
    · rw [app_len]
      exact Nat.le_trans (Nat.add_le_add (show (Str.empty ++ ("line " : Str)).length ≤ 5 by decide +kernel) (Nat.le_trans (int_len n) (Nat.succ_le_succ hn))) (by decide)
    · rw [app_len, app_len]
      exact Nat.le_trans (Nat.add_le_add (Nat.add_le_add (show (Str.empty ++ ("line " : Str)).length ≤ 5 by decide +kernel) (Nat.le_trans (int_len n) (Nat.succ_le_succ hn))) (show (" cannot be read as code" : Str).length ≤ 100 by decide +kernel)) (by decide)
    refine ⟨a, T.x_a, _, rfl, (by show 1 ≤ 1000; decide), T.x_o, ha, ?_⟩
    exact ⟨_, rfl, _, rfl, a, T.x_a, rfl, T.x_o, T.x_l, .inl ⟨ha, fun dx nd ne => q dx nd ne⟩⟩
theorem raise_go {T : Txt K mg} {n : Nat} {E : XK} (hn : n ≤ 100000) (e : ∀ d H', KT [] H H' → H' d = some (.xd [("line", .int n)]) → E (.ref T.x_a) (some d) H') :
    ([.int n] : List V).length ≤ 1000 ∧ ∀ a, H a = none → spCE T (.ref a :: ([.int n] ++ [])) (upd H a (exo a T.x_a none))
      (fun v H2 => v = .non ∧ ∃ (d : Addr) (fs : List (Str × V)), H2 a = some (exo a T.x_a (some d)) ∧ H2 d = some (exd d fs) ∧ H d = none ∧ E (.ref T.x_a) (some d) (upd (del H2 a) d (.xd fs))) (fun _ _ _ => False) := by
  refine ⟨by show 1 ≤ 1000; decide, fun a na => ⟨a, n, rfl, upd_same, hn, fun d nd ne => ⟨rfl, d, _, upd_same, by rw [upd_ne ne, upd_same], ?_, ?_⟩⟩⟩
  · rw [upd_ne ne] at nd
    exact nd
  · have nd' : H d = none := by
      rw [upd_ne ne] at nd
      exact nd
    exact e d _ ((((((KT.refl [] H).late na).late nd').late na).del na).late nd') upd_same
def wdthL (ws : List (List Nat)) : Option Int := if ws.length = 2 ∧ ws.getD 0 [] = toL "width" then numL (ws.getD 1 []) else none
/-- the error of a line -/
def ErrAt (T : Txt K mg) (H : Hp) (E : XK) (n : Nat) : Prop := ∀ (d : Addr) (H' : Hp), KT T.Ps H H' → TbA T H' → H' d = some (.xd [("line", .int n)]) → E (.ref T.x_a) (some d) H'
def spRW (T : Txt K mg) : Sp := fun vs H Q E => ∃ (t a : Addr) (n : Nat) (ws : List Str), vs = [.ref t] ∧ H t = some (.tup [.int n, .ref a]) ∧ H a = some (.lst (ws.map V.str)) ∧ n ≤ 100000 ∧ ws ≠ [] ∧ (∀ x ∈ ws, x.length ≤ 1000) ∧ TbA T H ∧
  (∀ H' i, KT T.Ps H H' → TbA T H' → wdthL (ws.map toL) = some i → 1 ≤ i → i ≤ 32 → Q (.int i) H') ∧ (inO 1 32 (wdthL (ws.map toL)) = false → ErrAt T H E n)
theorem ok_read_width (T : Txt K mg) (TB : TBs T base) : FnOk P w K mg base (L2.CX P w) 3 T.f_read_width T.d_read_width ["row"] (spRW T) := by
  have G_number_of := ok_number_of (P := P) (w := w) T TB
  have G_is_integer := ok_isI (P := P) (w := w) (base := base) T
  have G_CodeError___init__ := ok_ce (P := P) (w := w) (base := base) T
  refine T.F_read_width.okX sc_read_width (fun vs H Q E h => ?_) (fun cdv A outer s H vs Q E hr h => ?_)
  · obtain ⟨t, a, n, ws, rfl, _⟩ := h
    rfl
  · obtain ⟨t, a, n, ws, rfl, ht, ha, hn, wne, wl, tb, q, qe⟩ := h
    have hr : Room 2 _ := hr
    refine ⟨_, (pss_cons (ps_asg (pv 0) (pg_tup (by rfl) (pgs_cons (pg_name (i := 1) sc_read_width.nd rfl (Or.inl rfl)) (pgs_cons (pg_name (i := 2) sc_read_width.nd rfl (Or.inl rfl)) pgs_nil))))
      (pss_cons (ps_set (i := 3) sc_read_width.nd rfl (Or.inl rfl) (pe_cut (pe_ifExp (PW.pt (pw_and (pt_cmpR op_eq (pe_callB call_len_seq (by rfl) T.m_len (by decide +kernel) (pa_cons (pv 2) pa_nil)) pe_int (nomark _)) (pw_and1 (pt_cmpR op_eq (pe_ix ix_list (pv 2) pe_int (fun _ _ => rfl)) pe_str (nomark _))))) (pe_call G_number_of (hr.mono (by omega)) (by rfl) T.g_number_of T.F_number_of.kp T.b_number_of .nil pass0 (pa_cons (pe_ix ix_list (pv 2) pe_int (fun _ _ => rfl)) pa_nil)) pe_non)))
      (pss_cons (ps_if (pt_not (pt_val (pe_call G_is_integer (hr.mono (by omega)) (by rfl) T.g_is_integer T.F_is_integer.kp T.b_is_integer .nil pass0 (pa_cons (pv 3) (pa_cons pe_int (pa_cons (pe_glob (v := .int 32) (by rfl) T.m_WORD_BITS ⟨_, rfl⟩) pa_nil))))))
        (pss_one (ps_raise rfl (takes_of rfl rfl rfl rfl) (pmk_oex T.x_o T.x_n T.x_y G_CodeError___init__ (hr.mono (by omega)) T.x_bi .nil pass0 (by rfl) T.x_g (pa_cons (pv 1) pa_nil))))
        pss_nil)
      (pss_one (ps_ret (pv 3)))))), ?_⟩
    refine ⟨_, rfl, t, _, rfl, SqT.of ht, rfl, _, _, rfl, _, _, rfl, rfl, ?_⟩
    have k0 : KT T.Ps H H := .refl _ _
    have none_w : wdthL (ws.map toL) = none → KT T.Ps H H ∧ TbA T H ∧ V.non = optV (wdthL (ws.map toL)) := fun e => ⟨k0, tb, by rw [e]; rfl⟩
    refine ⟨fun v H' => KT T.Ps H H' ∧ TbA T H' ∧ v = optV (wdthL (ws.map toL)), ?_, ?_⟩
    · have el : decide (V.int ((ws.map V.str).length : Nat) = V.int 2) = decide (ws.length = 2) := by
        rw [List.length_map]
        refine decide_eq_decide.mpr ⟨fun y => ?_, fun y => by rw [y]; rfl⟩
        have := V.int.inj y
        omega
      refine ⟨_, rfl, a, _, rfl, .inl (SqL.of ha), rfl, _, rfl, ?_⟩
      rw [el]
      refine ite2 (fun z => ?_) (fun z => ?_)
      · have z := of_decide_eq_true z
        obtain ⟨x, y, rfl⟩ : ∃ x y, ws = [x, y] := by
          cases ws with
          | nil => cases z
          | cons x r =>
            cases r with
            | nil => cases z
            | cons y r2 =>
              cases r2 with
              | nil => exact ⟨x, y, rfl⟩
              | cons _ _ => simp at z
        refine ⟨_, rfl, a, _, 0, .str x, rfl, rfl, SqL.of ha, atI_nat (j := 0) rfl, rfl, _, rfl, ?_⟩
        rw [str_eq]
        refine ite2 (fun z2 => ?_) (fun z2 => ?_)
        · have z2 : toL x = toL "width" := of_decide_eq_true z2
          refine ⟨_, rfl, a, _, 1, .str y, rfl, rfl, SqL.of ha, atI_nat (j := 1) rfl, y, rfl, wl y (by simp), tb, fun H1 k1 t1 => ⟨k1, t1, ?_⟩⟩
          unfold wdthL
          rw [if_pos ⟨rfl, z2⟩]
          rfl
        · refine none_w ?_
          unfold wdthL
          rw [if_neg fun y => z2 (decide_eq_true y.2)]
      · refine none_w ?_
        unfold wdthL
        rw [if_neg fun y => z (decide_eq_true (by rw [← y.1, List.length_map]))]
    · rintro v H1 ⟨k1, t1, rfl⟩
      refine ⟨_, rfl, wdthL (ws.map toL), _, _, rfl, .inr ⟨_, _, rfl, rfl, _, rfl, ?_⟩⟩
      cases ei : inO 1 32 (wdthL (ws.map toL)) with
      | false => exact ite_t rfl ⟨_, rfl, raise_go hn fun d H' k hd => qe ei d H' (k1.trans (k.mono (by simp))) (t1.same k) hd⟩
      | true =>
        cases ew : wdthL (ws.map toL) with
        | none => rw [ew] at ei; cases ei
        | some i =>
          rw [ew] at ei
          have ei : (decide (1 ≤ i) && decide (i ≤ 32)) = true := ei
          rw [Bool.and_eq_true, decide_eq_true_eq, decide_eq_true_eq] at ei
          exact ite_f (by decide) ⟨_, rfl, q _ i k1 t1 ew ei.1 ei.2⟩
end

end My

set_option Elab.async false
set_option linter.all false
set_option maxRecDepth 100000
set_option maxHeartbeats 4000000
namespace My
open PySem PySem.Spec PyProof.Rows L2
inductive P2 {α : Type} (R : V → α → Prop) : List V → List α → Prop
  | nil : P2 R [] []
  | cons {v : V} {vs : List V} {d : α} {ds : List α} : R v d → P2 R vs ds → P2 R (v :: vs) (d :: ds)
theorem P2.mono {α : Type} {R S : V → α → Prop} (f : ∀ v d, R v d → S v d) : ∀ {vs : List V} {ds : List α}, P2 R vs ds → P2 S vs ds
  | _, _, .nil => .nil
  | _, _, .cons h g => .cons (f _ _ h) (g.mono f)
theorem P2.len {α : Type} {R : V → α → Prop} : ∀ {vs : List V} {ds : List α}, P2 R vs ds → vs.length = ds.length
  | _, _, .nil => rfl
  | _, _, .cons h g => congrArg (· + 1) g.len
theorem P2.app {α : Type} {R : V → α → Prop} : ∀ {vs us : List V} {ds es : List α}, P2 R vs ds → P2 R us es → P2 R (vs ++ us) (ds ++ es)
  | _, _, _, _, .nil, h => h
  | _, _, _, _, .cons h g, k => .cons h (g.app k)
theorem P2.snoc {α : Type} {R : V → α → Prop} {vs : List V} {ds : List α} {v : V} {d : α} (h : P2 R vs ds) (g : R v d) : P2 R (vs ++ [v]) (ds ++ [d]) := h.app (.cons g .nil)
theorem P2.get {α : Type} {R : V → α → Prop} : ∀ {vs : List V} {ds : List α} {i : Nat} {v : V}, P2 R vs ds → vs[i]? = some v → ∃ d, ds[i]? = some d ∧ R v d
  | _, _, i, v, .nil, e => by simp at e
  | _, _, 0, v, .cons h g, e => by simp at e; subst e; exact ⟨_, rfl, h⟩
  | _, _, i + 1, v, .cons h g, e => by
    obtain ⟨d, h1, h2⟩ := g.get (i := i) (by simpa using e)
    exact ⟨d, by simpa using h1, h2⟩
theorem P2.drop {α : Type} {R : V → α → Prop} : ∀ {vs : List V} {ds : List α} (n : Nat), P2 R vs ds → P2 R (vs.drop n) (ds.drop n)
  | _, _, _, .nil => by simp; exact .nil
  | _, _, 0, .cons h g => .cons h g
  | _, _, n + 1, .cons h g => by simpa using g.drop n
theorem P2.mem {α : Type} {R : V → α → Prop} {vs : List V} {ds : List α} {v : V} (h : P2 R vs ds) (m : v ∈ vs) : ∃ d ∈ ds, R v d := by
  obtain ⟨i, hi, e⟩ := List.getElem_of_mem m
  obtain ⟨d, h1, h2⟩ := h.get (List.getElem?_eq_some_iff.mpr ⟨hi, e⟩)
  exact ⟨d, List.mem_of_getElem? h1, h2⟩

/-! ### a machine -/

/-! ### the instructions of rows -/
abbrev Rw := Nat × Str × List Str
def RowAt (H : Hp) (v : V) (r : Rw) : Prop := ∃ t a, v = .ref t ∧ H t = some (.tup [.int r.1, .ref a]) ∧ H a = some (.lst ((r.2.1 :: r.2.2).map V.str))
abbrev Ins := Str × List (Option Int)
def insD (r : Rw) : Ins := (r.2.1, insP r.2.1 (r.2.2.map toL))
def InsAt (H : Hp) (v : V) (d : Ins) : Prop := ∃ t, v = .ref t ∧ H t = some (.tup (.str d.1 :: d.2.map optV))
def goodR (n : Nat) (r : Rw) : Bool := insB n (insD r).1 (insD r).2
def firstBad (n : Nat) : List Rw → Option Nat
  | [] => none
  | r :: rs => if goodR n r = true then firstBad n rs else some r.1
theorem firstBad_at {n : Nat} : ∀ {rs : List Rw} {i : Nat} {r : Rw}, rs[i]? = some r → (∀ x ∈ rs.take i, goodR n x = true) → goodR n r = false → firstBad n rs = some r.1
  | [], i, r, h, _, _ => by cases h
  | x :: rs, 0, r, h, _, hb => by
    obtain rfl := Option.some.inj h
    show (if goodR n x = true then _ else _) = _
    rw [hb]
    rfl
  | x :: rs, i + 1, r, h, hg, hb => by
    show (if goodR n x = true then _ else _) = _
    rw [if_pos (hg x List.mem_cons_self)]
    exact firstBad_at h (fun y m => hg y (List.mem_cons_of_mem _ m)) hb
theorem firstBad_none {n : Nat} : ∀ {rs : List Rw}, (∀ x ∈ rs, goodR n x = true) → firstBad n rs = none
  | [], _ => rfl
  | x :: rs, h => by
    show (if goodR n x = true then _ else _) = _
    rw [if_pos (h x List.mem_cons_self)]
    exact firstBad_none fun y m => h y (List.mem_cons_of_mem _ m)
section
variable {P : Program} {w : World} {K : PySem.W.Frag} {mg : Str → Option Value} {base : Heap} {H : Hp}
theorem lst_notP {T : Txt K mg} {a : Addr} {xs : List V} (t : TbA T H) (h : H a = some (.lst xs)) : a ∉ T.Ps := fun z => by
  obtain ⟨ps, e, _⟩ := t
  obtain rfl : a = T.P_number_of := List.mem_singleton.mp z
  rw [e] at h
  cases h
theorem RowAt.keep {T : Txt K mg} {H' : Hp} (t : TbA T H) (k : KT T.Ps H H') {v : V} {r : Rw} (h : RowAt H v r) : RowAt H' v r := by
  obtain ⟨u, a, rfl, h1, h2⟩ := h
  exact ⟨u, a, rfl, k.tp _ _ h1, k.kp _ _ (lst_notP t h2) h2⟩
theorem InsAt.keep {S : List Addr} {H' : Hp} (k : KT S H H') {v : V} {d : Ins} (h : InsAt H v d) : InsAt H' v d := by
  obtain ⟨u, rfl, h1⟩ := h
  exact ⟨u, rfl, k.tp _ _ h1⟩
def spRI (T : Txt K mg) (TA : TxA K mg w) : Sp := fun vs H Q E => ∃ (a : Addr) (n : Nat) (rv : List V) (rs : List Rw), vs = [.ref a, .int n] ∧ n ≤ 32 ∧ H a = some (.lst rv) ∧ P2 (RowAt H) rv rs ∧ rs.length ≤ 1000 ∧
  (∀ r ∈ rs, WdOk TA r.2.1 r.2.2 ∧ r.1 ≤ 100000) ∧ TbA T H ∧
  ((∀ r ∈ rs, goodR n r = true) → ∀ H' t is, KT T.Ps H H' → TbA T H' → H' t = some (.tup is) → P2 (InsAt H') is (rs.map insD) → Q (.ref t) H') ∧ (∀ l, firstBad n rs = some l → ErrAt T H E l)
theorem ok_read_instructions (T : Txt K mg) (TB : TBs T base) (TA : TxA K mg w) : FnOk P w K mg base (L2.CX P w) 6 T.f_read_instructions T.d_read_instructions ["rows", "width"] (spRI T TA) := by
  have G_instruction_of := ok_instruction_of (P := P) (w := w) T TB TA
  have G_instruction_fault := ok_instruction_fault (P := P) (w := w) (base := base) T TA
  have G_CodeError___init__ := ok_ce (P := P) (w := w) (base := base) T
  refine T.F_read_instructions.okX sc_read_instructions (fun vs H Q E h => ?_) (fun cdv A outer s H vs Q E hr h => ?_)
  · obtain ⟨a, n, rv, rs, rfl, _⟩ := h
    rfl
  · obtain ⟨a, n, rv, rs, rfl, hn, ha, hp, hl, hw, tb, q, qe⟩ := h
    have hr : Room 5 _ := hr
    refine ⟨_, (pss_cons (ps_set (i := 2) sc_read_instructions.nd rfl (Or.inl rfl) (pe_lst pa_nil))
      (pss_cons (ps_for (passes_of rfl) rfl (pi_list (pv 0)) (pg_tup (by rfl) (pgs_cons (pg_name (i := 3) sc_read_instructions.nd rfl (Or.inl rfl)) (pgs_cons (pg_name (i := 4) sc_read_instructions.nd rfl (Or.inl rfl)) pgs_nil)))
        (pss_cons (ps_set (i := 5) sc_read_instructions.nd rfl (Or.inl rfl) (pe_call G_instruction_of (hr.mono (by omega)) (by rfl) T.g_instruction_of T.F_instruction_of.kp T.b_instruction_of .nil pass0 (pa_cons (pv 4) pa_nil)))
        (pss_cons (ps_if (pt_cmpR op_notN (pe_call G_instruction_fault (hr.mono (by omega)) (by rfl) T.g_instruction_fault T.F_instruction_fault.kp T.b_instruction_fault .nil pass0 (pa_cons (pv 5) (pa_cons (pv 1) pa_nil))) pe_non (nomark _))
          (pss_one (ps_raise rfl (takes_of rfl rfl rfl rfl) (pmk_oex T.x_o T.x_n T.x_y G_CodeError___init__ (hr.mono (by omega)) T.x_bi .nil pass0 (by rfl) T.x_g (pa_cons (pv 3) pa_nil))))
          pss_nil)
        (pss_one (ps_expr (pe_bm PySem.F.plainAttrs_list PySem.F.slot_list_append PySem.F.type_list_append mt_append (pv 2) (pa_cons (pv 5) pa_nil)))))))
      (pss_one (ps_ret (pe_callTy call_tuple_of (by rfl) T.m_tuple (by decide +kernel) (pa_cons (pv 2) pa_nil)))))), ?_⟩
    refine ⟨Nat.zero_le _, fun L nL => ?_⟩
    have nLs := ps_new tb nL
    have aL : a ≠ L := fun y => by rw [← y, ha] at nL; cases nL
    have naP := lst_notP tb ha
    have k1 : KT T.Ps H (upd H L (.lst [])) := KT.new _ nL
    refine ⟨_, rfl, a, rfl, ⟨_, SqL.of (by rw [upd_ne aL]; exact ha)⟩, ?_⟩
    refine for_it (walk_list (K := K) (a := a) (xs := rv)) (fun i σ H1 => ∃ (x3 x4 x5 : Option V) (is : List V), σ = [some (.ref a), some (.int n), some (.ref L), x3, x4, x5] ∧ KT T.Ps H H1 ∧ TbA T H1 ∧ H1 L = some (.lst is) ∧ P2 (InsAt H1) is ((rs.take i).map insD) ∧ ∀ r ∈ rs.take i, goodR n r = true) ?_ ?_ ?_ ?_
    · exact ⟨none, none, none, [], rfl, k1, tabG_upd (fun y => nLs (List.mem_singleton.mpr y.symm)) tb, upd_same, .nil, fun r m => absurd m List.not_mem_nil⟩
    · rintro i σ H1 _ ⟨_, _, _, _, _, k, _⟩
      exact SqL.of (k.kp _ _ naP ha)
    · rintro i x σ H1 H2 hi ⟨x3, x4, x5, is, rfl, k, tbi, hL, hI, hg⟩ ⟨rfl, hx⟩
      obtain ⟨r, hrw, u, c, rfl, hu, hc⟩ := hp.get hx
      obtain ⟨wd, l5⟩ := hw r (List.mem_of_getElem? hrw)
      have hu1 := k.tp _ _ hu
      have hc1 := k.kp _ _ (lst_notP tb hc) hc
      have il : i < 1000 := by
        have := (List.getElem?_eq_some_iff.mp hrw).1
        omega
      have tk : rs.take (i + 1) = rs.take i ++ [r] := by rw [List.take_succ, hrw]; rfl
      refine ⟨u, _, rfl, SqT.of hu1, rfl, _, _, rfl, _, _, rfl, rfl, ?_⟩
      refine ⟨_, rfl, c, r.2.1, r.2.2, rfl, hc1, wd, tbi, fun H3 t k3 tb3 ht => ?_⟩
      have Ln : L ∉ T.Ps := nLs
      have hL3 := k3.kp _ _ Ln hL
      refine ⟨_, rfl, _, rfl, t, r.2.1, insP r.2.1 (r.2.2.map toL), n, rfl, hn, ht, ?_, wd.1, fun H4 v k4 hv1 hv2 => ?_⟩
      · unfold insP
        rw [partsN_len, List.length_map]
        exact wd.2.2.1
      have tb4 := tb3.same k4
      have k4' : KT T.Ps H3 H4 := k4.mono (by simp)
      cases hgd : goodR n r with
      | false =>
        obtain ⟨sv, rfl⟩ := hv2 hgd
        refine ⟨rfl, _, rfl, ite_t rfl ?_⟩
        refine ⟨_, rfl, raise_go l5 fun d H' k5 hd => qe r.1 (firstBad_at hrw hg hgd) d H' ?_ (tb4.same k5) hd⟩
        exact (k.trans (k3.trans k4')).trans (k5.mono (by simp))
      | true =>
        obtain rfl := hv1 hgd
        refine ⟨rfl, _, rfl, ite_f (by decide) ?_⟩
        have hL4 := k4.kp _ _ (by simp) hL3
        have kk : KT T.Ps H (upd H4 L (.lst (is ++ [.ref t]))) := (k.trans (k3.trans k4')).late nL
        refine ⟨_, rfl, .inl ⟨rfl, _, SqL.of hL4⟩, _, rfl, L, _, _, rfl, rfl, hL4, ?_, ?_⟩
        · rw [hI.len, List.length_map]
          exact Nat.lt_of_le_of_lt (Nat.le_trans (List.length_take_le _ _) (Nat.le_of_lt il)) (by decide)
        · refine ⟨_, _, _, _, rfl, kk, tabG_upd (fun y => nLs (List.mem_singleton.mpr y.symm)) tb4, upd_same, ?_, fun y m => ?_⟩
          · rw [tk, List.map_append]
            have up : ∀ v d, InsAt H4 v d → InsAt (upd H4 L (.lst (is ++ [.ref t]))) v d := fun v d h => by
              obtain ⟨u, rfl, h1⟩ := h
              exact ⟨u, rfl, by rw [upd_ne (fun y => by rw [y, hL4] at h1; cases h1)]; exact h1⟩
            exact (hI.mono fun v d h => up v d ((h.keep k3).keep k4)).snoc (up _ _ ⟨t, rfl, k4.tp _ _ ht⟩)
          · rw [tk] at m
            rcases List.mem_append.mp m with m | m
            · exact hg y m
            · rw [List.mem_singleton.mp m]; exact hgd
    · rintro σ H1 ⟨x3, x4, x5, is, rfl, k, tbi, hL, hI, hg⟩
      rw [hp.len, List.take_length] at hI hg
      refine ⟨_, rfl, L, _, rfl, .inl ⟨SqL.of hL, fun t nt => q hg _ t is (k.late (k.free nt)) (tabG_upd (fun y => ps_new tbi nt (List.mem_singleton.mpr y.symm)) tbi) upd_same ?_⟩⟩
      exact hI.mono fun v d h => h.keep (KT.new (S := []) nt)
end

end My

set_option Elab.async false
set_option linter.all false
set_option maxRecDepth 100000
set_option maxHeartbeats 4000000
namespace My
open PySem PySem.Spec PyProof.Rows L2
/-! ### reading a text -/
abbrev Rr := Nat × List Str
def wS (l : List Nat) : List Str := (wdsL l).map ofL
theorem wS_of {ws : List Str} {l : List Nat} (h : ws.map toL = wdsL l) : ws = wS l := by
  unfold wS
  rw [← h, List.map_map]
  conv => lhs; rw [← List.map_id ws]
  exact List.map_congr_left fun s _ => (ofL_toL s).symm
def rowI (ls : List Str) (i : Nat) : Rr := (i + 1, wS (toL (ls.getD i "")))
def allN (ls : List Str) (n : Nat) : List Rr := (List.range n).map (rowI ls)
theorem allN_snoc (ls : List Str) (n : Nat) : allN ls (n + 1) = allN ls n ++ [rowI ls n] := by
  unfold allN
  rw [List.range_succ, List.map_append]
  rfl
def toldS (ls : List Str) : List Rr := (allN ls ls.length).filter fun r => decide (r.2 ≠ [])
def toRw (r : Rr) : Rw := (r.1, r.2.headD "", r.2.tail)
def RowX (D : Addr) (H : Hp) (v : V) (r : Rr) : Prop := ∃ t a, v = .ref t ∧ a ≠ D ∧ H t = some (.tup [.int r.1, .ref a]) ∧ H a = some (.lst (r.2.map V.str))
theorem RowX.keep {D : Addr} {H H' : Hp} (k : KT [] H H') {v : V} {r : Rr} (h : RowX D H v r) : RowX D H' v r := by
  obtain ⟨t, a, rfl, ne, h1, h2⟩ := h
  exact ⟨t, a, rfl, ne, k.tp _ _ h1, k.kp _ _ (by simp) h2⟩
theorem RowX.upd {D : Addr} {H : Hp} {xs ys : List V} (hD : H D = some (.lst xs)) {v : V} {r : Rr} (h : RowX D H v r) : RowX D (L2.upd H D (.lst ys)) v r := by
  obtain ⟨t, a, rfl, ne, h1, h2⟩ := h
  exact ⟨t, a, rfl, ne, by rw [upd_ne (fun y => by rw [y, hD] at h1; cases h1)]; exact h1, by rw [upd_ne ne]; exact h2⟩
def rdC (tr : List Rw) (nl : Nat) : Nat ⊕ (Int × List Ins) :=
  if tr.all (fun r => decide (r.2.1 ≠ "width")) = true then .inl ((firstBad 32 tr).getD (nl + 1)) else
  match tr with
  | [] => .inl 0
  | r :: rs => match wdthL ((r.2.1 :: r.2.2).map toL) with
    | none => .inl r.1
    | some i => if inO 1 32 (some i) = true then match firstBad i.toNat rs with
        | none => .inr (i, rs.map insD)
        | some l => .inl l
      else .inl r.1
def MacV (H : Hp) (v : V) (m : Int × List Ins) : Prop := ∃ t u is, v = .ref t ∧ H t = some (.tup [.int m.1, .ref u]) ∧ H u = some (.tup is) ∧ P2 (InsAt H) is m.2
section
variable {P : Program} {w : World} {K : PySem.W.Frag} {mg : Str → Option Value} {base : Heap} {H : Hp}
theorem P2.mapm {α β : Type} {R : V → α → Prop} {S : V → β → Prop} {f : α → β} : ∀ {vs : List V} {ds : List α}, P2 R vs ds → (∀ v d, d ∈ ds → R v d → S v (f d)) → P2 S vs (ds.map f)
  | _, _, .nil, _ => .nil
  | _, _, .cons h g, k => .cons (k _ _ List.mem_cons_self h) (g.mapm fun v d m => k v d (List.mem_cons_of_mem _ m))
theorem told_ne {ls : List Str} {r : Rr} (h : r ∈ toldS ls) : r.2 ≠ [] := of_decide_eq_true (List.mem_filter.mp h).2
theorem told_num {ls : List Str} {r : Rr} (h : r ∈ toldS ls) : r.1 ≤ ls.length := by
  have h1 := (List.mem_filter.mp h).1
  unfold allN at h1
  obtain ⟨i, hi, rfl⟩ := List.mem_map.mp h1
  exact List.mem_range.mp hi
theorem told_len (ls : List Str) : (toldS ls).length ≤ ls.length := by
  refine Nat.le_trans (List.length_filter_le _ _) ?_
  unfold allN
  rw [List.length_map, List.length_range]
  exact Nat.le_refl _
def hasW (r : Rr) : Bool := decide (r.2.head? = some "width")
theorem all_anyL : ∀ {l : List Rr}, (∀ r ∈ l, r.2 ≠ []) → (l.map toRw).all (fun r => decide (r.2.1 ≠ "width")) = !l.any hasW
  | [], _ => rfl
  | r :: l, h => by
    have ih := all_anyL fun x m => h x (List.mem_cons_of_mem _ m)
    have ne := h r List.mem_cons_self
    have e1 : decide ((toRw r).2.1 ≠ "width") = !hasW r := by
      show decide (r.2.headD "" ≠ "width") = !decide (r.2.head? = some "width")
      cases e : r.2 with
      | nil => exact absurd e ne
      | cons x y =>
        show decide (x ≠ "width") = !decide (some x = some "width")
        by_cases h : x = "width"
        · subst h; simp
        · simp [h]
    rw [List.map_cons, List.all_cons, ih, List.any_cons, Bool.not_or, e1]
theorem all_any {ls : List Str} : ((toldS ls).map toRw).all (fun r => decide (r.2.1 ≠ "width")) = !(toldS ls).any hasW := all_anyL fun _ m => told_ne m
def LinesOk (TA : TxA K mg w) (ls : List Str) : Prop := ls.length ≤ 1000 ∧ (∀ l ∈ ls, l.length ≤ 1000) ∧ ∀ r ∈ toldS ls, WdOk TA (toRw r).2.1 (toRw r).2.2
def spRC (T : Txt K mg) (TA : TxA K mg w) : Sp := fun vs H Q E => ∃ (s : Str), vs = [.str s] ∧ s.length ≤ 100000 ∧ LinesOk TA ((linL (toL s)).map ofL) ∧ TbA T H ∧
  (∀ H' v m, KT T.Ps H H' → TbA T H' → rdC ((toldS ((linL (toL s)).map ofL)).map toRw) (linL (toL s)).length = .inr m → MacV H' v m → Q v H') ∧
  (∀ l, rdC ((toldS ((linL (toL s)).map ofL)).map toRw) (linL (toL s)).length = .inl l → ErrAt T H E l)
theorem ok_read_code (T : Txt K mg) (TB : TBs T base) (TA : TxA K mg w) : FnOk P w K mg base (L2.CX P w) 7 T.f_read_code T.d_read_code ["text"] (spRC T TA) := by
  have G_lines_of := ok_lines_of (P := P) (w := w) (base := base) T
  have G_words_of := ok_words_of (P := P) (w := w) (base := base) T
  have G_read_width := ok_read_width (P := P) (w := w) T TB
  have G_read_instructions := ok_read_instructions (P := P) (w := w) T TB TA
  have G_CodeError___init__ := ok_ce (P := P) (w := w) (base := base) T
  refine T.F_read_code.okX sc_read_code (fun vs H Q E h => ?_) (fun cdv A outer s H vs Q E hr h => ?_)
  · obtain ⟨a, rfl, _⟩ := h
    rfl
  · obtain ⟨s, rfl, sl, lok, tb, q, qe⟩ := h
    have hr : Room 6 _ := hr
    refine ⟨_, (pss_cons (ps_set (i := 1) sc_read_code.nd rfl (Or.inl rfl) (pe_call G_lines_of (hr.mono (by omega)) (by rfl) T.g_lines_of T.F_lines_of.kp T.b_lines_of .nil pass0 (pa_cons (pv 0) pa_nil)))
      (pss_cons (ps_setLc (i := 2) (own := [("at", 5), ("line", 6)]) (g := gTup K 2 (gCons (gName 5) (gCons (gName 6) gNil))) rfl sc_read_code.nd rfl rfl (sw_true rfl rfl rfl (by decide +kernel)) (pi_enum (by rfl) T.m_enumerate (pa_cons (pv 1) pa_nil)) (blkOk_by (own := [("at", 5), ("line", 6)]) (N := N_read_code) (sc := defScope s_read_code) (by decide +kernel)) (fun _ _ _ _ _ => (pg_tup (by rfl) (pgs_cons (pg_name (i := 5) sc_read_code.nd rfl (Or.inl rfl)) (pgs_cons (pg_name (i := 6) sc_read_code.nd rfl (Or.inl rfl)) pgs_nil)))) (fun _ _ _ _ _ => pts_nil) (fun _ _ _ _ _ => (pe_tup (pa_cons (pe_op op_add (pv 5) pe_int) (pa_cons (pe_call G_words_of (hr.mono (by omega)) (by rfl) T.g_words_of T.F_words_of.kp T.b_words_of .nil pass0 (pa_cons (pv 6) pa_nil)) pa_nil)))))
      (pss_cons (ps_setLc (i := 3) (own := [("line", 6), ("words", 7)]) (g := gTup K 2 (gCons (gName 6) (gCons (gName 7) gNil))) rfl sc_read_code.nd rfl rfl (sw_true rfl rfl rfl (by decide +kernel)) (pi_list (pv 2)) (blkOk_by (own := [("line", 6), ("words", 7)]) (N := N_read_code) (sc := defScope s_read_code) (by decide +kernel)) (fun _ _ _ _ _ => (pg_tup (by rfl) (pgs_cons (pg_name (i := 6) sc_read_code.nd rfl (Or.inl rfl)) (pgs_cons (pg_name (i := 7) sc_read_code.nd rfl (Or.inl rfl)) pgs_nil)))) (fun _ _ _ _ _ => (pts_one (pt_truthK (K := K) rfl 7))) (fun _ _ _ _ _ => (pe_tup (pa_cons (pv 6) (pa_cons (pv 7) pa_nil)))))
      (pss_cons (ps_if (pt_not (pt_val (pe_callB (cr_any rfl) (by rfl) T.m_any (by decide +kernel) (pa_cons (pe_lc (own := [("_", 8), ("words", 7)]) (g := gTup K 2 (gCons (gName 8) (gCons (gName 7) gNil))) (by rfl) sc_read_code.nd (pi_list (pv 3)) (blkOk_by (own := [("_", 8), ("words", 7)]) (N := N_read_code) (sc := defScope s_read_code) (by decide +kernel)) (fun _ _ _ _ _ => (pg_tup (by rfl) (pgs_cons (pg_name (i := 8) sc_read_code.nd rfl (Or.inl rfl)) (pgs_cons (pg_name (i := 7) sc_read_code.nd rfl (Or.inl rfl)) pgs_nil)))) (fun _ _ _ _ _ => pts_nil) (fun _ _ _ _ _ => (pe_cmpR op_eq (pe_ix (ixL (K := K) rfl) (pv 7) pe_int (fun _ _ => rfl)) pe_str (nomark _)))) pa_nil))))
        (pss_cons (ps_expr (pe_callS G_read_instructions (hr.mono (by omega)) (by rfl) T.g_read_instructions T.F_read_instructions.kp T.b_read_instructions (fun σ => passAt (takes_of rfl rfl rfl rfl) σ) (pa_cons (pv 3) (pa_cons (pe_glob (v := .int 32) (by rfl) T.m_WORD_BITS ⟨_, rfl⟩) pa_nil))))
        (pss_one (ps_raise rfl (takes_of rfl rfl rfl rfl) (pmk_oex T.x_o T.x_n T.x_y G_CodeError___init__ (hr.mono (by omega)) T.x_bi .nil pass0 (by rfl) T.x_g (pa_cons (pe_op op_add (pe_callB call_len_seq (by rfl) T.m_len (by decide +kernel) (pa_cons (pv 1) pa_nil)) pe_int) pa_nil)))))
        pss_nil)
      (pss_cons (ps_set (i := 4) sc_read_code.nd rfl (Or.inl rfl) (pe_callS G_read_width (hr.mono (by omega)) (by rfl) T.g_read_width T.F_read_width.kp T.b_read_width (fun σ => passAt (takes_of rfl rfl rfl rfl) σ) (pa_cons (pe_ix ix_list (pv 3) pe_int (fun _ _ => rfl)) pa_nil)))
      (pss_one (ps_ret (pe_tup (pa_cons (pv 4) (pa_cons (pe_callS G_read_instructions (hr.mono (by omega)) (by rfl) T.g_read_instructions T.F_read_instructions.kp T.b_read_instructions (fun σ => passAt (takes_of rfl rfl rfl rfl) σ) (pa_cons (pe_slice sl_list (pv 3) (po_some pe_int) po_none) (pa_cons (pv 4) pa_nil))) pa_nil)))))))))), ?_⟩
    refine ⟨_, rfl, s, rfl, sl, fun H1 R ws k1 nR hR we => ?_⟩
    have ews : (linL (toL s)).map ofL = ws := by
      rw [← we, List.map_map]
      conv => rhs; rw [← List.map_id ws]
      exact List.map_congr_left fun s _ => ofL_toL s
    have ewl : (linL (toL s)).length = ws.length := by rw [← we, List.length_map]
    rw [ews] at lok q qe
    rw [ewl] at q qe
    obtain ⟨wl1, wl2, wok⟩ := lok
    refine ⟨_, rfl, R, _, rfl, SqL.of hR, fun D nD => ?_⟩
    have RD : R ≠ D := fun y => by rw [← y, hR] at nD; cases nD
    refine lc_it (walk_enum (K := K) (a := R) (xs := ws.map V.str)) (fun i H2 => KT [] H1 H2 ∧ ∃ vs, H2 D = some (.lst vs) ∧ P2 (RowX D H2) vs (allN ws i)) ?_ ?_ ?_ ?_
    · exact ⟨KT.new _ nD, [], upd_same, .nil⟩
    · rintro i H2 _ ⟨k, _⟩
      exact SqL.of (k.kp _ _ (by simp) hR)
    · rintro i x H2 H3 hi ⟨k, vs, hD, hP⟩ ⟨U, x, y, rfl, nU, rfl, hx, hy⟩
      obtain rfl := Option.some.inj hx
      have hy : (ws.map V.str)[i]? = some y := hy
      rw [List.getElem?_map] at hy
      obtain ⟨wd, hwd, rfl⟩ := Option.map_eq_some_iff.mp hy
      have ri : rowI ws i = (i + 1, wS (toL wd)) := by
        unfold rowI
        rw [List.getD_eq_getElem?_getD, hwd]
        rfl
      have il : i < 1000 := by
        have := (List.getElem?_eq_some_iff.mp hwd).1
        omega
      have k2 : KT [] H2 (upd H2 U (.tup [.int (i : Nat), .str wd])) := KT.new _ nU
      have DU : D ≠ U := fun y => by rw [← y, hD] at nU; cases nU
      refine ⟨U, _, rfl, SqT.of upd_same, rfl, _, _, rfl, _, _, rfl, rfl, rfl, yes_go (ite_t rfl ?_)⟩
      refine ⟨_, rfl, _, _, rfl, rfl, _, rfl, wd, rfl, wl2 wd (List.mem_of_getElem? hwd), fun H3 W ws' k3 nW hW we' => ?_⟩
      obtain rfl := wS_of we'
      have hD1 : (upd H2 U (.tup [.int (i : Nat), .str wd])) D = some (.lst vs) := by rw [upd_ne DU]; exact hD
      have hD3 := k3.kp _ _ (by simp) hD1
      have WD : W ≠ D := fun y => by rw [y, hD1] at nW; cases nW
      refine ⟨(by show 2 ≤ sizeLine; decide), fun t nt => ⟨vs, by rw [upd_ne (fun y => by rw [← y, hD3] at nt; cases nt)]; exact hD3, ?_, ?_, vs ++ [.ref t], upd_same, ?_⟩⟩
      · rw [hP.len]
        unfold allN
        rw [List.length_map, List.length_range]
        exact Nat.lt_trans il (by decide)
      · exact ((k.trans (k2.trans k3)).trans (KT.new _ nt)).late nD
      · have hDt : (upd H3 t (.tup [.int ((i : Nat) + 1 : Int), .ref W])) D = some (.lst vs) := by rw [upd_ne (fun y => by rw [← y, hD3] at nt; cases nt)]; exact hD3
        rw [allN_snoc, ri]
        refine (hP.mono fun v d h => ((h.keep (k2.trans k3)).keep (KT.new _ nt)).upd hDt).snoc (RowX.upd hDt ⟨t, W, rfl, WD, by rw [upd_same]; rfl, ?_⟩)
        rw [upd_ne (fun y => by rw [← y, hW] at nt; cases nt)]
        exact hW
    · rintro H2 ⟨k2, vs, hD, hP⟩
      rw [List.length_map] at hP
      refine ⟨_, rfl, D, rfl, ⟨_, SqL.of hD⟩, fun D2 nD2 => ?_⟩
      have DD2 : D ≠ D2 := fun y => by rw [← y, hD] at nD2; cases nD2
      refine lc_it (tt := fun σ H Q => tVar 7 σ H fun x H' => ∃ k, TruV K x H' k ∧ Q k H') (te := tTup (tCons (tVar 6) (tCons (tVar 7) tNil))) (walk_list (K := K) (a := D) (xs := vs)) (fun i H3 => KT [] H2 H3 ∧ ∃ us, H3 D2 = some (.lst us) ∧ us.length ≤ i ∧ P2 (RowX D2 H3) us (((allN ws ws.length).take i).filter fun r => decide (r.2 ≠ []))) ?_ ?_ ?_ ?_
      · exact ⟨KT.new _ nD2, [], upd_same, Nat.le_refl _, .nil⟩
      · rintro i H3 _ ⟨k, _⟩
        exact SqL.of (k.kp _ _ (by simp) hD)
      · rintro i x H3 H4 hi ⟨k, us, hE, hul, hU⟩ ⟨rfl, hx⟩
        obtain ⟨r, hrr, t, a, rfl, ne, ht, ha⟩ := hP.get hx
        have il : i < 1000 := by
          have h1 := (List.getElem?_eq_some_iff.mp hrr).1
          unfold allN at h1
          rw [List.length_map, List.length_range] at h1
          omega
        have tk : (allN ws ws.length).take (i + 1) = (allN ws ws.length).take i ++ [r] := by rw [List.take_succ, hrr]; rfl
        have ht3 := k.tp _ _ ht
        have ha3 := k.kp _ _ (by simp) ha
        have aD2 : a ≠ D2 := fun y => by rw [y, nD2] at ha; cases ha
        refine ⟨t, _, rfl, SqT.of ht3, rfl, _, _, rfl, _, _, rfl, rfl, rfl, _, rfl, _, .inl ⟨_, SqL.of ha3, rfl⟩, ?_⟩
        refine ite2 (fun z => ?_) (fun z => ?_)
        · have z : r.2 ≠ [] := fun y => by rw [y] at z; cases z
          refine ⟨_, rfl, _, rfl, (by show 2 ≤ sizeLine; decide), fun t2 nt2 => ⟨us, by rw [upd_ne (fun y => by rw [← y, hE] at nt2; cases nt2)]; exact hE, ?_, ?_, us ++ [.ref t2], upd_same, ?_, ?_⟩⟩
          · exact Nat.lt_of_le_of_lt hul (Nat.lt_trans il (by decide))
          · exact (k.trans (KT.new _ nt2)).late nD2
          · rw [List.length_append]
            exact Nat.succ_le_succ hul
          · have hDt : (upd H4 t2 (.tup [.int (r.1 : Nat), .ref a])) D2 = some (.lst us) := by rw [upd_ne (fun y => by rw [← y, hE] at nt2; cases nt2)]; exact hE
            rw [tk, List.filter_append, show [r].filter (fun r => decide (r.2 ≠ [])) = [r] by simp [z]]
            refine (hU.mono fun v d h => (h.keep (KT.new _ nt2)).upd hDt).snoc (RowX.upd hDt ⟨t2, a, rfl, aD2, upd_same, ?_⟩)
            rw [upd_ne (fun y => by rw [← y, ha3] at nt2; cases nt2)]
            exact ha3
        · have z : r.2 = [] := by
            cases e : r.2 with
            | nil => rfl
            | cons _ _ => rw [e] at z; exact absurd rfl z
          refine ⟨k, us, hE, Nat.le_succ_of_le hul, ?_⟩
          rw [tk, List.filter_append, show [r].filter (fun r => decide (r.2 ≠ [])) = [] by simp [z], List.append_nil]
          exact hU
      · rintro H3 ⟨k3, us, hE, _, hU⟩
        rw [hP.len, List.take_length] at hU
        have hU : P2 (RowX D2 H3) us (toldS ws) := hU
        refine ⟨_, rfl, D2, rfl, ⟨_, SqL.of hE⟩, fun D3 nD3 => ?_⟩
        refine lc_it (tt := tYes) (te := tOp rEq (tOp (rIxL K) (tVar 7) (tC (.int 0))) (tC (.str "width"))) (walk_list (K := K) (a := D2) (xs := us)) (fun i H4 => KT [] H3 H4 ∧ H4 D3 = some (.lst ((((toldS ws).take i).map hasW).map V.bl))) ?_ ?_ ?_ ?_
        · exact ⟨KT.new _ nD3, upd_same⟩
        · rintro i H4 _ ⟨k, _⟩
          exact SqL.of (k.kp _ _ (by simp) hE)
        · rintro i x H4 H5 hi ⟨k, hF⟩ ⟨rfl, hx⟩
          obtain ⟨r, hrr, t, a, rfl, ne, ht, ha⟩ := hU.get hx
          have rm := List.mem_of_getElem? hrr
          have tk : (toldS ws).take (i + 1) = (toldS ws).take i ++ [r] := by rw [List.take_succ, hrr]; rfl
          have ht3 := k.tp _ _ ht
          have ha3 := k.kp _ _ (by simp) ha
          obtain ⟨x0, xr, er⟩ : ∃ x0 xr, r.2 = x0 :: xr := by
            cases e : r.2 with
            | nil => exact absurd e (told_ne rm)
            | cons x y => exact ⟨x, y, rfl⟩
          refine ⟨t, _, rfl, SqT.of ht3, rfl, _, _, rfl, _, _, rfl, rfl, rfl, yes_go (ite_t rfl ?_)⟩
          refine ⟨_, rfl, a, _, 0, .str x0, rfl, rfl, SqL.of ha3, atI_nat (j := 0) (by rw [er]; rfl), rfl, _, hF, ?_, k.late nD3, ?_⟩
          · rw [List.length_map, List.length_map]
            exact Nat.lt_of_le_of_lt (Nat.le_trans (List.length_take_le' _ _) (Nat.le_trans (told_len ws) wl1)) (by decide)
          · rw [upd_same, tk, List.map_append, List.map_append]
            show some (HO.lst (_ ++ [V.bl (decide (V.str x0 = V.str "width"))])) = some (HO.lst (_ ++ [V.bl (hasW r)]))
            have : hasW r = decide (V.str x0 = V.str "width") := by
              unfold hasW
              rw [er]
              refine decide_eq_decide.mpr ⟨fun y => ?_, fun y => ?_⟩
              · rw [Option.some.inj y]
              · rw [V.str.inj y]; rfl
            rw [this]
        · rintro H4 ⟨k4, hF⟩
          rw [hU.len, List.take_length] at hF
          have hE4 := k4.kp _ _ (by simp) hE
          have kA : KT [] H1 H4 := k2.trans (k3.trans k4)
          have kH : KT T.Ps H H4 := (k1.trans kA).mono (by simp)
          have tb4 : TbA T H4 := tb.same (k1.trans kA)
          have hU4 : P2 (RowX D2 H4) us (toldS ws) := hU.mono fun v d h => h.keep k4
          have rows : P2 (RowAt H4) us ((toldS ws).map toRw) := hU4.mapm fun v d m h => by
            obtain ⟨t, a, rfl, _, h1, h2⟩ := h
            refine ⟨t, a, rfl, h1, ?_⟩
            rw [h2]
            show some (HO.lst (d.2.map V.str)) = some (HO.lst ((d.2.headD "" :: d.2.tail).map V.str))
            cases e : d.2 with
            | nil => exact absurd e (told_ne m)
            | cons x y => rfl
          have wds : ∀ r ∈ (toldS ws).map toRw, WdOk TA r.2.1 r.2.2 ∧ r.1 ≤ 100000 := fun r m => by
            obtain ⟨d, md, rfl⟩ := List.mem_map.mp m
            exact ⟨wok d md, Nat.le_trans (told_num md) (Nat.le_trans wl1 (by decide))⟩
          have tln : ((toldS ws).map toRw).length ≤ 1000 := by rw [List.length_map]; exact Nat.le_trans (told_len ws) wl1
          refine ⟨D3, (toldS ws).map hasW, rfl, SqL.of hF, _, rfl, ?_⟩
          have ea : ((toldS ws).map hasW).any id = (toldS ws).any hasW := by rw [List.any_map]; rfl
          rw [ea]
          cases eh : (toldS ws).any hasW with
          | false =>
            have eall : ((toldS ws).map toRw).all (fun r => decide (r.2.1 ≠ "width")) = true := by rw [all_any, eh]; rfl
            have erd : rdC ((toldS ws).map toRw) ws.length = .inl ((firstBad 32 ((toldS ws).map toRw)).getD (ws.length + 1)) := by
              unfold rdC
              rw [if_pos eall]
            refine ite_t rfl ?_
            refine ⟨_, rfl, D2, 32, us, (toldS ws).map toRw, rfl, by decide, hE4, rows, tln, wds, tb4, fun hg H5 t is k5 tb5 ht hI => ?_, fun l hl d H' k5 tb5 hd => ?_⟩
            · have fb := firstBad_none hg
              rw [fb] at erd
              refine ⟨_, rfl, R, _, rfl, .inl (SqL.of (k5.kp _ _ (lst_notP tb4 (kA.kp _ _ (by simp) hR)) (kA.kp _ _ (by simp) hR))), _, _, rfl, rfl, ?_⟩
              rw [List.length_map]
              exact raise_go (n := ws.length + 1) (by omega) fun d H' k6 hd => qe _ erd d H' ((kH.trans k5).trans (k6.mono (by simp))) (tb5.same k6) hd
            · rw [hl] at erd
              exact qe _ erd d H' (kH.trans k5) tb5 hd
          | true =>
            refine ite_f (by decide) ?_
            have eall : ¬ ((toldS ws).map toRw).all (fun r => decide (r.2.1 ≠ "width")) = true := by rw [all_any, eh]; decide
            cases et : toldS ws with
            | nil => rw [et] at eh; cases eh
            | cons r0 rs0 =>
              rw [et] at rows wds tln eall q qe
              obtain ⟨v0, us', rfl, h0, hr0⟩ : ∃ v0 us', us = v0 :: us' ∧ RowAt H4 v0 (toRw r0) ∧ P2 (RowAt H4) us' (rs0.map toRw) := by
                cases rows with
                | cons h g => exact ⟨_, _, rfl, h, g⟩
              obtain ⟨t, a, rfl, ht, ha⟩ := h0
              have w0 := wds (toRw r0) List.mem_cons_self
              have erd : rdC ((r0 :: rs0).map toRw) ws.length = match wdthL (((toRw r0).2.1 :: (toRw r0).2.2).map toL) with
                  | none => .inl (toRw r0).1
                  | some i => if inO 1 32 (some i) = true then match firstBad i.toNat (rs0.map toRw) with
                      | none => .inr (i, (rs0.map toRw).map insD)
                      | some l => .inl l
                    else .inl (toRw r0).1 := by
                unfold rdC
                rw [if_neg eall]
                rfl
              refine ⟨_, rfl, D2, _, 0, .ref t, rfl, rfl, SqL.of hE4, atI_nat (j := 0) rfl, t, a, (toRw r0).1, (toRw r0).2.1 :: (toRw r0).2.2, rfl, ht, ha, w0.2, by simp, ?_, tb4, fun H5 i k5 tb5 hw i1 i2 => ?_, fun hb d H' k5 tb5 hd => ?_⟩
              · intro x m
                rcases List.mem_cons.mp m with rfl | m
                · exact w0.1.2.1
                · exact (w0.1.2.2.2 x m).2
              · obtain ⟨n, rfl⟩ := Int.eq_ofNat_of_zero_le (show 0 ≤ i by omega)
                have io : inO 1 32 (some (n : Int)) = true := by
                  show (decide _ && decide _) = true
                  rw [decide_eq_true i1, decide_eq_true i2]
                  rfl
                rw [hw] at erd
                have erd : rdC ((r0 :: rs0).map toRw) ws.length = match firstBad n (rs0.map toRw) with
                      | none => .inr ((n : Int), (rs0.map toRw).map insD)
                      | some l => .inl l := by
                  rw [erd]
                  show (if inO 1 32 (some (n : Int)) = true then _ else _) = _
                  rw [if_pos io]
                  rfl
                have hE5 := k5.kp _ _ (lst_notP tb4 hE4) hE4
                refine ⟨_, rfl, _, rfl, 1, rfl, D2, _, rfl, SqL.of hE5, fun p np => ?_⟩
                rw [cutV1]
                have kp : KT T.Ps H5 (upd H5 p (.lst us')) := KT.new _ np
                have tbp : TbA T (upd H5 p (.lst us')) := tabG_upd (fun y => ps_new tb5 np (List.mem_singleton.mpr y.symm)) tb5
                refine ⟨_, rfl, p, n, us', rs0.map toRw, rfl, by omega, upd_same, hr0.mono fun v d h => (h.keep tb4 k5).keep tb5 kp, ?_, fun r m => wds r (List.mem_cons_of_mem _ m), tbp, fun hg H6 m is k6 tb6 hm hI => ?_, fun l hl d H' k6 tb6 hd => ?_⟩
                · rw [List.map_cons, List.length_cons] at tln
                  omega
                · rw [firstBad_none hg] at erd
                  refine ⟨(by show 2 ≤ sizeLine; decide), fun z nz => q _ (.ref z) _ (((kH.trans k5).trans (kp.trans k6)).trans (KT.new _ nz)) (tabG_upd (fun y => ps_new tb6 nz (List.mem_singleton.mpr y.symm)) tb6) erd ?_⟩
                  have kz : KT [] H6 (upd H6 z (.tup [.int (n : Int), .ref m])) := KT.new _ nz
                  exact ⟨z, m, is, rfl, upd_same, kz.tp _ _ hm, hI.mono fun v d h => h.keep kz⟩
                · rw [hl] at erd
                  exact qe l erd d H' ((kH.trans k5).trans (kp.trans k6)) tb6 hd
              · refine qe (toRw r0).1 ?_ d H' (kH.trans k5) tb5 hd
                rw [erd]
                cases ew : wdthL (((toRw r0).2.1 :: (toRw r0).2.2).map toL) with
                | none => rfl
                | some i =>
                  rw [ew] at hb
                  show (if inO 1 32 (some i) = true then _ else _) = _
                  rw [hb]
                  rfl
end

end My

set_option Elab.async false
set_option linter.all false
set_option maxRecDepth 100000
set_option maxHeartbeats 4000000
namespace My
open PySem PySem.Spec PyProof.Rows L2
/-! ### showing -/
theorem natL_lt : ∀ (k n : Nat), n < 10 ^ (k + 1) → (natL n).length ≤ k + 1
  | 0, n, h => by
    rw [natL_step, if_pos (by omega)]
    exact Nat.le_refl _
  | k + 1, n, h => by
    rw [natL_step]
    split
    · show 1 ≤ _
      omega
    · rw [List.length_append]
      have := natL_lt k (n / 10) (by rw [Nat.pow_succ] at h; omega)
      show _ + 1 ≤ _
      omega
def IntB (i : Int) : Prop := -9999999999 ≤ i ∧ i ≤ 9999999999
theorem intB_len {i : Int} (h : IntB i) : (Str.ofString (toString i)).length ≤ 11 := by
  rw [← toL_len, toL_int]
  obtain ⟨h1, h2⟩ := h
  cases i with
  | ofNat n =>
    have : n < 10 ^ (9 + 1) := by
      have : (Int.ofNat n) = (n : Int) := rfl
      omega
    exact Nat.le_trans (natL_lt 9 n this) (by decide)
  | negSucc n =>
    have : n + 1 < 10 ^ (9 + 1) := by omega
    show (natL (n + 1)).length + 1 ≤ 11
    exact Nat.succ_le_succ (natL_lt 9 _ this)
theorem intB_log {i : Int} (h : IntB i) : i.natAbs.log2 < 1920 := by
  by_cases z : i.natAbs = 0
  · rw [z]
    decide
  · rw [Nat.log2_lt z]
    refine Nat.lt_of_lt_of_le (show i.natAbs < 2 ^ 40 from ?_) (Nat.pow_le_pow_right (by decide) (by decide))
    have := h.1
    have := h.2
    omega
def partS (c : Nat) (i : Int) : Str := if c = 114 then "r" ++ Str.ofString (toString i) else Str.ofString (toString i)
theorem partS_len {c : Nat} {i : Int} (h : IntB i) : (partS c i).length ≤ 12 := by
  have := intB_len h
  unfold partS
  split
  · rw [app_len]
    exact Nat.add_le_add (show ("r" : Str).length ≤ 1 by decide +kernel) this
  · omega
def partsS (ks : Str) (ps : List Int) : List Str := ((toL ks).zip ps).map fun x => partS x.1 x.2
def lineS (op : Str) (ps : List Int) : Str := Str.join " " (op :: partsS (kdS op) ps)
theorem join_len (y : Str) : ∀ ps : List Str, (Str.join y ps).length ≤ ps.length * y.length + (ps.map Str.length).sum
  | [] => Nat.zero_le _
  | [p] => by
    show p.length ≤ _
    simp
  | p :: q :: r => by
    show (p ++ y ++ Str.join y (q :: r)).length ≤ _
    have := join_len y (q :: r)
    rw [app_len, app_len]
    simp only [List.length_cons, List.map_cons, List.sum_cons, Nat.add_mul] at *
    omega
theorem sum_le {l : List Str} {b : Nat} (h : ∀ x ∈ l, x.length ≤ b) : (l.map fun x => x.length).sum ≤ l.length * b := by
  induction l with
  | nil => exact Nat.zero_le _
  | cons x r ih =>
    have := ih fun y m => h y (List.mem_cons_of_mem _ m)
    have := h x List.mem_cons_self
    rw [List.map_cons, List.sum_cons, List.length_cons, Nat.add_mul]
    omega
theorem parts_all {ks : Str} {ps : List Int} (hb : ∀ i ∈ ps, IntB i) : ∀ x ∈ partsS ks ps, x.length ≤ 12 := by
  intro x m
  unfold partsS at m
  obtain ⟨⟨c, i⟩, hz, rfl⟩ := List.mem_map.mp m
  exact partS_len (hb i (List.of_mem_zip hz).2)
/-- what an instruction of the law is -/
def InsG (op : Str) (ps : List Int) : Prop := (∃ ks, kdOf op = some ks ∧ (toL ks).length = ps.length) ∧ op.length ≤ 100 ∧ ∀ i ∈ ps, IntB i
section
variable {P : Program} {w : World} {K : PySem.W.Frag} {mg : Str → Option Value} {base : Heap} {H : Hp}
def spShow (TA : TxA K mg w) : Sp := fun vs H Q _ => ∃ (t : Addr) (op : Str) (ps : List Int), vs = [.ref t] ∧ H t = some (.tup (.str op :: ps.map V.int)) ∧ InsG op ps ∧ KdA TA op ∧ ∀ H', KT [] H H' → Q (.str (lineS op ps)) H'
theorem ok_show_instruction (T : Txt K mg) (TA : TxA K mg w) : FnOk P w K mg base CX0 1 T.f_show_instruction T.d_show_instruction ["instruction"] (spShow TA) := by
  refine T.F_show_instruction.ok sc_show_instruction (fun vs H Q E h => ?_) (fun cdv A outer s H vs Q E hr h => ?_)
  · obtain ⟨t, op, ps, rfl, _⟩ := h
    rfl
  · obtain ⟨t, op, ps, rfl, ht, ⟨⟨ks, ek, le⟩, lo, hb⟩, kd, q⟩ := h
    refine ⟨_, (pss_cons (ps_set (i := 1) sc_show_instruction.nd rfl (Or.inl rfl) (pe_lst (pa_cons (pe_ix ix_tup (pv 0) pe_int (fun _ _ => rfl)) pa_nil)))
      (pss_cons (ps_for PassesOwn.never rfl (pi_zipS (by rfl) T.m_zip (pa_cons (pe_ix ix_kdict (pe_glob (v := .ref TA.a_PARTS) (by rfl) TA.m_PARTS rfl) (pe_ix ix_tup (pv 0) pe_int (fun _ _ => rfl)) (fun _ _ => rfl)) (pa_cons (pe_slice sl_tupA (pv 0) (po_some pe_int) po_none) pa_nil))) (pg_tup (by rfl) (pgs_cons (pg_name (i := 2) sc_show_instruction.nd rfl (Or.inl rfl)) (pgs_cons (pg_name (i := 3) sc_show_instruction.nd rfl (Or.inl rfl)) pgs_nil)))
        (pss_one (ps_expr (pe_bm PySem.F.plainAttrs_list PySem.F.slot_list_append PySem.F.type_list_append mt_append (pv 1) (pa_cons (pe_ifExp (pt_cmpR op_eq (pv 2) pe_str (nomark _)) (pe_joined (.cons pe_str (.cons (pe_fmt (pv 3)) .nil))) (pe_callTy call_str_int (by rfl) T.m_str (by decide +kernel) (pa_cons (pv 3) pa_nil))) pa_nil)))))
      (pss_one (ps_ret (pe_bm PySem.F.plainAttrs_str PySem.F.slot_str_join PySem.F.type_str_join mt_join pe_str (pa_cons (pv 1) pa_nil)))))), ?_⟩
    have at0 : atI (V.str op :: ps.map V.int) 0 = some (.str op) := atI_nat (j := 0) rfl
    have kd : KDgt K w TA.a_PARTS op (some (.str ks)) := by
      have := kd
      unfold KdA at this
      rw [ek] at this
      exact this
    have eks : kdS op = ks := by unfold kdS; rw [ek]; rfl
    have lk := kdS_len op
    rw [eks] at lk
    have lp3 : ps.length ≤ 3 := by rw [← le, toL_len]; exact lk
    refine ⟨_, rfl, t, _, 0, .str op, rfl, rfl, SqT.of ht, at0, (by show 1 ≤ sizeLine; decide), fun L nL => ?_⟩
    have k0 : KT [] H (upd H L (.lst [.str op])) := KT.new _ nL
    refine ⟨_, rfl, t, _, 0, .str op, rfl, rfl, SqT.of (k0.tp _ _ ht), at0, TA.a_PARTS, op, .str ks, rfl, rfl, kd.ix, ?_⟩
    refine ⟨_, rfl, 1, rfl, t, _, rfl, SqT.of (k0.tp _ _ ht), fun z => sIx1 z, fun _ z2 nz2 => ?_⟩
    rw [cutV1]
    have zL : z2 ≠ L := fun y => by rw [y, upd_same] at nz2; cases nz2
    refine ⟨ks, z2, _, rfl, SqT.of upd_same, ?_⟩
    have lps : (ps.map V.int).length = (toL ks).length := by rw [List.length_map, le]
    refine for_it (walk_zs (K := K) (b := z2) (x := ks) (ys := ps.map V.int) (n := (toL ks).length) (by show ks.cps.toList.length = _; simp) lps) (fun i σ H1 => ∃ x2 x3 : Option V, σ = [some (.ref t), some (.ref L), x2, x3] ∧ KT [] H H1 ∧ H1 z2 = some (.tup (ps.map V.int)) ∧
      H1 L = some (.lst ((op :: (((toL ks).zip ps).take i).map (fun x : Nat × Int => partS x.1 x.2)).map V.str))) ?_ ?_ ?_ ?_
    · exact ⟨none, none, rfl, k0.late (k0.free nz2), upd_same, by rw [upd_ne (Ne.symm zL), upd_same]; rfl⟩
    · rintro i σ H1 _ ⟨_, _, _, _, h, _⟩
      exact SqT.of h
    · rintro i x σ H1 H2 hi ⟨x2, x3, rfl, k, hz, hL⟩ ⟨U, c, y, rfl, nU, rfl, hc, hy⟩
      rw [List.getElem?_map] at hy
      obtain ⟨o, ho, rfl⟩ := Option.map_eq_some_iff.mp hy
      have hzp : ((toL ks).zip ps)[i]? = some (c, o) := by
        rw [List.getElem?_zip_eq_some]
        exact ⟨by rw [← hc]; exact Array.getElem?_toList, ho⟩
      have ob := hb o (List.mem_of_getElem? ho)
      have zU : z2 ≠ U := fun y => by rw [← y, hz] at nU; cases nU
      have LU : L ≠ U := fun y => by rw [← y, hL] at nU; cases nU
      have k2 : KT [] H (upd H1 U (.tup [.str ⟨#[c]⟩, .int o])) := k.late (k.free nU)
      have hL2 : (upd H1 U (.tup [.str ⟨#[c]⟩, .int o])) L = some (.lst ((op :: (((toL ks).zip ps).take i).map (fun x : Nat × Int => partS x.1 x.2)).map V.str)) := by rw [upd_ne LU]; exact hL
      have il : i < 4 := by rw [toL_len] at hi; omega
      have tk : ((toL ks).zip ps).take (i + 1) = ((toL ks).zip ps).take i ++ [(c, o)] := by rw [List.take_succ, hzp]; rfl
      refine ⟨U, _, rfl, SqT.of upd_same, rfl, _, _, rfl, _, _, rfl, rfl, ?_⟩
      refine ⟨_, rfl, .inl ⟨rfl, _, SqL.of hL2⟩, _, rfl, rfl, _, rfl, ?_⟩
      have ec : decide (V.str ⟨#[c]⟩ = V.str "r") = decide (c = 114) := chr_eqD c 114
      rw [ec]
      have app : ∀ v : Str, v = partS c o → (∃ l xs y, V.ref L = .ref l ∧ [V.str v] = [y] ∧ (upd H1 U (.tup [.str ⟨#[c]⟩, .int o])) l = some (.lst xs) ∧ xs.length < sizeLine ∧
          (fun H' => ∃ y2 y3 : Option V, [some (.ref t), some (.ref L), some (.str ⟨#[c]⟩), some (.int o)] = [some (.ref t), some (.ref L), y2, y3] ∧ KT [] H H' ∧ H' z2 = some (.tup (ps.map V.int)) ∧ H' L = some (.lst ((op :: (((toL ks).zip ps).take (i + 1)).map (fun x : Nat × Int => partS x.1 x.2)).map V.str)))
            (upd (upd H1 U (.tup [.str ⟨#[c]⟩, .int o])) l (.lst (xs ++ [y])))) := by
        rintro v rfl
        refine ⟨L, _, _, rfl, rfl, hL2, ?_, _, _, rfl, k2.late nL, by rw [upd_ne zL, upd_ne zU]; exact hz, ?_⟩
        · rw [List.length_map, List.length_cons, List.length_map]
          exact Nat.lt_of_le_of_lt (Nat.succ_le_succ (List.length_take_le _ _)) (Nat.lt_trans (show i + 1 < 6 by omega) (by decide))
        · rw [upd_same, tk, List.map_append, List.map_cons, List.map_cons, List.map_append]
          rfl
      refine ite2 (fun z => ?_) (fun z => ?_)
      · have z := of_decide_eq_true z
        refine ⟨"r", rfl, (by decide +kernel), _, rfl, .inr ⟨o, rfl, intB_log ob, _, rfl, ?_, ?_⟩⟩
        · rw [app_len]
          exact Nat.le_trans (Nat.add_le_add (show (Str.empty ++ ("r" : Str)).length ≤ 1 by decide +kernel) (intB_len ob)) (by decide)
        · refine app _ ?_
          unfold partS
          rw [if_pos z]
          refine toL_inj ?_
          rw [toL_app, toL_app, toL_app]
          rfl
      · have z : ¬ c = 114 := fun e => z (decide_eq_true e)
        refine ⟨_, rfl, o, rfl, intB_log ob, ?_⟩
        refine app _ ?_
        unfold partS
        rw [if_neg z]
    · rintro σ H1 ⟨x2, x3, rfl, k, hz, hL⟩
      rw [show ((toL ks).zip ps).take (toL ks).length = (toL ks).zip ps from List.take_of_length_le (by rw [List.length_zip]; omega)] at hL
      refine ⟨rfl, _, rfl, " ", L, _, rfl, rfl, .inl (SqL.of hL), ?_⟩
      have all : ∀ x ∈ op :: partsS ks ps, x.length ≤ 100 := fun x m => by
        rcases List.mem_cons.mp m with rfl | m
        · exact lo
        · exact Nat.le_trans (parts_all hb x m) (by decide)
      have ln : (op :: partsS ks ps).length ≤ 4 := by
        unfold partsS
        rw [List.length_cons, List.length_map, List.length_zip]
        omega
      refine ⟨?_, ?_⟩
      · refine Nat.le_trans (Nat.add_le_add (sum_le all) (Nat.mul_le_mul ln (show (" " : Str).length ≤ 1 by decide +kernel))) ?_
        refine Nat.le_trans (Nat.add_le_add (Nat.mul_le_mul ln (Nat.le_refl 100)) (Nat.le_refl _)) (by decide)
      · have e : Txt.join " " (op :: partsS ks ps) = lineS op ps := by
          rw [joinT]
          unfold lineS
          rw [eks]
        have := q _ k
        rw [← e] at this
        exact this
end

end My

set_option Elab.async false
set_option linter.all false
set_option maxRecDepth 100000
set_option maxHeartbeats 4000000
namespace My
open PySem PySem.Spec PyProof.Rows L2
/-! ### the text of a machine -/
def widS (n : Int) : Str := "width " ++ Str.ofString (toString n)
def linesS (n : Int) (code : List (Str × List Int)) : List Str := widS n :: code.map fun d => lineS d.1 d.2
def textS (ls : List Str) : Str := Str.join "\n" ls ++ "\n"
theorem join_nl : ∀ {ls : List Str}, ls ≠ [] → Str.join "" (ls.map fun l => l ++ "\n") = textS ls
  | [], h => absurd rfl h
  | [p], _ => rfl
  | p :: q :: r, _ => by
    have ih := join_nl (ls := q :: r) (by simp)
    refine toL_inj ?_
    show toL ((p ++ "\n") ++ "" ++ Str.join "" ((q :: r).map fun l => l ++ "\n")) = toL ((p ++ "\n" ++ Str.join "\n" (q :: r)) ++ "\n")
    rw [ih]
    unfold textS
    simp only [toL_app]
    show _ ++ [] ++ _ = _
    simp
theorem line_len {op : Str} {ps : List Int} (h : InsG op ps) : (lineS op ps).length ≤ 200 := by
  obtain ⟨⟨ks, ek, le⟩, lo, hb⟩ := h
  have eks : kdS op = ks := by unfold kdS; rw [ek]; rfl
  have lk := kdS_len op
  unfold lineS
  rw [eks] at *
  have lp : (partsS ks ps).length ≤ 3 := by
    unfold partsS
    rw [List.length_map, List.length_zip, toL_len]
    omega
  have j := join_len " " (op :: partsS ks ps)
  have e1 : (" " : Str).length = 1 := by decide +kernel
  have s1 := sum_le (parts_all (ks := ks) hb)
  have s1 : ((partsS ks ps).map Str.length).sum ≤ (partsS ks ps).length * 12 := s1
  rw [List.map_cons, List.sum_cons, e1, List.length_cons] at j
  omega
theorem wid_len {n : Int} (h : IntB n) : (widS n).length ≤ 20 := by
  unfold widS
  rw [app_len]
  exact Nat.le_trans (Nat.add_le_add (show ("width " : Str).length ≤ 6 by decide +kernel) (intB_len h)) (by decide)
structure CodeG (n : Int) (code : List (Str × List Int)) : Prop where
  nb : IntB n
  ln : code.length ≤ 10
  ins : ∀ d ∈ code, InsG d.1 d.2
theorem linesS_len {n : Int} {code : List (Str × List Int)} (g : CodeG n code) : (linesS n code).length ≤ 11 ∧ ∀ l ∈ linesS n code, l.length ≤ 200 := by
  refine ⟨?_, fun l m => ?_⟩
  · unfold linesS
    rw [List.length_cons, List.length_map]
    exact Nat.succ_le_succ g.ln
  · rcases List.mem_cons.mp m with rfl | m
    · exact Nat.le_trans (wid_len g.nb) (by decide)
    · obtain ⟨d, hd, rfl⟩ := List.mem_map.mp m
      exact line_len (g.ins d hd)
def MacI (H : Hp) (v : V) (n : Int) (code : List (Str × List Int)) : Prop := ∃ t u vs, v = .ref t ∧ H t = some (.tup [.int n, .ref u]) ∧ H u = some (.tup vs) ∧ P2 (InsV H) vs code
section
variable {P : Program} {w : World} {K : PySem.W.Frag} {mg : Str → Option Value} {base : Heap} {H : Hp}
def spShowC (TA : TxA K mg w) : Sp := fun vs H Q _ => ∃ (v : V) (n : Int) (code : List (Str × List Int)), vs = [v] ∧ MacI H v n code ∧ CodeG n code ∧ (∀ d ∈ code, KdA TA d.1) ∧ ∀ H', KT [] H H' → Q (.str (textS (linesS n code))) H'
theorem InsV.keep {S : List Addr} {H' : Hp} (k : KT S H H') {v : V} {d : Str × List Int} (h : InsV H v d) : InsV H' v d := by
  obtain ⟨u, rfl, h1⟩ := h
  exact ⟨u, rfl, k.tp _ _ h1⟩
theorem ok_show_code (T : Txt K mg) (TA : TxA K mg w) : FnOk P w K mg base CX0 2 T.f_show_code T.d_show_code ["machine"] (spShowC TA) := by
  have G_show_instruction := ok_show_instruction (P := P) (w := w) (base := base) T TA
  refine T.F_show_code.ok sc_show_code (fun vs H Q E h => ?_) (fun cdv A outer s H vs Q E hr h => ?_)
  · obtain ⟨v, n, code, rfl, _⟩ := h
    rfl
  · obtain ⟨v, n, code, rfl, ⟨t, u, vs, rfl, ht, hu, hp⟩, g, kd, q⟩ := h
    have hr : Room 1 _ := hr
    refine ⟨_, (pss_cons (ps_asg (pv 0) (pg_tup (by rfl) (pgs_cons (pg_name (i := 1) sc_show_code.nd rfl (Or.inl rfl)) (pgs_cons (pg_name (i := 2) sc_show_code.nd rfl (Or.inl rfl)) pgs_nil))))
      (pss_cons (ps_set (i := 3) sc_show_code.nd rfl (Or.inl rfl) (pe_op op_cat (pe_lst (pa_cons (pe_joined (.cons pe_str (.cons (pe_fmt (pv 1)) .nil))) pa_nil)) (pe_lc (own := [("instruction", 4)]) (g := gName 4) (by rfl) sc_show_code.nd (pi_tup (pv 2)) (blkOk_by (own := [("instruction", 4)]) (N := N_show_code) (sc := defScope s_show_code) (by decide +kernel)) (fun _ _ _ _ _ => (pg_name (i := 4) sc_show_code.nd rfl (Or.inl rfl))) (fun _ _ _ _ _ => pts_nil) (fun _ _ _ _ _ => (pe_call G_show_instruction (hr.mono (by omega)) (by rfl) T.g_show_instruction T.F_show_instruction.kp T.b_show_instruction .nil pass0 (pa_cons (pv 4) pa_nil))))))
      (pss_one (ps_ret (pe_bm PySem.F.plainAttrs_str PySem.F.slot_str_join PySem.F.type_str_join mt_join pe_str (pa_cons (pe_lc (own := [("line", 5)]) (g := gName 5) (by rfl) sc_show_code.nd (pi_list (pv 3)) (blkOk_by (own := [("line", 5)]) (N := N_show_code) (sc := defScope s_show_code) (by decide +kernel)) (fun _ _ _ _ _ => (pg_name (i := 5) sc_show_code.nd rfl (Or.inl rfl))) (fun _ _ _ _ _ => pts_nil) (fun _ _ _ _ _ => (pe_op op_add_str (pv 5) pe_str))) pa_nil)))))), ?_⟩
    refine ⟨_, rfl, t, _, rfl, SqT.of ht, rfl, _, _, rfl, _, _, rfl, rfl, ?_⟩
    refine ⟨"width ", rfl, (by decide +kernel), _, rfl, .inr ⟨n, rfl, intB_log g.nb, _, rfl, ?_, ?_⟩⟩
    · rw [app_len]
      exact Nat.le_trans (Nat.add_le_add (show (Str.empty ++ ("width " : Str)).length ≤ 6 by decide +kernel) (intB_len g.nb)) (by decide)
    refine ⟨(by show 1 ≤ sizeLine; decide), fun A1 nA1 => ?_⟩
    have ew : (Str.empty ++ ("width " : Str)) ++ Str.ofString (toString n) = widS n := toL_inj (by unfold widS; rw [toL_app, toL_app, toL_app]; rfl)
    have k1 : KT [] H (upd H A1 (.lst [.str (widS n)])) := KT.new _ nA1
    rw [ew]
    refine ⟨_, rfl, u, rfl, ⟨_, SqT.of (k1.tp _ _ hu)⟩, fun D nD => ?_⟩
    have AD : A1 ≠ D := fun y => by rw [← y, upd_same] at nD; cases nD
    refine lc_it (tt := tYes) (walk_tup (K := K) (a := u) (xs := vs)) (fun i H2 => KT [] (upd H A1 (.lst [.str (widS n)])) H2 ∧ H2 D = some (.lst (((code.take i).map fun d => lineS d.1 d.2).map V.str))) ?_ ?_ ?_ ?_
    · exact ⟨KT.new _ nD, upd_same⟩
    · rintro i H2 _ ⟨k, _⟩
      exact SqT.of ((k1.trans k).tp _ _ hu)
    · rintro i x H2 H3 hi ⟨k, hD⟩ ⟨rfl, hx⟩
      obtain ⟨d, hd, hv⟩ := hp.get hx
      obtain ⟨z, rfl, hz⟩ := hv.keep (k1.trans k)
      have dm := List.mem_of_getElem? hd
      refine ⟨rfl, yes_go (ite_t rfl ?_)⟩
      refine ⟨_, rfl, z, d.1, d.2, rfl, hz, g.ins d dm, kd d dm, fun H4 k4 => ⟨_, k4.kp _ _ (by simp) hD, ?_, (k.trans k4).late nD, ?_⟩⟩
      · rw [List.length_map, List.length_map]
        exact Nat.lt_of_le_of_lt (Nat.le_trans (List.length_take_le' _ _) g.ln) (by decide)
      · rw [upd_same, List.take_succ, hd, List.map_append, List.map_append]
        rfl
    · rintro H2 ⟨k2, hD⟩
      rw [hp.len, List.take_length] at hD
      have hA := k2.kp _ _ (by simp) (show (upd H A1 (.lst [.str (widS n)])) A1 = _ from upd_same)
      refine ⟨A1, D, _, _, rfl, rfl, hA, hD, (by show 1 + _ ≤ _; rw [List.length_map, List.length_map]; exact Nat.le_trans (Nat.add_le_add_left g.ln 1) (by decide)), fun B nB => ?_⟩
      have k3 : KT [] H2 (upd H2 B (.lst ([.str (widS n)] ++ (code.map fun d => lineS d.1 d.2).map V.str))) := KT.new _ nB
      have gl := linesS_len g
      have hB : (upd H2 B (.lst ([.str (widS n)] ++ (code.map fun d => lineS d.1 d.2).map V.str))) B = some (.lst ((linesS n code).map V.str)) := upd_same
      refine ⟨rfl, _, rfl, B, rfl, ⟨_, SqL.of hB⟩, fun F nF => ?_⟩
      have BF : B ≠ F := fun y => by rw [← y, upd_same] at nF; cases nF
      refine lc_it (tt := tYes) (walk_list (K := K) (a := B) (xs := (linesS n code).map V.str)) (fun i H4 => KT [] (upd H2 B (.lst ([.str (widS n)] ++ (code.map fun d => lineS d.1 d.2).map V.str))) H4 ∧ H4 F = some (.lst ((((linesS n code).take i).map fun l => l ++ ("\n" : Str)).map V.str))) ?_ ?_ ?_ ?_
      · exact ⟨KT.new _ nF, upd_same⟩
      · rintro i H4 _ ⟨k, _⟩
        exact SqL.of (k.kp _ _ (by simp) hB)
      · rintro i x H4 H5 hi ⟨k, hF⟩ ⟨rfl, hx⟩
        rw [List.getElem?_map] at hx
        obtain ⟨l, hl, rfl⟩ := Option.map_eq_some_iff.mp hx
        have ll := gl.2 l (List.mem_of_getElem? hl)
        refine ⟨rfl, yes_go (ite_t rfl ?_)⟩
        refine ⟨_, rfl, l, "\n", rfl, rfl, Nat.le_trans (Nat.add_le_add ll (show ("\n" : Str).length ≤ 1 by decide +kernel)) (by decide), _, hF, ?_, k.late nF, ?_⟩
        · rw [List.length_map, List.length_map]
          exact Nat.lt_of_le_of_lt (Nat.le_trans (List.length_take_le' _ _) gl.1) (by decide)
        · rw [upd_same, List.take_succ, hl, List.map_append, List.map_append]
          rfl
      · rintro H4 ⟨k4, hF⟩
        rw [List.length_map, List.take_length] at hF
        refine ⟨"", F, _, rfl, rfl, .inl (SqL.of hF), ?_, ?_⟩
        · have al : ∀ x ∈ (linesS n code).map (fun l => l ++ ("\n" : Str)), x.length ≤ 201 := fun x m => by
            obtain ⟨l, hl, rfl⟩ := List.mem_map.mp m
            rw [app_len]
            exact Nat.add_le_add (gl.2 l hl) (show ("\n" : Str).length ≤ 1 by decide +kernel)
          have s1 := sum_le al
          rw [List.length_map] at *
          have := gl.1
          have e0 : ("" : Str).length = 0 := by decide +kernel
          rw [e0]
          have : (linesS n code).length * 201 ≤ 11 * 201 := Nat.mul_le_mul this (Nat.le_refl _)
          omega
        · have e : Txt.join "" ((linesS n code).map fun l => l ++ ("\n" : Str)) = textS (linesS n code) := by
            rw [joinT]
            exact join_nl (by unfold linesS; simp)
          rw [e]
          exact q _ (k1.trans (k2.trans (k3.trans k4)))
end

end My

set_option Elab.async false
set_option linter.all false
set_option maxRecDepth 100000
set_option maxHeartbeats 4000000
namespace My
open PySem PySem.Spec PyProof.Rows L2
/-! ### the law's line -/
theorem kd_sh : ∀ k, k < 30 → kdOf (wdL.getD k "") = some (shapeOf (wdL.getD k "")) := by decide +kernel
theorem wd_len : ∀ k, k < 30 → (wdL.getD k "").length ≤ 6 := by decide +kernel
def WdIn (op : Str) : Prop := ∃ k, k < 30 ∧ op = wdL.getD k ""
section
variable {P : Program} {w : World} {K : PySem.W.Frag} {mg : Str → Option Value} {base : Heap} {H : Hp}
def spLL : Sp := fun vs H Q _ => ∃ (t : Addr) (op : Str) (ps : List Int), vs = [.ref t] ∧ H t = some (.tup (.str op :: ps.map V.int)) ∧ InsG op ps ∧ WdIn op ∧ ∀ H', KT [] H H' → Q (.str (lineS op ps)) H'
theorem ok_z_line (T : Txt K mg) : FnOk P w K mg base CX0 2 T.f_z_line T.d_z_line ["ins"] spLL := by
  have G_z_shapes := ok_z_shapes (P := P) (w := w) (base := base) T
  refine T.F_z_line.ok sc_z_line (fun vs H Q E h => ?_) (fun cdv A outer s H vs Q E hr h => ?_)
  · obtain ⟨t, op, ps, rfl, _⟩ := h
    rfl
  · obtain ⟨t, op, ps, rfl, ht, ⟨⟨ks, ek, le⟩, lo, hb⟩, ⟨kk, hkk, rfl⟩, q⟩ := h
    have hr : Room 1 _ := hr
    refine ⟨_, (pss_cons (ps_set (i := 1) sc_z_line.nd rfl (Or.inl rfl) (pe_dget (hu_of hr) (pe_call0 G_z_shapes (hr.mono (by omega)) (by rfl) T.g_z_shapes T.F_z_shapes.kp T.b_z_shapes .nil pass0) (pe_ix ix_tup (pv 0) pe_int (fun _ _ => rfl)) (fun _ _ => rfl)))
      (pss_cons (ps_set (i := 2) sc_z_line.nd rfl (Or.inl rfl) (pe_lst (pa_cons (pe_ix ix_tup (pv 0) pe_int (fun _ _ => rfl)) pa_nil)))
      (pss_cons (ps_for PassesOwn.never rfl (pi_range1 (by rfl) T.m_range (pa_cons (pe_callB call_len_str (by rfl) T.m_len (by decide +kernel) (pa_cons (pv 1) pa_nil)) pa_nil)) (pg_name (i := 3) sc_z_line.nd rfl (Or.inl rfl))
        (pss_one (ps_expr (pe_bm PySem.F.plainAttrs_list PySem.F.slot_list_append PySem.F.type_list_append mt_append (pv 2) (pa_cons (pe_op op_add_str (pe_ix ix_list (pe_lst (pa_cons pe_str (pa_cons pe_str pa_nil))) (pe_callTy call_int1 (by rfl) T.m_int (by decide +kernel) (pa_cons (pe_cmpR op_eq (pe_ix ix_str (pv 1) (pv 3) (fun _ _ => rfl)) pe_str (nomark _)) pa_nil)) (fun _ _ => rfl)) (pe_callTy call_str_int (by rfl) T.m_str (by decide +kernel) (pa_cons (pe_ix ix_tup (pv 0) (pe_op op_add (pv 3) pe_int) (fun _ _ => rfl)) pa_nil))) pa_nil)))))
      (pss_one (ps_ret (pe_bm PySem.F.plainAttrs_str PySem.F.slot_str_join PySem.F.type_str_join mt_join pe_str (pa_cons (pv 2) pa_nil))))))), ?_⟩
    rw [kd_sh kk hkk] at ek
    obtain rfl := Option.some.inj ek
    have eks : kdS (wdL.getD kk "") = shapeOf (wdL.getD kk "") := by unfold kdS; rw [kd_sh kk hkk]; rfl
    have at0 : atI (V.str (wdL.getD kk "") :: ps.map V.int) 0 = some (.str (wdL.getD kk "")) := atI_nat (j := 0) rfl
    have lk := kdS_len (wdL.getD kk "")
    rw [eks] at lk
    refine ⟨rfl, fun p H1 k1 hp => ?_⟩
    have hval := sh_val kk hkk
    refine ⟨_, rfl, t, _, 0, _, rfl, rfl, SqT.of (k1.tp _ _ ht), at0, p, _, rfl, dget_s hp hval, ?_⟩
    refine ⟨_, rfl, t, _, 0, _, rfl, rfl, SqT.of (k1.tp _ _ ht), at0, (by show 1 ≤ sizeLine; decide), fun L nL => ?_⟩
    have k2 : KT [] H1 (upd H1 L (.lst [.str (wdL.getD kk "")])) := KT.new _ nL
    refine ⟨_, rfl, _, rfl, Nat.le_trans lk (by decide), _, rfl, ?_⟩
    generalize wdL.getD kk "" = op at *
    refine ⟨by omega, by have : (shapeOf op).length < 100 := by omega
                         omega, ?_⟩
    refine for_it (walk_range (lo := 0) (n := (shapeOf op).length)) (fun i σ H1 => ∃ x3 : Option V, σ = [some (.ref t), some (.str (shapeOf op)), some (.ref L), x3] ∧ KT [] H H1 ∧
      H1 L = some (.lst ((op :: (((toL (shapeOf op)).zip ps).take i).map (fun x : Nat × Int => partS x.1 x.2)).map V.str))) ?_ ?_ ?_ ?_
    · exact ⟨none, rfl, k1.trans k2, upd_same⟩
    · intro i σ H1 _ _
      trivial
    · rintro i x σ H2 H3 hi ⟨x3, rfl, k, hL⟩ ⟨rfl, rfl⟩
      obtain ⟨c, hc⟩ : ∃ c, (toL (shapeOf op))[i]? = some c := ⟨_, List.getElem?_eq_getElem (by rw [toL_len]; exact hi)⟩
      obtain ⟨o, ho⟩ : ∃ o, ps[i]? = some o := ⟨_, List.getElem?_eq_getElem (by rw [← le, toL_len]; exact hi)⟩
      have hzp : ((toL (shapeOf op)).zip ps)[i]? = some (c, o) := by
        rw [List.getElem?_zip_eq_some]
        exact ⟨hc, ho⟩
      have ob := hb o (List.mem_of_getElem? ho)
      have tk : ((toL (shapeOf op)).zip ps).take (i + 1) = ((toL (shapeOf op)).zip ps).take i ++ [(c, o)] := by rw [List.take_succ, hzp]; rfl
      have ec : decide (V.str ⟨#[c]⟩ = V.str "r") = decide (c = 114) := chr_eqD c 114
      have hat : atI (V.str op :: ps.map V.int) ((i : Nat) + 1 : Int) = some (.int o) := by
        have : ((i : Nat) + 1 : Int) = ((i + 1 : Nat) : Int) := by omega
        rw [this]
        refine atI_nat ?_
        rw [List.getElem?_cons_succ, List.getElem?_map, ho]
        rfl
      refine ⟨_, rfl, .inl ⟨rfl, _, SqL.of hL⟩, (by show 2 ≤ sizeLine; decide), fun p2 np2 => ?_⟩
      have k3 : KT [] H3 (upd H3 p2 (.lst [.str "", .str "r"])) := KT.new _ np2
      have hL3 := k3.kp _ _ (by simp) hL
      refine ⟨_, rfl, _, rfl, _, _, c, rfl, rfl, Nat.le_trans lk (by decide), by rw [Int.zero_add]; exact atI_nat hc, rfl, .inr ⟨_, rfl, ?_⟩⟩
      rw [ec]
      have lenL : ((op :: (((toL (shapeOf op)).zip ps).take i).map (fun x : Nat × Int => partS x.1 x.2)).map V.str).length < sizeLine := by
        rw [List.length_map, List.length_cons, List.length_map]
        have : i < 4 := by omega
        exact Nat.lt_of_le_of_lt (Nat.succ_le_succ (List.length_take_le _ _)) (Nat.lt_trans (show i + 1 < 6 by omega) (by decide))
      by_cases z : c = 114
      · rw [decide_eq_true z]
        refine ⟨p2, _, 1, .str "r", rfl, rfl, SqL.of upd_same, atI_nat (j := 1) rfl, _, rfl, _, rfl, _, _, rfl, rfl, t, _, _, .int o, rfl, rfl, SqT.of ((k.trans k3).tp _ _ ht), by rw [Int.zero_add]; exact hat, o, rfl, intB_log ob, "r", _, rfl, rfl, Nat.le_trans (Nat.add_le_add (show ("r" : Str).length ≤ 1 by decide +kernel) (intB_len ob)) (by decide), L, _, _, rfl, rfl, hL3, ?_, _, rfl, (k.trans k3).late (k1.free nL), ?_⟩
        · exact lenL
        · have e : ("r" : Str) ++ Str.ofString (toString o) = partS c o := by
            unfold partS
            rw [if_pos z]
            
            
            
          rw [upd_same, e, tk, List.map_append, List.map_cons, List.map_cons, List.map_append]
          rfl
      · rw [decide_eq_false z]
        refine ⟨p2, _, 0, .str "", rfl, rfl, SqL.of upd_same, atI_nat (j := 0) rfl, _, rfl, _, rfl, _, _, rfl, rfl, t, _, _, .int o, rfl, rfl, SqT.of ((k.trans k3).tp _ _ ht), by rw [Int.zero_add]; exact hat, o, rfl, intB_log ob, "", _, rfl, rfl, Nat.le_trans (Nat.add_le_add (show ("" : Str).length ≤ 1 by decide +kernel) (intB_len ob)) (by decide), L, _, _, rfl, rfl, hL3, ?_, _, rfl, (k.trans k3).late (k1.free nL), ?_⟩
        · exact lenL
        · have e : ("" : Str) ++ Str.ofString (toString o) = partS c o := by
            unfold partS
            rw [if_neg z]
            refine toL_inj ?_
            rw [toL_app]
            rfl
          rw [upd_same, e, tk, List.map_append, List.map_cons, List.map_cons, List.map_append]
          rfl
    · rintro σ H2 ⟨x3, rfl, k, hL⟩
      rw [show ((toL (shapeOf op)).zip ps).take (shapeOf op).length = (toL (shapeOf op)).zip ps from List.take_of_length_le (by rw [List.length_zip, toL_len]; omega)] at hL
      refine ⟨rfl, _, rfl, " ", L, _, rfl, rfl, .inl (SqL.of hL), ?_⟩
      have all : ∀ x ∈ op :: partsS (shapeOf op) ps, x.length ≤ 100 := fun x m => by
        rcases List.mem_cons.mp m with rfl | m
        · exact lo
        · exact Nat.le_trans (parts_all hb x m) (by decide)
      have ln : (op :: partsS (shapeOf op) ps).length ≤ 4 := by
        unfold partsS
        rw [List.length_cons, List.length_map, List.length_zip, toL_len]
        omega
      refine ⟨?_, ?_⟩
      · refine Nat.le_trans (Nat.add_le_add (sum_le all) (Nat.mul_le_mul ln (show (" " : Str).length ≤ 1 by decide +kernel))) ?_
        refine Nat.le_trans (Nat.add_le_add (Nat.mul_le_mul ln (Nat.le_refl 100)) (Nat.le_refl _)) (by decide)
      · have e : Txt.join " " (op :: partsS (shapeOf op) ps) = lineS op ps := by
          rw [joinT]
          unfold lineS
          rw [eks]
        have := q _ k
        rw [← e] at this
        exact this
end

end My

set_option Elab.async false
set_option linter.all false
set_option maxRecDepth 100000
set_option maxHeartbeats 4000000
namespace My
open PySem PySem.Spec PyProof.Rows L2
/-! ### the line that is told -/
section
variable {P : Program} {w : World} {K : PySem.W.Frag} {mg : Str → Option Value} {base : Heap} {H : Hp}
def rdT (s : Str) : Nat ⊕ (Int × List Ins) := rdC ((toldS ((linL (toL s)).map ofL)).map toRw) (linL (toL s)).length
def toldN : Nat ⊕ (Int × List Ins) → Nat
  | .inl l => l
  | .inr _ => 0
def spTold (T : Txt K mg) (TA : TxA K mg w) : Sp := fun vs H Q _ => ∃ (s : Str), vs = [.str s] ∧ s.length ≤ 100000 ∧ LinesOk TA ((linL (toL s)).map ofL) ∧ TbA T H ∧
  ∀ H', KT T.Ps H H' → TbA T H' → Q (.int (toldN (rdT s))) H'
theorem ok_z_told (T : Txt K mg) (TB : TBs T base) (TA : TxA K mg w) : FnOk P w K mg base CX0 8 T.f_z_told T.d_z_told ["text"] (spTold T TA) := by
  have G_read_code := ok_read_code (P := P) (w := w) T TB TA
  refine T.F_z_told.ok sc_z_told (fun vs H Q E h => ?_) (fun cdv A outer s H vs Q E hr h => ?_)
  · obtain ⟨a, rfl, _⟩ := h
    rfl
  · obtain ⟨s, rfl, sl, lok, tb, q⟩ := h
    have hr : Room 7 _ := hr
    refine ⟨_, (pss_cons (ps_try_as (i := 1) rfl rfl sc_z_told.nd rfl rfl ⟨rfl, by decide, .inl T.x_g⟩ takes0 (fun W pn xe tk _ => (pss_one (ps_expr (pe_callS G_read_code (hr.mono (by omega)) (by rfl) T.g_read_code T.F_read_code.kp T.b_read_code (fun σ => passAt tk σ) (pa_cons (pv 0) pa_nil))))) (fun a oe cls d pn hz hf => (pss_one (ps_ret (pe_xf T.x_c T.x_l hz hf (pv 1))))))
      (pss_one (ps_ret pe_int))), ?_⟩
    refine ⟨_, rfl, s, rfl, sl, lok, tb, fun H1 v m k1 t1 e hm => ?_, fun l e d H1 k1 t1 hd => ?_⟩
    · have h := q H1 k1 t1
      have er : rdT s = .inr m := e
      rw [er] at h
      exact h
    · have h := q H1 k1 t1
      have er : rdT s = .inl l := e
      rw [er] at h
      exact ⟨true, T.x_s, fun _ a na => ⟨_, rfl, rfl, rfl, d, _, _, rfl, hd, rfl, h⟩, fun z => by cases z⟩
end

end My

set_option Elab.async false
set_option linter.all false
set_option maxRecDepth 100000
set_option maxHeartbeats 4000000
namespace My
open PySem PySem.Spec PyProof.Rows L2
/-! ### words of loose lines -/
theorem wds_sp (l : List Nat) : wdsL (32 :: l) = wdsL l := by
  unfold wdsL
  have e : pcs 32 (32 :: l) = [[]] ++ pcs 32 l := by
    rw [pcs, if_pos rfl]
    rfl
  rw [e, cutW_app (by intro p m; rw [List.mem_singleton.mp m]; decide)]
  rfl
/-- a word -/
def GW (w : List Nat) : Prop := w ≠ [] ∧ 32 ∉ w ∧ 10 ∉ w ∧ 35 ∉ w
theorem GW.hd {w : List Nat} (g : GW w) : w.head? ≠ some 35 := fun h => g.2.2.2 (List.mem_of_mem_head? h)
theorem wds_cons {w l : List Nat} (g : GW w) : wdsL (w ++ 32 :: l) = w :: wdsL l := by
  unfold wdsL
  rw [pcs_app, pcs_free g.2.1, cutW_app (by intro p m; rw [List.mem_singleton.mp m]; exact g.hd)]
  simp [g.1]
theorem wds_one {w : List Nat} (g : GW w) : wdsL w = [w] := by
  unfold wdsL
  rw [pcs_free g.2.1, cutW_none (by intro p m; rw [List.mem_singleton.mp m]; exact g.hd)]
  simp [g.1]
theorem pcs_head (c : Nat) : ∀ l : List Nat, ∃ p ps, pcs c l = p :: ps := fun l => by
  cases h : pcs c l with
  | nil => exact absurd h (pcs_ne c l)
  | cons p ps => exact ⟨p, ps, rfl⟩
theorem wds_hash (l : List Nat) : wdsL (35 :: l) = [] := by
  unfold wdsL
  obtain ⟨p, ps, e⟩ := pcs_head 32 l
  have e2 : pcs 32 (35 :: l) = [] ++ (35 :: p) :: ps := by
    rw [pcs, if_neg (by decide), e]
    rfl
  rw [e2, cutW_stop (by intro p m; cases m) rfl]
  rfl
def TailOk (b : List Nat) : Prop := ∀ w, GW w → wdsL (w ++ b) = [w]
theorem tail_nil : TailOk [] := fun w g => by rw [List.append_nil]; exact wds_one g
theorem tail_sp {l : List Nat} (h : wdsL l = []) : TailOk (32 :: l) := fun w g => by rw [wds_cons g, h]
def SepOk (z : List Nat) : Prop := z = [32] ∨ z = [32, 32]
theorem wds_join {z b : List Nat} (hz : SepOk z) (hb : TailOk b) : ∀ {ws : List (List Nat)}, ws ≠ [] → (∀ w ∈ ws, GW w) → wdsL (joinL z ws ++ b) = ws
  | [], h, _ => absurd rfl h
  | [w], _, h => hb w (h w List.mem_cons_self)
  | w :: q :: r, _, h => by
    have ih := wds_join hz hb (ws := q :: r) (by simp) fun x m => h x (List.mem_cons_of_mem _ m)
    show wdsL (w ++ z ++ joinL z (q :: r) ++ b) = _
    have gw := h w List.mem_cons_self
    rcases hz with rfl | rfl
    · rw [List.append_assoc, List.append_assoc]
      show wdsL (w ++ 32 :: (joinL [32] (q :: r) ++ b)) = _
      rw [wds_cons gw, ih]
    · rw [List.append_assoc, List.append_assoc]
      show wdsL (w ++ 32 :: 32 :: (joinL [32, 32] (q :: r) ++ b)) = _
      rw [wds_cons gw, wds_sp, ih]
theorem join_mem {c : Nat} {z : List Nat} (hc : c ∉ z) : ∀ {ws : List (List Nat)}, (∀ w ∈ ws, c ∉ w) → c ∉ joinL z ws
  | [], _, m => by cases m
  | [w], h, m => h w List.mem_cons_self m
  | w :: q :: r, h, m => by
    have m : c ∈ w ++ z ++ joinL z (q :: r) := m
    rcases List.mem_append.mp m with m | m
    · rcases List.mem_append.mp m with m | m
      · exact h w List.mem_cons_self m
      · exact hc m
    · exact join_mem hc (fun x m => h x (List.mem_cons_of_mem _ m)) m
theorem rep_len {z : List Nat} (hz : z.length ≤ 2) (c : Nat) : ∀ l : List Nat, (joinL z (pcs c l)).length ≤ 2 * l.length
  | [] => Nat.zero_le _
  | x :: r => by
    have ih := rep_len hz c r
    obtain ⟨p, ps, e⟩ := pcs_head c r
    rw [e] at ih
    unfold pcs
    split
    · rw [e]
      show ([] ++ z ++ joinL z (p :: ps)).length ≤ _
      rw [List.length_append, List.length_append]
      simp only [List.length_nil, List.length_cons]
      omega
    · rw [e]
      show (joinL z ((x :: p) :: ps)).length ≤ _
      have : (joinL z ((x :: p) :: ps)).length = (joinL z (p :: ps)).length + 1 := by
        cases ps with
        | nil => rfl
        | cons q r =>
          show ((x :: p) ++ z ++ joinL z (q :: r)).length = (p ++ z ++ joinL z (q :: r)).length + 1
          simp only [List.length_append, List.length_cons]
          omega
      rw [this, List.length_cons]
      omega
/-- a line of the words ws; a line without words -/
def LnOf (ws : List (List Nat)) (x : List Nat) : Prop := wdsL x = ws ∧ 10 ∉ x ∧ x ≠ [] ∧ x.length ≤ 1000
def EmOf (x : List Nat) : Prop := wdsL x = [] ∧ 10 ∉ x ∧ x.length ≤ 1000
theorem pcs_nl : ∀ {ls : List (List Nat)}, ls ≠ [] → (∀ l ∈ ls, 10 ∉ l) → pcs 10 (joinL [10] ls) = ls := pcs_join
theorem linL_join {ls : List (List Nat)} (h0 : ls ≠ []) (hf : ∀ l ∈ ls, 10 ∉ l) (hl : ls.getLast? ≠ some []) : linL (joinL [10] ls) = ls := by
  unfold linL
  rw [pcs_nl h0 hf, if_neg hl]
theorem linL_nl {l : List Nat} : linL (l ++ [10]) = pcs 10 l := by
  unfold linL
  rw [pcs_app]
  have e : pcs 10 [] = [[]] := rfl
  rw [e, List.getLast?_append]
  exact (if_pos rfl).trans List.dropLast_concat
/-! ### rows -/
def toldF : Nat → List (List Nat) → List (Nat × List (List Nat))
  | _, [] => []
  | k, x :: r => if wdsL x = [] then toldF (k + 1) r else (k + 1, wdsL x) :: toldF (k + 1) r
theorem toldF_app : ∀ (k : Nat) (a b : List (List Nat)), toldF k (a ++ b) = toldF k a ++ toldF (k + a.length) b
  | k, [], b => rfl
  | k, x :: r, b => by
    have ih := toldF_app (k + 1) r b
    show (if wdsL x = [] then toldF (k + 1) (r ++ b) else (k + 1, wdsL x) :: toldF (k + 1) (r ++ b)) = (if wdsL x = [] then toldF (k + 1) r else (k + 1, wdsL x) :: toldF (k + 1) r) ++ toldF (k + (r.length + 1)) b
    rw [ih, show k + 1 + r.length = k + (r.length + 1) by omega]
    split <;> rfl
theorem toldS_F (xs : List (List Nat)) : toldS (xs.map ofL) = (toldF 0 xs).map fun r => (r.1, r.2.map ofL) := by
  have key : ∀ (k : Nat) (ls : List Str) (b : List (List Nat)), ls.length = k + b.length → (∀ i, i < b.length → toL (ls.getD (k + i) "") = b.getD i []) →
      (((List.range' k b.length).map (rowI ls)).filter fun r => decide (r.2 ≠ [])) = (toldF k b).map fun r => (r.1, r.2.map ofL) := by
    intro k ls b
    induction b generalizing k with
    | nil => intro _ _; rfl
    | cons x r ih =>
      intro hl hi
      have h0 := hi 0 (by simp)
      have e0 : rowI ls k = (k + 1, (wdsL x).map ofL) := by
        unfold rowI wS
        rw [show ls.getD k "" = ls.getD (k + 0) "" from rfl, h0]
        rfl
      have ih := ih (k + 1) (by rw [hl, List.length_cons]; omega) fun i h => by
        have := hi (i + 1) (by rw [List.length_cons]; omega)
        rw [show k + 1 + i = k + (i + 1) by omega, this]
        rfl
      rw [List.length_cons, List.range'_succ, List.map_cons, e0]
      show List.filter _ ((k + 1, (wdsL x).map ofL) :: _) = (if wdsL x = [] then toldF (k + 1) r else (k + 1, wdsL x) :: toldF (k + 1) r).map _
      by_cases z : wdsL x = []
      · rw [if_pos z, List.filter_cons_of_neg (by simp [z]), ih]
      · rw [if_neg z, List.filter_cons_of_pos (by simp [z]), ih]
        rfl
  unfold toldS allN
  have := key 0 (xs.map ofL) xs (by simp) fun i h => by
    rw [Nat.zero_add, List.getD_eq_getElem?_getD, List.getElem?_map, List.getD_eq_getElem?_getD, List.getElem?_eq_getElem h]
    exact toL_ofL _
  rw [List.length_map, List.range_eq_range', this]

end My

set_option Elab.async false
set_option linter.all false
set_option maxRecDepth 100000
set_option maxHeartbeats 4000000
namespace My
open PySem PySem.Spec PyProof.Rows L2
/-! ### what lines say -/
section
variable {K : PySem.W.Frag} {mg : Str → Option Value} {w : World}
theorem ka_add (TA : TxA K mg w) : KdA TA "add" := by
  have e : kdOf "add" = some "rr" := by decide +kernel
  unfold KdA
  rw [e]
  exact TA.p_add
theorem ka_sub (TA : TxA K mg w) : KdA TA "sub" := by
  have e : kdOf "sub" = some "rr" := by decide +kernel
  unfold KdA
  rw [e]
  exact TA.p_sub
theorem ka_xor (TA : TxA K mg w) : KdA TA "xor" := by
  have e : kdOf "xor" = some "rr" := by decide +kernel
  unfold KdA
  rw [e]
  exact TA.p_xor
theorem ka_addi (TA : TxA K mg w) : KdA TA "addi" := by
  have e : kdOf "addi" = some "rn" := by decide +kernel
  unfold KdA
  rw [e]
  exact TA.p_addi
theorem ka_xori (TA : TxA K mg w) : KdA TA "xori" := by
  have e : kdOf "xori" = some "rn" := by decide +kernel
  unfold KdA
  rw [e]
  exact TA.p_xori
theorem ka_and (TA : TxA K mg w) : KdA TA "and" := by
  have e : kdOf "and" = some "rrr" := by decide +kernel
  unfold KdA
  rw [e]
  exact TA.p_and
theorem ka_or (TA : TxA K mg w) : KdA TA "or" := by
  have e : kdOf "or" = some "rrr" := by decide +kernel
  unfold KdA
  rw [e]
  exact TA.p_or
theorem ka_mul (TA : TxA K mg w) : KdA TA "mul" := by
  have e : kdOf "mul" = some "rrr" := by decide +kernel
  unfold KdA
  rw [e]
  exact TA.p_mul
theorem ka_less (TA : TxA K mg w) : KdA TA "less" := by
  have e : kdOf "less" = some "rrr" := by decide +kernel
  unfold KdA
  rw [e]
  exact TA.p_less
theorem ka_equal (TA : TxA K mg w) : KdA TA "equal" := by
  have e : kdOf "equal" = some "rrr" := by decide +kernel
  unfold KdA
  rw [e]
  exact TA.p_equal
theorem ka_shl (TA : TxA K mg w) : KdA TA "shl" := by
  have e : kdOf "shl" = some "rrr" := by decide +kernel
  unfold KdA
  rw [e]
  exact TA.p_shl
theorem ka_shr (TA : TxA K mg w) : KdA TA "shr" := by
  have e : kdOf "shr" = some "rrr" := by decide +kernel
  unfold KdA
  rw [e]
  exact TA.p_shr
theorem ka_rem (TA : TxA K mg w) : KdA TA "rem" := by
  have e : kdOf "rem" = some "rrr" := by decide +kernel
  unfold KdA
  rw [e]
  exact TA.p_rem
theorem ka_differ (TA : TxA K mg w) : KdA TA "differ" := by
  have e : kdOf "differ" = some "rrr" := by decide +kernel
  unfold KdA
  rw [e]
  exact TA.p_differ
theorem ka_test (TA : TxA K mg w) : KdA TA "test" := by
  have e : kdOf "test" = some "rr" := by decide +kernel
  unfold KdA
  rw [e]
  exact TA.p_test
theorem ka_swap (TA : TxA K mg w) : KdA TA "swap" := by
  have e : kdOf "swap" = some "rr" := by decide +kernel
  unfold KdA
  rw [e]
  exact TA.p_swap
theorem ka_exch (TA : TxA K mg w) : KdA TA "exch" := by
  have e : kdOf "exch" = some "rr" := by decide +kernel
  unfold KdA
  rw [e]
  exact TA.p_exch
theorem ka_addr (TA : TxA K mg w) : KdA TA "addr" := by
  have e : kdOf "addr" = some "rr" := by decide +kernel
  unfold KdA
  rw [e]
  exact TA.p_addr
theorem ka_subr (TA : TxA K mg w) : KdA TA "subr" := by
  have e : kdOf "subr" = some "rr" := by decide +kernel
  unfold KdA
  rw [e]
  exact TA.p_subr
theorem ka_addl (TA : TxA K mg w) : KdA TA "addl" := by
  have e : kdOf "addl" = some "rm" := by decide +kernel
  unfold KdA
  rw [e]
  exact TA.p_addl
theorem ka_neg (TA : TxA K mg w) : KdA TA "neg" := by
  have e : kdOf "neg" = some "r" := by decide +kernel
  unfold KdA
  rw [e]
  exact TA.p_neg
theorem ka_over (TA : TxA K mg w) : KdA TA "over" := by
  have e : kdOf "over" = some "rrm" := by decide +kernel
  unfold KdA
  rw [e]
  exact TA.p_over
theorem ka_swapbr (TA : TxA K mg w) : KdA TA "swapbr" := by
  have e : kdOf "swapbr" = some "r" := by decide +kernel
  unfold KdA
  rw [e]
  exact TA.p_swapbr
theorem ka_bra (TA : TxA K mg w) : KdA TA "bra" := by
  have e : kdOf "bra" = some "o" := by decide +kernel
  unfold KdA
  rw [e]
  exact TA.p_bra
theorem ka_brz (TA : TxA K mg w) : KdA TA "brz" := by
  have e : kdOf "brz" = some "ro" := by decide +kernel
  unfold KdA
  rw [e]
  exact TA.p_brz
theorem ka_brn (TA : TxA K mg w) : KdA TA "brn" := by
  have e : kdOf "brn" = some "ro" := by decide +kernel
  unfold KdA
  rw [e]
  exact TA.p_brn
theorem ka_rbra (TA : TxA K mg w) : KdA TA "rbra" := by
  have e : kdOf "rbra" = some "o" := by decide +kernel
  unfold KdA
  rw [e]
  exact TA.p_rbra
theorem ka_skip (TA : TxA K mg w) : KdA TA "skip" := by
  have e : kdOf "skip" = some "" := by decide +kernel
  unfold KdA
  rw [e]
  exact TA.p_skip
theorem ka_halt (TA : TxA K mg w) : KdA TA "halt" := by
  have e : kdOf "halt" = some "" := by decide +kernel
  unfold KdA
  rw [e]
  exact TA.p_halt
theorem ka_fail (TA : TxA K mg w) : KdA TA "fail" := by
  have e : kdOf "fail" = some "k" := by decide +kernel
  unfold KdA
  rw [e]
  exact TA.p_fail
theorem ka_move (TA : TxA K mg w) : KdA TA "move" := by
  have e : kdOf "move" = none := by decide +kernel
  unfold KdA
  rw [e]
  exact TA.n_move
theorem ka_Halt (TA : TxA K mg w) : KdA TA "Halt" := by
  have e : kdOf "Halt" = none := by decide +kernel
  unfold KdA
  rw [e]
  exact TA.n_Halt
theorem ka_width (TA : TxA K mg w) : KdA TA "width" := by
  have e : kdOf "width" = none := by decide +kernel
  unfold KdA
  rw [e]
  exact TA.n_width
theorem ka_semi (TA : TxA K mg w) : KdA TA "skip;" := by
  have e : kdOf "skip;" = none := by decide +kernel
  unfold KdA
  rw [e]
  exact TA.n_semi
theorem ka_8 (TA : TxA K mg w) : KdA TA "8" := by
  have e : kdOf "8" = none := by decide +kernel
  unfold KdA
  rw [e]
  exact TA.n_8
theorem ka_Width (TA : TxA K mg w) : KdA TA "Width" := by
  have e : kdOf "Width" = none := by decide +kernel
  unfold KdA
  rw [e]
  exact TA.n_Width
theorem ka_wd (TA : TxA K mg w) : ∀ k, k < 30 → KdA TA (wdL.getD k "")
  | 0, _ => ka_add TA
  | 1, _ => ka_sub TA
  | 2, _ => ka_xor TA
  | 3, _ => ka_addi TA
  | 4, _ => ka_xori TA
  | 5, _ => ka_and TA
  | 6, _ => ka_or TA
  | 7, _ => ka_mul TA
  | 8, _ => ka_less TA
  | 9, _ => ka_equal TA
  | 10, _ => ka_shl TA
  | 11, _ => ka_shr TA
  | 12, _ => ka_rem TA
  | 13, _ => ka_differ TA
  | 14, _ => ka_test TA
  | 15, _ => ka_swap TA
  | 16, _ => ka_exch TA
  | 17, _ => ka_addr TA
  | 18, _ => ka_subr TA
  | 19, _ => ka_addl TA
  | 20, _ => ka_neg TA
  | 21, _ => ka_over TA
  | 22, _ => ka_swapbr TA
  | 23, _ => ka_bra TA
  | 24, _ => ka_brz TA
  | 25, _ => ka_brn TA
  | 26, _ => ka_rbra TA
  | 27, _ => ka_skip TA
  | 28, _ => ka_halt TA
  | 29, _ => ka_fail TA
  | n + 30, h => absurd h (by omega)
end
theorem wd_gw : ∀ k, k < 30 → toL (wdL.getD k "") ≠ [] ∧ 32 ∉ toL (wdL.getD k "") ∧ 10 ∉ toL (wdL.getD k "") ∧ 35 ∉ toL (wdL.getD k "") := by decide +kernel
theorem int_chars (i : Int) : ∀ c ∈ intL i, c = 45 ∨ 48 ≤ c := by
  intro c m
  have nat : ∀ n, c ∈ natL n → 48 ≤ c := fun n m => by
    have := List.all_eq_true.mp (natL_facts n).2.1 c m
    unfold isDg at this
    rw [Bool.and_eq_true, decide_eq_true_eq] at this
    exact this.1
  cases i with
  | ofNat n => exact .inr (nat n m)
  | negSucc n =>
    rcases List.mem_cons.mp m with rfl | m
    · exact .inl rfl
    · exact .inr (nat _ m)
theorem int_ne (i : Int) : intL i ≠ [] := by
  cases i with
  | ofNat n => exact (natL_facts n).2.2.1
  | negSucc n => simp [intL]
theorem int_gw (i : Int) : GW (intL i) := by
  refine ⟨int_ne i, fun m => ?_, fun m => ?_, fun m => ?_⟩ <;> have := int_chars i _ m <;> omega
theorem gw_cons {c : Nat} {l : List Nat} (g : GW l) (h : c ≠ 32 ∧ c ≠ 10 ∧ c ≠ 35) : GW (c :: l) := by
  refine ⟨by simp, fun m => ?_, fun m => ?_, fun m => ?_⟩
  · rcases List.mem_cons.mp m with e | m
    · exact h.1 e.symm
    · exact g.2.1 m
  · rcases List.mem_cons.mp m with e | m
    · exact h.2.1 e.symm
    · exact g.2.2.1 m
  · rcases List.mem_cons.mp m with e | m
    · exact h.2.2 e.symm
    · exact g.2.2.2 m
theorem toL_part (c : Nat) (i : Int) : toL (partS c i) = if c = 114 then 114 :: intL i else intL i := by
  unfold partS
  split
  · rw [toL_app, toL_int]
    rfl
  · rw [toL_int]
theorem part_gw (c : Nat) (i : Int) : GW (toL (partS c i)) := by
  rw [toL_part]
  split
  · exact gw_cons (int_gw i) (by decide)
  · exact int_gw i
/-- the words of an instruction's line -/
def wdsI (op : Str) (ps : List Int) : List (List Nat) := toL op :: (partsS (kdS op) ps).map toL
def wdsW (n : Int) : List (List Nat) := [toL "width", intL n]
theorem line_join (op : Str) (ps : List Int) : toL (lineS op ps) = joinL [32] (wdsI op ps) := by
  unfold lineS
  rw [toL_join]
  rfl
theorem wid_join (n : Int) : toL (widS n) = joinL [32] (wdsW n) := by
  unfold widS
  rw [toL_app, toL_int]
  rfl
theorem wdsI_gw {op : Str} {ps : List Int} (h : GW (toL op)) : ∀ x ∈ wdsI op ps, GW x := fun x m => by
  rcases List.mem_cons.mp m with rfl | m
  · exact h
  · obtain ⟨y, hy, rfl⟩ := List.mem_map.mp m
    unfold partsS at hy
    obtain ⟨z, _, rfl⟩ := List.mem_map.mp hy
    exact part_gw _ _
theorem wdsW_gw (n : Int) : ∀ x ∈ wdsW n, GW x := fun x m => by
  rcases List.mem_cons.mp m with rfl | m
  · unfold GW
    decide +kernel
  · rw [List.mem_singleton.mp m]
    exact int_gw n
/-- what the words of an instruction's line show -/
theorem insP_of {op : Str} {ps : List Int} (h : (toL (kdS op)).length = ps.length) : insP op ((partsS (kdS op) ps).map toL) = ps.map some := by
  unfold insP partsN
  have ln : ((partsS (kdS op) ps).map toL).length = ps.length := by
    unfold partsS
    rw [List.length_map, List.length_map, List.length_zip]
    omega
  rw [ln]
  refine List.ext_getElem? fun i => ?_
  by_cases hi : i < ps.length
  · obtain ⟨p, hp⟩ : ∃ p, ps[i]? = some p := ⟨_, List.getElem?_eq_getElem hi⟩
    obtain ⟨c, hc⟩ : ∃ c, (toL (kdS op))[i]? = some c := ⟨_, List.getElem?_eq_getElem (by omega)⟩
    have hz : ((toL (kdS op)).zip ps)[i]? = some (c, p) := by
      rw [List.getElem?_zip_eq_some]
      exact ⟨hc, hp⟩
    rw [List.getElem?_map, List.getElem?_range hi, List.getElem?_map, hp]
    show some (ptL (toL (kdS op)) i (((partsS (kdS op) ps).map toL).getD i [])) = some (some p)
    have e : ((partsS (kdS op) ps).map toL).getD i [] = toL (partS c p) := by
      unfold partsS
      rw [List.getD_eq_getElem?_getD, List.getElem?_map, List.getElem?_map, hz]
      rfl
    rw [e, toL_part]
    unfold ptL
    rw [hc]
    by_cases z : c = 114
    · rw [if_pos z, if_pos (by rw [z])]
      show some (if (114 :: intL p).head? = some 114 then numL (114 :: intL p).tail else none) = _
      exact congrArg some ((if_pos rfl).trans (numL_int p))
    · rw [if_neg z, if_neg (fun y => z (Option.some.inj y)), numL_int]
  · rw [List.getElem?_eq_none (by rw [List.length_map, List.length_range]; omega), List.getElem?_eq_none (by rw [List.length_map]; omega)]
theorem sh_in : ∀ k, k < 30 → toL (shapeOf (wdL.getD k "")) ∈ [[], [114], [114, 114], [114, 114, 114], [114, 110], [114, 109], [114, 114, 109], [111], [114, 111], [107]] := by decide +kernel
theorem insB_good {n : Nat} {op : Str} {ps : List Int} (hn : n ≤ 32) (h : InsOk n 9 op ps) : insB n op (ps.map some) = true := by
  obtain ⟨⟨k, hk, rfl⟩, ln, a, b, c, hr, ab, ac, hp⟩ := h
  have ek := kd_sh k hk
  have hs := sh_in k hk
  unfold insB
  rw [ek]
  have ln : ps.length = (toL (shapeOf (wdL.getD k ""))).length := by rw [ln]; simp [toL]
  have hp : ∀ j ch p, (toL (shapeOf (wdL.getD k "")))[j]? = some ch → ps[j]? = some p → PtOk n 9 [a, b, c] j ch p := hp
  show (decide ((toL (shapeOf (wdL.getD k ""))).length = (ps.map some).length) && _) = true
  generalize toL (shapeOf (wdL.getD k "")) = cs at *
  have ha := hr a (by simp)
  have hb := hr b (by simp)
  have hc := hr c (by simp)
  have len0 : ∀ l : List Int, l.length = 0 → l = [] := fun l h => List.eq_nil_of_length_eq_zero h
  have len1 : ∀ l : List Int, l.length = 1 → ∃ x, l = [x] := fun l h => by
    match l, h with
    | [x], _ => exact ⟨x, rfl⟩
  have len2 : ∀ l : List Int, l.length = 2 → ∃ x y, l = [x, y] := fun l h => by
    match l, h with
    | [x, y], _ => exact ⟨x, y, rfl⟩
  have len3 : ∀ l : List Int, l.length = 3 → ∃ x y z, l = [x, y, z] := fun l h => by
    match l, h with
    | [x, y, z], _ => exact ⟨x, y, z, rfl⟩
  simp only [List.mem_cons, List.not_mem_nil, or_false] at hs
  rcases hs with rfl | rfl | rfl | rfl | rfl | rfl | rfl | rfl | rfl | rfl
  · obtain rfl := len0 ps ln
    rfl
  · obtain ⟨p, rfl⟩ := len1 ps ln
    have h0 := hp 0 114 p rfl rfl
    unfold PtOk at h0
    rw [if_pos rfl] at h0
    obtain rfl := Option.some.inj h0
    simp [regs, dup, inO, nOk, ctO, inV, eqV, optV]
    omega
  · obtain ⟨p, q, rfl⟩ := len2 ps ln
    have h0 := hp 0 114 p rfl rfl
    unfold PtOk at h0
    rw [if_pos rfl] at h0
    obtain rfl := Option.some.inj h0
    have h1 := hp 1 114 q rfl rfl
    unfold PtOk at h1
    rw [if_pos rfl] at h1
    obtain rfl := Option.some.inj h1
    simp [regs, dup, inO, nOk, ctO, inV, eqV, optV]
    omega
  · obtain ⟨p, q, r, rfl⟩ := len3 ps ln
    have h0 := hp 0 114 p rfl rfl
    unfold PtOk at h0
    rw [if_pos rfl] at h0
    obtain rfl := Option.some.inj h0
    have h1 := hp 1 114 q rfl rfl
    unfold PtOk at h1
    rw [if_pos rfl] at h1
    obtain rfl := Option.some.inj h1
    have h2 := hp 2 114 r rfl rfl
    unfold PtOk at h2
    rw [if_pos rfl] at h2
    obtain rfl := Option.some.inj h2
    simp [regs, dup, inO, nOk, ctO, inV, eqV, optV]
    omega
  · obtain ⟨p, q, rfl⟩ := len2 ps ln
    have h0 := hp 0 114 p rfl rfl
    unfold PtOk at h0
    rw [if_pos rfl] at h0
    obtain rfl := Option.some.inj h0
    have h1 := hp 1 110 q rfl rfl
    unfold PtOk at h1
    simp only [show ¬ (110 : Nat) = 114 by decide, if_false, if_true] at h1
    simp [regs, dup, inO, nOk, ctO, inV, eqV, optV]
    omega
  · obtain ⟨p, q, rfl⟩ := len2 ps ln
    have h0 := hp 0 114 p rfl rfl
    unfold PtOk at h0
    rw [if_pos rfl] at h0
    obtain rfl := Option.some.inj h0
    have h1 := hp 1 109 q rfl rfl
    unfold PtOk at h1
    simp only [show ¬ (109 : Nat) = 114 by decide, if_false, show ¬ (109 : Nat) = 110 by decide, if_true] at h1
    simp [regs, dup, inO, nOk, ctO, inV, eqV, optV]
    omega
  · obtain ⟨p, q, r, rfl⟩ := len3 ps ln
    have h0 := hp 0 114 p rfl rfl
    unfold PtOk at h0
    rw [if_pos rfl] at h0
    obtain rfl := Option.some.inj h0
    have h1 := hp 1 114 q rfl rfl
    unfold PtOk at h1
    rw [if_pos rfl] at h1
    obtain rfl := Option.some.inj h1
    have h2 := hp 2 109 r rfl rfl
    unfold PtOk at h2
    simp only [show ¬ (109 : Nat) = 114 by decide, if_false, show ¬ (109 : Nat) = 110 by decide, if_true] at h2
    simp [regs, dup, inO, nOk, ctO, inV, eqV, optV]
    omega
  · obtain ⟨p, rfl⟩ := len1 ps ln
    have h0 := hp 0 111 p rfl rfl
    unfold PtOk at h0
    simp only [show ¬ (111 : Nat) = 114 by decide, if_false, show ¬ (111 : Nat) = 110 by decide, show ¬ (111 : Nat) = 109 by decide, if_true] at h0
    simp [regs, dup, inO, nOk, ctO, inV, eqV, optV]
    omega
  · obtain ⟨p, q, rfl⟩ := len2 ps ln
    have h0 := hp 0 114 p rfl rfl
    unfold PtOk at h0
    rw [if_pos rfl] at h0
    obtain rfl := Option.some.inj h0
    have h1 := hp 1 111 q rfl rfl
    unfold PtOk at h1
    simp only [show ¬ (111 : Nat) = 114 by decide, if_false, show ¬ (111 : Nat) = 110 by decide, show ¬ (111 : Nat) = 109 by decide, if_true] at h1
    simp [regs, dup, inO, nOk, ctO, inV, eqV, optV]
    omega
  · obtain ⟨p, rfl⟩ := len1 ps ln
    have h0 := hp 0 107 p rfl rfl
    unfold PtOk at h0
    simp only [show ¬ (107 : Nat) = 114 by decide, if_false, show ¬ (107 : Nat) = 110 by decide, show ¬ (107 : Nat) = 109 by decide, show ¬ (107 : Nat) = 111 by decide, if_true] at h0
    simp [regs, dup, inO, nOk, ctO, inV, eqV, optV]
    omega

end My

set_option Elab.async false
set_option linter.all false
set_option maxRecDepth 100000
set_option maxHeartbeats 4000000
namespace My
open PySem PySem.Spec PyProof.Rows L2
/-! ### what rows say -/
abbrev RF := Nat × List (List Nat)
def toRwF (r : RF) : Rw := toRw (r.1, r.2.map ofL)
def rdF (rows : List RF) (nl : Nat) : Nat ⊕ (Int × List Ins) := rdC (rows.map toRwF) nl
theorem rdT_F {s : Str} {xs : List (List Nat)} (h : linL (toL s) = xs) : rdT s = rdF (toldF 0 xs) xs.length := by
  unfold rdT rdF
  rw [h, toldS_F, List.map_map]
  rfl
theorem map_of (l : List Str) : (l.map toL).map ofL = l := by
  rw [List.map_map]
  conv => rhs; rw [← List.map_id l]
  exact List.map_congr_left fun s _ => ofL_toL s
theorem rwI (l : Nat) (op : Str) (ps : List Int) : toRwF (l, wdsI op ps) = (l, op, partsS (kdS op) ps) := by
  show (l, ((wdsI op ps).map ofL).headD "", ((wdsI op ps).map ofL).tail) = _
  unfold wdsI
  rw [List.map_cons, map_of, ofL_toL]
  rfl
theorem rwW (l : Nat) (n : Int) : toRwF (l, wdsW n) = (l, ("width" : Str), [ofL (intL n)]) := by
  show (l, ((wdsW n).map ofL).headD "", ((wdsW n).map ofL).tail) = _
  unfold wdsW
  rw [List.map_cons, List.map_cons, ofL_toL]
  rfl
structure GI (n : Nat) (d : Str × List Int) : Prop where
  ok : InsOk n 9 d.1 d.2
theorem GI.kd {n : Nat} {d : Str × List Int} (g : GI n d) : (toL (kdS d.1)).length = d.2.length := by
  obtain ⟨k, hk, e⟩ := g.ok.wd
  unfold kdS
  rw [e, kd_sh k hk, g.ok.ln, e]
  simp [toL]
theorem rwI_good {n : Nat} (hn : n ≤ 32) {d : Str × List Int} (g : GI n d) (l : Nat) : goodR n (toRwF (l, wdsI d.1 d.2)) = true ∧ insD (toRwF (l, wdsI d.1 d.2)) = (d.1, d.2.map some) := by
  have e : insD (toRwF (l, wdsI d.1 d.2)) = (d.1, d.2.map some) := by
    rw [rwI]
    unfold insD
    show (d.1, insP d.1 ((partsS (kdS d.1) d.2).map toL)) = _
    rw [insP_of g.kd]
  refine ⟨?_, e⟩
  unfold goodR
  rw [e]
  exact insB_good hn g.ok
theorem wdth_of (n : Int) : wdthL (((toRwF (1, wdsW n)).2.1 :: (toRwF (1, wdsW n)).2.2).map toL) = some n := by
  rw [rwW]
  unfold wdthL
  rw [if_pos ⟨rfl, rfl⟩]
  show numL (toL (ofL (intL n))) = _
  rw [toL_ofL, numL_int]
theorem not_all {tr : List Rw} {r : Rw} (m : r ∈ tr) (h : r.2.1 = "width") : ¬ tr.all (fun r => decide (r.2.1 ≠ "width")) = true := fun z => by
  have := List.all_eq_true.mp z r m
  exact of_decide_eq_true this h
theorem rd_step {r0 : RF} {rest : List RF} {n : Nat} {nl : Nat} (h0 : r0.2 = wdsW n) (h1 : 1 ≤ n) (h2 : n ≤ 32) :
    rdF (r0 :: rest) nl = match firstBad n (rest.map toRwF) with
      | none => .inr ((n : Int), (rest.map toRwF).map insD)
      | some l => .inl l := by
  obtain ⟨l0, w0⟩ := r0
  have h0 : w0 = wdsW n := h0
  subst h0
  have e : (toRwF (l0, wdsW n)).2.1 :: (toRwF (l0, wdsW n)).2.2 = (toRwF (1, wdsW n)).2.1 :: (toRwF (1, wdsW n)).2.2 := by rw [rwW, rwW]
  have wd : wdthL (((toRwF (l0, wdsW n)).2.1 :: (toRwF (l0, wdsW n)).2.2).map toL) = some (n : Int) := by rw [e]; exact wdth_of n
  have io : inO 1 32 (some (n : Int)) = true := by
    show (decide _ && decide _) = true
    rw [decide_eq_true (by omega), decide_eq_true (by omega)]
    rfl
  have na : ¬ (((l0, wdsW n) :: rest).map toRwF).all (fun r => decide (r.2.1 ≠ "width")) = true := not_all (r := toRwF (l0, wdsW n)) List.mem_cons_self (by rw [rwW])
  unfold rdF rdC
  rw [if_neg na]
  show (match wdthL (((toRwF (l0, wdsW n)).2.1 :: (toRwF (l0, wdsW n)).2.2).map toL) with
    | none => Sum.inl (toRwF (l0, wdsW n)).1
    | some i => if inO 1 32 (some i) = true then match firstBad i.toNat (rest.map toRwF) with
        | none => Sum.inr (i, (rest.map toRwF).map insD)
        | some l => Sum.inl l
      else Sum.inl (toRwF (l0, wdsW n)).1) = _
  rw [wd]
  show (if inO 1 32 (some (n : Int)) = true then _ else _) = _
  rw [if_pos io]
  rfl
/-- rows of good lines -/
theorem rd_good {rows : List RF} {n nl : Nat} {code : List (Str × List Int)} (h1 : 1 ≤ n) (h2 : n ≤ 32) (hg : ∀ d ∈ code, GI n d) (hr : rows.map (·.2) = wdsW n :: code.map fun d => wdsI d.1 d.2) :
    rdF rows nl = .inr ((n : Int), code.map fun d => (d.1, d.2.map some)) := by
  cases rows with
  | nil => cases hr
  | cons r0 rest =>
    rw [List.map_cons] at hr
    injection hr with e0 er
    rw [rd_step e0 h1 h2]
    have key : ∀ (rest : List RF) (code : List (Str × List Int)), (∀ d ∈ code, GI n d) → rest.map (·.2) = (code.map fun d => wdsI d.1 d.2) →
        (∀ r ∈ rest.map toRwF, goodR n r = true) ∧ (rest.map toRwF).map insD = code.map fun d => (d.1, d.2.map some) := by
      intro rest
      induction rest with
      | nil =>
        intro code _ h
        cases code with
        | nil => exact ⟨fun r m => (by cases m), rfl⟩
        | cons _ _ => cases h
      | cons r rs ih =>
        intro code hg h
        cases code with
        | nil => cases h
        | cons d ds =>
          rw [List.map_cons, List.map_cons] at h
          injection h with a b
          obtain ⟨i1, i2⟩ := ih ds (fun x m => hg x (List.mem_cons_of_mem _ m)) b
          obtain ⟨l, ww⟩ := r
          have a : ww = wdsI d.1 d.2 := a
          subst a
          obtain ⟨g1, g2⟩ := rwI_good h2 (hg d List.mem_cons_self) l
          refine ⟨fun x m => ?_, ?_⟩
          · rcases List.mem_cons.mp m with rfl | m
            · exact g1
            · exact i1 x m
          · rw [List.map_cons, List.map_cons, i2, g2]
            rfl
    obtain ⟨k1, k2⟩ := key rest code hg er
    rw [firstBad_none k1, k2]
/-- a wrong row behind good ones -/
theorem rd_bad {r0 : RF} {mid rest : List RF} {l : Nat} {bw : List (List Nat)} {n nl : Nat} (h0 : r0.2 = wdsW n) (h1 : 1 ≤ n) (h2 : n ≤ 32) (hm : ∀ r ∈ mid, ∃ d, GI n d ∧ r.2 = wdsI d.1 d.2) (hb : goodR n (toRwF (l, bw)) = false) :
    rdF (r0 :: (mid ++ (l, bw) :: rest)) nl = .inl l := by
  rw [rd_step h0 h1 h2]
  have e : firstBad n ((mid ++ (l, bw) :: rest).map toRwF) = some l := by
    rw [List.map_append, List.map_cons]
    refine firstBad_at (i := (mid.map toRwF).length) (r := toRwF (l, bw)) ?_ ?_ hb
    · rw [List.getElem?_append_right (Nat.le_refl _), Nat.sub_self]
      rfl
    · rw [List.take_left]
      intro x m
      obtain ⟨⟨lr, wr⟩, hr, rfl⟩ := List.mem_map.mp m
      obtain ⟨d, g, e⟩ := hm _ hr
      have e : wr = wdsI d.1 d.2 := e
      subst e
      exact (rwI_good h2 g lr).1
  rw [e]
/-- a first row that is no width -/
theorem rd_first {rest : List RF} {l nl : Nat} {bw : List (List Nat)} (hw : ∃ r ∈ rest, ∃ n : Int, r.2 = wdsW n) (hb : inO 1 32 (wdthL (((toRwF (l, bw)).2.1 :: (toRwF (l, bw)).2.2).map toL)) = false) :
    rdF ((l, bw) :: rest) nl = .inl l := by
  obtain ⟨⟨lr, wr⟩, m, n, e⟩ := hw
  have e : wr = wdsW n := e
  subst e
  have na : ¬ (((l, bw) :: rest).map toRwF).all (fun r => decide (r.2.1 ≠ "width")) = true := not_all (r := toRwF (lr, wdsW n)) (List.mem_map_of_mem (List.mem_cons_of_mem _ m)) (by rw [rwW])
  unfold rdF rdC
  rw [if_neg na]
  show (match wdthL (((toRwF (l, bw)).2.1 :: (toRwF (l, bw)).2.2).map toL) with
    | none => Sum.inl (toRwF (l, bw)).1
    | some i => if inO 1 32 (some i) = true then match firstBad i.toNat (rest.map toRwF) with
        | none => Sum.inr (i, (rest.map toRwF).map insD)
        | some l => Sum.inl l
      else Sum.inl (toRwF (l, bw)).1) = _
  cases ew : wdthL (((toRwF (l, bw)).2.1 :: (toRwF (l, bw)).2.2).map toL) with
  | none => rfl
  | some i =>
    rw [ew] at hb
    show (if inO 1 32 (some i) = true then _ else _) = _
    rw [hb]
    rfl

end My

set_option Elab.async false
set_option linter.all false
set_option maxRecDepth 100000
set_option maxHeartbeats 4000000
namespace My
open PySem PySem.Spec PyProof.Rows L2
/-! ### loose lines -/
inductive Loose : List (List (List Nat)) → List (List Nat) → Prop
  | nil : Loose [] []
  | snoc {wss : List (List (List Nat))} {xs pre : List (List Nat)} {ws : List (List Nat)} {x : List Nat} : Loose wss xs → (pre = [] ∨ ∃ e, pre = [e] ∧ EmOf e) → LnOf ws x → Loose (wss ++ [ws]) (xs ++ pre ++ [x])
/-- a line of words -/
def LnG (l : Str) (ws : List (List Nat)) : Prop := toL l = joinL [32] ws ∧ ws ≠ [] ∧ (∀ w ∈ ws, GW w) ∧ l.length ≤ 200
theorem LnG.free {l : Str} {ws : List (List Nat)} (g : LnG l ws) : pcs 32 (toL l) = ws := by
  rw [g.1]
  exact pcs_join g.2.1 fun w m => (g.2.2.1 w m).2.1
theorem join_ne {z : List Nat} : ∀ {ws : List (List Nat)}, ws ≠ [] → (∀ w ∈ ws, w ≠ []) → joinL z ws ≠ []
  | [], h, _, _ => h rfl
  | [w], _, h, e => h w List.mem_cons_self e
  | w :: q :: r, _, h, e => by
    have e : w ++ z ++ joinL z (q :: r) = [] := e
    rw [List.append_assoc] at e
    exact h w List.mem_cons_self (List.append_eq_nil_iff.mp e).1
theorem LnG.loose {l : Str} {ws : List (List Nat)} (g : LnG l ws) {a z b : Str} (ha : toL a = [] ∨ toL a = [32]) (hz : SepOk (toL z)) (hb : TailOk (toL b)) (hb2 : 10 ∉ toL b) (hb3 : b.length ≤ 10) :
    LnOf ws (toL (a ++ Txt.replace l " " z ++ b)) := by
  have er : toL (Txt.replace l " " z) = joinL (toL z) ws := by
    rw [show Txt.replace l " " z = Txt.replace l ⟨#[32]⟩ z from rfl, toL_replace, g.free]
  have n32 : ∀ c, c = 10 → c ∉ toL z := fun c hc m => by
    rcases hz with h | h <;> rw [h, hc] at m <;> simp at m
  have jn : 10 ∉ joinL (toL z) ws := join_mem (n32 10 rfl) fun w m => (g.2.2.1 w m).2.2.1
  have ne : joinL (toL z) ws ≠ [] := join_ne g.2.1 fun w m => (g.2.2.1 w m).1
  have len : (toL (Txt.replace l " " z)).length ≤ 400 := by
    rw [show Txt.replace l " " z = Txt.replace l ⟨#[32]⟩ z from rfl, toL_replace]
    have zl : (toL z).length ≤ 2 := by rcases hz with h | h <;> rw [h] <;> simp
    have := rep_len zl 32 (toL l)
    have := g.2.2.2
    rw [← toL_len] at this
    omega
  rw [er] at len
  have la : (toL a).length ≤ 1 := by rcases ha with h | h <;> rw [h] <;> simp
  have lb : (toL b).length ≤ 10 := by rw [toL_len]; exact hb3
  rw [toL_app, toL_app, er]
  refine ⟨?_, ?_, ?_, ?_⟩
  · have base : wdsL (joinL (toL z) ws ++ toL b) = ws := wds_join hz hb g.2.1 g.2.2.1
    rcases ha with h | h
    · rw [h]
      exact base
    · rw [h]
      show wdsL (32 :: (joinL (toL z) ws ++ toL b)) = ws
      rw [wds_sp]
      exact base
  · intro m
    rcases List.mem_append.mp m with m | m
    · rcases List.mem_append.mp m with m | m
      · rcases ha with h | h <;> rw [h] at m <;> simp at m
      · exact jn m
    · exact hb2 m
  · intro e
    have := (List.append_eq_nil_iff.mp e).1
    exact ne (List.append_eq_nil_iff.mp this).2
  · rw [List.length_append, List.length_append]
    omega
theorem pick4 (a b c d : Str) {r : Int} (h0 : 0 ≤ r) (h1 : r < 4) : ∃ e, atI [V.str a, V.str b, V.str c, V.str d] r = some (.str e) ∧ (e = a ∨ e = b ∨ e = c ∨ e = d) := by
  rcases (show r = 0 ∨ r = 1 ∨ r = 2 ∨ r = 3 by omega) with rfl | rfl | rfl | rfl
  · exact ⟨a, atI_nat (j := 0) rfl, .inl rfl⟩
  · exact ⟨b, atI_nat (j := 1) rfl, .inr (.inl rfl)⟩
  · exact ⟨c, atI_nat (j := 2) rfl, .inr (.inr (.inl rfl))⟩
  · exact ⟨d, atI_nat (j := 3) rfl, .inr (.inr (.inr rfl))⟩
theorem pick2 (a b : Str) {r : Int} (h0 : 0 ≤ r) (h1 : r < 2) : ∃ e, atI [V.str a, V.str b] r = some (.str e) ∧ (e = a ∨ e = b) := by
  rcases (show r = 0 ∨ r = 1 by omega) with rfl | rfl
  · exact ⟨a, atI_nat (j := 0) rfl, .inl rfl⟩
  · exact ⟨b, atI_nat (j := 1) rfl, .inr rfl⟩
theorem em_of {e : Str} (h : e = "" ∨ e = "  " ∨ e = "# halt" ∨ e = "  #x y") : EmOf (toL e) := by
  unfold EmOf
  rcases h with rfl | rfl | rfl | rfl <;> decide +kernel
theorem tl_of {b : Str} (h : b = "" ∨ b = " " ∨ b = " # r1" ∨ b = "  #") : TailOk (toL b) ∧ 10 ∉ toL b ∧ b.length ≤ 10 := by
  rcases h with rfl | rfl | rfl | rfl
  · exact ⟨tail_nil, by decide +kernel, by decide +kernel⟩
  · exact ⟨tail_sp (l := []) (by decide +kernel), by decide +kernel, by decide +kernel⟩
  · exact ⟨tail_sp (l := toL "# r1") (by decide +kernel), by decide +kernel, by decide +kernel⟩
  · exact ⟨tail_sp (l := toL " #") (by decide +kernel), by decide +kernel, by decide +kernel⟩
section
variable {P : Program} {w : World} {K : PySem.W.Frag} {mg : Str → Option Value} {base : Heap} {H : Hp}
def spLoose : Sp := fun vs H Q _ => ∃ (p a : Addr) (ls : List Str) (wss : List (List (List Nat))), vs = [.ref p, .ref a] ∧ DrawAt H p ∧ a ≠ p ∧ H a = some (.lst (ls.map V.str)) ∧ ls.length ≤ 11 ∧ wss.length = ls.length ∧ (∀ (i : Nat) (l : Str) (ws : List (List Nat)), ls[i]? = some l → wss[i]? = some ws → LnG l ws) ∧
  ∀ (H' : Hp) (R : Addr) (fs : List Str), GS p H H' → H R = none → H' R = some (.lst (fs.map V.str)) → Loose wss (fs.map toL) → fs.length ≤ 22 → Q (.ref R) H'
theorem ok_z_loose (T : Txt K mg) : FnOk P w K mg base CX0 2 T.f_z_loose T.d_z_loose ["draw", "lines"] spLoose := by
  have G_z_take := okG_z_take (P := P) (w := w) (base := base) T
  refine T.F_z_loose.ok sc_z_loose (fun vs H Q E h => ?_) (fun cdv A outer s H vs Q E hr h => ?_)
  · obtain ⟨p, a, ls, wss, rfl, _⟩ := h
    rfl
  · obtain ⟨p, a, ls, wss, rfl, D, ap, ha, hl, wl, hg, q⟩ := h
    have hr : Room 1 _ := hr
    refine ⟨_, (pss_cons (ps_set (i := 2) sc_z_loose.nd rfl (Or.inl rfl) (pe_lst pa_nil))
      (pss_cons (ps_for PassesOwn.never rfl (pi_list (pv 1)) (pg_name (i := 3) sc_z_loose.nd rfl (Or.inl rfl))
        (pss_ifT (pe_call G_z_take (hr.mono (by omega)) (by rfl) T.g_z_take T.F_z_take.kp T.b_z_take .nil pass0 (pa_cons (pv 0) (pa_cons pe_int pa_nil))) (pss_one (ps_expr (pe_bm PySem.F.plainAttrs_list PySem.F.slot_list_append PySem.F.type_list_append mt_append (pv 2) (pa_cons (pe_ix ix_list (pe_lst (pa_cons pe_str (pa_cons pe_str (pa_cons pe_str (pa_cons pe_str pa_nil))))) (pe_call G_z_take (hr.mono (by omega)) (by rfl) T.g_z_take T.F_z_take.kp T.b_z_take .nil pass0 (pa_cons (pv 0) (pa_cons pe_int pa_nil))) (fun _ _ => rfl)) pa_nil)))) pss_nil (psst_cons (pst_setT (i := 4) sc_z_loose.nd rfl (Or.inl rfl) (pe_repP T.z_n (pv 3) (pe_call G_z_take (hr.mono (by omega)) (by rfl) T.g_z_take T.F_z_take.kp T.b_z_take .nil pass0 (pa_cons (pv 0) (pa_cons pe_int pa_nil))) (fun _ _ => rfl))) (PSsT.of (pss_one (ps_expr (pe_bm PySem.F.plainAttrs_list PySem.F.slot_list_append PySem.F.type_list_append mt_append (pv 2) (pa_cons (pe_op op_add_str (pe_op op_add_str (pe_ix ix_list (pe_lst (pa_cons pe_str (pa_cons pe_str pa_nil))) (pe_call G_z_take (hr.mono (by omega)) (by rfl) T.g_z_take T.F_z_take.kp T.b_z_take .nil pass0 (pa_cons (pv 0) (pa_cons pe_int pa_nil))) (fun _ _ => rfl)) (pv 4)) (pe_ix ix_list (pe_lst (pa_cons pe_str (pa_cons pe_str (pa_cons pe_str (pa_cons pe_str pa_nil))))) (pe_call G_z_take (hr.mono (by omega)) (by rfl) T.g_z_take T.F_z_take.kp T.b_z_take .nil pass0 (pa_cons (pv 0) (pa_cons pe_int pa_nil))) (fun _ _ => rfl))) pa_nil)))))) (by rfl)))
      (pss_one (ps_ret (pv 2))))), ?_⟩
    refine ⟨Nat.zero_le _, fun R nR => ?_⟩
    have g1 := GS.new D nR (o := .lst [])
    have Rp : R ∉ [p] := by rw [List.mem_singleton]; exact ne_new D nR
    have aR : a ≠ R := fun y => by rw [← y, ha] at nR; cases nR
    refine ⟨_, rfl, a, rfl, ⟨_, SqL.of (by rw [upd_ne aR]; exact ha)⟩, ?_⟩
    refine for_it (walk_list (K := K) (a := a) (xs := ls.map V.str)) (fun i σ H1 => ∃ (x3 x4 : Option V) (fs : List Str), σ = [some (.ref p), some (.ref a), some (.ref R), x3, x4] ∧ GS p H H1 ∧ H1 R = some (.lst (fs.map V.str)) ∧ Loose (wss.take i) (fs.map toL) ∧ fs.length ≤ 2 * i) ?_ ?_ ?_ ?_
    · exact ⟨none, none, [], rfl, g1, upd_same, .nil, Nat.le_refl _⟩
    · rintro i σ H1 _ ⟨_, _, _, _, g, _⟩
      exact SqL.of (g.k.kp _ _ (by rw [List.mem_singleton]; exact ap) ha)
    · rintro i x σ H1 H2 hi ⟨x3, x4, fs, rfl, g, hR, hL, hn⟩ ⟨rfl, hx⟩
      rw [List.getElem?_map] at hx
      obtain ⟨l, hli, rfl⟩ := Option.map_eq_some_iff.mp hx
      have il : i < 11 := by
        have := (List.getElem?_eq_some_iff.mp hli).1
        omega
      obtain ⟨ws, hwi⟩ : ∃ ws, wss[i]? = some ws := ⟨_, List.getElem?_eq_getElem (by rw [wl]; exact (List.getElem?_eq_some_iff.mp hli).1)⟩
      have lg := hg i l ws hli hwi
      have tk : wss.take (i + 1) = wss.take i ++ [ws] := by rw [List.take_succ, hwi]; rfl
      have llen := lg.2.2.2
      apply laterH (P := fun H' => GS p H H' ∧ ∃ pre : List Str, H' R = some (.lst ((fs ++ pre).map V.str)) ∧ (pre = [] ∨ ∃ e, pre = [e] ∧ EmOf (toL e)))
      · intro last
        refine ⟨_, rfl, p, 4, rfl, g.d, by decide, by decide, fun r H3 r0 r1 g3 => ?_⟩
        have hR3 := g3.k.kp _ _ Rp hR
        refine ⟨rfl, _, rfl, ite2 (fun z => ?_) (fun z => ?_)⟩
        · refine ⟨_, rfl, .inl ⟨rfl, _, SqL.of hR3⟩, (by show 4 ≤ sizeLine; decide), fun p1 np1 => ?_⟩
          have g4 := GS.new (o := .lst [.str "", .str "  ", .str "# halt", .str "  #x y"]) g3.d np1
          have p1p : p1 ∉ [p] := by rw [List.mem_singleton]; exact ne_new g3.d np1
          refine ⟨_, rfl, p, 4, rfl, g4.d, by decide, by decide, fun r2 H5 r20 r21 g5 => ?_⟩
          obtain ⟨e, he, hem⟩ := pick4 "" "  " "# halt" "  #x y" r20 r21
          have hR5 := g5.k.kp _ _ Rp (g4.k.kp _ _ Rp hR3)
          refine ⟨p1, _, _, _, rfl, rfl, SqL.of (g5.k.kp _ _ p1p upd_same), he, R, _, _, rfl, rfl, hR5, ?_, ?_⟩
          · rw [List.length_map]
            exact Nat.lt_of_le_of_lt hn (Nat.lt_trans (show 2 * i < 100 by omega) (by decide))
          · exact last _ ⟨(((g.trans g3).trans (g4.trans g5))).late D nR, [e], by rw [upd_same, List.map_append]; rfl, .inr ⟨e, rfl, em_of hem⟩⟩
        · exact last _ ⟨g.trans g3, [], by rw [List.append_nil]; exact hR3, .inl rfl⟩
      · rintro H3 ⟨g3, pre, hR3, hpre⟩
        have prel : pre.length ≤ 1 := by rcases hpre with rfl | ⟨e, rfl, _⟩ <;> simp
        refine ⟨_, rfl, l, rfl, fun fa o nfa => ?_⟩
        have g4 := GS.new (o := .frz o (.lst [.str " ", .str "  "])) g3.d nfa
        refine ⟨_, rfl, p, 2, rfl, g4.d, by decide, by decide, fun r H5 r0 r1 g5 => ?_⟩
        refine ⟨g5.k.fz _ _ _ upd_same, decide (r = 1), ?_, ?_, ?_⟩
        · rcases (show r = 0 ∨ r = 1 by omega) with rfl | rfl <;> rfl
        · have : (if decide (r = 1) = true then ("  " : Str) else " ").length ≤ 2 := by split <;> decide +kernel
          refine Nat.le_trans (Nat.add_le_add llen (Nat.mul_le_mul (Nat.succ_le_succ llen) this)) (by decide)
        have zok : SepOk (toL (if decide (r = 1) = true then ("  " : Str) else " ")) := by
          split
          · exact .inr (by decide +kernel)
          · exact .inl (by decide +kernel)
        generalize (if decide (r = 1) = true then ("  " : Str) else " ") = zz at zok ⊢
        have g6 := g4.trans g5
        have hR6 := g6.k.kp _ _ Rp hR3
        refine ⟨_, rfl, .inl ⟨rfl, _, SqL.of hR6⟩, (by show 2 ≤ sizeLine; decide), fun p1 np1 => ?_⟩
        have g7 := GS.new (o := .lst [.str " ", .str ""]) g6.d np1
        have p1p : p1 ∉ [p] := by rw [List.mem_singleton]; exact ne_new g6.d np1
        refine ⟨_, rfl, p, 2, rfl, g7.d, by decide, by decide, fun r2 H8 r20 r21 g8 => ?_⟩
        obtain ⟨ea, hea, haa⟩ := pick2 " " "" r20 r21
        have hal : ea.length ≤ 1 := by rcases haa with rfl | rfl <;> decide +kernel
        have ha0 : toL ea = [] ∨ toL ea = [32] := by
          rcases haa with rfl | rfl
          · exact .inr (by decide +kernel)
          · exact .inl (by decide +kernel)
        have rl : (Txt.replace l " " zz).length ≤ 400 := by
          have zl : (toL zz).length ≤ 2 := by rcases zok with h | h <;> rw [h] <;> simp
          have := rep_len zl 32 (toL l)
          rw [show Txt.replace l " " zz = Txt.replace l ⟨#[32]⟩ zz from rfl, ← toL_len, toL_replace]
          rw [toL_len] at this
          omega
        refine ⟨p1, _, _, _, rfl, rfl, SqL.of (g8.k.kp _ _ p1p upd_same), hea, _, rfl, _, _, rfl, rfl, Nat.le_trans (Nat.add_le_add hal rl) (by decide), (by show 4 ≤ sizeLine; decide), fun p2 np2 => ?_⟩
        have g9 := GS.new (o := .lst [.str "", .str " ", .str " # r1", .str "  #"]) g8.d np2
        have p2p : p2 ∉ [p] := by rw [List.mem_singleton]; exact ne_new g8.d np2
        refine ⟨_, rfl, p, 4, rfl, g9.d, by decide, by decide, fun r3 HA r30 r31 gA => ?_⟩
        obtain ⟨eb, heb, hbb⟩ := pick4 "" " " " # r1" "  #" r30 r31
        obtain ⟨tb1, tb2, tb3⟩ := tl_of hbb
        have gg := (g7.trans g8).trans (g9.trans gA)
        have hRA := gg.k.kp _ _ Rp hR6
        refine ⟨p2, _, _, _, rfl, rfl, SqL.of (gA.k.kp _ _ p2p upd_same), heb, _, _, rfl, rfl, ?_, R, _, _, rfl, rfl, hRA, ?_, ?_⟩
        · rw [app_len]
          exact Nat.le_trans (Nat.add_le_add (Nat.add_le_add hal rl) tb3) (by decide)
        · rw [List.length_map, List.length_append]
          exact Nat.lt_of_le_of_lt (Nat.add_le_add hn prel) (Nat.lt_trans (show 2 * i + 1 < 100 by omega) (by decide))
        · refine ⟨_, _, fs ++ pre ++ [ea ++ Txt.replace l " " zz ++ eb], rfl, ((g3.trans g6).trans gg).late D nR, by rw [upd_same, List.map_append (l₂ := [_])]; rfl, ?_, ?_⟩
          · rw [tk, List.map_append, List.map_append]
            refine .snoc hL ?_ (lg.loose ha0 zok tb1 tb2 tb3)
            rcases hpre with rfl | ⟨e, rfl, he⟩
            · exact .inl rfl
            · exact .inr ⟨_, rfl, he⟩
          · rw [List.length_append, List.length_append]
            show _ + _ + 1 ≤ _
            omega
    · rintro σ H1 ⟨x3, x4, fs, rfl, g, hR, hL, hn⟩
      rw [List.length_map] at hL hn
      rw [← wl, List.take_length] at hL
      exact ⟨_, rfl, q _ R fs g nR hR hL (by omega)⟩
end

end My

set_option Elab.async false
set_option linter.all false
set_option maxRecDepth 100000
set_option maxHeartbeats 4000000
namespace My
open PySem PySem.Spec PyProof.Rows L2
/-! ### what texts say -/
/-- lines xs that have the words wss -/
structure Good (xs : List (List Nat)) (wss : List (List (List Nat))) : Prop where
  told : ∀ k, (toldF k xs).map (·.2) = wss
  free : ∀ x ∈ xs, 10 ∉ x ∧ x.length ≤ 1000
theorem toldF_one (k : Nat) {x : List Nat} {ws : List (List Nat)} (h : wdsL x = ws) (ne : ws ≠ []) : toldF k [x] = [(k + 1, ws)] := by
  show (if wdsL x = [] then _ else _) = _
  rw [h, if_neg ne]
  rfl
theorem toldF_em (k : Nat) {x : List Nat} (h : wdsL x = []) : toldF k [x] = [] := by
  show (if wdsL x = [] then _ else _) = _
  rw [if_pos h]
  rfl
theorem Loose.good {wss : List (List (List Nat))} {xs : List (List Nat)} (l : Loose wss xs) : (∀ ws ∈ wss, ws ≠ []) → Good xs wss := by
  induction l with
  | nil => exact fun _ => ⟨fun k => rfl, fun x m => by cases m⟩
  | @snoc wss xs pre ws x h hp hl ih =>
    intro hn
    obtain ⟨i1, i2⟩ := ih fun y m => hn y (List.mem_append_left _ m)
    have pe : ∀ k, toldF k pre = [] := fun k => by
      rcases hp with rfl | ⟨e, rfl, he⟩
      · rfl
      · exact toldF_em k he.1
    refine ⟨fun k => ?_, fun y m => ?_⟩
    · rw [toldF_app, toldF_app, pe, List.append_nil, toldF_one _ hl.1 (hn ws (List.mem_append_right _ (List.mem_singleton.mpr rfl))), List.map_append, i1]
      rfl
    · rcases List.mem_append.mp m with m | m
      · rcases List.mem_append.mp m with m | m
        · exact i2 y m
        · rcases hp with rfl | ⟨e, rfl, he⟩
          · cases m
          · rw [List.mem_singleton.mp m]
            exact he.2
      · rw [List.mem_singleton.mp m]
        exact ⟨hl.2.1, hl.2.2.2⟩
theorem Loose.last {wss : List (List (List Nat))} {xs : List (List Nat)} (l : Loose wss xs) (h : wss ≠ []) : ∃ ys x, xs = ys ++ [x] ∧ x ≠ [] := by
  cases l with
  | nil => exact absurd rfl h
  | snoc _ _ hl => exact ⟨_, _, rfl, hl.2.2.1⟩
/-- the lines themselves -/
theorem lines_good : ∀ {ls : List Str} {wss : List (List (List Nat))}, wss.length = ls.length → (∀ (i : Nat) (l : Str) (ws : List (List Nat)), ls[i]? = some l → wss[i]? = some ws → LnG l ws) → Good (ls.map toL) wss
  | [], [], _, _ => ⟨fun k => rfl, fun x m => by cases m⟩
  | [], _ :: _, h, _ => by cases h
  | _ :: _, [], h, _ => by cases h
  | l :: ls, ws :: wss, h, hg => by
    obtain ⟨i1, i2⟩ := lines_good (ls := ls) (wss := wss) (by simpa using h) fun i l ws a b => hg (i + 1) l ws a b
    have g := hg 0 l ws rfl rfl
    have wl : wdsL (toL l) = ws := by
      have := wds_join (z := [32]) (b := []) (.inl rfl) tail_nil g.2.1 g.2.2.1
      rw [List.append_nil, ← g.1] at this
      exact this
    refine ⟨fun k => ?_, fun y m => ?_⟩
    · show (if wdsL (toL l) = [] then _ else _ : List RF).map _ = _
      rw [wl, if_neg g.2.1, List.map_cons, i1]
    · rcases List.mem_cons.mp m with rfl | m
      · refine ⟨?_, ?_⟩
        · rw [g.1]
          exact join_mem (by decide) fun w m => (g.2.2.1 w m).2.2.1
        · rw [toL_len]
          exact Nat.le_trans g.2.2.2 (by decide)
      · exact i2 y m
/-- a text of lines -/
theorem lin_text {ls : List Str} (hf : ∀ x ∈ ls.map toL, 10 ∉ x) (ne : ls ≠ []) : linL (toL (textS ls)) = ls.map toL := by
  unfold textS
  rw [toL_app, toL_join]
  show linL (joinL [10] (ls.map toL) ++ [10]) = _
  rw [linL_nl]
  exact pcs_nl (fun z => ne (List.map_eq_nil_iff.mp z)) hf
theorem lin_join {ls : List Str} {ys : List (List Nat)} {x : List Nat} (hf : ∀ y ∈ ls.map toL, 10 ∉ y) (e : ls.map toL = ys ++ [x]) (hx : x ≠ []) : linL (toL (Str.join "\n" ls)) = ls.map toL := by
  rw [toL_join]
  refine linL_join (fun z => by rw [z] at e; simp at e) hf ?_
  rw [e, List.getLast?_append]
  exact fun z => hx (Option.some.inj z)
theorem lin_nl {ls : List Str} (hf : ∀ y ∈ ls.map toL, 10 ∉ y) (ne : ls ≠ []) : linL (toL (Str.join "\n" ls ++ "\n")) = ls.map toL := lin_text hf ne
theorem lin_nl2 {ls : List Str} (hf : ∀ y ∈ ls.map toL, 10 ∉ y) (ne : ls ≠ []) : linL (toL (Str.join "\n" ls ++ "\n\n")) = ls.map toL ++ [[]] := by
  rw [toL_app, toL_join]
  have e : joinL (toL "\n") (ls.map toL) ++ toL "\n\n" = (joinL [10] (ls.map toL) ++ [10]) ++ [10] := by
    rw [List.append_assoc]
    rfl
  rw [e, linL_nl, pcs_app, pcs_nl (fun z => ne (List.map_eq_nil_iff.mp z)) hf]
  rfl
theorem Good.em {xs : List (List Nat)} {wss : List (List (List Nat))} (g : Good xs wss) : Good (xs ++ [[]]) wss := by
  refine ⟨fun k => ?_, fun x m => ?_⟩
  · rw [toldF_app, toldF_em _ (by decide), List.append_nil]
    exact g.told k
  · rcases List.mem_append.mp m with m | m
    · exact g.free x m
    · rw [List.mem_singleton.mp m]
      decide
/-! ### the first line that says something -/
def frontL (x : List Nat) : List Nat := joinL [] (pcs 32 ((pcs 35 x).headD []))
theorem front_iff : ∀ x : List Nat, frontL x = [] ↔ wdsL x = []
  | [] => by decide
  | c :: r => by
    have ih := front_iff r
    obtain ⟨p, ps, e⟩ := pcs_head 35 r
    by_cases h1 : c = 32
    · subst h1
      rw [wds_sp]
      have : frontL (32 :: r) = frontL r := by
        unfold frontL
        have e1 : pcs 35 (32 :: r) = (32 :: p) :: ps := by
          rw [pcs, if_neg (by decide), e]
        rw [e1, e]
        show joinL [] (pcs 32 (32 :: p)) = joinL [] (pcs 32 p)
        obtain ⟨q, qs, e2⟩ := pcs_head 32 p
        rw [pcs, if_pos rfl, e2]
        rfl
      rw [this]
      exact ih
    · by_cases h2 : c = 35
      · subst h2
        rw [wds_hash]
        have : frontL (35 :: r) = [] := by
          unfold frontL
          rw [pcs, if_pos rfl]
          rfl
        exact ⟨fun _ => rfl, fun _ => this⟩
      · have e1 : pcs 35 (c :: r) = (c :: p) :: ps := by
          rw [pcs, if_neg h2, e]
        have f1 : frontL (c :: r) ≠ [] := by
          unfold frontL
          rw [e1]
          show joinL [] (pcs 32 (c :: p)) ≠ []
          obtain ⟨q, qs, e2⟩ := pcs_head 32 p
          rw [pcs, if_neg h1, e2]
          cases qs with
          | nil => exact fun z => by cases z
          | cons a b => exact fun z => by cases z
        have f2 : wdsL (c :: r) ≠ [] := by
          unfold wdsL
          obtain ⟨q, qs, e2⟩ := pcs_head 32 r
          rw [pcs, if_neg h1, e2]
          show cutW ((c :: q) :: qs) ≠ []
          unfold cutW
          rw [List.takeWhile_cons_of_pos (by simp [h2])]
          simp
        exact ⟨fun z => absurd z f1, fun z => absurd z f2⟩

end My

set_option Elab.async false
set_option linter.all false
set_option maxRecDepth 100000
set_option maxHeartbeats 4000000
namespace My
open PySem PySem.Spec PyProof.Rows L2
/-! ### lines that can be read; wrong lines -/
theorem wds_mem {x w : List Nat} (h : w ∈ wdsL x) : w ≠ [] ∧ w.length ≤ x.length := by
  unfold wdsL cutW at h
  obtain ⟨h1, h2⟩ := List.mem_filter.mp h
  exact ⟨of_decide_eq_true h2, (pcs_lens 32 x).2 w ((List.takeWhile_sublist _).subset h1)⟩
theorem wds_cnt (x : List Nat) : (wdsL x).length ≤ x.length + 1 := by
  unfold wdsL cutW
  refine Nat.le_trans (List.length_filter_le _ _) (Nat.le_trans ?_ (pcs_lens 32 x).1)
  exact (List.takeWhile_sublist _).length_le
theorem toldF_mem : ∀ {k : Nat} {xs : List (List Nat)} {r : RF}, r ∈ toldF k xs → ∃ x ∈ xs, r.2 = wdsL x ∧ wdsL x ≠ []
  | _, [], _, h => by cases h
  | k, x :: xs, r, h => by
    have h : r ∈ (if wdsL x = [] then toldF (k + 1) xs else (k + 1, wdsL x) :: toldF (k + 1) xs) := h
    by_cases z : wdsL x = []
    · rw [if_pos z] at h
      obtain ⟨y, m, e⟩ := toldF_mem h
      exact ⟨y, List.mem_cons_of_mem _ m, e⟩
    · rw [if_neg z] at h
      rcases List.mem_cons.mp h with rfl | h
      · exact ⟨x, List.mem_cons_self, rfl, z⟩
      · obtain ⟨y, m, e⟩ := toldF_mem h
        exact ⟨y, List.mem_cons_of_mem _ m, e⟩
section
variable {K : PySem.W.Frag} {mg : Str → Option Value} {w : World}
def Heads (TA : TxA K mg w) (xs : List (List Nat)) : Prop := ∀ r ∈ toldF 0 xs, KdA TA (ofL (r.2.headD []))
theorem lines_ok {TA : TxA K mg w} {xs : List (List Nat)} (hl : xs.length ≤ 1000) (hx : ∀ x ∈ xs, x.length ≤ 1000) (hh : Heads TA xs) : LinesOk TA (xs.map ofL) := by
  refine ⟨by rw [List.length_map]; exact hl, fun l m => ?_, fun r m => ?_⟩
  · obtain ⟨x, hm, rfl⟩ := List.mem_map.mp m
    rw [← toL_len, toL_ofL]
    exact Nat.le_trans (hx x hm) (by decide)
  · rw [toldS_F] at m
    obtain ⟨q, hq, rfl⟩ := List.mem_map.mp m
    obtain ⟨x, hm, e1, e2⟩ := toldF_mem hq
    have kd := hh q hq
    have xl := hx x hm
    rw [e1] at kd
    show WdOk TA ((q.2.map ofL).headD "") (q.2.map ofL).tail
    rw [e1]
    cases ew : wdsL x with
    | nil => exact absurd ew e2
    | cons w0 ws =>
      rw [ew] at kd
      have cn := wds_cnt x
      rw [ew, List.length_cons] at cn
      have mm : ∀ y ∈ w0 :: ws, y ≠ [] ∧ y.length ≤ 1000 := fun y m => by
        have := wds_mem (show y ∈ wdsL x by rw [ew]; exact m)
        exact ⟨this.1, Nat.le_trans this.2 (Nat.le_trans xl (by decide))⟩
      refine ⟨kd, ?_, ?_, fun y m => ?_⟩
      · show (ofL w0).length ≤ 1000
        rw [← toL_len, toL_ofL]
        exact (mm w0 List.mem_cons_self).2
      · show (ws.map ofL).length ≤ 1000
        rw [List.length_map]
        omega
      · have m : y ∈ ws.map ofL := m
        obtain ⟨z, hz, rfl⟩ := List.mem_map.mp m
        obtain ⟨a, b⟩ := mm z (List.mem_cons_of_mem _ hz)
        rw [toL_ofL, ← toL_len, toL_ofL]
        exact ⟨a, b⟩
theorem head_W (TA : TxA K mg w) (n : Int) : KdA TA (ofL ((wdsW n).headD [])) := by
  show KdA TA (ofL (toL "width"))
  rw [ofL_toL]
  exact ka_width TA
theorem head_I (TA : TxA K mg w) {n : Nat} {d : Str × List Int} (g : GI n d) : KdA TA (ofL ((wdsI d.1 d.2).headD [])) := by
  show KdA TA (ofL (toL d.1))
  rw [ofL_toL]
  obtain ⟨k, hk, e⟩ := g.ok.wd
  rw [e]
  exact ka_wd TA k hk
def wrongL : List Str := ["move r1 r2", "add r1", "add r1 r2 r3", "add r1 r1", "add r1 r16", "add r01 r2", "add 1 2", "addi r1 -1", "bra 2147483648", "bra 01", "bra +1", "bra -0", "addl r1 4294967296", "halt 0", "fail -1", "and r1 r1 r2", "swapbr", "neg r1 r2", "Halt", "width 8", "addi r1 4294967296", "skip;"]
def badL : List Str := ["width", "width 0", "width 33", "width 08", "halt", "8", "width 8 8", "Width 8"]
theorem wrong_words : ∀ k, k < 22 → (ofL ((wdsL (toL (wrongL.getD k ""))).headD []) ∈ (["move", "add", "addi", "bra", "addl", "halt", "fail", "and", "swapbr", "neg", "Halt", "width", "skip;"] : List Str)) := by decide +kernel
theorem bad_words : ∀ k, k < 8 → (ofL ((wdsL (toL (badL.getD k ""))).headD []) ∈ (["width", "halt", "8", "Width"] : List Str)) := by decide +kernel
theorem wrong_facts : ∀ k, k < 22 → 10 ∉ toL (wrongL.getD k "") ∧ toL (wrongL.getD k "") ≠ [] ∧ (toL (wrongL.getD k "")).length ≤ 100 ∧ wdsL (toL (wrongL.getD k "")) ≠ [] := by decide +kernel
theorem bad_facts : ∀ k, k < 8 → 10 ∉ toL (badL.getD k "") ∧ toL (badL.getD k "") ≠ [] ∧ (toL (badL.getD k "")).length ≤ 100 ∧ wdsL (toL (badL.getD k "")) ≠ [] := by decide +kernel
theorem wrong_bad : ∀ k, k < 22 → ∀ n, n < 33 → goodR n (toRwF (0, wdsL (toL (wrongL.getD k "")))) = false := by decide +kernel
theorem bad_bad : ∀ k, k < 8 → inO 1 32 (wdthL (((toRwF (3, wdsL (toL (badL.getD k "")))).2.1 :: (toRwF (3, wdsL (toL (badL.getD k "")))).2.2).map toL)) = false := by decide +kernel
theorem wrong_kd (TA : TxA K mg w) {k : Nat} (h : k < 22) : KdA TA (ofL ((wdsL (toL (wrongL.getD k ""))).headD [])) := by
  have := wrong_words k h
  generalize ofL ((wdsL (toL (wrongL.getD k ""))).headD []) = o at this
  simp only [List.mem_cons, List.not_mem_nil, or_false] at this
  rcases this with rfl | rfl | rfl | rfl | rfl | rfl | rfl | rfl | rfl | rfl | rfl | rfl | rfl
  · exact ka_move TA
  · exact ka_add TA
  · exact ka_addi TA
  · exact ka_bra TA
  · exact ka_addl TA
  · exact ka_halt TA
  · exact ka_fail TA
  · exact ka_and TA
  · exact ka_swapbr TA
  · exact ka_neg TA
  · exact ka_Halt TA
  · exact ka_width TA
  · exact ka_semi TA
theorem bad_kd (TA : TxA K mg w) {k : Nat} (h : k < 8) : KdA TA (ofL ((wdsL (toL (badL.getD k ""))).headD [])) := by
  have := bad_words k h
  generalize ofL ((wdsL (toL (badL.getD k ""))).headD []) = o at this
  simp only [List.mem_cons, List.not_mem_nil, or_false] at this
  rcases this with rfl | rfl | rfl | rfl
  · exact ka_width TA
  · exact ka_halt TA
  · exact ka_8 TA
  · exact ka_Width TA
/-- the words of a machine's lines -/
def wssOf (n : Nat) (code : List (Str × List Int)) : List (List (List Nat)) := wdsW n :: code.map fun d => wdsI d.1 d.2
theorem wss_ne {n : Nat} {code : List (Str × List Int)} : ∀ ws ∈ wssOf n code, ws ≠ [] := fun ws m => by
  rcases List.mem_cons.mp m with rfl | m
  · simp [wdsW]
  · obtain ⟨d, _, rfl⟩ := List.mem_map.mp m
    simp [wdsI]
theorem good_heads {TA : TxA K mg w} {n : Nat} {code : List (Str × List Int)} (hg : ∀ d ∈ code, GI n d) {k : Nat} {xs : List (List Nat)} (h : ∀ r ∈ toldF k xs, r.2 ∈ wssOf n code) : ∀ r ∈ toldF k xs, KdA TA (ofL (r.2.headD [])) := fun r m => by
  rcases List.mem_cons.mp (h r m) with e | e
  · rw [e]; exact head_W TA n
  · obtain ⟨d, hd, e⟩ := List.mem_map.mp e
    rw [← e]; exact head_I TA (hg d hd)
theorem Good.mem {xs : List (List Nat)} {wss : List (List (List Nat))} (g : Good xs wss) (k : Nat) : ∀ r ∈ toldF k xs, r.2 ∈ wss := fun r m => by
  rw [← g.told k]
  exact List.mem_map_of_mem m
/-- a text that shows the machine -/
theorem text_good {s : Str} {xs : List (List Nat)} {n : Nat} {code : List (Str × List Int)} (h1 : 1 ≤ n) (h2 : n ≤ 32) (hg : ∀ d ∈ code, GI n d) (g : Good xs (wssOf n code)) (hs : linL (toL s) = xs) :
    rdT s = .inr ((n : Int), code.map fun d => (d.1, d.2.map some)) := by
  rw [rdT_F hs]
  exact rd_good h1 h2 hg (g.told 0)
/-- a wrong line behind the first -/
theorem text_wrong {xs : List (List Nat)} {n : Nat} {code : List (Str × List Int)} (h1 : 1 ≤ n) (h2 : n ≤ 32) (hg : ∀ d ∈ code, GI n d) (g : Good xs (wssOf n code)) {at' : Nat} (ha : at' ≤ xs.length) (hf : toldF 0 (xs.take at') ≠ []) {k : Nat} (hk : k < 22)
    {s : Str} (hs : linL (toL s) = xs.take at' ++ [toL (wrongL.getD k "")] ++ xs.drop at') : rdT s = .inl (at' + 1) := by
  rw [rdT_F hs]
  have e : toldF 0 (xs.take at' ++ [toL (wrongL.getD k "")] ++ xs.drop at') = toldF 0 (xs.take at') ++ (at' + 1, wdsL (toL (wrongL.getD k ""))) :: toldF (at' + 1) (xs.drop at') := by
    rw [toldF_app, toldF_app, toldF_one _ rfl (wrong_facts k hk).2.2.2, List.append_assoc]
    have l1 : (xs.take at').length = at' := by rw [List.length_take]; omega
    rw [List.length_append, l1]
    show _ ++ ((0 + at' + 1, _) :: toldF (0 + (at' + 1)) _) = _
    rw [Nat.zero_add, Nat.zero_add]
  rw [e]
  have tt := g.told 0
  rw [← List.take_append_drop at' xs, toldF_app, List.map_append] at tt
  cases ef : toldF 0 (xs.take at') with
  | nil => exact absurd ef hf
  | cons r0 mid =>
    rw [ef, List.map_cons] at tt
    unfold wssOf at tt
    rw [List.cons_append] at tt
    injection tt with t0 t1
    have gb : goodR n (toRwF (at' + 1, wdsL (toL (wrongL.getD k "")))) = false := wrong_bad k hk n (by omega)
    refine rd_bad (mid := mid) t0 h1 h2 (fun r m => ?_) gb
    have : r.2 ∈ code.map fun d => wdsI d.1 d.2 := by
      rw [← t1]
      exact List.mem_append_left _ (List.mem_map_of_mem m)
    obtain ⟨d, hd, e⟩ := List.mem_map.mp this
    exact ⟨d, hg d hd, e.symm⟩
/-- a first line that is no width -/
theorem text_bad {xs : List (List Nat)} {n : Nat} {code : List (Str × List Int)} (g : Good xs (wssOf n code)) {k : Nat} (hk : k < 8) {s : Str} (hs : linL (toL s) = [[], toL "# x", toL (badL.getD k "")] ++ xs) : rdT s = .inl 3 := by
  rw [rdT_F hs]
  have e : toldF 0 ([[], toL "# x", toL (badL.getD k "")] ++ xs) = (3, wdsL (toL (badL.getD k ""))) :: toldF 3 xs := by
    show toldF 0 ([[]] ++ ([toL "# x"] ++ ([toL (badL.getD k "")] ++ xs))) = _
    rw [toldF_app, toldF_app, toldF_app, toldF_em _ (by decide), toldF_em _ (by decide +kernel), toldF_one _ rfl (bad_facts k hk).2.2.2]
    rfl
  rw [e]
  refine rd_first ?_ (bad_bad k hk)
  have tt := g.told 3
  cases ef : toldF 3 xs with
  | nil => rw [ef] at tt; cases tt
  | cons r0 mid =>
    rw [ef, List.map_cons] at tt
    injection tt with t0 t1
    exact ⟨r0, List.mem_cons_self, n, t0⟩
theorem text_none : rdT "" = .inl 1 ∧ rdT "\n # x\n" = .inl 3 := by
  refine ⟨?_, ?_⟩
  · rw [rdT_F (xs := []) (by decide +kernel)]
    rfl
  · rw [rdT_F (xs := [[], toL " # x"]) (by decide +kernel)]
    have e : toldF 0 [[], toL " # x"] = [] := by
      show toldF 0 ([[]] ++ [toL " # x"]) = _
      rw [toldF_app, toldF_em _ (by decide), toldF_em _ (by decide +kernel)]
      rfl
    rw [e]
    rfl
end

end My

set_option Elab.async false
set_option linter.all false
set_option maxRecDepth 100000
set_option maxHeartbeats 4000000
namespace My
open PySem PySem.Spec PyProof.Rows L2
/-! ### data that two sides may be compared by -/
structure Shp (k : Nat) (d : PyData) : Prop where
  l : d.canLay0 = true
  d : d.depth ≤ k
theorem Shp.int (k : Nat) (i : Int) : Shp k (.int i) := ⟨rfl, Nat.zero_le _⟩
theorem Shp.str {k : Nat} {x : Str} (h : (PyData.str x).canLay0 = true) : Shp k (.str x) := ⟨h, Nat.zero_le _⟩
theorem shp_all {k : Nat} : ∀ {ds : List PyData}, (∀ d ∈ ds, Shp k d) → PyData.canLayAll0 ds = true ∧ PyData.depthAll ds ≤ k
  | [], _ => ⟨rfl, Nat.zero_le _⟩
  | x :: r, h => by
    obtain ⟨a, b⟩ := shp_all (ds := r) fun d m => h d (List.mem_cons_of_mem _ m)
    have hx := h x List.mem_cons_self
    refine ⟨?_, ?_⟩
    · show (x.canLay0 && PyData.canLayAll0 r) = true
      rw [hx.l, a]
      rfl
    · show max x.depth (PyData.depthAll r) ≤ k
      have := hx.d
      omega
theorem Shp.tup {k : Nat} {ds : List PyData} (h : ∀ d ∈ ds, Shp k d) : Shp (k + 1) (.tuple ds) := by
  obtain ⟨a, b⟩ := shp_all h
  exact ⟨a, by show PyData.depthAll ds + 1 ≤ k + 1; omega⟩
theorem Shp.mono {k m : Nat} {d : PyData} (h : Shp k d) (l : k ≤ m) : Shp m d := ⟨h.l, Nat.le_trans h.d l⟩
theorem Shp.ok {k : Nat} {d : PyData} (h : Shp k d) (l : k ≤ 64) : SeqAt.shaped d = true := by
  unfold SeqAt.shaped
  rw [Bool.and_eq_true]
  exact ⟨h.l, decide_eq_true (Nat.le_trans h.d l)⟩
theorem Shp.refl {k : Nat} {d : PyData} (h : Shp k d) : PyData.eqv d d = true := SeqAt.eqv_refl _ h.l

/-! ### the law -/
section
variable {P : Program} {w : World} {K : PySem.W.Frag} {mg : Str → Option Value} {base : Heap} {H : Hp}
def spLaw {K : PySem.W.Frag} {mg : Str → Option Value} (T : Txt K mg) : Sp := fun vs H Q _ => ∃ (a : Addr) (ns : List Int), vs = [.ref a] ∧ SqL K H a (ns.map V.int) ∧ ns.length ≤ 63 ∧ (∀ z ∈ ns, Builtin.Int.intBits z ≤ 1048576) ∧ (∀ p ∈ T.tabs, H p.2 = some (.tbl #[])) ∧ ∀ H', Q (.bl true) H'
def codD (code : List (Str × List Int)) : PyData := .tuple (code.map fun d => .tuple (.str d.1 :: d.2.map .int))
def macD (n : Int) (code : List (Str × List Int)) : PyData := .tuple [.int n, codD code]
theorem pow32 {n : Nat} (hn : n ≤ 32) : (2 : Int) ^ n ≤ 4294967296 := by
  have h : (2 : Nat) ^ n ≤ 2 ^ 32 := Nat.pow_le_pow_right (by decide) hn
  have : ((2 ^ n : Nat) : Int) ≤ ((2 ^ 32 : Nat) : Int) := Int.ofNat_le.mpr h
  rw [Int.natCast_pow] at this
  exact this
theorem gi_g {n : Nat} (hn : n ≤ 32) {d : Str × List Int} (g : GI n d) : InsG d.1 d.2 := by
  have kd := g.kd
  obtain ⟨k, hk, e⟩ := g.ok.wd
  refine ⟨⟨kdS d.1, ?_, kd⟩, by rw [e]; exact Nat.le_trans (wd_len k hk) (by decide), fun p m => ?_⟩
  · unfold kdS
    rw [e, kd_sh k hk]
    rfl
  · obtain ⟨a, b, c, hr, _, _, hp⟩ := g.ok.rs
    obtain ⟨j, hj, ej⟩ := List.getElem_of_mem m
    have hp1 : d.2[j]? = some p := List.getElem?_eq_some_iff.mpr ⟨hj, ej⟩
    have ln := g.ok.ln
    obtain ⟨ch, hch⟩ : ∃ ch, (shapeOf d.1).cps.toList[j]? = some ch := ⟨_, List.getElem?_eq_getElem (by rw [Array.length_toList]; omega)⟩
    have h := hp j ch p hch hp1
    have p32 : (2 : Int) ^ n ≤ 4294967296 := pow32 hn
    unfold PtOk at h
    unfold IntB
    split at h
    · have := hr p (List.mem_of_getElem? h)
      omega
    · split at h
      · omega
      · split at h
        · have : (2 : Int) ^ 32 = 4294967296 := by decide
          omega
        · split at h <;> omega
theorem lines_lng {n : Nat} {code : List (Str × List Int)} (hg : ∀ d ∈ code, GI n d) (cg : CodeG n code) : (wssOf n code).length = (linesS n code).length ∧ ∀ (i : Nat) (l : Str) (ws : List (List Nat)), (linesS n code)[i]? = some l → (wssOf n code)[i]? = some ws → LnG l ws := by
  refine ⟨by unfold wssOf linesS; simp, fun i l ws h1 h2 => ?_⟩
  have gl := (linesS_len cg).2 l (List.mem_of_getElem? h1)
  cases i with
  | zero =>
    obtain rfl := Option.some.inj h1
    obtain rfl := Option.some.inj h2
    exact ⟨wid_join n, by simp [wdsW], wdsW_gw n, gl⟩
  | succ i =>
    have h1 : (code.map fun d => lineS d.1 d.2)[i]? = some l := h1
    have h2 : (code.map fun d => wdsI d.1 d.2)[i]? = some ws := h2
    rw [List.getElem?_map] at h1 h2
    obtain ⟨d, hd, rfl⟩ := Option.map_eq_some_iff.mp h1
    rw [hd] at h2
    obtain rfl := Option.some.inj h2
    refine ⟨line_join _ _, by simp [wdsI], wdsI_gw ?_, gl⟩
    obtain ⟨k, hk, e⟩ := (hg d (List.mem_of_getElem? hd)).ok.wd
    rw [e]
    exact wd_gw k hk
theorem rpa_ints (ps : List Int) : RpA K H (ps.map V.int) (ps.map PyData.int) := by
  induction ps with
  | nil => exact .nil
  | cons p ps ih => exact .cons (.int _) ih
theorem rpa_code : ∀ {vs : List V} {code : List (Str × List Int)}, P2 (InsV H) vs code → RpA K H vs (code.map fun d => .tuple (.str d.1 :: d.2.map .int))
  | _, _, .nil => .nil
  | _, _, .cons ⟨t, e, h⟩ g => by
    subst e
    exact .cons (.tup (SqT.of h) (.cons (.str _) (rpa_ints _))) (rpa_code g)
theorem mac_rp {v : V} {n : Int} {code : List (Str × List Int)} (h : MacI H v n code) : Rp K H v (macD n code) := by
  obtain ⟨t, u, vs, rfl, ht, hu, hp⟩ := h
  exact .tup (SqT.of ht) (.cons (.int _) (.cons (.tup (SqT.of hu) (rpa_code hp)) .nil))
theorem P2.unmap {α β : Type} {R : V → α → Prop} {S : V → β → Prop} {f : β → α} (k : ∀ v d, R v (f d) → S v d) : ∀ {vs : List V} {ds : List β}, P2 R vs (ds.map f) → P2 S vs ds
  | _, [], .nil => .nil
  | _, _ :: _, .cons h g => .cons (k _ _ h) (P2.unmap k g)
theorem mac_of {v : V} {n : Int} {code : List (Str × List Int)} (h : MacV H v (n, code.map fun d => (d.1, d.2.map some))) : MacI H v n code := by
  obtain ⟨t, u, vs, rfl, ht, hu, hp⟩ := h
  refine ⟨t, u, vs, rfl, ht, hu, hp.unmap fun v d h => ?_⟩
  obtain ⟨z, rfl, hz⟩ := h
  refine ⟨z, rfl, ?_⟩
  rw [hz]
  show some (HO.tup (V.str d.1 :: (d.2.map some).map optV)) = _
  rw [List.map_map]
  rfl
theorem MacI.keep {S : List Addr} {H' : Hp} (k : KT S H H') {v : V} {n : Int} {code : List (Str × List Int)} (h : MacI H v n code) : MacI H' v n code := by
  obtain ⟨t, u, vs, rfl, ht, hu, hp⟩ := h
  exact ⟨t, u, vs, rfl, k.tp _ _ ht, k.tp _ _ hu, hp.mono fun v d h => h.keep k⟩
theorem lay_wd : ∀ k, k < 30 → (PyData.str (wdL.getD k "")).canLay0 = true := by decide +kernel
theorem mac_shp {n m : Nat} {code : List (Str × List Int)} (hg : ∀ d ∈ code, GI m d) : Shp 4 (macD n code) := by
  refine Shp.tup fun d hd => ?_
  rcases List.mem_cons.mp hd with rfl | hd
  · exact Shp.int _ _
  · rw [List.mem_singleton.mp hd]
    refine Shp.tup fun d hd => ?_
    obtain ⟨e, he, rfl⟩ := List.mem_map.mp hd
    refine Shp.tup fun d hd => ?_
    rcases List.mem_cons.mp hd with rfl | hd
    · obtain ⟨k, hk, e2⟩ := (hg e he).ok.wd
      rw [e2]
      exact Shp.str (lay_wd k hk)
    · obtain ⟨i, _, rfl⟩ := List.mem_map.mp hd
      exact Shp.int _ _
theorem text_lok {TA : TxA K mg w} {s : Str} {xs : List (List Nat)} {n : Nat} {code : List (Str × List Int)} (hg : ∀ d ∈ code, GI n d) (g : Good xs (wssOf n code)) (hl : xs.length ≤ 1000) (hs : linL (toL s) = xs) : LinesOk TA ((linL (toL s)).map ofL) := by
  rw [hs]
  exact lines_ok hl (fun x m => (g.free x m).2) (good_heads hg (g.mem 0))
theorem draw_ps {T : Txt K mg} {H' : Hp} {dr : Addr} (t : TbA T H) (k : KT T.Ps H H') (D : DrawAt H dr) : DrawAt H' dr := by
  obtain ⟨c, cells, pos, rest, seed, d⟩ := D
  exact ⟨c, cells, pos, rest, seed, k.kp _ _ (lst_notP t d.hp) d.hp, k.kp _ _ (lst_notP t d.hc) d.hc, d.nn, d.po, d.re, d.s0, d.s1⟩
theorem draw_str {dr a : Addr} {x : Str} {r : List V} (D : DrawAt H dr) (h : H a = some (.lst (.str x :: r))) : a ≠ dr := fun y => by
  obtain ⟨c, cells, pos, rest, seed, d⟩ := D
  rw [y, d.hp] at h
  injection h with h
  injection h with h
  injection h with h
  cases h
theorem pick3 (a b c : Str) {r : Int} (h0 : 0 ≤ r) (h1 : r < 3) : ∃ e, atI [V.str a, V.str b, V.str c] r = some (.str e) ∧ (e = a ∨ e = b ∨ e = c) := by
  rcases (show r = 0 ∨ r = 1 ∨ r = 2 by omega) with rfl | rfl | rfl
  · exact ⟨a, atI_nat (j := 0) rfl, .inl rfl⟩
  · exact ⟨b, atI_nat (j := 1) rfl, .inr (.inl rfl)⟩
  · exact ⟨c, atI_nat (j := 2) rfl, .inr (.inr rfl)⟩
/-- a text of loose lines and its end -/
theorem loose_text {n : Nat} {code : List (Str × List Int)} {fs : List Str} (lo : Loose (wssOf n code) (fs.map toL)) (lf : fs.length ≤ 22) {e : Str} (he : e = "" ∨ e = "\n" ∨ e = "\n\n") :
    ∃ xs, linL (toL (Str.join "\n" fs ++ e)) = xs ∧ Good xs (wssOf n code) ∧ xs.length ≤ 1000 := by
  have g := lo.good wss_ne
  have hf : ∀ y ∈ fs.map toL, 10 ∉ y := fun y m => (g.free y m).1
  obtain ⟨ys, x, e1, hx⟩ := lo.last (by simp [wssOf])
  have ne : fs ≠ [] := fun z => by rw [z] at e1; simp at e1
  have ll : (fs.map toL).length ≤ 22 := by rw [List.length_map]; exact lf
  rcases he with rfl | rfl | rfl
  · refine ⟨fs.map toL, ?_, g, by omega⟩
    have : Str.join "\n" fs ++ ("" : Str) = Str.join "\n" fs := toL_inj (by rw [toL_app]; show _ ++ [] = _; rw [List.append_nil])
    rw [this]
    exact lin_join hf e1 hx
  · exact ⟨fs.map toL, lin_nl hf ne, g, by omega⟩
  · exact ⟨fs.map toL ++ [[]], lin_nl2 hf ne, g.em, by rw [List.length_append]; show _ + 1 ≤ _; omega⟩
theorem join_le {ls : List Str} {m b : Nat} (hl : ls.length ≤ m) (hx : ∀ x ∈ ls, x.length ≤ b) : (Str.join "\n" ls).length ≤ m * (b + 1) ∧ (ls.map fun x => x.length).sum + ls.length * ("\n" : Str).length ≤ m * (b + 1) := by
  have j := join_len "\n" ls
  have e1 : ("\n" : Str).length = 1 := by decide +kernel
  have s1 : (ls.map Str.length).sum ≤ ls.length * b := sum_le hx
  have s2 : (ls.map fun x => x.length).sum ≤ ls.length * b := sum_le hx
  have m1 : ls.length * b ≤ m * b := Nat.mul_le_mul hl (Nat.le_refl _)
  rw [e1] at j ⊢
  rw [Nat.mul_add]
  omega
theorem pickL {ls : List Str} {r : Int} (h0 : 0 ≤ r) (h1 : r < ls.length) : ∃ k, k < ls.length ∧ atI (ls.map V.str) r = some (.str (ls.getD k "")) := by
  obtain ⟨k, rfl⟩ := int_nat h0
  have hk : k < ls.length := by omega
  refine ⟨k, hk, atI_nat ?_⟩
  rw [List.getElem?_map, List.getD_eq_getElem?_getD, List.getElem?_eq_getElem hk]
  rfl
theorem front_str (l : Str) : ∃ p0 ps, Txt.split l "#" = p0 :: ps ∧ p0.length ≤ l.length ∧ toL (Txt.replace p0 " " "") = frontL (toL l) := by
  have e : (Txt.split l "#").map toL = pcs 35 (toL l) := split_pcs l 35
  cases h : Txt.split l "#" with
  | nil => exact absurd h (split_ne l 35)
  | cons p0 ps =>
    rw [h, List.map_cons] at e
    refine ⟨p0, ps, rfl, ?_, ?_⟩
    · have := (pcs_lens 35 (toL l)).2 (toL p0) (by rw [← e]; exact List.mem_cons_self)
      rw [toL_len, toL_len] at this
      exact this
    · rw [show Txt.replace p0 " " "" = Txt.replace p0 ⟨#[32]⟩ "" from rfl, toL_replace]
      unfold frontL
      rw [← e]
      rfl
theorem cutV_from (xs : List V) (a : Nat) : cutV xs (some (a : Int)) none = xs.drop a := by
  unfold cutV
  rw [HT.sIx_nat, HT.sIx_none]
  rcases Nat.lt_or_ge a xs.length with h | h
  · rw [Nat.min_eq_left (by omega), List.take_of_length_le (by rw [List.length_drop]; omega)]
  · rw [Nat.min_eq_right h, List.drop_eq_nil_of_le h, List.drop_eq_nil_of_le (Nat.le_refl _), List.take_nil]
theorem cutV_to (xs : List V) (b : Nat) (hb : b ≤ xs.length) : cutV xs none (some (b : Int)) = xs.take b := by
  unfold cutV
  rw [HT.sIx_nat, HT.sIx_none, Nat.min_eq_left hb]
  rfl
/-- a text that can be read -/
structure TxtOk (TA : TxA K mg w) (ys : List Str) (out : Nat) : Prop where
  rd : rdT (Str.join "\n" ys) = .inl out
  lok : LinesOk TA ((linL (toL (Str.join "\n" ys))).map ofL)
  ln : ys.length ≤ 25
  ls : ∀ y ∈ ys, y.length ≤ 1000
theorem wrong_text (TA : TxA K mg w) {n : Nat} {code : List (Str × List Int)} {fs : List Str} (n1 : 1 ≤ n) (n2 : n ≤ 32) (hg : ∀ d ∈ code, GI n d) (lo : Loose (wssOf n code) (fs.map toL)) (lf : fs.length ≤ 22) {at' k0 kw : Nat} (ha : at' ≤ fs.length) (hk0 : k0 < at')
    (hw0 : wdsL (toL (fs.getD k0 "")) ≠ []) (hkw : kw < 22) : TxtOk TA (fs.take at' ++ [wrongL.getD kw ""] ++ fs.drop at') (at' + 1) := by
  have g := lo.good wss_ne
  obtain ⟨wf1, wf2, wf3, wf4⟩ := wrong_facts kw hkw
  obtain ⟨zs, x, e1, hx⟩ := lo.last (by simp [wssOf])
  have em : (fs.take at' ++ [wrongL.getD kw ""] ++ fs.drop at').map toL = (fs.map toL).take at' ++ [toL (wrongL.getD kw "")] ++ (fs.map toL).drop at' := by
    rw [List.map_append, List.map_append, List.map_take, List.map_drop]
    rfl
  have fr : ∀ y ∈ (fs.take at' ++ [wrongL.getD kw ""] ++ fs.drop at').map toL, 10 ∉ y ∧ y.length ≤ 1000 := fun y m => by
    rw [em] at m
    rcases List.mem_append.mp m with m | m
    · rcases List.mem_append.mp m with m | m
      · exact g.free y (List.mem_of_mem_take m)
      · rw [List.mem_singleton.mp m]
        exact ⟨wf1, Nat.le_trans wf3 (by decide)⟩
    · exact g.free y (List.mem_of_mem_drop m)
  have la : (fs.map toL).length = fs.length := List.length_map _
  have el : ∃ ys x', (fs.take at' ++ [wrongL.getD kw ""] ++ fs.drop at').map toL = ys ++ [x'] ∧ x' ≠ [] := by
    rw [em]
    by_cases z : at' = fs.length
    · rw [List.drop_eq_nil_of_le (by omega), List.append_nil]
      exact ⟨_, _, rfl, wf2⟩
    · have lz : (zs ++ [x]).length = fs.length := by rw [← e1, la]
      rw [List.length_append] at lz
      have lz : zs.length + 1 = fs.length := lz
      rw [e1, List.drop_append_of_le_length (by omega), ← List.append_assoc]
      exact ⟨_, _, rfl, hx⟩
  obtain ⟨ys, x', e2, hx'⟩ := el
  have hs : linL (toL (Str.join "\n" (fs.take at' ++ [wrongL.getD kw ""] ++ fs.drop at'))) = (fs.take at' ++ [wrongL.getD kw ""] ++ fs.drop at').map toL := lin_join (fun y m => (fr y m).1) e2 hx'
  have ln : (fs.take at' ++ [wrongL.getD kw ""] ++ fs.drop at').length ≤ 25 := by
    rw [List.length_append, List.length_append, List.length_take, List.length_drop]
    show _ + 1 + _ ≤ _
    omega
  refine ⟨?_, ?_, ln, fun y m => ?_⟩
  · refine text_wrong n1 n2 hg g (by rw [la]; exact ha) ?_ hkw (hs.trans em)
    have hk : k0 < fs.length := by omega
    have hm : toL (fs.getD k0 "") ∈ (fs.map toL).take at' := by
      rw [List.getD_eq_getElem?_getD, List.getElem?_eq_getElem hk]
      have : ((fs.map toL).take at')[k0]? = some (toL fs[k0]) := by
        rw [List.getElem?_take_of_lt hk0, List.getElem?_map, List.getElem?_eq_getElem hk]
        rfl
      exact List.mem_of_getElem? this
    have key : ∀ (l : List (List Nat)) (k : Nat) (y : List Nat), y ∈ l → wdsL y ≠ [] → toldF k l ≠ [] := by
      intro l
      induction l with
      | nil => intro k y m; cases m
      | cons z l ih =>
        intro k y m hy
        show (if wdsL z = [] then toldF (k + 1) l else (k + 1, wdsL z) :: toldF (k + 1) l) ≠ []
        by_cases hz : wdsL z = []
        · rw [if_pos hz]
          rcases List.mem_cons.mp m with rfl | m
          · exact absurd hz hy
          · exact ih _ _ m hy
        · rw [if_neg hz]
          simp
    exact key _ _ _ hm hw0
  · rw [hs]
    refine lines_ok (by rw [List.length_map]; omega) (fun y m => (fr y m).2) fun r m => ?_
    rw [em, toldF_app, toldF_app] at m
    have gm : ∀ (k : Nat) (r : RF), r ∈ toldF k (fs.map toL) → KdA TA (ofL (r.2.headD [])) := fun k => good_heads hg (g.mem k)
    have part : ∀ r : RF, (∃ y ∈ fs.map toL, r.2 = wdsL y ∧ wdsL y ≠ []) → KdA TA (ofL (r.2.headD [])) := fun r ⟨y, hy, e, ne⟩ => by
      have key : ∀ (l : List (List Nat)) (k : Nat), y ∈ l → ∃ q ∈ toldF k l, q.2 = wdsL y := by
        intro l
        induction l with
        | nil => intro k m; cases m
        | cons z l ih =>
          intro k m
          show ∃ q ∈ (if wdsL z = [] then toldF (k + 1) l else (k + 1, wdsL z) :: toldF (k + 1) l), q.2 = wdsL y
          rcases List.mem_cons.mp m with rfl | m
          · rw [if_neg ne]
            exact ⟨_, List.mem_cons_self, rfl⟩
          · obtain ⟨q, hq, e⟩ := ih (k + 1) m
            by_cases hz : wdsL z = []
            · rw [if_pos hz]; exact ⟨q, hq, e⟩
            · rw [if_neg hz]; exact ⟨q, List.mem_cons_of_mem _ hq, e⟩
      obtain ⟨q, hq, e3⟩ := key _ 0 hy
      have := gm 0 q hq
      rw [e3] at this
      rw [e]
      exact this
    rcases List.mem_append.mp m with m | m
    · rcases List.mem_append.mp m with m | m
      · obtain ⟨y, hy, e⟩ := toldF_mem m
        exact part r ⟨y, List.mem_of_mem_take hy, e⟩
      · obtain ⟨y, hy, e, _⟩ := toldF_mem m
        rw [e, List.mem_singleton.mp hy]
        exact wrong_kd TA hkw
    · obtain ⟨y, hy, e⟩ := toldF_mem m
      exact part r ⟨y, List.mem_of_mem_drop hy, e⟩
  · have := (fr (toL y) (List.mem_map_of_mem m)).2
    rw [toL_len] at this
    exact this
theorem first_ex {n : Nat} {code : List (Str × List Int)} {fs : List Str} (lo : Loose (wssOf n code) (fs.map toL)) :
    ∃ (k0 : Nat) (r : List Nat), (List.range fs.length).filter (fun k => decide (wdsL (toL (fs.getD k "")) ≠ [])) = k0 :: r ∧ k0 < fs.length ∧ wdsL (toL (fs.getD k0 "")) ≠ [] := by
  have g := lo.good wss_ne
  have t := g.told 0
  cases e : toldF 0 (fs.map toL) with
  | nil => rw [e] at t; cases t
  | cons q qs =>
    obtain ⟨y, hy, _, ne⟩ := toldF_mem (show q ∈ toldF 0 (fs.map toL) by rw [e]; exact List.mem_cons_self)
    obtain ⟨l, hl, rfl⟩ := List.mem_map.mp hy
    obtain ⟨i, hi, ei⟩ := List.getElem_of_mem hl
    have eg : fs.getD i "" = l := by rw [List.getD_eq_getElem?_getD, List.getElem?_eq_getElem hi, ei]; rfl
    cases ef : (List.range fs.length).filter (fun k => decide (wdsL (toL (fs.getD k "")) ≠ [])) with
    | nil =>
      have : i ∈ (List.range fs.length).filter (fun k => decide (wdsL (toL (fs.getD k "")) ≠ [])) := List.mem_filter.mpr ⟨List.mem_range.mpr hi, decide_eq_true (by rw [eg]; exact ne)⟩
      rw [ef] at this
      cases this
    | cons k0 r =>
      have : k0 ∈ (List.range fs.length).filter (fun k => decide (wdsL (toL (fs.getD k "")) ≠ [])) := by rw [ef]; exact List.mem_cons_self
      obtain ⟨h1, h2⟩ := List.mem_filter.mp this
      exact ⟨k0, r, rfl, List.mem_range.mp h1, of_decide_eq_true h2⟩
theorem bad_text (TA : TxA K mg w) {n : Nat} {code : List (Str × List Int)} (hg : ∀ d ∈ code, GI n d) (cg : CodeG n code) {k : Nat} (hk : k < 8) : TxtOk TA ([("" : Str), ("# x" : Str), badL.getD k ""] ++ linesS n code) 3 := by
  obtain ⟨wlen, lng⟩ := lines_lng hg cg
  have g := lines_good wlen lng
  have gl := linesS_len cg
  obtain ⟨bf1, bf2, bf3, bf4⟩ := bad_facts k hk
  have em : ([("" : Str), ("# x" : Str), badL.getD k ""] ++ linesS n code).map toL = [[], toL "# x", toL (badL.getD k "")] ++ (linesS n code).map toL := by
    rw [List.map_append]
    rfl
  have fr : ∀ y ∈ ([("" : Str), ("# x" : Str), badL.getD k ""] ++ linesS n code).map toL, 10 ∉ y ∧ y.length ≤ 1000 := fun y m => by
    rw [em] at m
    rcases List.mem_append.mp m with m | m
    · simp only [List.mem_cons, List.not_mem_nil, or_false] at m
      rcases m with rfl | rfl | rfl
      · decide
      · decide +kernel
      · exact ⟨bf1, Nat.le_trans bf3 (by decide)⟩
    · exact g.free y m
  have el : ∃ ys x', ([("" : Str), ("# x" : Str), badL.getD k ""] ++ linesS n code).map toL = ys ++ [x'] ∧ x' ≠ [] := by
    rw [em]
    rcases List.eq_nil_or_concat ((linesS n code).map toL) with e | ⟨ys, x, e⟩
    · unfold linesS at e
      cases e
    · rw [List.concat_eq_append] at e
      refine ⟨[[], toL "# x", toL (badL.getD k "")] ++ ys, x, by rw [e, List.append_assoc], ?_⟩
      have m : x ∈ (linesS n code).map toL := by rw [e]; exact List.mem_append_right _ (List.mem_singleton.mpr rfl)
      obtain ⟨l, hl, rfl⟩ := List.mem_map.mp m
      obtain ⟨i, hi, ei⟩ := List.getElem_of_mem hl
      have hl2 : (linesS n code)[i]? = some l := List.getElem?_eq_some_iff.mpr ⟨hi, ei⟩
      obtain ⟨ws, hws⟩ : ∃ ws, (wssOf n code)[i]? = some ws := ⟨_, List.getElem?_eq_getElem (by rw [wlen]; exact hi)⟩
      have lg := lng i l ws hl2 hws
      rw [lg.1]
      exact join_ne lg.2.1 fun w m => (lg.2.2.1 w m).1
  obtain ⟨ys, x', e2, hx'⟩ := el
  have hs : linL (toL (Str.join "\n" ([("" : Str), ("# x" : Str), badL.getD k ""] ++ linesS n code))) = ([("" : Str), ("# x" : Str), badL.getD k ""] ++ linesS n code).map toL := lin_join (fun y m => (fr y m).1) e2 hx'
  have ln : ([("" : Str), ("# x" : Str), badL.getD k ""] ++ linesS n code).length ≤ 25 := by
    rw [List.length_append]
    have := gl.1
    show 3 + _ ≤ _
    omega
  refine ⟨text_bad g hk (hs.trans em), ?_, ln, fun y m => ?_⟩
  · rw [hs]
    refine lines_ok (by rw [List.length_map]; omega) (fun y m => (fr y m).2) ?_
    rw [em]
    intro r m
    have e : toldF 0 ([[], toL "# x", toL (badL.getD k "")] ++ (linesS n code).map toL) = (3, wdsL (toL (badL.getD k ""))) :: toldF 3 ((linesS n code).map toL) := by
      show toldF 0 ([[]] ++ ([toL "# x"] ++ ([toL (badL.getD k "")] ++ (linesS n code).map toL))) = _
      rw [toldF_app, toldF_app, toldF_app, toldF_em _ (by decide), toldF_em _ (by decide +kernel), toldF_one _ rfl bf4]
      rfl
    rw [e] at m
    rcases List.mem_cons.mp m with rfl | m
    · exact bad_kd TA hk
    · exact good_heads hg (g.mem 3) r m
  · have := (fr (toL y) (List.mem_map_of_mem m)).2
    rw [toL_len] at this
    exact this
theorem none_lok (TA : TxA K mg w) : LinesOk TA ((linL (toL "")).map ofL) ∧ LinesOk TA ((linL (toL "\n # x\n")).map ofL) := by
  have e1 : linL (toL "") = [] := by decide +kernel
  have e2 : linL (toL "\n # x\n") = [[], toL " # x"] := by decide +kernel
  rw [e1, e2]
  refine ⟨lines_ok (by decide) (fun x m => (by cases m)) fun r m => (by cases m), lines_ok (by decide) (fun x m => ?_) fun r m => ?_⟩
  · simp only [List.mem_cons, List.not_mem_nil, or_false] at m
    rcases m with rfl | rfl <;> decide +kernel
  · have e : toldF 0 [[], toL " # x"] = [] := by
      show toldF 0 ([[]] ++ [toL " # x"]) = _
      rw [toldF_app, toldF_em _ (by decide), toldF_em _ (by decide +kernel)]
      rfl
    rw [e] at m
    cases m
theorem ok_law (T : Txt K mg) (TB : TBs T base) (TA : TxA K mg w) : FnOk P w K mg base CX0 12 T.f_law T.d_law ["script"] (spLaw T) := by
  have G_z_draw := ok_z_draw (P := P) (w := w) (base := base) T
  have G_z_take := okG_z_take (P := P) (w := w) (base := base) T
  have G_z_instruction := ok_z_instruction (P := P) (w := w) (base := base) T
  have G_z_line := ok_z_line (P := P) (w := w) (base := base) T
  have G_z_loose := ok_z_loose (P := P) (w := w) (base := base) T
  have G_z_told := ok_z_told (P := P) (w := w) T TB TA
  have G_show_code := ok_show_code (P := P) (w := w) (base := base) T TA
  have G_read_code := ok_read_code (P := P) (w := w) T TB TA
  refine T.F_law.ok sc_law (fun vs H Q E h => ?_) (fun cdv A outer s H vs Q E hr h => ?_)
  · obtain ⟨a, ns, rfl, _⟩ := h
    rfl
  · obtain ⟨a, ns, rfl, hS, hlen, _, htab, q⟩ := h
    have hr : Room 11 _ := hr
    refine ⟨_, (pss_cons (ps_set (i := 1) sc_law.nd rfl (Or.inr rfl) (pe_call G_z_draw (hr.mono (by omega)) (by rfl) T.g_z_draw T.F_z_draw.kp T.b_z_draw .nil pass0 (pa_cons (pv 0) pa_nil)))
      (pss_cons (ps_set (i := 2) sc_law.nd rfl (Or.inr rfl) (pe_op op_add pe_int (pe_call G_z_take (hr.mono (by omega)) (by rfl) T.g_z_take T.F_z_take.kp T.b_z_take .nil pass0 (pa_cons (pv 1) (pa_cons pe_int pa_nil)))))
      (pss_cons (ps_setLc (i := 3) (own := [("k", 12)]) (g := gName 12) rfl sc_law.nd rfl rfl (sw_true rfl rfl rfl (by decide +kernel)) (pi_range1 (by rfl) T.m_range (pa_cons (pe_call G_z_take (hr.mono (by omega)) (by rfl) T.g_z_take T.F_z_take.kp T.b_z_take .nil pass0 (pa_cons (pv 1) (pa_cons pe_int pa_nil))) pa_nil)) (blkOk_by (own := [("k", 12)]) (N := N_law) (sc := defScope s_law) (by decide +kernel)) (fun _ _ _ _ _ => (pg_name (i := 12) sc_law.nd rfl (Or.inl rfl))) (fun _ _ _ _ _ => pts_nil) (fun _ _ _ _ _ => (pe_call G_z_instruction (hr.mono (by omega)) (by rfl) T.g_z_instruction T.F_z_instruction.kp T.b_z_instruction .nil pass0 (pa_cons (pv 1) (pa_cons (pv 2) (pa_cons pe_int pa_nil))))))
      (pss_cons (ps_set (i := 4) sc_law.nd rfl (Or.inl rfl) (pe_op op_cat (pe_lst (pa_cons (pe_op op_add_str pe_str (pe_callTy call_str_int (by rfl) T.m_str (by decide +kernel) (pa_cons (pv 2) pa_nil))) pa_nil)) (pe_lc (own := [("ins", 13)]) (g := gName 13) (by rfl) sc_law.nd (pi_list (pv 3)) (blkOk_by (own := [("ins", 13)]) (N := N_law) (sc := defScope s_law) (by decide +kernel)) (fun _ _ _ _ _ => (pg_name (i := 13) sc_law.nd rfl (Or.inl rfl))) (fun _ _ _ _ _ => pts_nil) (fun _ _ _ _ _ => (pe_call G_z_line (hr.mono (by omega)) (by rfl) T.g_z_line T.F_z_line.kp T.b_z_line .nil pass0 (pa_cons (pv 13) pa_nil))))))
      (pss_cons (ps_set (i := 5) sc_law.nd rfl (Or.inl rfl) (pe_op op_add_str (pe_bm PySem.F.plainAttrs_str PySem.F.slot_str_join PySem.F.type_str_join mt_join pe_str (pa_cons (pv 4) pa_nil)) pe_str))
      (pss_cons (ps_set (i := 6) sc_law.nd rfl (Or.inl rfl) (pe_tup (pa_cons (pv 2) (pa_cons (pe_callTy call_tuple_of (by rfl) T.m_tuple (by decide +kernel) (pa_cons (pv 3) pa_nil)) pa_nil))))
      (pss_cons (ps_if (PW.pt (pw_or (pt_cmpR op_ne (pe_call G_show_code (hr.mono (by omega)) (by rfl) T.g_show_code T.F_show_code.kp T.b_show_code .nil pass0 (pa_cons (pv 6) pa_nil)) (pv 5) (nomark _)) (pw_or1 (pt_cmpR (op_neD hr.units) (pe_callS G_read_code (hr.mono (by omega)) (by rfl) T.g_read_code T.F_read_code.kp T.b_read_code (fun σ => passAt takes0 σ) (pa_cons (pv 5) pa_nil)) (pv 6) (nomark _)))))
        (pss_one (ps_ret pe_bl))
        pss_nil)
      (pss_cons (ps_set (i := 7) sc_law.nd rfl (Or.inr rfl) (pe_call G_z_loose (hr.mono (by omega)) (by rfl) T.g_z_loose T.F_z_loose.kp T.b_z_loose .nil pass0 (pa_cons (pv 1) (pa_cons (pv 4) pa_nil))))
      (pss_cons (ps_if (pt_cmpR (op_neD hr.units) (pe_callS G_read_code (hr.mono (by omega)) (by rfl) T.g_read_code T.F_read_code.kp T.b_read_code (fun σ => passAt takes0 σ) (pa_cons (pe_op op_add_str (pe_bm PySem.F.plainAttrs_str PySem.F.slot_str_join PySem.F.type_str_join mt_join pe_str (pa_cons (pv 7) pa_nil)) (pe_ix ix_list (pe_lst (pa_cons pe_str (pa_cons pe_str (pa_cons pe_str pa_nil)))) (pe_call G_z_take (hr.mono (by omega)) (by rfl) T.g_z_take T.F_z_take.kp T.b_z_take .nil pass0 (pa_cons (pv 1) (pa_cons pe_int pa_nil))) (fun _ _ => rfl))) pa_nil)) (pv 6) (nomark _))
        (pss_one (ps_ret pe_bl))
        pss_nil)
      (pss_cons (ps_set (i := 8) sc_law.nd rfl (Or.inl rfl) (pe_ix ix_list (pe_lst (pa_cons pe_str (pa_cons pe_str (pa_cons pe_str (pa_cons pe_str (pa_cons pe_str (pa_cons pe_str (pa_cons pe_str (pa_cons pe_str (pa_cons pe_str (pa_cons pe_str (pa_cons pe_str (pa_cons pe_str (pa_cons pe_str (pa_cons pe_str (pa_cons pe_str (pa_cons pe_str (pa_cons pe_str (pa_cons pe_str (pa_cons pe_str (pa_cons pe_str (pa_cons pe_str (pa_cons pe_str pa_nil))))))))))))))))))))))) (pe_call G_z_take (hr.mono (by omega)) (by rfl) T.g_z_take T.F_z_take.kp T.b_z_take .nil pass0 (pa_cons (pv 1) (pa_cons pe_int pa_nil))) (fun _ _ => rfl)))
      (pss_cons (ps_set (i := 9) sc_law.nd rfl (Or.inl rfl) (pe_ix ix_list (pe_lc (own := [("k", 12)]) (g := gName 12) (by rfl) sc_law.nd (pi_range1 (by rfl) T.m_range (pa_cons (pe_callB call_len_seq (by rfl) T.m_len (by decide +kernel) (pa_cons (pv 7) pa_nil)) pa_nil)) (blkOk_by (own := [("k", 12)]) (N := N_law) (sc := defScope s_law) (by decide +kernel)) (fun _ _ _ _ _ => (pg_name (i := 12) sc_law.nd rfl (Or.inl rfl))) (fun _ _ _ _ _ => (pts_one (pt_cmpR op_ne (pe_replI (pe_bmK (K := K) rfl PySem.F.plainAttrs_str PySem.F.slot_str_split PySem.F.type_str_split mt_split (pe_ix (ixL (K := K) rfl) (pv 7) (pv 12) (fun _ _ => rfl)) (pa_cons pe_str pa_nil)) (ixL (K := K) rfl) (fun _ _ => rfl)) pe_str (nomark _)))) (fun _ _ _ _ _ => (pv 12))) pe_int (fun _ _ => rfl)))
      (pss_cons (ps_set (i := 10) sc_law.nd rfl (Or.inl rfl) (pe_op op_add (pe_op op_add (pv 9) pe_int) (pe_call G_z_take (hr.mono (by omega)) (by rfl) T.g_z_take T.F_z_take.kp T.b_z_take .nil pass0 (pa_cons (pv 1) (pa_cons (pe_op op_sub (pe_callB call_len_seq (by rfl) T.m_len (by decide +kernel) (pa_cons (pv 7) pa_nil)) (pv 9)) pa_nil)))))
      (pss_cons (ps_if (pt_cmpR op_ne (pe_call G_z_told (hr.mono (by omega)) (by rfl) T.g_z_told T.F_z_told.kp T.b_z_told .nil pass0 (pa_cons (pe_bm PySem.F.plainAttrs_str PySem.F.slot_str_join PySem.F.type_str_join mt_join pe_str (pa_cons (pe_op op_cat (pe_op op_cat (pe_slice sl_list (pv 7) po_none (po_some (pv 10))) (pe_lst (pa_cons (pv 8) pa_nil))) (pe_slice sl_list (pv 7) (po_some (pv 10)) po_none)) pa_nil)) pa_nil)) (pe_op op_add (pv 10) pe_int) (nomark _))
        (pss_one (ps_ret pe_bl))
        pss_nil)
      (pss_cons (ps_set (i := 11) sc_law.nd rfl (Or.inl rfl) (pe_ix ix_list (pe_lst (pa_cons pe_str (pa_cons pe_str (pa_cons pe_str (pa_cons pe_str (pa_cons pe_str (pa_cons pe_str (pa_cons pe_str (pa_cons pe_str pa_nil))))))))) (pe_call G_z_take (hr.mono (by omega)) (by rfl) T.g_z_take T.F_z_take.kp T.b_z_take .nil pass0 (pa_cons (pv 1) (pa_cons pe_int pa_nil))) (fun _ _ => rfl)))
      (pss_cons (ps_if (pt_cmpR op_ne (pe_call G_z_told (hr.mono (by omega)) (by rfl) T.g_z_told T.F_z_told.kp T.b_z_told .nil pass0 (pa_cons (pe_bm PySem.F.plainAttrs_str PySem.F.slot_str_join PySem.F.type_str_join mt_join pe_str (pa_cons (pe_op op_cat (pe_lst (pa_cons pe_str (pa_cons pe_str (pa_cons (pv 11) pa_nil)))) (pv 4)) pa_nil)) pa_nil)) pe_int (nomark _))
        (pss_one (ps_ret pe_bl))
        pss_nil)
      (pss_one (ps_ret (pe_and (pe_cmpR op_eq (pe_call G_z_told (hr.mono (by omega)) (by rfl) T.g_z_told T.F_z_told.kp T.b_z_told .nil pass0 (pa_cons pe_str pa_nil)) pe_int (nomark _)) (pe_one (pe_cmpR op_eq (pe_call G_z_told (hr.mono (by omega)) (by rfl) T.g_z_told T.F_z_told.kp T.b_z_told .nil pass0 (pa_cons pe_str pa_nil)) pe_int (nomark _))))))))))))))))))))), ?_⟩
    refine ⟨_, rfl, a, ns, rfl, hS, hlen, fun H1 dr sm ndr D => ?_⟩
    obtain ⟨tc, htc, etc⟩ := List.mem_map.mp (show T.P_number_of ∈ T.tabs.map (·.2) from List.mem_singleton.mpr rfl)
    have tb1 : TbA T H1 := ⟨#[], sm _ _ (by rw [← etc]; exact htab tc htc), trivial⟩
    have ndr : ∀ {H' : Hp}, TbA T H' → DrawAt H' dr → dr ≠ T.P_number_of := fun t d m => by
      obtain ⟨ps, e, _⟩ := t
      obtain ⟨xs, e'⟩ := drawAt_isl d
      rw [← m, e'] at e
      cases e
    have tbg : ∀ {Ha Hb : Hp}, TbA T Ha → DrawAt Ha dr → GS dr Ha Hb → TbA T Hb := fun t d g => tabG_kt g.k (fun z => ndr t d (List.mem_singleton.mp z).symm) t
    -- the width
    refine ⟨_, rfl, dr, 32, rfl, D, by decide, by decide, fun r H2 r0 r1 g2 => ⟨_, _, rfl, rfl, ?_⟩⟩
    obtain ⟨n, hn0, n1, n2⟩ : ∃ n : Nat, 1 + r = (n : Int) ∧ 1 ≤ n ∧ n ≤ 32 := ⟨(1 + r).toNat, by omega, by omega, by omega⟩
    show gName 2 (V.int (1 + r)) _ _ _
    rw [hn0]
    have tb2 := tbg tb1 D g2
    have D2 := g2.d
    -- the code
    refine ⟨_, rfl, dr, 8, rfl, D2, by decide, by decide, fun r3 H3 r30 r31 g3 => ⟨_, rfl, by omega, by omega, fun C nC => ?_⟩⟩
    have tb3 := tbg tb2 D2 g3
    have D3 := g3.d
    obtain ⟨m, rfl⟩ := int_nat r30
    have hm : m < 8 := by omega
    have Cd : C ∉ [dr] := by rw [List.mem_singleton]; exact ne_new D3 nC
    refine lc_it (tt := tYes) (walk_range (lo := 0) (n := m)) (fun i H4 => GS dr H3 H4 ∧ ∃ vs code, H4 C = some (.lst vs) ∧ P2 (InsV H4) vs code ∧ code.length = i ∧ ∀ d ∈ code, GI n d) ?_ ?_ ?_ ?_
    · exact ⟨GS.new D3 nC, [], [], upd_same, .nil, rfl, fun d m => by cases m⟩
    · intro i H4 _ _
      trivial
    · rintro i x H4 H5 hi ⟨g, vs, code, hC, hP, hl, hg⟩ ⟨rfl, rfl⟩
      refine ⟨rfl, yes_go (ite_t rfl ?_)⟩
      refine ⟨_, rfl, _, rfl, dr, n, 9, rfl, g.d, n2, by decide, fun v op ps H6 g6 hv ok => ?_⟩
      have hC6 := g6.k.kp _ _ Cd hC
      refine ⟨vs, hC6, ?_, (g.trans g6).late D3 nC, vs ++ [v], code ++ [(op, ps)], upd_same, ?_, by rw [List.length_append, hl]; rfl, fun d m => ?_⟩
      · rw [hP.len, hl]
        exact Nat.lt_trans (show i < 100 by omega) (by decide)
      · have up : ∀ v d, InsV H6 v d → InsV (upd H6 C (.lst (vs ++ [v]))) v d := fun v d h => by
          obtain ⟨u, rfl, h1⟩ := h
          exact ⟨u, rfl, by rw [upd_ne (fun y => by rw [y, hC6] at h1; cases h1)]; exact h1⟩
        have up2 : ∀ v' d, InsV H6 v' d → InsV (upd H6 C (.lst (vs ++ [v]))) v' d := fun v' d h => by
          obtain ⟨u, rfl, h1⟩ := h
          exact ⟨u, rfl, by rw [upd_ne (fun y => by rw [y, hC6] at h1; cases h1)]; exact h1⟩
        exact (hP.mono fun v' d h => up2 v' d (h.keep g6.k)).snoc (up2 _ _ hv)
      · rcases List.mem_append.mp m with m | m
        · exact hg d m
        · rw [List.mem_singleton.mp m]; exact ⟨ok⟩
    · rintro H4 ⟨g4, vs, code, hC, hP, hcl, hgi⟩
      have tb4 := tbg tb3 D3 g4
      have D4 := g4.d
      have cg : CodeG n code := ⟨⟨by omega, by omega⟩, by omega, fun d hd => gi_g n2 (hgi d hd)⟩
      have kds : ∀ d ∈ code, KdA TA d.1 := fun d hd => by
        obtain ⟨k, hk, e⟩ := (hgi d hd).ok.wd
        rw [e]
        exact ka_wd TA k hk
      have hwi : ∀ d ∈ code, WdIn d.1 := fun d hd => (hgi d hd).ok.wd
      -- the lines
      refine ⟨_, rfl, n, rfl, intB_log cg.nb, "width ", _, rfl, rfl, Nat.le_trans (Nat.add_le_add (show ("width " : Str).length ≤ 6 by decide +kernel) (intB_len cg.nb)) (by decide), (by show 1 ≤ sizeLine; decide), fun A1 nA1 => ?_⟩
      have k5 : KT [] H4 (upd H4 A1 (.lst [.str (widS n)])) := KT.new _ nA1
      refine ⟨_, rfl, C, rfl, ⟨_, SqL.of (k5.kp _ _ (by simp) hC)⟩, fun L nL => ?_⟩
      have AL : A1 ≠ L := fun y => by rw [← y, upd_same] at nL; cases nL
      refine lc_it (tt := tYes) (walk_list (K := K) (a := C) (xs := vs)) (fun i H5 => KT [] (upd H4 A1 (.lst [.str (widS n)])) H5 ∧ H5 L = some (.lst (((code.take i).map fun d => lineS d.1 d.2).map V.str))) ?_ ?_ ?_ ?_
      · exact ⟨KT.new _ nL, upd_same⟩
      · rintro i H5 _ ⟨k, _⟩
        exact SqL.of ((k5.trans k).kp _ _ (by simp) hC)
      · rintro i x H5 H6 hi ⟨k, hL⟩ ⟨rfl, hx⟩
        obtain ⟨d, hd, hv⟩ := hP.get hx
        obtain ⟨z, rfl, hz⟩ := hv.keep (k5.trans k)
        have dm := List.mem_of_getElem? hd
        refine ⟨rfl, yes_go (ite_t rfl ?_)⟩
        refine ⟨_, rfl, z, d.1, d.2, rfl, hz, cg.ins d dm, hwi d dm, fun H7 k7 => ⟨_, k7.kp _ _ (by simp) hL, ?_, (k.trans k7).late nL, ?_⟩⟩
        · rw [List.length_map, List.length_map]
          exact Nat.lt_of_le_of_lt (Nat.le_trans (List.length_take_le' _ _) cg.ln) (by decide)
        · rw [upd_same, List.take_succ, hd, List.map_append, List.map_append]
          rfl
      · rintro H5 ⟨k6, hL⟩
        rw [hP.len, List.take_length] at hL
        have hA := k6.kp _ _ (by simp) (show (upd H4 A1 (.lst [.str (widS n)])) A1 = _ from upd_same)
        refine ⟨A1, L, _, _, rfl, rfl, hA, hL, (by show 1 + _ ≤ _; rw [List.length_map, List.length_map]; exact Nat.le_trans (Nat.add_le_add_left cg.ln 1) (by decide)), fun B nB => ?_⟩
        have k7 : KT [] H5 (upd H5 B (.lst ([.str (widS n)] ++ (code.map fun d => lineS d.1 d.2).map V.str))) := KT.new _ nB
        have hB : (upd H5 B (.lst ([.str (widS n)] ++ (code.map fun d => lineS d.1 d.2).map V.str))) B = some (.lst ((linesS n code).map V.str)) := upd_same
        have k8 := (k5.trans k6).trans k7
        have hC8 := k8.kp _ _ (by simp) hC
        have hP8 : P2 (InsV (upd H5 B (.lst ([.str (widS n)] ++ (code.map fun d => lineS d.1 d.2).map V.str)))) vs code := hP.mono fun v d h => h.keep k8
        generalize (upd H5 B (.lst ([.str (widS n)] ++ (code.map fun d => lineS d.1 d.2).map V.str))) = H8 at k8 hB hC8 hP8 ⊢
        have gl := linesS_len cg
        have tb8 : TbA T H8 := tb4.same k8
        have D8 : DrawAt H8 dr := (GS.of D4 k8).d
        clear k5 k6 k7 hA hL
        -- the text
        refine ⟨rfl, _, rfl, "\n", B, _, rfl, rfl, .inl (SqL.of hB), ?_, ?_⟩
        · refine Nat.le_trans (Nat.add_le_add (sum_le gl.2) (Nat.mul_le_mul gl.1 (show ("\n" : Str).length ≤ 1 by decide +kernel))) ?_
          refine Nat.le_trans (Nat.add_le_add (Nat.mul_le_mul gl.1 (Nat.le_refl 200)) (Nat.le_refl _)) (by decide)
        have ej : Txt.join "\n" (linesS n code) = Str.join "\n" (linesS n code) := joinT _ _
        rw [ej]
        have jl : (Str.join "\n" (linesS n code)).length ≤ 3000 := by
          have j := join_len "\n" (linesS n code)
          have e1 : ("\n" : Str).length = 1 := by decide +kernel
          have s1 : ((linesS n code).map Str.length).sum ≤ (linesS n code).length * 200 := sum_le gl.2
          rw [e1] at j
          have := gl.1
          omega
        refine ⟨_, _, rfl, rfl, Nat.le_trans (Nat.add_le_add jl (show ("\n" : Str).length ≤ 1 by decide +kernel)) (by decide), ?_⟩
        have tl : (textS (linesS n code)).length ≤ 100000 := by
          unfold textS
          rw [app_len]
          exact Nat.le_trans (Nat.add_le_add jl (show ("\n" : Str).length ≤ 1 by decide +kernel)) (by decide)
        show gName 5 (.str (textS (linesS n code))) _ _ _
        -- the machine
        refine ⟨_, rfl, _, rfl, C, _, rfl, .inl ⟨SqL.of hC8, fun u nu => ⟨(by show 2 ≤ sizeLine; decide), fun M nM => ?_⟩⟩⟩
        obtain ⟨wlen, lng⟩ := lines_lng hgi cg
        have gd := lines_good wlen lng
        have nel : linesS n code ≠ [] := by unfold linesS; simp
        have lt : linL (toL (textS (linesS n code))) = (linesS n code).map toL := lin_text (fun x m => (gd.free x m).1) nel
        have ku : KT [] H8 (upd (upd H8 u (.tup vs)) M (.tup [.int (n : Nat), .ref u])) := (KT.new _ nu).trans (KT.new _ nM)
        have uM : u ≠ M := fun y => by rw [y, upd_same] at nM; cases nM
        have mi : MacI (upd (upd H8 u (.tup vs)) M (.tup [.int (n : Nat), .ref u])) (.ref M) n code := ⟨M, u, vs, rfl, upd_same, by rw [upd_ne uM, upd_same], hP8.mono fun v d h => h.keep ku⟩
        have tbm := tb8.same ku
        have Dm : DrawAt (upd (upd H8 u (.tup vs)) M (.tup [.int (n : Nat), .ref u])) dr := (GS.of D8 ku).d
        have hBm := ku.kp _ _ (by simp) hB
        generalize (upd (upd H8 u (.tup vs)) M (.tup [.int (n : Nat), .ref u])) = Hm at mi tbm Dm hBm ⊢
        have rdt : rdT (textS (linesS n code)) = .inr ((n : Int), code.map fun d => (d.1, d.2.map some)) := text_good n1 n2 hgi gd lt
        -- read back
        refine ⟨_, rfl, _, n, code, rfl, mi, cg, kds, fun H9 k9 => ⟨_, rfl, rfl, _, rfl, ite_f ?_ ?_⟩⟩
        · simp
        refine ⟨_, rfl, textS (linesS n code), rfl, tl, text_lok hgi gd (by rw [List.length_map]; exact Nat.le_trans gl.1 (by decide)) lt, tbm.same k9, fun HA v mm kA tbA er hm => ?_, fun l er => ?_⟩
        · obtain rfl := Sum.inr.inj (er.symm.trans rdt)
          have mA := mac_of hm
          have k9A : KT T.Ps Hm HA := (k9.mono (by simp)).trans kA
          have miA := mi.keep k9A
          have sh : Shp 4 (macD n code) := mac_shp hgi
          refine ⟨_, rfl, _, _, (mac_rp mA).dp, (mac_rp miA).dp, sh.ok (by decide), sh.ok (by decide), _, rfl, ?_⟩
          rw [sh.refl]
          refine ite_f (by decide) ?_
          have BP : B ∉ T.Ps := lst_notP tbm hBm
          have hBA := k9A.kp _ _ BP hBm
          have DA : DrawAt HA dr := draw_ps tbm k9A Dm
          clear mA
          -- the loose lines
          refine ⟨_, rfl, _, rfl, dr, B, linesS n code, wssOf n code, rfl, DA, draw_str DA hBA, hBA, gl.1, wlen, lng, fun HB R fs gB nR hR lo lf => ?_⟩
          have gL := lo.good wss_ne
          have tbB := tbg tbA DA gB
          have DB := gB.d
          have miB := miA.keep gB.k
          have Bdr : B ∉ [dr] := by rw [List.mem_singleton]; exact draw_str DA hBA
          have hBB := gB.k.kp _ _ Bdr hBA
          have fx : ∀ x ∈ fs, x.length ≤ 1000 := fun x m => by
            have := (gL.free (toL x) (List.mem_map_of_mem m)).2
            rw [toL_len] at this
            exact this
          obtain ⟨jl2, js2⟩ := join_le lf fx
          refine ⟨rfl, _, rfl, "\n", R, _, rfl, rfl, .inl (SqL.of hR), Nat.le_trans js2 (by decide), (by show 3 ≤ sizeLine; decide), fun p3 np3 => ?_⟩
          have gC := GS.new (o := .lst [.str "", .str "\n", .str "\n\n"]) DB np3
          have p3d : p3 ∉ [dr] := by rw [List.mem_singleton]; exact ne_new DB np3
          refine ⟨_, rfl, dr, 3, rfl, gC.d, by decide, by decide, fun r4 HD r40 r41 gD => ?_⟩
          obtain ⟨e, hea, hem⟩ := pick3 "" "\n" "\n\n" r40 r41
          have ejf : Txt.join "\n" fs = Str.join "\n" fs := joinT _ _
          have el2 : e.length ≤ 2 := by rcases hem with rfl | rfl | rfl <;> decide +kernel
          refine ⟨p3, _, _, _, rfl, rfl, SqL.of (gD.k.kp _ _ p3d upd_same), hea, _, _, rfl, rfl, ?_, ?_⟩
          · rw [ejf]
            exact Nat.le_trans (Nat.add_le_add jl2 el2) (by decide)
          rw [ejf]
          obtain ⟨xs2, hx2, gx2, lx2⟩ := loose_text lo lf hem
          have gCD := gC.trans gD
          have tbD := tbg tbB DB gCD
          have rdt2 : rdT (Str.join "\n" fs ++ e) = .inr ((n : Int), code.map fun d => (d.1, d.2.map some)) := text_good n1 n2 hgi gx2 hx2
          refine ⟨_, rfl, ?_, text_lok hgi gx2 lx2 hx2, tbD, fun HE v2 mm kE tbE er hm => ?_, fun l er => ?_⟩
          · rw [app_len]
            exact Nat.le_trans (Nat.add_le_add jl2 el2) (by decide)
          · obtain rfl := Sum.inr.inj (er.symm.trans rdt2)
            have mE := mac_of hm
            have miE := (miB.keep gCD.k).keep kE
            refine ⟨_, rfl, _, _, (mac_rp mE).dp, (mac_rp miE).dp, sh.ok (by decide), sh.ok (by decide), _, rfl, ?_⟩
            rw [sh.refl]
            refine ite_f (by decide) ?_
            have Rd : R ∉ [dr] := by rw [List.mem_singleton]; exact ne_new DA nR
            have hRD := gCD.k.kp _ _ Rd hR
            have hRE := kE.kp _ _ (lst_notP tbD hRD) hRD
            have hBD := gCD.k.kp _ _ Bdr hBB
            have hBE := kE.kp _ _ (lst_notP tbD hBD) hBD
            have DE := draw_ps tbD kE gCD.d
            clear mE miE miB
            -- a wrong line
            refine ⟨(by show 22 ≤ sizeLine; decide), fun p4 np4 => ?_⟩
            have gF := GS.new (o := .lst (wrongL.map V.str)) DE np4
            have p4d : p4 ∉ [dr] := by rw [List.mem_singleton]; exact ne_new DE np4
            refine ⟨_, rfl, dr, 22, rfl, gF.d, by decide, by decide, fun r5 HG r50 r51 gG => ?_⟩
            obtain ⟨kw, hkw, hwr⟩ := pickL (ls := wrongL) r50 r51
            have hkw : kw < 22 := hkw
            refine ⟨p4, _, _, _, rfl, rfl, SqL.of (gG.k.kp _ _ p4d upd_same), hwr, ?_⟩
            have gFG := gF.trans gG
            have hRG := gFG.k.kp _ _ Rd hRE
            have hBG := gFG.k.kp _ _ Bdr hBE
            have tbG := tbg tbE DE gFG
            have DG := gFG.d
            -- the first line
            refine ⟨_, rfl, R, _, rfl, .inl (SqL.of hRG), _, rfl, ?_, ?_, fun F nF => ?_⟩
            · rw [List.length_map]; omega
            · rw [List.length_map]; omega
            have nz : ((List.map V.str fs).length : Int).toNat = fs.length := by rw [List.length_map]; rfl
            refine lc_it (te := tVar 12) (walk_range (lo := 0) (n := ((List.map V.str fs).length : Int).toNat)) (fun i H1 => KT [] HG H1 ∧ H1 F = some (.lst (((List.range i).filter fun k => decide (wdsL (toL (fs.getD k "")) ≠ [])).map fun k : Nat => V.int k))) ?_ ?_ ?_ ?_
            · exact ⟨KT.new _ nF, upd_same⟩
            · intro i H1 _ _
              trivial
            · rintro i x H1 H2 hi ⟨k, hF⟩ ⟨rfl, rfl⟩
              rw [nz] at hi
              have hfi : fs[i]? = some (fs.getD i "") := by rw [List.getD_eq_getElem?_getD, List.getElem?_eq_getElem hi]; rfl
              have hRk := k.kp _ _ (by simp) hRG
              have hat : atI (fs.map V.str) ((0 : Int) + (i : Nat)) = some (.str (fs.getD i "")) := by
                rw [Int.zero_add]
                refine atI_nat ?_
                rw [List.getElem?_map, hfi]
                rfl
              obtain ⟨q0, qs, esp, ql, ef⟩ := front_str (fs.getD i "")
              have fil := fx _ (List.mem_of_getElem? hfi)
              refine ⟨rfl, _, rfl, _, rfl, R, _, _, _, rfl, rfl, SqL.of hRk, hat, rfl, _, "#", rfl, rfl, rfl, Nat.le_trans (Nat.add_le_add_right fil 2) (by decide), fun q nq => ?_⟩
              rw [esp]
              have k2 : KT [] HG (upd H2 q (.lst ((q0 :: qs).map V.str))) := k.late (k.free nq)
              have hF2 := (upd_ne (H := H2) (a := q) (b := F) (o := .lst ((q0 :: qs).map V.str)) (fun y => by rw [← y, hF] at nq; cases nq)).trans hF
              refine ⟨q, _, 0, .str q0, rfl, rfl, SqL.of upd_same, atI_nat (j := 0) rfl, _, rfl, ?_, rfl, _, rfl, ?_⟩
              · have e0 : ("" : Str).length = 0 := by decide +kernel
                rw [e0]
                have := Nat.le_trans ql fil
                omega
              have eb : (!decide (V.str (Txt.replace q0 " " "") = V.str "")) = decide (wdsL (toL (fs.getD i "")) ≠ []) := by
                rw [str_eq, ef, show toL ("" : Str) = [] from rfl]
                have := front_iff (toL (fs.getD i ""))
                by_cases z : wdsL (toL (fs.getD i "")) = []
                · rw [decide_eq_true (this.mpr z), decide_eq_false (fun y => y z)]
                  rfl
                · rw [decide_eq_false (fun y => z (this.mp y)), decide_eq_true z]
                  rfl
              show (if (!decide (V.str (Txt.replace q0 " " "") = V.str "")) = true then _ else _)
              rw [eb]
              refine ite2 (fun z => ?_) (fun z => ?_)
              · refine ⟨_, rfl, _, hF2, ?_, k2.late nF, ?_⟩
                · rw [List.length_map]
                  exact Nat.lt_of_le_of_lt (List.length_filter_le _ _) (by rw [List.length_range]; exact Nat.lt_trans (show i < 100 by omega) (by decide))
                · have fz : [i].filter (fun k => decide (wdsL (toL (fs.getD k "")) ≠ [])) = [i] := by
                    have zz := of_decide_eq_true z
                    simpa using zz
                  rw [upd_same, List.range_succ, List.filter_append, fz, List.map_append]
                  show some (HO.lst (_ ++ [V.int ((0 : Int) + (i : Nat))])) = _
                  rw [Int.zero_add]
                  rfl
              · refine ⟨k2, ?_⟩
                have fz : [i].filter (fun k => decide (wdsL (toL (fs.getD k "")) ≠ [])) = [] := by
                  have zz : wdsL (toL (fs.getD i "")) = [] := Decidable.not_not.mp fun y => z (decide_eq_true y)
                  simpa using zz
                rw [hF2, List.range_succ, List.filter_append, fz, List.append_nil]
            · rintro H1 ⟨kF, hF⟩
              rw [nz] at hF
              obtain ⟨k0, kr, ek, hk0, hw0⟩ := first_ex lo
              rw [ek] at hF
              have hRF := kF.kp _ _ (by simp) hRG
              have hBF := kF.kp _ _ (by simp) hBG
              have gH := GS.of DG kF
              refine ⟨F, _, 0, .int (k0 : Nat), rfl, rfl, SqL.of hF, atI_nat (j := 0) rfl, ?_⟩
              refine ⟨_, rfl, _, _, rfl, rfl, _, rfl, _, rfl, R, _, rfl, .inl (SqL.of hRF), _, rfl, _, _, rfl, rfl, dr, _, rfl, gH.d, ?_, ?_, fun r6 HI r60 r61 gI => ?_⟩
              · rw [List.length_map]; omega
              · rw [List.length_map]
                have : (2 : Int) ^ 40 = 1099511627776 := by decide
                omega
              rw [List.length_map] at r61
              obtain ⟨at', hat', ha1, ha2⟩ : ∃ at' : Nat, ((k0 : Nat) : Int) + 1 + r6 = (at' : Int) ∧ k0 < at' ∧ at' ≤ fs.length := ⟨(((k0 : Nat) : Int) + 1 + r6).toNat, by omega, by omega, by omega⟩
              refine ⟨_, _, rfl, rfl, ?_⟩
              show gName 10 (.int (((k0 : Nat) : Int) + 1 + r6)) _ _ _
              rw [hat']
              have gJ := gH.trans gI
              have hRJ := gJ.k.kp _ _ Rd hRG
              have hBJ := gJ.k.kp _ _ Bdr hBG
              have tbJ := tbg tbG DG gJ
              have DJ := gJ.d
              have tw := wrong_text TA n1 n2 hgi lo lf ha2 ha1 hw0 hkw
              have hlm : at' ≤ (fs.map V.str).length := by rw [List.length_map]; exact ha2
              refine ⟨rfl, _, rfl, _, rfl, (at' : Int), rfl, R, _, rfl, SqL.of hRJ, fun q1 nq1 => ?_⟩
              rw [cutV_to _ _ hlm]
              have kq1 : KT [] HI (upd HI q1 (.lst ((fs.map V.str).take at'))) := KT.new _ nq1
              refine ⟨_, rfl, (by show 1 ≤ sizeLine; decide), fun q2 nq2 => ?_⟩
              have kq2 := KT.new [] (o := .lst [.str (wrongL.getD kw "")]) nq2
              refine ⟨q1, q2, _, _, rfl, rfl, kq2.kp _ _ (by simp) upd_same, upd_same, ?_, fun q3 nq3 => ?_⟩
              · rw [List.length_take, List.length_map]
                exact Nat.le_trans (show min at' fs.length + 1 ≤ 100 by omega) (by decide)
              have kq3 := KT.new [] (o := .lst ((fs.map V.str).take at' ++ [.str (wrongL.getD kw "")])) nq3
              have kq13 := kq1.trans (kq2.trans kq3)
              refine ⟨_, rfl, _, rfl, (at' : Int), rfl, R, _, rfl, SqL.of (kq13.kp _ _ (by simp) hRJ), fun q4 nq4 => ?_⟩
              rw [cutV_from]
              have kq4 := KT.new [] (o := .lst ((fs.map V.str).drop at')) nq4
              refine ⟨q3, q4, _, _, rfl, rfl, kq4.kp _ _ (by simp) upd_same, upd_same, ?_, fun q5 nq5 => ?_⟩
              · rw [List.length_append, List.length_take, List.length_drop, List.length_map]
                exact Nat.le_trans (show min at' fs.length + 1 + (fs.length - at') ≤ 100 by omega) (by decide)
              have kq5 := KT.new [] (o := .lst ((fs.map V.str).take at' ++ [.str (wrongL.getD kw "")] ++ (fs.map V.str).drop at')) nq5
              have kq := kq13.trans (kq4.trans kq5)
              have eys : (fs.map V.str).take at' ++ [.str (wrongL.getD kw "")] ++ (fs.map V.str).drop at' = (fs.take at' ++ [wrongL.getD kw ""] ++ fs.drop at').map V.str := by
                rw [List.map_append, List.map_append, List.map_take, List.map_drop]
                rfl
              rw [eys] at kq kq5 ⊢
              generalize (fs.take at' ++ [wrongL.getD kw ""] ++ fs.drop at') = ys at tw kq kq5 ⊢
              obtain ⟨jw1, jw2⟩ := join_le tw.ln tw.ls
              refine ⟨"\n", q5, ys, rfl, rfl, .inl (SqL.of upd_same), Nat.le_trans jw2 (by decide), ?_⟩
              have ejw : Txt.join "\n" ys = Str.join "\n" ys := joinT _ _
              rw [ejw]
              have tbK := tbJ.same kq
              refine ⟨_, rfl, Nat.le_trans jw1 (by decide), tw.lok, tbK, fun HL kL tbL => ?_⟩
              rw [tw.rd]
              refine ⟨_, rfl, _, _, rfl, rfl, rfl, _, rfl, ite_f ?_ ?_⟩
              · show ¬ (!decide (V.int ((at' + 1 : Nat) : Int) = V.int ((at' : Int) + 1))) = true
                rw [decide_eq_true (by congr 1)]
                decide
              have kKL := (kq.mono (S' := T.Ps) (by simp)).trans kL
              have DL := draw_ps tbJ kKL DJ
              have hBL := kKL.kp _ _ (lst_notP tbJ hBJ) hBJ
              -- a bad first line
              refine ⟨(by show 8 ≤ sizeLine; decide), fun p5 np5 => ?_⟩
              have gM := GS.new (o := .lst (badL.map V.str)) DL np5
              have p5d : p5 ∉ [dr] := by rw [List.mem_singleton]; exact ne_new DL np5
              refine ⟨_, rfl, dr, 8, rfl, gM.d, by decide, by decide, fun r7 HN r70 r71 gN => ?_⟩
              obtain ⟨kb, hkb, hbr⟩ := pickL (ls := badL) r70 r71
              have hkb : kb < 8 := hkb
              refine ⟨p5, _, _, _, rfl, rfl, SqL.of (gN.k.kp _ _ p5d upd_same), hbr, ?_⟩
              have gMN := gM.trans gN
              have hBN := gMN.k.kp _ _ Bdr hBL
              have tbN := tbg tbL DL gMN
              have DN := gMN.d
              refine ⟨rfl, _, rfl, (by show 3 ≤ sizeLine; decide), fun q6 nq6 => ?_⟩
              have kq6 := KT.new [] (o := .lst [.str "", .str "# x", .str (badL.getD kb "")]) nq6
              have hB6 := kq6.kp _ _ (by simp) hBN
              refine ⟨_, rfl, q6, B, _, _, rfl, rfl, upd_same, hB6, ?_, fun q7 nq7 => ?_⟩
              · rw [List.length_map]
                exact Nat.le_trans (Nat.add_le_add_left gl.1 3) (by decide)
              have kq7 := KT.new [] (o := .lst ([.str "", .str "# x", .str (badL.getD kb "")] ++ (linesS n code).map V.str)) nq7
              have kq67 := kq6.trans kq7
              have tbd := bad_text TA hgi cg hkb
              have eyb : ([V.str "", .str "# x", .str (badL.getD kb "")] ++ (linesS n code).map V.str) = ([("" : Str), ("# x" : Str), badL.getD kb ""] ++ linesS n code).map V.str := by
                rw [List.map_append]
                rfl
              rw [eyb] at kq67 kq7 ⊢
              generalize ([("" : Str), ("# x" : Str), badL.getD kb ""] ++ linesS n code) = yb at tbd kq67 kq7 ⊢
              obtain ⟨jb1, jb2⟩ := join_le tbd.ln tbd.ls
              refine ⟨"\n", q7, yb, rfl, rfl, .inl (SqL.of upd_same), Nat.le_trans jb2 (by decide), ?_⟩
              have ejb : Txt.join "\n" yb = Str.join "\n" yb := joinT _ _
              rw [ejb]
              refine ⟨_, rfl, Nat.le_trans jb1 (by decide), tbd.lok, tbN.same kq67, fun HO2 kO tbO => ?_⟩
              rw [tbd.rd]
              refine ⟨rfl, _, rfl, ite_f (by decide) ?_⟩
              -- nothing to read
              refine ⟨"", rfl, (by decide +kernel), (none_lok TA).1, tbO, fun HP kP tbP => ?_⟩
              rw [text_none.1]
              refine ⟨rfl, _, rfl, ite_t (by decide) ?_⟩
              refine ⟨"\n # x\n", rfl, (by decide +kernel), (none_lok TA).2, tbP, fun HQ kQ tbQ => ?_⟩
              rw [text_none.2]
              exact ⟨rfl, q _⟩
          · cases er.symm.trans rdt2
        · cases er.symm.trans rdt
end

end My

set_option Elab.async false
set_option linter.all false
set_option maxRecDepth 100000
namespace My
open PySem PySem.Spec PyProof.Rows L2
set_option maxHeartbeats 16000000 in
theorem law_at {l : PySem.W.OpenLaw} {w : World} {K : PySem.W.Frag} {h : Heap} {mg : Str → Option Value} {fa : Addr} (X : K.In h) (G : h.Ns mainGlobals mg) (hfa : mg "law" = some (.ref fa)) (c : He.SaysX faL fnL tsL tfL (fun K => (exL K).all id) w h K) : LamX.LawAtS l w K CX0 12 63 "script" mg fa h := by
  have A : ∀ (i : Nat) {f : He.Fa}, faL[i]? = some f → f.ok K = true := fun i f e => c.t.d.fact i e
  have Fn : ∀ (i : Nat) {d : He.DefD}, fnL[i]? = some d → ∃ fd, FunD K d.name d.qual d.params d.body d.scope (d.dvs K) (d.kws K) (He.fAd K d.at_) fd := fun i d e => c.t.d.def_ i e
  have E : ∀ (i : Nat) {b : Bool}, (exL K)[i]? = some b → b = true := fun i b e => List.all_eq_true.mp c.more b (List.mem_of_getElem? e)
  have e := hfa.symm.trans (He.glo_ok X G (A 27 (f := .glo "law") rfl))
  cases e
  obtain ⟨_, F0⟩ := fun_ofX (x := "top") (q := "top") (st := s_top) (f := (He.ga K "top")) (Fn 0 rfl)
  have b0 := F0.binds (ps := ["w"]) fun _ _ _ _ _ _ us hl => match us, hl with | [_], _ => rfl
  obtain ⟨_, F1⟩ := fun_ofX (x := "is_whole") (q := "is_whole") (st := s_is_whole) (f := (He.ga K "is_whole")) (Fn 1 rfl)
  have b1 := F1.binds (ps := ["value"]) fun _ _ _ _ _ _ us hl => match us, hl with | [_], _ => rfl
  obtain ⟨_, F2⟩ := fun_ofX (x := "is_integer") (q := "is_integer") (st := s_is_integer) (f := (He.ga K "is_integer")) (Fn 2 rfl)
  have b2 := F2.binds (ps := ["value", "low", "high"]) fun _ _ _ _ _ _ us hl => match us, hl with | [_, _, _], _ => rfl
  obtain ⟨_, F3⟩ := fun_ofX (x := "is_count") (q := "is_count") (st := s_is_count) (f := (He.ga K "is_count")) (Fn 3 rfl)
  have b3 := F3.binds (ps := ["value"]) fun _ _ _ _ _ _ us hl => match us, hl with | [_], _ => rfl
  obtain ⟨_, F4⟩ := fun_ofX (x := "begins_with_word") (q := "begins_with_word") (st := s_begins_with_word) (f := (He.ga K "begins_with_word")) (Fn 4 rfl)
  have b4 := F4.binds (ps := ["value"]) fun _ _ _ _ _ _ us hl => match us, hl with | [_], _ => rfl
  obtain ⟨_, F5⟩ := fun_ofX (x := "is_number_of") (q := "is_number_of") (st := s_is_number_of) (f := (He.ga K "is_number_of")) (Fn 5 rfl)
  have b5 := F5.binds (ps := ["kind", "part", "width"]) fun _ _ _ _ _ _ us hl => match us, hl with | [_, _, _], _ => rfl
  obtain ⟨_, F6⟩ := fun_ofX (x := "instruction_fault") (q := "instruction_fault") (st := s_instruction_fault) (f := (He.ga K "instruction_fault")) (Fn 6 rfl)
  have b6 := F6.binds (ps := ["value", "width"]) fun _ _ _ _ _ _ us hl => match us, hl with | [_, _], _ => rfl
  obtain ⟨_, F7⟩ := fun_ofX (x := "show_instruction") (q := "show_instruction") (st := s_show_instruction) (f := (He.ga K "show_instruction")) (Fn 7 rfl)
  have b7 := F7.binds (ps := ["instruction"]) fun _ _ _ _ _ _ us hl => match us, hl with | [_], _ => rfl
  obtain ⟨_, F8⟩ := fun_ofX (x := "show_code") (q := "show_code") (st := s_show_code) (f := (He.ga K "show_code")) (Fn 8 rfl)
  have b8 := F8.binds (ps := ["machine"]) fun _ _ _ _ _ _ us hl => match us, hl with | [_], _ => rfl
  obtain ⟨_, F9⟩ := func_ofX (x := "number_of") (q := "number_of") (st := s_number_of) (p := ("number_of", none)) (Fn 9 rfl)
  have b9 := F9.fun.binds (ps := ["word"]) fun _ _ _ _ _ _ us hl => match us, hl with | [_], _ => rfl
  obtain ⟨_, F10⟩ := fun_ofX (x := "register_of") (q := "register_of") (st := s_register_of) (f := (He.ga K "register_of")) (Fn 10 rfl)
  have b10 := F10.binds (ps := ["word"]) fun _ _ _ _ _ _ us hl => match us, hl with | [_], _ => rfl
  obtain ⟨_, F11⟩ := fun_ofX (x := "instruction_of") (q := "instruction_of") (st := s_instruction_of) (f := (He.ga K "instruction_of")) (Fn 11 rfl)
  have b11 := F11.binds (ps := ["words"]) fun _ _ _ _ _ _ us hl => match us, hl with | [_], _ => rfl
  obtain ⟨_, F12⟩ := fun_ofX (x := "words_of") (q := "words_of") (st := s_words_of) (f := (He.ga K "words_of")) (Fn 12 rfl)
  have b12 := F12.binds (ps := ["line"]) fun _ _ _ _ _ _ us hl => match us, hl with | [_], _ => rfl
  obtain ⟨_, F13⟩ := fun_ofX (x := "lines_of") (q := "lines_of") (st := s_lines_of) (f := (He.ga K "lines_of")) (Fn 13 rfl)
  have b13 := F13.binds (ps := ["text"]) fun _ _ _ _ _ _ us hl => match us, hl with | [_], _ => rfl
  obtain ⟨_, F14⟩ := fun_ofX (x := "__init__") (q := "CodeError.__init__") (st := s_CodeError___init__) (f := (He.ma K (He.ga K "CodeError") "__init__")) (Fn 14 rfl)
  have b14 := F14.binds (ps := ["self", "line"]) fun _ _ _ _ _ _ us hl => match us, hl with | [_, _], _ => rfl
  obtain ⟨_, F15⟩ := fun_ofX (x := "read_width") (q := "read_width") (st := s_read_width) (f := (He.ga K "read_width")) (Fn 15 rfl)
  have b15 := F15.binds (ps := ["row"]) fun _ _ _ _ _ _ us hl => match us, hl with | [_], _ => rfl
  obtain ⟨_, F16⟩ := fun_ofX (x := "read_instructions") (q := "read_instructions") (st := s_read_instructions) (f := (He.ga K "read_instructions")) (Fn 16 rfl)
  have b16 := F16.binds (ps := ["rows", "width"]) fun _ _ _ _ _ _ us hl => match us, hl with | [_, _], _ => rfl
  obtain ⟨_, F17⟩ := fun_ofX (x := "read_code") (q := "read_code") (st := s_read_code) (f := (He.ga K "read_code")) (Fn 17 rfl)
  have b17 := F17.binds (ps := ["text"]) fun _ _ _ _ _ _ us hl => match us, hl with | [_], _ => rfl
  obtain ⟨_, F18⟩ := fun_ofX (x := "_law_draw") (q := "_law_draw") (st := s_z_draw) (f := (He.ga K "_law_draw")) (Fn 18 rfl)
  have b18 := F18.binds (ps := ["script"]) fun _ _ _ _ _ _ us hl => match us, hl with | [_], _ => rfl
  obtain ⟨_, F19⟩ := fun_ofX (x := "_law_take") (q := "_law_take") (st := s_z_take) (f := (He.ga K "_law_take")) (Fn 19 rfl)
  have b19 := F19.binds (ps := ["draw", "many"]) fun _ _ _ _ _ _ us hl => match us, hl with | [_, _], _ => rfl
  obtain ⟨_, F20⟩ := fun_ofX (x := "_law_shapes") (q := "_law_shapes") (st := s_z_shapes) (f := (He.ga K "_law_shapes")) (Fn 20 rfl)
  have b20 := F20.binds (ps := []) fun _ _ _ _ _ _ us hl => match us, hl with | [], _ => rfl
  obtain ⟨_, F21⟩ := fun_ofX (x := "_law_words") (q := "_law_words") (st := s_z_words) (f := (He.ga K "_law_words")) (Fn 21 rfl)
  have b21 := F21.binds (ps := []) fun _ _ _ _ _ _ us hl => match us, hl with | [], _ => rfl
  obtain ⟨_, F22⟩ := fun_ofX (x := "_law_number") (q := "_law_number") (st := s_z_number) (f := (He.ga K "_law_number")) (Fn 22 rfl)
  have b22 := F22.binds (ps := ["draw", "bits"]) fun _ _ _ _ _ _ us hl => match us, hl with | [_, _], _ => rfl
  obtain ⟨_, F23⟩ := fun_ofX (x := "_law_different") (q := "_law_different") (st := s_z_different) (f := (He.ga K "_law_different")) (Fn 23 rfl)
  have b23 := F23.binds (ps := ["draw", "many"]) fun _ _ _ _ _ _ us hl => match us, hl with | [_, _], _ => rfl
  obtain ⟨_, F24⟩ := fun_ofX (x := "_law_instruction") (q := "_law_instruction") (st := s_z_instruction) (f := (He.ga K "_law_instruction")) (Fn 24 rfl)
  have b24 := F24.binds (ps := ["draw", "width", "near"]) fun _ _ _ _ _ _ us hl => match us, hl with | [_, _, _], _ => rfl
  obtain ⟨_, F25⟩ := fun_ofX (x := "_law_line") (q := "_law_line") (st := s_z_line) (f := (He.ga K "_law_line")) (Fn 25 rfl)
  have b25 := F25.binds (ps := ["ins"]) fun _ _ _ _ _ _ us hl => match us, hl with | [_], _ => rfl
  obtain ⟨_, F26⟩ := fun_ofX (x := "_law_loose") (q := "_law_loose") (st := s_z_loose) (f := (He.ga K "_law_loose")) (Fn 26 rfl)
  have b26 := F26.binds (ps := ["draw", "lines"]) fun _ _ _ _ _ _ us hl => match us, hl with | [_, _], _ => rfl
  obtain ⟨_, F27⟩ := fun_ofX (x := "_law_told") (q := "_law_told") (st := s_z_told) (f := (He.ga K "_law_told")) (Fn 27 rfl)
  have b27 := F27.binds (ps := ["text"]) fun _ _ _ _ _ _ us hl => match us, hl with | [_], _ => rfl
  obtain ⟨_, F280⟩ := fun_ofX (x := "law") (q := "law") (st := s_law) (f := (He.ga K "law")) (Fn 28 rfl)
  obtain ⟨⟨oc, od, kV, doc, pm, an, cdv, ct, osl, rfl, lk, hcd⟩, kp⟩ := F280
  have F28 : Fun K "law" "law" s_law (He.ga K "law") _ := ⟨⟨oc, od, kV, doc, pm, an, cdv, ct, osl, rfl, lk, hcd⟩, kp⟩
  let T : Txt K mg := ⟨_, _, F0, He.glo_ok X G (A 0 (f := .glo "top") rfl), b0, _, _, F1, He.glo_ok X G (A 1 (f := .glo "is_whole") rfl), b1, _, _, F2, He.glo_ok X G (A 2 (f := .glo "is_integer") rfl), b2, _, _, F3, He.glo_ok X G (A 3 (f := .glo "is_count") rfl), b3, _, _, F4, He.glo_ok X G (A 4 (f := .glo "begins_with_word") rfl), b4, _, _, F5, He.glo_ok X G (A 5 (f := .glo "is_number_of") rfl), b5, _, _, F6, He.glo_ok X G (A 6 (f := .glo "instruction_fault") rfl), b6, _, _, F7, He.glo_ok X G (A 7 (f := .glo "show_instruction") rfl), b7, _, _, F8, He.glo_ok X G (A 8 (f := .glo "show_code") rfl), b8, _, _, (He.codeOf K ("number_of", none)), (He.tabOf K (He.codeOf K ("number_of", none))), F9, He.glo_ok X G (A 9 (f := .glo "number_of") rfl), b9, _, _, F10, He.glo_ok X G (A 10 (f := .glo "register_of") rfl), b10, _, _, F11, He.glo_ok X G (A 11 (f := .glo "instruction_of") rfl), b11, _, _, F12, He.glo_ok X G (A 12 (f := .glo "words_of") rfl), b12, _, _, F13, He.glo_ok X G (A 13 (f := .glo "lines_of") rfl), b13, _, _, F15, He.glo_ok X G (A 14 (f := .glo "read_width") rfl), b15, _, _, F16, He.glo_ok X G (A 15 (f := .glo "read_instructions") rfl), b16, _, _, F17, He.glo_ok X G (A 16 (f := .glo "read_code") rfl), b17, _, _, F18, He.glo_ok X G (A 17 (f := .glo "_law_draw") rfl), b18, _, _, F19, He.glo_ok X G (A 18 (f := .glo "_law_take") rfl), b19, _, _, F20, He.glo_ok X G (A 19 (f := .glo "_law_shapes") rfl), b20, _, _, F21, He.glo_ok X G (A 20 (f := .glo "_law_words") rfl), b21, _, _, F22, He.glo_ok X G (A 21 (f := .glo "_law_number") rfl), b22, _, _, F23, He.glo_ok X G (A 22 (f := .glo "_law_different") rfl), b23, _, _, F24, He.glo_ok X G (A 23 (f := .glo "_law_instruction") rfl), b24, _, _, F25, He.glo_ok X G (A 24 (f := .glo "_law_line") rfl), b25, _, _, F26, He.glo_ok X G (A 25 (f := .glo "_law_loose") rfl), b26, _, _, F27, He.glo_ok X G (A 26 (f := .glo "_law_told") rfl), b27, _, _, F28, He.glo_ok X G (A 27 (f := .glo "law") rfl), He.free_ok X G (A 28 (f := .free "abs") rfl), He.free_ok X G (A 29 (f := .free "all") rfl), He.free_ok X G (A 30 (f := .free "any") rfl), He.free_ok X G (A 31 (f := .free "bool") rfl), He.free_ok X G (A 32 (f := .free "enumerate") rfl), He.free_ok X G (A 33 (f := .free "int") rfl), He.free_ok X G (A 34 (f := .free "isinstance") rfl), He.free_ok X G (A 35 (f := .free "len") rfl), He.free_ok X G (A 36 (f := .free "min") rfl), He.free_ok X G (A 37 (f := .free "range") rfl), He.free_ok X G (A 38 (f := .free "str") rfl), He.free_ok X G (A 39 (f := .free "tuple") rfl), He.free_ok X G (A 40 (f := .free "zip") rfl), (He.int_ok X G (A 41 (f := .int "REGISTERS" 16) rfl)).choose, (He.int_ok X G (A 41 (f := .int "REGISTERS" 16) rfl)).choose_spec, (He.int_ok X G (A 42 (f := .int "WORD_BITS" 32) rfl)).choose, (He.int_ok X G (A 42 (f := .int "WORD_BITS" 32) rfl)).choose_spec, (He.int_ok X G (A 43 (f := .int "FARTHEST" 2147483648) rfl)).choose, (He.int_ok X G (A 43 (f := .int "FARTHEST" 2147483648) rfl)).choose_spec, (He.str_ok X G (A 44 (f := .str "DIGITS" "0123456789") rfl)).choose, (He.str_ok X G (A 44 (f := .str "DIGITS" "0123456789") rfl)).choose_spec, (He.ga K "CodeError"), He.glo_ok X G (A 45 (f := .glo "CodeError") rfl), (oexB_ok (E 0 rfl)), (He.ma K (He.ga K "CodeError") "__init__"), _, F14, b14, (He.eqO_ok (E 1 rfl)), (of_decide_eq_true (E 2 rfl)), (xfB_ok (E 3 rfl)), (He.noat_ok (A 46 (f := .noat "CodeError" "line") rfl)), (He.exm_ok (A 47 (f := .exm "CodeError" "CodeError" true) rfl)), (He.ga K "BackrunError"), He.glo_ok X G (A 48 (f := .glo "BackrunError") rfl), (baseB_ok (E 4 rfl)), (He.eqO_ok (E 5 rfl))⟩
  have D0 := c.t.tab 0 (t := (fun K => He.ga K "PARTS", _)) rfl
  have V0 := (E 6 rfl)
  let TA : TxA K mg w := ⟨(He.ga K "PARTS"), He.glo_ok X G (A 49 (f := .glo "PARTS") rfl), kdgt_y D0 V0 0 rfl, kdgt_y D0 V0 1 rfl, kdgt_y D0 V0 2 rfl, kdgt_y D0 V0 3 rfl, kdgt_y D0 V0 4 rfl, kdgt_y D0 V0 5 rfl, kdgt_y D0 V0 6 rfl, kdgt_y D0 V0 7 rfl, kdgt_y D0 V0 8 rfl, kdgt_y D0 V0 9 rfl, kdgt_y D0 V0 10 rfl, kdgt_y D0 V0 11 rfl, kdgt_y D0 V0 12 rfl, kdgt_y D0 V0 13 rfl, kdgt_y D0 V0 14 rfl, kdgt_y D0 V0 15 rfl, kdgt_y D0 V0 16 rfl, kdgt_y D0 V0 17 rfl, kdgt_y D0 V0 18 rfl, kdgt_y D0 V0 19 rfl, kdgt_y D0 V0 20 rfl, kdgt_y D0 V0 21 rfl, kdgt_y D0 V0 22 rfl, kdgt_y D0 V0 23 rfl, kdgt_y D0 V0 24 rfl, kdgt_y D0 V0 25 rfl, kdgt_y D0 V0 26 rfl, kdgt_y D0 V0 27 rfl, kdgt_y D0 V0 28 rfl, kdgt_y D0 V0 29 rfl, kdgt_n D0 (E 7 rfl), kdgt_n D0 (E 8 rfl), kdgt_n D0 (E 9 rfl), kdgt_n D0 (E 10 rfl), kdgt_n D0 (E 11 rfl), kdgt_n D0 (E 12 rfl)⟩
  refine ⟨PySem.W.fnOf "law" "law" (defArgs s_law) (defBody s_law) (defScope s_law) .none kV doc pm an cdv ct, T.tabs, spLaw T, fun p hp => by
    simp only [Txt.tabs, List.mem_cons, List.not_mem_nil, or_false] at hp
    subst hp
    · exact c.empty ("number_of", none) (by decide +kernel), fun p hp => by
    simp only [Txt.tabs, List.mem_cons, List.not_mem_nil, or_false] at hp
    subst hp
    · exact c.out ("number_of", none) (by decide +kernel), fun p hp => by
    simp only [Txt.tabs, List.mem_cons, List.not_mem_nil, or_false] at hp
    subst hp
    · exact PySem.W.codeHd_of_K X (c.hd ("number_of", none) (by decide +kernel)), fun s v => .of_eq (fd := PySem.W.fnOf "law" "law" (defArgs s_law) (defBody s_law) (defScope s_law) .none kV doc pm an cdv ct) rfl, fun H a ns hl hb hT hS => ⟨a, ns, rfl, hS, hl, hb, hT, fun _ => rfl⟩, fun base _ _ TB => ?_⟩
  have B : TBs T base := ⟨let z := TB (T.c_number_of, T.P_number_of) (by simp [Txt.tabs]); ⟨z.code, z.bm, z.gP⟩⟩
  exact ok_law T B TA
end My
open PySem PySem.W PyProof.Rows
set_option maxRecDepth 100000 in
set_option maxHeartbeats 0 in
theorem PySem.Challenge.cw_backrun_k23_code_as_text_holds : PySem.Challenge.rw_backrun_k23_code_as_text.Holds := by
  w_on; o_law
  refine HandSHeadRun.head_any (r := OpenLaw.row PySem.Challenge.rw_backrun_k23_code_as_text) (q := view My.rwL.prog [41]) (H := My.hkL) (ob := My.obL) (M := 20000) (loose := My.loL) (d := HandSHeadRun.topDef My.rwL.prog 41) (kwd := []) My.obL_eq (by kernel_rfl) (fun s => by kernel_rfl) My.runL (by kernel_rfl) (by kernel_rfl) (by kernel_rfl) (by rfl) (by first | assumption | decide +kernel) (by decide +kernel) ⟨rfl, rfl, rfl, rfl, rfl, by decide +kernel⟩ ?hw ?hc
  case hw => w_witness2
  case hc =>
    refine LamX.walk_ofTsE (l := PySem.Challenge.rw_backrun_k23_code_as_text) (n := 63) (k := 12) (x := "script") (CX := fun _ => L2.CX0) rfl (by decide) (by kernel_rfl) ⟨rfl, by decide, by decide⟩ ?F (fun _ _ _ _ _ h => h)
    intro w mg fa h Y G hmg0
    obtain ⟨K, KX, c⟩ := Y
    have hmg : mg ("law" : PySem.Str) = some (.ref fa) := by
      have e : (HandSHeadRun.topDef My.rwL.prog 41).name = ("law" : PySem.Str) := by kernel_rfl
      rw [← e]
      exact hmg0
    exact ⟨K, KX, My.law_at KX G hmg c⟩

