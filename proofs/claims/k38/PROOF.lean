import PyProof.Rows.All
import Wide.All
import OpenK.AllK
import Wide.FinOn
import HandS.ForMost
import HandS.IsInst
import HandS.Gcd
import HandS.Style
import HandS.SetFor
import HandS.Strs
import PyProof.ReprRoads
import KE.Datum
import KE.SortData
import KE.GoesMore
import KE.GoesZip
import HandS.Walk
import HandS.TupAny
import HandS.Star
import HandS.Deep
import HandS.Codes
import HandS.Conv
import KE.GoesEnum
import HandS.SortInts
import HandS.OwnEq
import HandS.Property
import PyProof.ReprNest
import PyProof.ReprReads
import PyProof.Rows.RegStrFacts
import KE.KOpsOwn
import PyProof.ReprBulk
import HandS.FStr
import HandS.Defaults
import OpenK.KMeth
import PyProof.NeKinds
import HandS.Wide
import KE.KMathGC
import PyProof.Walk
import PyProof.WalkLemmas
import PyProof.TwoTypes
import HandS.ClsMeth
import KE.RegKIsAll
import PySem.Challenge.RW_fromplaces_k38_whole_root_parts
set_option Elab.async false
set_option linter.all false
set_option maxRecDepth 100000
set_option maxHeartbeats 8000000
namespace Fp
open PySem PySem.Spec PyProof.Rows L2

/-! ### heaps -/
theorem same_new {H : Hp} {p : Addr} {o : HO} (h : H p = none) : Same H (upd H p o) := fun b u q => by rw [upd_ne (ne_of_none q h)]; exact q
theorem same_sqT {K : PySem.W.Frag} {H H' : Hp} {a : Addr} {xs : List V} (e : Same H H') (h : SqT K H a xs) : SqT K H' a xs := by
  rcases h with (h | ⟨o, h⟩) | h
  · exact Or.inl (Or.inl (e _ _ h))
  · exact Or.inl (Or.inr ⟨o, e _ _ h⟩)
  · exact Or.inr h
/-- a list or a tuple that is read -/
def Sq (K : PySem.W.Frag) (H : Hp) (a : Addr) (xs : List V) : Prop := SqL K H a xs ∨ SqT K H a xs
theorem Sq.same {K : PySem.W.Frag} {H H' : Hp} {a : Addr} {xs : List V} (h : Sq K H a xs) (e : Same H H') : Sq K H' a xs := h.imp (fun q => e.seq q) (fun q => same_sqT e q)
theorem sq_lst {K : PySem.W.Frag} {H : Hp} {a : Addr} {xs : List V} (h : H a = some (.lst xs)) : Sq K H a xs := Or.inl (SqL.of h)
theorem sq_tup {K : PySem.W.Frag} {H : Hp} {a : Addr} {xs : List V} (h : H a = some (.tup xs)) : Sq K H a xs := Or.inr (SqT.of h)
/-- all but p as it was -/
def Keep (p : Addr) (H H' : Hp) : Prop := ∀ b o, b ≠ p → H b = some o → H' b = some o
theorem Keep.refl (p : Addr) (H : Hp) : Keep p H H := fun _ _ _ h => h
theorem Keep.trans {p : Addr} {H H1 H2 : Hp} (a : Keep p H H1) (b : Keep p H1 H2) : Keep p H H2 := fun c o n h => b c o n (a c o n h)
theorem Keep.of {p : Addr} {H H' : Hp} (a : Same H H') : Keep p H H' := fun c o _ h => a c o h
theorem keep_upd {p : Addr} {H : Hp} {o : HO} : Keep p H (upd H p o) := fun b u n q => by rw [upd_ne n]; exact q

/-! ### what is walked: a list or a tuple -/
section
variable {X : Cx} {tg : Expr}
theorem pi_or {l : Expr} {w1 w2 : TI} (h1 : PI X tg l w1) (h2 : PI X tg l w2) : PI X tg l (fun σ H R => w1 σ H R ∨ w2 σ H R) :=
  ⟨fun pins s σ H R I h => h.elim (fun q => h1.run pins s σ H R I q) (fun q => h2.run pins s σ H R I q)⟩
def iSq (K : PySem.W.Frag) (tl : TE) : TI := fun σ H R => iList K tl σ H R ∨ iTup K tl σ H R
theorem pi_sq {l : Expr} {tl : TE} (hl : PE X l tl) : PI X tg l (iSq X.K tl) := pi_or (pi_list hl) (pi_tup hl)
end
section
variable {K : PySem.W.Frag} {tl : TE} {a : Addr} {xs : List V} {g : TG} {tt : TT} {te : TE} {vs : List Nat} {σ : L2.St} {H : Hp} {Q : VK} {tb : TS} {D : Ends}
/-- for x in a list or a tuple that stood at H0 and stands still -/
theorem for_sq {H0 : Hp} (Pv : Nat → L2.St → Hp → Prop) (hv : ∀ R : V → Hp → Prop, R (.ref a) H → tl σ H R) (hS : Sq K H0 a xs) (e0 : Same H0 H) (h0 : Pv 0 σ H) (hl : ∀ i σ' H', Pv i σ' H' → Same H0 H')
    (hs : ∀ i x σ H, xs[i]? = some x → Pv i σ H → g x σ H fun σ2 H2 => tb { D with nx := Pv (i + 1), ct := Pv (i + 1), bk := D.nx } σ2 H2) (hd : ∀ σ H, Pv xs.length σ H → D.nx σ H) : tFor (iSq K tl) g tb D σ H := by
  rcases hS with hS | hS
  · exact Or.inl (hv _ ⟨a, rfl, ⟨xs, e0.seq hS⟩, for_list (xs := xs) Pv h0 (fun i σ' H' _ p => (hl i σ' H' p).seq hS) hs hd⟩)
  · exact Or.inr (hv _ ⟨a, rfl, ⟨xs, same_sqT e0 hS⟩, for_tup (xs := xs) Pv h0 (fun i σ' H' _ p => same_sqT (hl i σ' H' p) hS) hs hd⟩)

/-! ### comprehensions whose elements leave what is tracked as it was: index i yields f i (or is left out) -/
theorem fm_succ {α : Type} (f : Nat → Option α) (i : Nat) : (List.range (i + 1)).filterMap f = (List.range i).filterMap f ++ (match f i with | some y => [y] | none => []) := by
  rw [List.range_succ, List.filterMap_append]
  cases e : f i <;> simp [e]
theorem fm_len {α : Type} (f : Nat → Option α) (n : Nat) : ((List.range n).filterMap f).length ≤ n := by
  have q := List.length_filterMap_le f (List.range n)
  rw [List.length_range] at q
  exact q
/-- the part of a reading that a turn of such a comprehension is -/
def LcTurn (f : Nat → Option V) (g : TG) (tt : TT) (te : TE) (vs : List Nat) (σ : L2.St) (i : Nat) (x : V) (H0 H1 : Hp) : Prop :=
  ∀ (Y : V → Hp → Prop) (N : Hp → Prop), (∀ y H2, Same H0 H2 → f i = some y → Y y H2) → (∀ H2, Same H0 H2 → f i = none → N H2) →
    g x (wipe σ vs) H1 fun σ2 H2 => wipe σ2 vs = wipe σ vs ∧ tt σ2 H2 fun b H3 => if b = true then te σ2 H3 Y else N H3
/-- the invariant -/
def LcInv (f : Nat → Option V) (H : Hp) (Dd : Addr) (i : Nat) (H1 : Hp) : Prop := Same H H1 ∧ H1 Dd = some (.lst ((List.range i).filterMap f))
theorem LcInv.start {f : Nat → Option V} {Dd : Addr} (hD : H Dd = none) : LcInv f H Dd 0 (upd H Dd (.lst [])) := ⟨same_new hD, by rw [upd_same]; rfl⟩
theorem LcInv.turn {f : Nat → Option V} {Dd : Addr} (hD : H Dd = none) {i : Nat} (hz : i < sizeLine) {x : V} {H1 H0 : Hp} (h : LcInv f H Dd i H1) (h0 : Same H1 H0) (t : LcTurn f g tt te vs σ i x H1 H0) :
    g x (wipe σ vs) H0 fun σ2 H2 => wipe σ2 vs = wipe σ vs ∧ tt σ2 H2 fun b H3 =>
      if b = true then te σ2 H3 fun y H4 => ∃ acc, H4 Dd = some (.lst acc) ∧ acc.length < sizeLine ∧ LcInv f H Dd (i + 1) (upd H4 Dd (.lst (acc ++ [y]))) else LcInv f H Dd (i + 1) H3 := by
  refine t _ _ (fun y H2 sm e => ?_) fun H2 sm e => ?_
  · refine ⟨_, sm _ _ h.2, Nat.lt_of_le_of_lt (fm_len f i) hz, fun b o q => ?_, ?_⟩
    · rw [upd_ne (ne_of_none q hD)]
      exact sm _ _ (h.1 _ _ q)
    · rw [upd_same, fm_succ, e]
  · refine ⟨fun b o q => sm _ _ (h.1 _ _ q), ?_⟩
    rw [sm _ _ h.2, fm_succ, e, List.append_nil]
theorem lc_sq (f : Nat → Option V) (hv : ∀ R : V → Hp → Prop, R (.ref a) H → tl σ H R) (hS : Sq K H a xs) (hz : xs.length ≤ sizeLine)
    (hs : ∀ i x H1, xs[i]? = some x → Same H H1 → LcTurn f g tt te vs σ i x H1 H1)
    (hd : ∀ Dd H1, Same H H1 → H Dd = none → H1 Dd = some (.lst ((List.range xs.length).filterMap f)) → Q (.ref Dd) H1) : tLc (iSq K tl) g tt te vs σ H Q := by
  have hi : ∀ {i : Nat} {x : V}, xs[i]? = some x → i < sizeLine := fun {i x} e => Nat.lt_of_lt_of_le (List.getElem?_eq_some_iff.mp e).1 hz
  rcases hS with hS | hS
  · exact Or.inl (hv _ ⟨a, rfl, ⟨xs, hS⟩, fun Dd hD => lc_list (xs := xs) (LcInv f H Dd) (LcInv.start hD) (fun i H1 _ p => p.1.seq hS)
      (fun i x H1 hx p => p.turn hD (hi hx) (Same.refl _) (hs i x H1 hx p.1)) fun H1 p => hd Dd H1 p.1 hD p.2⟩)
  · exact Or.inr (hv _ ⟨a, rfl, ⟨xs, hS⟩, fun Dd hD => lc_tup (xs := xs) (LcInv f H Dd) (LcInv.start hD) (fun i H1 _ p => same_sqT p.1 hS)
      (fun i x H1 hx p => p.turn hD (hi hx) (Same.refl _) (hs i x H1 hx p.1)) fun H1 p => hd Dd H1 p.1 hD p.2⟩)
/-- over a range: ahead of it stand the range's own words -/
theorem lc_rg {lo : Int} {n : Nat} {Dd : Addr} {Qd : Hp → Prop} (f : Nat → Option V) (hD : H Dd = none) (hz : n ≤ sizeLine)
    (hs : ∀ i H1, i < n → Same H H1 → LcTurn f g tt te vs σ i (.int (lo + i)) H1 H1)
    (hd : ∀ H1, Same H H1 → H1 Dd = some (.lst ((List.range n).filterMap f)) → Qd H1) : ∃ W : Nat → Nat → Hp → Prop, (∃ m, W 0 m (upd H Dd (.lst []))) ∧ ∀ i m H, W i m H →
      ((Itr lo n).stop i H ∧ Qd H) ∨ ((Itr lo n).go i H ∧ ∃ Nx : Hp → Prop, (∀ H', Nx H' → ∃ m', m' < m ∧ W (i + 1) m' H') ∧ ∀ x H', (Itr lo n).yld i H x H' → g x (wipe σ vs) H' fun σ2 H2 => wipe σ2 vs = wipe σ vs ∧ tt σ2 H2 fun b H3 =>
        if b = true then te σ2 H3 fun y H4 => ∃ acc, H4 Dd = some (.lst acc) ∧ acc.length < sizeLine ∧ Nx (upd H4 Dd (.lst (acc ++ [y]))) else Nx H3) :=
  lc_range (lo := lo) (n := n) (LcInv f H Dd) (LcInv.start hD) (fun i H1 hi p => p.turn hD (Nat.lt_of_lt_of_le hi hz) (Same.refl _) (hs i H1 hi p.1)) fun H1 p => hd H1 p.1 p.2
/-- over enumerate of a list -/
theorem lc_en {Dd : Addr} {Qd : Hp → Prop} (f : Nat → Option V) (hS : SqL K H a xs) (hD : H Dd = none) (hz : xs.length ≤ sizeLine)
    (hs : ∀ i x H1 T, xs[i]? = some x → Same H H1 → H1 T = none → LcTurn f g tt te vs σ i (.ref T) H1 (upd H1 T (.tup [.int (i : Nat), x])))
    (hd : ∀ H1, Same H H1 → H1 Dd = some (.lst ((List.range xs.length).filterMap f)) → Qd H1) : ∃ W : Nat → Nat → Hp → Prop, (∃ m, W 0 m (upd H Dd (.lst []))) ∧ ∀ i m H, W i m H →
      ((Ite K a).stop i H ∧ Qd H) ∨ ((Ite K a).go i H ∧ ∃ Nx : Hp → Prop, (∀ H', Nx H' → ∃ m', m' < m ∧ W (i + 1) m' H') ∧ ∀ x H', (Ite K a).yld i H x H' → g x (wipe σ vs) H' fun σ2 H2 => wipe σ2 vs = wipe σ vs ∧ tt σ2 H2 fun b H3 =>
        if b = true then te σ2 H3 fun y H4 => ∃ acc, H4 Dd = some (.lst acc) ∧ acc.length < sizeLine ∧ Nx (upd H4 Dd (.lst (acc ++ [y]))) else Nx H3) := by
  refine ⟨fun i m H1 => m = xs.length - i ∧ i ≤ xs.length ∧ LcInv f H Dd i H1, ⟨xs.length, rfl, Nat.zero_le _, LcInv.start hD⟩, ?_⟩
  rintro i m H1 ⟨rfl, hi, p⟩
  have q : SqL K H1 a xs := p.1.seq hS
  by_cases hlt : i < xs.length
  · have hx : xs[i]? = some xs[i] := List.getElem?_eq_getElem hlt
    refine Or.inr ⟨⟨xs, xs[i], q, hx⟩, LcInv f H Dd (i + 1), fun H' p' => ⟨xs.length - (i + 1), by omega, rfl, hlt, p'⟩, ?_⟩
    rintro v H' ⟨T, x, rfl, hT, rfl, hy⟩
    have ex : x = xs[i] := Option.some.inj ((hy xs q).symm.trans hx)
    subst ex
    exact p.turn hD (Nat.lt_of_lt_of_le hlt hz) (same_new hT) (hs i _ H1 T hx p.1 hT)
  · have e : i = xs.length := by omega
    subst e
    exact Or.inl ⟨⟨xs, q, Nat.le_refl _⟩, hd H1 p.1 p.2⟩
end
/-- from an index to the items -/
theorem fm_take {α : Type} (xs : List α) (h : α → Option V) : ∀ n, (List.range n).filterMap (fun i => (xs[i]?).bind h) = (xs.take n).filterMap h
  | 0 => by rw [List.take_zero]; rfl
  | n + 1 => by
    rw [fm_succ, fm_take xs h n, List.take_add_one, List.filterMap_append]
    cases e : xs[n]? with
    | none => rfl
    | some x =>
      cases e2 : h x <;> simp [e2]
theorem fm_all {α : Type} (xs : List α) (h : α → Option V) : (List.range xs.length).filterMap (fun i => (xs[i]?).bind h) = xs.filterMap h := by
  rw [fm_take, List.take_length]
end Fp

namespace Fp
open PySem PySem.Spec PyProof.Rows L2

/-! ### isinstance(x, (list, tuple)) -/
theorem tyx_of {K : PySem.W.Frag} {H : Hp} {a : Addr} {xs : List V} (h : Sq K H a xs) : TyX K H (.ref a) (.type "list") ∨ TyX K H (.ref a) (.type "tuple") := by
  rcases h with ((h | ⟨o, h⟩) | ⟨o, its, n, hk, hc, _⟩) | ((h | ⟨o, h⟩) | ⟨o, its, n, hk, hc, _⟩)
  · exact Or.inl (.base (.lst h))
  · exact Or.inl (.base (.frz h))
  · exact Or.inl (.kList hk hc)
  · exact Or.inr (.base (.tup h))
  · exact Or.inr (.fTuple h)
  · exact Or.inr (.kTuple hk hc)
theorem kit_lt {K : PySem.W.Frag} : PySem.W.kitAny K (.type "list") [.type "list", .type "tuple"] = some true ∧ PySem.W.kitAny K (.type "tuple") [.type "list", .type "tuple"] = some true := by
  refine ⟨kitAny_cons (kit_ty (r := true) (by decide +kernel)) (fun z => nomatch z) (fun _ => rfl), ?_⟩
  exact kitAny_cons (kit_ty (r := false) (by decide +kernel)) (fun _ => kitAny_cons (kit_ty (r := true) (by decide +kernel)) (fun z => nomatch z) (fun _ => rfl)) (fun z => nomatch z)
theorem isi_lt {K : PySem.W.Frag} {H : Hp} {a tp : Addr} {xs : List V} {Q : VK} (h : Sq K H a xs) (ht : H tp = some (.tup [.ty "list", .ty "tuple"])) (q : Q (.bl true) H) : rIsiT K [.ref a, .ref tp] H Q := by
  rcases tyx_of h with t | t
  · exact ⟨_, tp, _, _, _, true, rfl, ht, .cons (.ty _) (.cons (.ty _) .nil), t, kit_lt.1, q⟩
  · exact ⟨_, tp, _, _, _, true, rfl, ht, .cons (.ty _) (.cons (.ty _) .nil), t, kit_lt.2, q⟩
theorem kit_int {K : PySem.W.Frag} : PySem.W.kitOne K (.type "int") (.type "int") = some true := kit_ty (by decide +kernel)
theorem kit_int_bool {K : PySem.W.Frag} : PySem.W.kitOne K (.type "int") (.type "bool") = some false := kit_ty (by decide +kernel)
theorem isi_int {K : PySem.W.Frag} {H : Hp} {i : Int} {Q : VK} (q : Q (.bl true) H) : rIsi K [.int i, .ty "int"] H Q := ⟨_, _, _, _, true, rfl, .ty _, .base (.int i), kit_int, q⟩
theorem isi_bool {K : PySem.W.Frag} {H : Hp} {i : Int} {Q : VK} (q : Q (.bl false) H) : rIsi K [.int i, .ty "bool"] H Q := ⟨_, _, _, _, false, rfl, .ty _, .base (.int i), kit_int_bool, q⟩

/-! ### len of a list or a tuple -/
theorem len_sq {K : PySem.W.Frag} {H : Hp} {a : Addr} {xs : List V} {Q : VK} (h : Sq K H a xs) (q : Q (.int xs.length) H) : ∃ p ys, [V.ref a] = [.ref p] ∧ (SqL K H p ys ∨ SqT K H p ys) ∧ Q (.int ys.length) H := ⟨a, xs, rfl, h, q⟩

/-! ### set(..) of a list or a tuple of ints -/
abbrev eset (w : World) : Obj := { cls := .type "set", dict := none, data := .set #[] 0 (.fresh 0 0 (!w.params.followText "set-order")) }
section
variable {P : Program} {w : World} {A : Around} {E : Value → Shared → Prop} {s : Shared}
theorem call_set_lstI {l : Addr} {xs : Array Value} (ns : List Int) {Q : Value → Shared → Prop} (hh : A.handled = none) (hl : s.heap.IsList l xs) (hi : IntsAre xs.toList ns) (hb : ns.length + 1 < scanBound)
    (q : ∀ (h' : Heap) (tk c : Nat), SetR w h' s.heap.objs.size (fun j => decide (j ∈ ns)) c → c ≤ ns.length → (∀ b o, s.heap.get? b = some o → h'.get? b = some o) → Q (.ref s.heap.objs.size) { s with heap := h', toks := tk }) :
    wpAny (model P w) A (call (.type "set") [.ref l]) Q E s := by
  have sz : xs.size = ns.length := by have z := IntsAre.length hi; rw [Array.length_toList] at z; exact z
  obtain ⟨c0, tl0, mro0⟩ := F.called_set.mro
  have f1 := F.called_set.made
  have f2 := F.called_set.sub
  have f3 := F.called_set.notType
  have f4 := F.called_set.canCreate
  have f5 := F.typeCall_set_1 (.ref l)
  refine wpAny_call (codeAny_of_tree (wpAny_pure ⟨Code.quiet_builtin _ (by decide +kernel), codeAny_builtin F.entry_type_call ?_⟩))
  rw [Around.under_plain (weight_type_call_type "set" [.ref l] []) rfl]
  repeat (any_goals (first | assumption | wp_step))
  refine codeAny_mono (code_set_led1 (.ref l) (E := E) (Q₁ := fun ob sb => ob = .ref s.heap.objs.size ∧ sb = { s with heap := s.heap.push (eset w) }) ⟨rfl, rfl⟩) ?_
  rintro (e | fl) s1 hr
  · exact hr
  cases fl with
  | next => exact hr.elim
  | brk => exact hr.elim
  | cont => exact hr.elim
  | ret ob =>
    obtain ⟨rfl, rfl⟩ := hr
    have g0 : (s.heap.push (eset w)).get? s.heap.objs.size = some (eset w) := Heap.get?_push_size _ rfl
    have gT : Shared.TypeIs { s with heap := s.heap.push (eset w) } (.ref s.heap.objs.size) "set" := ⟨_, g0, rfl⟩
    have i1 := F.called_set.init.lookup
    have i2 := F.called_set.init.bind (.ref s.heap.objs.size)
    repeat (any_goals (first | assumption | wp_step))
    refine codeAny_mono (codeAny_call_builtin (R := wants (fun r sb => r = .none ∧ ∃ h' tk c, sb = { s with heap := h', toks := tk } ∧ SetR w h' s.heap.objs.size (fun j => decide (j ∈ ns)) c ∧ c ≤ ns.length ∧
        (∀ b o, s.heap.get? b = some o → h'.get? b = some o)) E) F.called_set.init.plain F.entry_set_init (check_set_init_1 gT ?_)) ?_
    · obtain ⟨⟨ocls, odict, odata, oslots⟩, hol, hcl, nl, hdl⟩ := hl
      simp only at hcl hdl
      subst hcl; subst hdl
      have hl0 : l < s.heap.objs.size := Heap.lt_size hol
      have hol1 : (s.heap.push (eset w)).get? l = some { cls := .type "list", dict := odict, data := .seq xs nl, slots := oslots } := Heap.get?_push_of_some _ hol
      have hl1 : (s.heap.push (eset w)).IsList l xs := ⟨_, hol1, rfl, nl, rfl⟩
      have u1 := F.sub_list_set
      have u2 := F.sub_list_frozenset
      have u3 : (Value.type "list" == Value.type "dict") = false := by decide
      unfold Builtin.«set.__init__» noKeywords Builtin.Frozenset.updateFrom
      generalize hPI : pyIter = PI
      wp_walk
      subst hPI
      refine wpAny_pyIter_list hl1 ?_
      refine wpAny_bind (wpAny_runValue ?_)
      have z1 : (s.heap.push (eset w)).objs.size = s.heap.objs.size + 1 := Heap.size_push ..
      have n1 : l ≠ (s.heap.push (eset w)).objs.size := Nat.ne_of_lt (by rw [z1]; exact Nat.lt_succ_of_lt hl0)
      have n2 : s.heap.objs.size ∉ [(s.heap.push (eset w)).objs.size, l] := by
        simp only [List.mem_cons, List.not_mem_nil, or_false, not_or]
        exact ⟨Nat.ne_of_lt (by rw [z1]; exact Nat.lt_succ_self _), Nat.ne_of_gt hl0⟩
      have it : ∀ (i : Nat) (v : Value), xs[i]? = some v → ∃ k t, ns[i]? = some k ∧ v = .int k t := fun i v hv => by
        have hlt : i < ns.length := by rw [← sz]; exact (Array.getElem?_eq_some_iff.mp hv).1
        obtain ⟨t, e⟩ := PyProof.Rows.IntsAre.int_at hi i v (by rw [Array.getElem?_toList]; exact hv)
        refine ⟨ns[i], t, List.getElem?_eq_getElem hlt, e.trans ?_⟩
        rw [List.getD_eq_getElem?_getD, List.getElem?_eq_getElem hlt]; rfl
      have hA3 : A.in1.in1.in1.handled = none := by simp [hh]
      refine set_update_ints ((Walks.list hA3 _ l n1 xs).toS) s.heap.objs.size n2 ns sz hb it (xs.size - 0) 0 _ (by omega) (Nat.zero_le _) ⟨⟨_, Heap.get?_push_size _ rfl, rfl, rfl⟩, (hl1.push _)⟩ ?_ ?_
      · exact ⟨0, Nat.le_refl 0, setR_new_at (Heap.get?_push_of_some _ g0)⟩
      · rintro ⟨h', g2, d', tk', os'⟩ c' hm hc' hS'
        obtain rfl : g2 = s.gens := hm.gens
        obtain rfl : d' = s.drawn := hm.drawn
        obtain rfl : os' = s.os := hm.os
        rw [sz] at hc'
        refine wpAny_pure (wpAny_pure ⟨rfl, h', tk', c', rfl, hS', hc', fun b o e => ?_⟩)
        have hb0 : b < s.heap.objs.size := Heap.lt_size e
        refine hm.heap b o ?_ (Heap.get?_push_of_some _ (Heap.get?_push_of_some _ e))
        simp only [List.mem_cons, List.not_mem_nil, or_false, not_or]
        exact ⟨Nat.ne_of_lt hb0, Nat.ne_of_lt (by rw [z1]; exact Nat.lt_succ_of_lt hb0)⟩
    · rintro (e | f2) s2 hr2
      · exact hr2
      cases f2 with
      | next => exact hr2.elim
      | brk => exact hr2.elim
      | cont => exact hr2.elim
      | ret r =>
        obtain ⟨rfl, h', tk, c', rfl, hS', hc', hk'⟩ := hr2
        repeat (any_goals (first | assumption | wp_step))
        exact q _ _ _ hS' hc' hk'
end
end Fp

namespace Fp
open PySem PySem.Spec PyProof.Rows L2

/-! ### repr(..) of data, where nothing is being shown -/
def rRepr (K : PySem.W.Frag) : List V → Hp → VK → Prop := fun vs H Q => ∃ (a : Addr) (d : PyData), vs = [.ref a] ∧ Dp K H (.ref a) d ∧ d.showable = true ∧ d.hasDict = false ∧ d.depth ≤ 8 ∧ d.shown.length ≤ sizeLine ∧ Q (.str d.shown) H
theorem cr_repr {X : Cx} (hu : X.A.units + 64 < cLine) (hg : X.A.guards = some []) : CallR X (.builtin "repr") (rRepr X.K) := by
  intro pins s σ H xs us Q I r h
  obtain ⟨a, d, rfl, hd, h1, h2, h3, h4, q⟩ := h
  rw [Vals.ref1 r]
  obtain ⟨as, hr⟩ := Dp.reads I d _ (.ref a) hd rfl
  refine repr_of_reads' hr h1 (fun z => by rw [h2] at z; cases z) hg (by omega) (fun _ _ e => e) (fun h' u tk k => ?_) h4
  exact ⟨.str d.shown, H, I.kept (t' := tk) k, ⟨u, rfl⟩, q⟩

/-! ### defs that are called where nothing is being shown -/
structure FnG (P : Program) (w : World) (K : PySem.W.Frag) (mg : Str → Option Value) (base : Heap) (CX : CXT) (k : Nat) (f : Addr) (fd : FuncData) (ps : List Str) (sp : Sp) : Prop where
  len : ∀ vs H Q E, sp vs H Q E → vs.length = ps.length
  go : ∀ (A : Around) (outer : List Env) (s : Shared) (H : Hp) (args : Args) (us : List Value) (vs : List V) (Q : VK) (E : XK), A.guards = some [] → Room k A → Env0 P w K mg base A outer s H → BindsTo s fd args (ps.zip us) → Vals vs us → sp vs H Q E →
    codeAny (model P w) A (.call (.ref f) args) (CR CX outer P w H s Q E) s
section
variable {P : Program} {w : World} {K : PySem.W.Frag} {mg : Str → Option Value} {base : Heap} {CX : CXT} {k : Nat} {f : Addr}
theorem fnG_of {name qual : Str} {params : Arguments} {body : List Stmt} {scope : Scope} {dV kV doc pm cdv ct oc : Value} {an od : Option Addr} {osl : Array (Option Value)} {N ps : List Str} {sp : Sp}
    (lk : K.lookup f = some ⟨oc, od, .func (PySem.W.fnOf name qual params body scope dV kV doc pm an cdv ct), osl⟩) (hcd : PySem.W.codeIn K cdv qual = true) (S : FnScope N ps scope) (len : ∀ vs H Q E, sp vs H Q E → vs.length = ps.length)
    (hb : ∀ (A : Around) (outer : List Env) (s : Shared) (H : Hp) (vs : List V) (Q : VK) (E : XK), A.guards = some [] → Room k (A.deeper (envOfC qual scope s.heap.objs.size f cdv)) → sp vs H Q E →
      ∃ t, PSs (cxOf CX P w K mg base N qual scope f cdv A outer s H E) body t ∧ t { nx := fun _ H1 => Q .non H1, rt := Q } (start N vs) H) :
    FnG P w K mg base CX (k + 1) f (PySem.W.fnOf name qual params body scope dV kV doc pm an cdv ct) ps sp := by
  constructor
  · exact len
  intro A outer s H args us vs Q E hgd hr e0 hbd rv hsp
  have z := len _ _ _ _ hsp
  have KX : K.In s.heap := e0.mod.kin.keeps (fun b o e => (e0.bs b o e).1)
  have nl : s.heap.NoLimit := e0.mod.nolimit.keeps (fun b o e => (e0.bs b o e).1)
  have par : ∀ y ∈ ps.zip us, scope.names.lookup y.1 = some .local ∨ (scope.names.lookup y.1 = some .cell ∧ ((cellsFrom (s.heap.objs.size + 1) scope.names []).lookup y.1).isSome = true) := by
    rintro ⟨n, v⟩ hy
    exact (S.par n (List.of_mem_zip hy).1).imp id fun q => ⟨q, PySem.W.cellsFrom_some _ _ _ (.inl q)⟩
  refine codeAny_call_function hr.depth (KX _ _ lk) rfl S.co S.gen rfl (PySem.W.codeRec_of KX hcd) (hbd _ _ _ _ (wpAny_newFunctionEnv_cells S.kind par ?_))
  rintro env rfl s1 x
  refine ⟨nl.keeps x.toInCall.keep, codeAny_func ?_⟩
  obtain ⟨t, ht, hq⟩ := hb A outer s H vs Q E hgd (hr.deeper _) hsp
  have I := inv_start (CX := CX) (cd := cdv) (f := f) (E := E) S hr.hd e0 z rv x
  refine wpAny_mono (ht.run [] s1 (start N vs) H _ I hq) ?_ (fun e s' h => h)
  rintro (_ | _ | _ | u) s' h
  · obtain ⟨σ', H', J, q⟩ := h
    exact ⟨.non, H', J.os, J.bare, J.base, J.hok, rfl, q⟩
  · obtain ⟨_, _, _, q⟩ := h
    exact q.elim
  · obtain ⟨_, _, _, q⟩ := h
    exact q.elim
  · obtain ⟨v, σ', H', J, r, q⟩ := h
    exact ⟨v, H', J.os, J.bare, J.base, J.hok, r, q⟩
/-- the rule for such a def -/
theorem fun_okG {x qual : Str} {st : Stmt} {fd : FuncData} {N ps : List Str} {sp : Sp} (F : Fun K x qual st f fd) (S : FnScope N ps (defScope st)) (len : ∀ vs H Q E, sp vs H Q E → vs.length = ps.length)
    (hb : ∀ (cdv : Value) (A : Around) (outer : List Env) (s : Shared) (H : Hp) (vs : List V) (Q : VK) (E : XK), A.guards = some [] → Room k (A.deeper (envOfC qual (defScope st) s.heap.objs.size f cdv)) → sp vs H Q E →
      ∃ t, PSs (cxOf CX0 P w K mg base N qual (defScope st) f cdv A outer s H E).nox (defBody st) t ∧ t { nx := fun _ H' => Q .non H', rt := Q } (start N vs) H) : FnG P w K mg base CX0 (k + 1) f fd ps sp := by
  obtain ⟨oc, od, kV, doc, pm, an, cdv, ct, osl, rfl, lk, hcd⟩ := F.ex
  refine fnG_of lk hcd S len fun A outer s H vs Q E hg hr hsp => ?_
  obtain ⟨t, h, q⟩ := hb cdv A outer s H vs Q E hg hr hsp
  exact ⟨t, h.nox, q⟩
end
section
variable {X : Cx} {CX : CXT} {k : Nat} {f : Addr} {fd : FuncData} {ps : List Str} {sp : Sp} {E : XK} {x : Str} {p pos : Pos} {e : Expr} {es : List Expr} {t : TA}
theorem pe_callG (F : FnG X.prog X.w X.K X.mg X.base CX k f fd ps sp) (hgd : X.A.guards = some []) (hr : Room k X.A) (hg : Gl X x) (hm : X.mg x = some (.ref f)) (hk : PySem.W.keepIn X.K (.ref f) = true) (hb : Binds X.K fd ps []) (hx : Passes CX X E)
    (ha : PA X (e :: es) t) (hdb : (x == ("__debug__" : Str)) = false := by decide) (he : starEach (e :: es) X.env = (false, eval e X.env) :: starEach es X.env := by rfl) (hpl : (backTo pos (starEach es X.env)).any (·.1) = false := by rfl) :
    PE X (.Call (.Name x p) (e :: es) [] pos) (fun σ H Q => t σ H fun vs H1 => sp vs H1 Q E) := by
  constructor
  intro pins s σ H Q I h
  refine wpAny_Call_Name_kw (ld_glob I hg hm (PySem.W.callWith_K (h₀ := X.base) I.ok.mod.kin hk (thn (ha.run pos pins s σ H _ I h) ?_) he hpl) hdb)
  rintro us s1 ⟨vs, H1, I1, r, q⟩
  refine ⟨I1.kIn, ?_⟩
  have hl : us.length = ps.length := by rw [← r.length]; exact F.len _ _ _ _ q
  have hb' : BindsTo s1 fd ⟨us, []⟩ (ps.zip us) := by
    have z := hb s1 us I1.kIn (by rw [List.append_nil]; exact hl)
    rw [List.append_nil] at z
    exact z
  refine wpAny_call (codeAny_mono (F.go X.A X.stack s1 H1 ⟨us, []⟩ us vs Q E hgd hr I1.env0 hb' r q) ?_)
  rintro (e | fl) s' hq
  · exact hx pins σ H1 s1 e s' I1 hq
  · cases fl with
    | ret u => exact I1.after hq
    | next => exact hq.elim
    | brk => exact hq.elim
    | cont => exact hq.elim
end
end Fp

namespace Fp
open PySem PySem.Spec PyProof.Rows L2

/-! ### the law's own call, by FnG -/
theorem only_base {P : Program} {w : World} {K : PySem.W.Frag} {mg mb : Str → Option Value} {a : Addr} {s : Shared} {vs : List Value} {H : Hp} (KX : K.In s.heap) (hns : s.heap.Ns mainGlobals mg) (hb : s.heap.Ns builtinsNs mb)
    (hbb : ∀ x : Str, x ≠ "__name__" → mb x = bootBuiltins x) (hlim : s.heap.NoLimit) (hgen : s.gens = #[]) (ha : s.heap.get? a = some { cls := .type "list", data := .seq vs.toArray }) (hok : HOk P w H s.heap)
    (hA : ∀ b, H b ≠ none → b = a) (hK : H a ≠ none → K.lookup a = none) : K.In (hidT s.heap H) ∧ (hidT s.heap H).Ns mainGlobals mg ∧ Env0 P w K mg (hidT s.heap H) callerA [] s H := by
  have fr : ∀ {b : Addr}, b ≠ a → H b = none := fun {b} n => by
    cases q : H b with
    | none => rfl
    | some u => exact absurd (hA b fun z => by rw [q] at z; cases z) n
  have dn : ∀ {b : Addr} {m : Str → Option Value}, s.heap.Ns b m → (hidT s.heap H).Ns b m := fun {b m} ⟨o, es, ep, e, d, r⟩ => by
    refine ⟨o, es, ep, hidT_get e (fr fun z => ?_), d, r⟩
    subst z
    obtain rfl := Option.some.inj (e.symm.trans ha)
    cases (show Data.seq vs.toArray _ = Data.dict es ep from d)
  have k0 : K.In (hidT s.heap H) := fun b o e => by
    by_cases z : H b = none
    · exact hidT_get (KX b o e) z
    · have eb := hA b z
      subst eb
      rw [hK z] at e
      cases e
  obtain ⟨mc, l1, l2⟩ := hlim
  exact ⟨k0, dn hns, ⟨rfl, ⟨k0, dn hns, ⟨mb, dn hb, hbb⟩, ⟨mc, dn l1, l2⟩⟩, fun b o e => of_hidT e, Nat.le_of_eq (hidT_size _ _), trivial, fun b z => absurd (show b ∈ ([] : List Addr) from z) (by simp), hok, .of_eq hgen⟩⟩
theorem law_callG {P : Program} {w : World} {K : PySem.W.Frag} {mg mb : Str → Option Value} {CX : CXT} {k : Nat} {fa a : Addr} {fd : FuncData} {x : Str} {sp : Sp} {s : Shared} {vs : List Value} {ns : List Int}
    (KX : K.In s.heap) (hns : s.heap.Ns mainGlobals mg) (hb : s.heap.Ns builtinsNs mb) (hbb : ∀ x : Str, x ≠ "__name__" → mb x = bootBuiltins x) (hlim : s.heap.NoLimit) (hgen : s.gens = #[])
    (ha : s.heap.get? a = some { cls := .type "list", data := .seq vs.toArray }) (hi : IntsAre vs ns) (hl : ns.length ≤ sizeLine) (hr : Room k callerA)
    (F : ∀ base : Heap, K.In base → base.Ns mainGlobals mg → FnG P w K mg base CX k fa fd [x] sp) (hbind : ∀ (s : Shared) (u : Value), BindsTo s fd ⟨[u], []⟩ [(x, u)])
    (hsp : ∀ H : Hp, Only H → SqL K H a (ns.map V.int) → sp [.ref a] H (fun v _ => v = .bl true) fun _ _ _ => False) (hCX : ∀ H e s', CX [] H s (fun _ _ _ => False) e s' → False) :
    codeAny (model P w) callerA (.call (.ref fa) ⟨[.ref a], []⟩) (fun r s' => r = .ok (.ret (.bool true)) ∧ OldK s.heap s'.heap ∧ s'.os = s.os ∧ AllBare s'.gens) s := by
  have rv := vals_ints hi
  have core : ∀ H : Hp, Only H → SqL K H a (ns.map V.int) → HOk P w H s.heap → (∀ b, H b ≠ none → b = a) → (H a ≠ none → K.lookup a = none) →
      codeAny (model P w) callerA (.call (.ref fa) ⟨[.ref a], []⟩) (fun r s' => r = .ok (.ret (.bool true)) ∧ OldK s.heap s'.heap ∧ s'.os = s.os ∧ AllBare s'.gens) s := by
    intro H hO hS hok hA hK
    obtain ⟨k0, n0, e0⟩ := only_base (P := P) (w := w) KX hns hb hbb hlim hgen ha hok hA hK
    refine codeAny_mono ((F _ k0 n0).go callerA [] s H ⟨[.ref a], []⟩ [.ref a] [.ref a] _ _ rfl hr e0 (hbind s (.ref a)) (.cons rfl .nil) (hsp H hO hS)) ?_
    rintro (e | fl) s' h
    · exact (hCX H e s' h).elim
    cases fl with
    | next => exact h.elim
    | brk => exact h.elim
    | cont => exact h.elim
    | ret u =>
      obtain ⟨v, H', os, bare, un, hok', r, q⟩ := h
      obtain rfl : v = .bl true := q
      obtain rfl : u = Value.bool true := r
      refine ⟨rfl, OldK.of_keep fun b o e => ?_, os, bare⟩
      rcases hO b with z | ⟨ob, xs, z⟩
      · exact un.keep b o e z (fun z => absurd (show b ∈ ([] : List Addr) from z) (by simp)) (by simp)
      · obtain ⟨e1, _⟩ := hok b _ z
        obtain ⟨e2, _⟩ := hok' b _ (un.frzs b ob _ z)
        exact e2.trans (e1.symm.trans e)
  cases hk : K.lookup a with
  | some o =>
    obtain rfl := Option.some.inj ((KX a o hk).symm.trans ha)
    exact core (fun _ => none) (fun _ => .inl rfl) (.inr ⟨_, vs.toArray, _, hk, rfl, rfl, rfl, by rw [List.size_toArray, hi.length]; exact hl, by simpa using rv⟩) (fun b u z => by cases (show (none : Option HO) = some u from z)) (fun b z => absurd rfl z) (fun z => absurd rfl z)
  | none =>
    have up : ∀ {b : Addr} {u : HO}, (fun c => if c = a then some (HO.frz { cls := .type "list", data := .seq vs.toArray } (.lst (ns.map V.int))) else none) b = some u → b = a ∧ u = HO.frz { cls := .type "list", data := .seq vs.toArray } (.lst (ns.map V.int)) := fun {b u} z => by
      by_cases hb : b = a
      · exact ⟨hb, (Option.some.inj ((if_pos hb).symm.trans z)).symm⟩
      · cases (if_neg hb).symm.trans z
    refine core (fun c => if c = a then some (HO.frz { cls := .type "list", data := .seq vs.toArray } (.lst (ns.map V.int))) else none) (fun b => ?_) (.inl (.inr ⟨_, if_pos rfl⟩)) (fun b u z => ?_) (fun b z => ?_) (fun _ => hk)
    · by_cases hb : b = a
      · exact .inr ⟨_, _, if_pos hb⟩
      · exact .inl (if_neg hb)
    · obtain ⟨rfl, rfl⟩ := up z
      exact ⟨ha, by rw [List.length_map]; exact hl, vs, _, rv, ha⟩
    · by_cases hb : b = a
      · exact hb
      · exact absurd (if_neg hb) z
theorem walk_ofG {l : PySem.W.OpenLaw} {n k : Nat} {q : Program} {loose : List Str} {XP : (Str → Option Value) → Heap → Prop} {YP : World → Heap → Prop} {d : DefRec} {K : Params → PySem.W.Frag} {sp : PySem.W.Frag → Sp} {x : Str}
    (hn : l.most = some n) (hn2 : n ≤ sizeLine) (hdf : d.params.defaults = []) (hr : Room k callerA) (hY : ∀ (w : World) (h : Heap), YP w h → (K w.params).In h)
    (F : ∀ (w : World) (mg : Str → Option Value) (fa : Addr) (h : Heap), (K w.params).In h → h.Ns mainGlobals mg → mg d.name = some (.ref fa) →
      ∃ fd : FuncData, (∀ (s : Shared) (u : Value), BindsTo s fd ⟨[u], []⟩ [(x, u)]) ∧ ∀ base : Heap, (K w.params).In base → base.Ns mainGlobals mg → FnG l.prog w (K w.params) mg base CX0 k fa fd [x] (sp (K w.params)))
    (hsp : ∀ (K : PySem.W.Frag) (H : Hp) (a : Addr) (ns : List Int), ns.length ≤ n → Only H → SqL K H a (ns.map V.int) → sp K [.ref a] H (fun v _ => v = .bl true) fun _ _ _ => False) :
    PySem.W.WalkO q loose XP YP l.row.toRowW d [] (fun f vs => PySem.call f vs) := by
  refine Att.attach_call hn hdf ?_
  intro w s₀ s₁ mg mb fa o pm cd doc a vs ns G Y ho hd hcd hmg hobj hints hlen hg
  have KX := hY w _ Y
  obtain ⟨fd, hb, hF⟩ := F w mg fa _ KX G.T.g hmg
  exact law_callG KX G.T.g G.T.b G.T.builtins G.T.nolimit hg hobj hints (Nat.le_trans hlen hn2) hr hF hb (fun H hO hS => hsp (K w.params) H a ns hlen hO hS) (fun H e s' h => h.elim)
end Fp

namespace Fp
open PySem PySem.Spec PyProof.Rows L2

/-- the def that stands at the module's name x -/
structure Bnd (K : PySem.W.Frag) (mg : Str → Option Value) (x : Str) (st : Stmt) : Prop where
  ex : ∃ (f : Addr) (fd : FuncData), mg x = some (.ref f) ∧ Fun K x x st f fd
/-- the def at the module's name x keeps its promise -/
structure Def (P : Program) (w : World) (K : PySem.W.Frag) (mg : Str → Option Value) (base : Heap) (k : Nat) (x : Str) (st : Stmt) (ps : List Str) (sp : Sp) : Prop where
  ex : ∃ (f : Addr) (fd : FuncData), mg x = some (.ref f) ∧ Fun K x x st f fd ∧ Binds K fd ps [] ∧ FnOk P w K mg base CX0 k f fd ps sp
structure DefG (P : Program) (w : World) (K : PySem.W.Frag) (mg : Str → Option Value) (base : Heap) (k : Nat) (x : Str) (st : Stmt) (ps : List Str) (sp : Sp) : Prop where
  ex : ∃ (f : Addr) (fd : FuncData), mg x = some (.ref f) ∧ Fun K x x st f fd ∧ Binds K fd ps [] ∧ FnG P w K mg base CX0 k f fd ps sp
/-- how a def without defaults binds -/
abbrev Bind (x : Str) (st : Stmt) (ps : List Str) : Prop := ∀ (kV doc pm : Value) (an : Option Addr) (cdv ct : Value) (us : List Value), us.length = ps.length → bindArgs (PySem.W.fnOf x x (defArgs st) (defBody st) (defScope st) .none kV doc pm an cdv ct) ⟨us, []⟩ = pure (ps.zip us)
section
variable {P : Program} {w : World} {K : PySem.W.Frag} {mg : Str → Option Value} {base : Heap} {k : Nat} {x : Str} {st : Stmt} {N ps : List Str} {sp : Sp}
theorem Def.mono {j : Nat} (D : Def P w K mg base k x st ps sp) (h : k ≤ j) : Def P w K mg base j x st ps sp := by
  obtain ⟨f, fd, a, b, c, d⟩ := D.ex
  exact ⟨f, fd, a, b, c, d.mono h⟩
theorem def_of (B : Bnd K mg x st) (S : FnScope N ps (defScope st)) (len : ∀ vs H Q E, sp vs H Q E → vs.length = ps.length) (hbi : Bind x st ps)
    (hb : ∀ (f : Addr) (cdv : Value) (A : Around) (outer : List Env) (s : Shared) (H : Hp) (vs : List V) (Q : VK) (E : XK), Room k (A.deeper (envOfC x (defScope st) s.heap.objs.size f cdv)) → sp vs H Q E →
      ∃ t, PSs (cxOf CX0 P w K mg base N x (defScope st) f cdv A outer s H E).nox (defBody st) t ∧ t { nx := fun _ H' => Q .non H', rt := Q } (start N vs) H) : Def P w K mg base (k + 1) x st ps sp := by
  obtain ⟨f, fd, hm, F⟩ := B.ex
  exact ⟨f, fd, hm, F, F.binds hbi, F.ok S len (hb f)⟩
theorem defG_of (B : Bnd K mg x st) (S : FnScope N ps (defScope st)) (len : ∀ vs H Q E, sp vs H Q E → vs.length = ps.length) (hbi : Bind x st ps)
    (hb : ∀ (f : Addr) (cdv : Value) (A : Around) (outer : List Env) (s : Shared) (H : Hp) (vs : List V) (Q : VK) (E : XK), A.guards = some [] → Room k (A.deeper (envOfC x (defScope st) s.heap.objs.size f cdv)) → sp vs H Q E →
      ∃ t, PSs (cxOf CX0 P w K mg base N x (defScope st) f cdv A outer s H E).nox (defBody st) t ∧ t { nx := fun _ H' => Q .non H', rt := Q } (start N vs) H) : DefG P w K mg base (k + 1) x st ps sp := by
  obtain ⟨f, fd, hm, F⟩ := B.ex
  exact ⟨f, fd, hm, F, F.binds hbi, fun_okG F S len (hb f)⟩
end
def tD (sp : Sp) (t : TA) : TE := fun σ H Q => t σ H fun vs H1 => sp vs H1 Q E0
def tDK (n m : Nat) (b : Bool) (sp : Sp) (t tk : TA) : TE := fun σ H Q => t σ H fun vs H1 => tk σ H1 fun zs H2 => vs.length = n ∧ zs.length = m ∧ sp (vs ++ if b = true then zs.reverse else zs) H2 Q E0
/-- how a def without defaults binds n values by place and m by the names ks (b: turned about) -/
abbrev BindK (n m : Nat) (b : Bool) (x : Str) (st : Stmt) (ps ks : List Str) : Prop := ∀ (kV doc pm : Value) (an : Option Addr) (cdv ct : Value) (us ws : List Value), us.length = n → ws.length = m →
  bindArgs (PySem.W.fnOf x x (defArgs st) (defBody st) (defScope st) .none kV doc pm an cdv ct) ⟨us, ks.zip ws⟩ = pure (ps.zip (us ++ if b = true then ws.reverse else ws))
section
variable {X : Cx} {k : Nat} {x : Str} {st : Stmt} {ps ks : List Str} {sp : Sp} {p pos : Pos} {e : Expr} {es : List Expr} {t tk : TA} {kws : List Keyword} {n m : Nat} {b : Bool}
/-- f(e, ..) -/
theorem pe_d (D : Def X.prog X.w X.K X.mg X.base k x st ps sp) (hr : Room k X.A) (hg : Gl X x) (ha : PA X (e :: es) t)
    (hdb : (x == ("__debug__" : Str)) = false := by decide) (he : starEach (e :: es) X.env = (false, eval e X.env) :: starEach es X.env := by rfl) (hpl : (backTo pos (starEach es X.env)).any (·.1) = false := by rfl) :
    PE X (.Call (.Name x p) (e :: es) [] pos) (tD sp t) := by
  obtain ⟨f, fd, hm, F, hb, ok⟩ := D.ex
  have q := pe_call (p := p) ok hr hg hm F.kp hb .nil (pass0 (X := X)) ha hdb he hpl
  have z : tCall sp [] E0 t = tD sp t := by
    funext σ H Q
    unfold tCall tD
    simp only [List.append_nil]
  rw [z] at q
  exact q
theorem pe_dG (D : DefG X.prog X.w X.K X.mg X.base k x st ps sp) (hgd : X.A.guards = some []) (hr : Room k X.A) (hg : Gl X x) (ha : PA X (e :: es) t)
    (hdb : (x == ("__debug__" : Str)) = false := by decide) (he : starEach (e :: es) X.env = (false, eval e X.env) :: starEach es X.env := by rfl) (hpl : (backTo pos (starEach es X.env)).any (·.1) = false := by rfl) :
    PE X (.Call (.Name x p) (e :: es) [] pos) (tD sp t) := by
  obtain ⟨f, fd, hm, F, hb, ok⟩ := D.ex
  exact pe_callG (p := p) ok hgd hr hg hm F.kp hb (pass0 (X := X)) ha hdb he hpl
theorem run_dk {pins : List (Addr × Obj)} {σ : L2.St} {H : Hp} {s : Shared} {Q : VK} {us ws : List Value} {vs zs : List V} {f : Addr} {fd : FuncData} (F : Fun X.K x x st f fd) (ok : FnOk X.prog X.w X.K X.mg X.base CX0 k f fd ps sp) (hr : Room k X.A)
    (hb : BindK n m b x st ps ks) (I : Inv X pins σ H s) (r : Vals vs us) (rz : Vals zs ws) (hn : vs.length = n) (hm : zs.length = m) (h : sp (vs ++ if b = true then zs.reverse else zs) H Q E0) :
    wpAny (model X.prog X.w) X.A (call (.ref f) us (ks.zip ws)) (EP X pins σ Q) X.xe s := by
  obtain ⟨oc, od, kV, doc, pm, an, cdv, ct, osl, efd, lk, hcd⟩ := F.ex
  have rr : Vals (vs ++ if b = true then zs.reverse else zs) (us ++ if b = true then ws.reverse else ws) := by
    refine r.append ?_
    cases b with
    | true => rw [if_pos rfl, if_pos rfl]; exact rz.reverse
    | false => rw [if_neg Bool.false_ne_true, if_neg Bool.false_ne_true]; exact rz
  have hbd : BindsTo s fd ⟨us, ks.zip ws⟩ (ps.zip (us ++ if b = true then ws.reverse else ws)) := by
    rw [efd]
    exact .of_eq (hb kV doc pm an cdv ct us ws (r.length.symm.trans hn) (rz.length.symm.trans hm))
  refine wpAny_call (codeAny_mono (ok.run X.A X.stack s H ⟨us, ks.zip ws⟩ _ _ Q E0 hr I.env0 hbd rr h) ?_)
  rintro (e | fl) s' hq
  · exact pass0 (X := X) pins σ H s e s' I hq
  · cases fl with
    | ret u => exact I.after hq
    | next => exact hq.elim
    | brk => exact hq.elim
    | cont => exact hq.elim
/-- f(e, .., k = v, ..) -/
theorem pe_dk (D : Def X.prog X.w X.K X.mg X.base k x st ps sp) (hr : Room k X.A) (hg : Gl X x) (n m : Nat) (b : Bool) (ks : List Str) (hb : BindK n m b x st ps ks) (ha : PA X (e :: es) t) (hkw : PK X kws tk)
    (hks : (backToKw pos (keywordEach kws X.env)).filterMap (·.1) = ks := by rfl) (hall : (backToKw pos (keywordEach kws X.env)).all (·.1.isSome) = true := by rfl) (hdb : (x == ("__debug__" : Str)) = false := by decide)
    (he : starEach (e :: es) X.env = (false, eval e X.env) :: starEach es X.env := by rfl) (hpl : ((backTo pos (starEach (e :: es) X.env)).any (·.1) || (backToKw pos (keywordEach kws X.env)).any (·.1.isNone)) = false := by rfl) :
    PE X (.Call (.Name x p) (e :: es) kws pos) (tDK n m b sp t tk) := by
  obtain ⟨f, fd, hm, F, _, ok⟩ := D.ex
  constructor
  intro pins s σ H Q I h
  refine wpAny_Call_Name_kw (ld_glob I hg hm (PySem.W.callWith_KW (h₀ := X.base) I.ok.mod.kin F.kp hall (thn (ha.run pos pins s σ H _ I h) ?_) hpl he) hdb)
  rintro us s1 ⟨vs, H1, I1, r, q⟩
  refine thn (hkw.run pos pins s1 σ H1 _ I1 q) ?_
  rintro ws s2 ⟨zs, H2, I2, rz, q2⟩
  refine ⟨I2.kIn, ?_⟩
  rw [hks]
  exact run_dk F ok hr hb I2 r rz q2.1 q2.2.1 q2.2.2
/-- f(k = v, ..) -/
theorem pe_dk0 (D : Def X.prog X.w X.K X.mg X.base k x st ps sp) (hr : Room k X.A) (hg : Gl X x) (m : Nat) (b : Bool) (ks : List Str) (hb : BindK 0 m b x st ps ks) (hkw : PK X kws tk)
    (hks : (backToKw pos (keywordEach kws X.env)).filterMap (·.1) = ks := by rfl) (hall : (backToKw pos (keywordEach kws X.env)).all (·.1.isSome) = true := by rfl) (hdb : (x == ("__debug__" : Str)) = false := by decide)
    (hpl : ((backTo pos (starEach [] X.env)).any (·.1) || (backToKw pos (keywordEach kws X.env)).any (·.1.isNone)) = false := by rfl) :
    PE X (.Call (.Name x p) [] kws pos) (tDK 0 m b sp tNil tk) := by
  obtain ⟨f, fd, hm, F, _, ok⟩ := D.ex
  constructor
  intro pins s σ H Q I h
  refine wpAny_Call_Name_kw (ld_glob I hg hm (PySem.W.callWith_KW0 (h₀ := X.base) I.ok.mod.kin F.kp hall (thn (hkw.run pos pins s σ H _ I h) ?_) hpl) hdb)
  rintro ws s2 ⟨zs, H2, I2, rz, q2⟩
  refine ⟨I2.kIn, ?_⟩
  rw [hks]
  exact run_dk F ok hr hb I2 .nil rz q2.1 q2.2.1 q2.2.2
end
/-- sorted(set(..)) and set(..) -/
def rSetI (K : PySem.W.Frag) (w : World) : List V → Hp → VK → Prop := fun vs H Q => ∃ (a : Addr) (ns : List Int), vs = [.ref a] ∧ Sq K H a (ns.map V.int) ∧ ns.length ≤ 60 ∧
  ∀ (p : Addr) (n : Nat), n ≤ ns.length → H p = none → Q (.ref p) (upd H p (SetO w p (fun j => decide (j ∈ ns)) n))
theorem cr_setI {X : Cx} (hc : X.calm = true) : CallR X (.type "set") (rSetI X.K X.w) := by
  intro pins s σ H vs us Q I r h
  obtain ⟨a, ns, rfl, hS, hz, q⟩ := h
  rw [Vals.ref1 r]
  have hb : ns.length + 1 < scanBound := by unfold scanBound; omega
  have fin : ∀ (h' : Heap) (tk c : Nat), SetR X.w h' s.heap.objs.size (fun j => decide (j ∈ ns)) c → c ≤ ns.length → (∀ b o, s.heap.get? b = some o → h'.get? b = some o) → EP X pins σ Q (.ref s.heap.objs.size) { s with heap := h', toks := tk } :=
    fun h' tk c R hc k => ⟨.ref s.heap.objs.size, _, I.laid (t' := tk) k (Nat.le_refl _) (setO_new R), rfl, q _ c hc (I.hok.fresh (Nat.le_refl _))⟩
  rcases hS with hS | hS
  · obtain ⟨its, rv, pl, _⟩ := I.list hS
    exact call_set_lstI ns (I.ok.hd hc) pl.isList (by simpa using Vals.ints rv) hb fin
  · obtain ⟨its, rv, pl, _⟩ := I.tuple hS
    exact call_set_tupI ns (I.ok.hd hc) pl (by simpa using Vals.ints rv) hb fin
end Fp

namespace Fp
open PySem PySem.Spec PyProof.Rows L2 PySem.W

/-! ### data by a Lean type -/
section
variable {K : PySem.W.Frag} {H H' : Hp}
mutual
theorem dp_same (e : Same H H') : ∀ (d : PyData) (v : V), Dp K H v d → Dp K H' v d
  | .none, _, h => by cases h; exact .non
  | .bool _, _, h => by cases h; exact .bl _
  | .int _, _, h => by cases h; exact .int _
  | .str _, _, h => by cases h; exact .str _
  | .list ds, _, h => by
    cases h with
    | lst a b => exact .lst (e.seq a) (dpAll_same e ds _ b)
  | .tuple ds, _, h => by
    cases h with
    | tup a b => exact .tup (same_sqT e a) (dpAll_same e ds _ b)
  | .dict _, _, h => by cases h
theorem dpAll_same (e : Same H H') : ∀ (ds : List PyData) (vs : List V), DpAll K H vs ds → DpAll K H' vs ds
  | [], _, h => by cases h; exact .nil
  | d :: ds, _, h => by
    cases h with
    | cons a b => exact .cons (dp_same e d _ a) (dpAll_same e ds _ b)
end
theorem dpAll_len : ∀ {vs : List V} {ds : List PyData}, DpAll K H vs ds → vs.length = ds.length
  | _, _, .nil => rfl
  | _, _, .cons _ b => congrArg (· + 1) (dpAll_len b)
theorem dpAll_app : ∀ {vs ws : List V} {ds es : List PyData}, DpAll K H vs ds → DpAll K H ws es → DpAll K H (vs ++ ws) (ds ++ es)
  | _, _, _, _, .nil, b => b
  | _, _, _, _, .cons a r, b => .cons a (dpAll_app r b)
theorem dpAll_at : ∀ {vs : List V} {ds : List PyData}, DpAll K H vs ds → ∀ {i : Nat} {v : V}, vs[i]? = some v → ∃ d, ds[i]? = some d ∧ Dp K H v d
  | _, _, .nil, i, v, h => by cases h
  | _, _, .cons a r, 0, v, h => by obtain rfl := Option.some.inj h; exact ⟨_, rfl, a⟩
  | _, _, .cons a r, i + 1, v, h => dpAll_at r (i := i) h
theorem dpAll_get : ∀ {vs : List V} {ds : List PyData}, DpAll K H vs ds → ∀ {i : Nat} {d : PyData}, ds[i]? = some d → ∃ v, vs[i]? = some v ∧ Dp K H v d
  | _, _, .nil, i, v, h => by cases h
  | _, _, .cons a r, 0, v, h => by obtain rfl := Option.some.inj h; exact ⟨_, rfl, a⟩
  | _, _, .cons a r, i + 1, v, h => dpAll_get r (i := i) h
theorem dpAll_rev : ∀ {vs : List V} {ds : List PyData}, DpAll K H vs ds → DpAll K H vs.reverse ds.reverse
  | _, _, .nil => .nil
  | _, _, .cons a r => by
    rw [List.reverse_cons, List.reverse_cons]
    exact dpAll_app (dpAll_rev r) (.cons a .nil)
theorem dpAll_take : ∀ {vs : List V} {ds : List PyData}, DpAll K H vs ds → ∀ n, DpAll K H (vs.take n) (ds.take n)
  | _, _, .nil, n => by rw [List.take_nil, List.take_nil]; exact .nil
  | _, _, .cons a r, 0 => .nil
  | _, _, .cons a r, n + 1 => .cons a (dpAll_take r n)
theorem dpAll_drop : ∀ {vs : List V} {ds : List PyData}, DpAll K H vs ds → ∀ n, DpAll K H (vs.drop n) (ds.drop n)
  | _, _, .nil, n => by rw [List.drop_nil, List.drop_nil]; exact .nil
  | _, _, .cons a r, 0 => .cons a r
  | _, _, .cons a r, n + 1 => dpAll_drop r n
theorem dpAll_ints : ∀ ns : List Int, DpAll K H (ns.map V.int) (ns.map Datum.toD)
  | [] => .nil
  | n :: r => .cons (.int n) (dpAll_ints r)
theorem ints_dpAll : ∀ {vs : List V} {ns : List Int}, DpAll K H vs (ns.map Datum.toD) → vs = ns.map V.int
  | [], [], _ => rfl
  | [], _ :: _, h => by cases h
  | _ :: _, [], h => by cases h
  | v :: vs, n :: ns, h => by
    cases h with
    | cons a r =>
      have e : v = .int n := by
        have a' : Dp K H v (.int n) := a
        cases a'; rfl
      rw [e, ints_dpAll r]; rfl
section
variable {α β : Type} [DecidableEq α] [Datum α] [DecidableEq β] [Datum β]
/-- v holds x -/
abbrev Hd (K : PySem.W.Frag) (H : Hp) (v : V) (x : α) : Prop := Dp K H v (Datum.toD x)
/-- the values hold the items -/
abbrev Hs (K : PySem.W.Frag) (H : Hp) (vs : List V) (xs : List α) : Prop := DpAll K H vs (xs.map Datum.toD)
theorem Hd.same {v : V} {x : α} (h : Hd K H v x) (e : Same H H') : Hd K H' v x := dp_same e _ _ h
theorem Hs.same {vs : List V} {xs : List α} (h : Hs K H vs xs) (e : Same H H') : Hs K H' vs xs := dpAll_same e _ _ h
theorem hd_lst {a : Addr} {vs : List V} {xs : List α} (h : SqL K H a vs) (r : Hs K H vs xs) : Hd K H (.ref a) xs := Dp.lst h r
theorem hd_pair {a : Addr} {u v : V} {x : α} {y : β} (h : SqT K H a [u, v]) (r : Hd K H u x) (q : Hd K H v y) : Hd K H (.ref a) (x, y) := Dp.tup h (.cons r (.cons q .nil))
theorem hd_int (i : Int) : Hd K H (.int i) i := .int i
theorem lst_hd {v : V} {xs : List α} (h : Hd K H v xs) : ∃ a vs, v = .ref a ∧ SqL K H a vs ∧ Hs K H vs xs := by
  have h' : Dp K H v (.list (xs.map Datum.toD)) := h
  cases h' with
  | lst a b => exact ⟨_, _, rfl, a, b⟩
theorem pair_hd {v : V} {p : α × β} (h : Hd K H v p) : ∃ a x y, v = .ref a ∧ SqT K H a [x, y] ∧ Hd K H x p.1 ∧ Hd K H y p.2 := by
  have h' : Dp K H v (.tuple [Datum.toD p.1, Datum.toD p.2]) := h
  cases h' with
  | tup a b =>
    cases b with
    | cons b1 b2 =>
      cases b2 with
      | cons b2 b3 =>
        cases b3
        exact ⟨_, _, _, rfl, a, b1, b2⟩
theorem hd_ints {a : Addr} {ns : List Int} (h : SqL K H a (ns.map V.int)) : Hd K H (.ref a) ns := hd_lst h (dpAll_ints ns)
theorem ints_hd {v : V} {ns : List Int} (h : Hd K H v ns) : ∃ a, v = .ref a ∧ SqL K H a (ns.map V.int) := by
  obtain ⟨a, vs, e, hs, r⟩ := lst_hd h
  rw [ints_dpAll r] at hs
  exact ⟨a, e, hs⟩
theorem int_hd {v : V} {n : Int} (h : Hd K H v n) : v = .int n := by
  have h' : Dp K H v (.int n) := h
  cases h'; rfl
theorem Hs.len {vs : List V} {xs : List α} (h : Hs K H vs xs) : vs.length = xs.length := by rw [dpAll_len h, List.length_map]
theorem Hs.at {vs : List V} {xs : List α} (h : Hs K H vs xs) {i : Nat} {v : V} (e : vs[i]? = some v) : ∃ x, xs[i]? = some x ∧ Hd K H v x := by
  obtain ⟨d, e2, hd⟩ := dpAll_at h e
  rw [List.getElem?_map] at e2
  cases q : xs[i]? with
  | none => rw [q] at e2; cases e2
  | some x =>
    rw [q] at e2
    obtain rfl : Datum.toD x = d := Option.some.inj e2
    exact ⟨x, rfl, hd⟩
theorem Hs.get {vs : List V} {xs : List α} (h : Hs K H vs xs) {i : Nat} {x : α} (e : xs[i]? = some x) : ∃ v, vs[i]? = some v ∧ Hd K H v x :=
  dpAll_get h (by rw [List.getElem?_map, e]; rfl)
theorem Hs.app {vs ws : List V} {xs ys : List α} (h : Hs K H vs xs) (r : Hs K H ws ys) : Hs K H (vs ++ ws) (xs ++ ys) := by
  show DpAll K H (vs ++ ws) ((xs ++ ys).map Datum.toD)
  rw [List.map_append]
  exact dpAll_app h r
theorem Hs.one {v : V} {x : α} (h : Hd K H v x) : Hs K H [v] [x] := .cons h .nil
theorem Hs.snoc {vs : List V} {xs : List α} {v : V} {x : α} (h : Hs K H vs xs) (r : Hd K H v x) : Hs K H (vs ++ [v]) (xs ++ [x]) := h.app (.one r)
theorem Hs.rev {vs : List V} {xs : List α} (h : Hs K H vs xs) : Hs K H vs.reverse xs.reverse := by
  show DpAll K H vs.reverse (xs.reverse.map Datum.toD)
  rw [List.map_reverse]
  exact dpAll_rev h
theorem Hs.take {vs : List V} {xs : List α} (h : Hs K H vs xs) (n : Nat) : Hs K H (vs.take n) (xs.take n) := by
  show DpAll K H (vs.take n) ((xs.take n).map Datum.toD)
  rw [List.map_take]
  exact dpAll_take h n
theorem Hs.drop {vs : List V} {xs : List α} (h : Hs K H vs xs) (n : Nat) : Hs K H (vs.drop n) (xs.drop n) := by
  show DpAll K H (vs.drop n) ((xs.drop n).map Datum.toD)
  rw [List.map_drop]
  exact dpAll_drop h n
end
end

/-! ### ==, !=, in, not in of such -/
section
variable {X : Cx}
def rEqH (α : Type) [DecidableEq α] [Datum α] (K : PySem.W.Frag) : R2 := fun x y H Q => ∃ a b : α, Hd K H x a ∧ Hd K H y b ∧ Q (.bl (decide (a = b))) H
def rNeH (α : Type) [DecidableEq α] [Datum α] (K : PySem.W.Frag) : R2 := fun x y H Q => ∃ a b : α, Hd K H x a ∧ Hd K H y b ∧ Q (.bl (decide (a ≠ b))) H
def rInH (α : Type) [DecidableEq α] [Datum α] (K : PySem.W.Frag) : R2 := fun x y H Q => ∃ (a : α) (bs : List α), Hd K H x a ∧ Hd K H y bs ∧ Q (.bl (decide (a ∈ bs))) H
def rNiH (α : Type) [DecidableEq α] [Datum α] (K : PySem.W.Frag) : R2 := fun x y H Q => ∃ (a : α) (bs : List α), Hd K H x a ∧ Hd K H y bs ∧ Q (.bl (decide (a ∉ bs))) H
theorem op_eqH (α : Type) [DecidableEq α] [Datum α] (hu : X.A.units + Datum.depth α < cLine) : OpR X (compareOp .Eq) (rEqH α X.K) := by
  intro pins s σ H x y v u Q I rx ry h
  obtain ⟨a, b, ha, hb, q⟩ := h
  exact eq_datum (Dp.reads I _ x v ha rx) (Dp.reads I _ y u hb ry) hu ⟨.bl _, H, I, rfl, q⟩
theorem op_neH (α : Type) [DecidableEq α] [Datum α] (hu : X.A.units + Datum.depth α < cLine) : OpR X (compareOp .NotEq) (rNeH α X.K) := by
  intro pins s σ H x y v u Q I rx ry h
  obtain ⟨a, b, ha, hb, q⟩ := h
  exact ne_datum (Dp.reads I _ x v ha rx) (Dp.reads I _ y u hb ry) hu ⟨.bl _, H, I, rfl, q⟩
theorem op_inH (α : Type) [DecidableEq α] [Datum α] (hu : X.A.units + 1 + Datum.depth α < cLine) : OpR X (compareOp .In) (rInH α X.K) := by
  intro pins s σ H x y v u Q I rx ry h
  obtain ⟨a, bs, ha, hb, q⟩ := h
  obtain ⟨l, vs, rfl, hs, r⟩ := lst_hd hb
  obtain ⟨its, rv, pl, _⟩ := I.list hs
  cases ry
  exact in_list_datum pl.isList (Dp.readsAll I _ vs its r rv) (Dp.reads I _ x v ha rx) hu ⟨.bl _, H, I, rfl, q⟩
theorem op_niH (α : Type) [DecidableEq α] [Datum α] (hu : X.A.units + 1 + Datum.depth α < cLine) : OpR X (compareOp .NotIn) (rNiH α X.K) := by
  intro pins s σ H x y v u Q I rx ry h
  obtain ⟨a, bs, ha, hb, q⟩ := h
  obtain ⟨l, vs, rfl, hs, r⟩ := lst_hd hb
  obtain ⟨its, rv, pl, _⟩ := I.list hs
  cases ry
  exact notIn_list_datum pl.isList (Dp.readsAll I _ vs its r rv) (Dp.reads I _ x v ha rx) hu ⟨.bl _, H, I, rfl, q⟩
end

/-! ### sorted of such, any number -/
section
variable {X : Cx}
/-- data that a sort takes: all of one build, no tuples -/
class Srt1 (α : Type) [DecidableEq α] [Datum α] : Prop where
  like : ∀ a b : α, alike (Datum.toD a) (Datum.toD b) = true
  other : ∀ a : α, Datum.toD a ≠ .none ∧ ∀ xs, Datum.toD a ≠ .tuple xs
theorem like_all {α : Type} [DecidableEq α] [Datum α] (h : ∀ a b : α, alike (Datum.toD a) (Datum.toD b) = true) : ∀ xs ys : List α, alikeAll (xs.map Datum.toD) (ys.map Datum.toD) = true
  | [], _ => by simp [alikeAll]
  | _ :: _, [] => by simp [alikeAll]
  | x :: xs, y :: ys => by
    show alikeAll (Datum.toD x :: xs.map Datum.toD) (Datum.toD y :: ys.map Datum.toD) = true
    rw [alikeAll, h x y, like_all h xs ys]; rfl
instance : Srt1 Int where
  like _ _ := by simp [Datum.toD, alike]
  other _ := ⟨(fun z => by cases z), (fun _ z => by cases z)⟩
instance {α : Type} [DecidableEq α] [Datum α] [Srt1 α] : Srt1 (List α) where
  like a b := by
    show alike (.list (a.map Datum.toD)) (.list (b.map Datum.toD)) = true
    simpa [alike] using like_all Srt1.like a b
  other _ := ⟨(fun z => by cases z), (fun _ z => by cases z)⟩
theorem vals_of_each {R : Value → V → Prop} : ∀ {out : List Value}, (∀ v ∈ out, ∃ x, R v x) → ∃ ws : List V, EachIs R out ws
  | [], _ => ⟨[], .nil⟩
  | v :: out, h => by
    obtain ⟨x, hx⟩ := h v List.mem_cons_self
    obtain ⟨ws, e⟩ := vals_of_each (out := out) fun u hu => h u (List.mem_cons_of_mem _ hu)
    exact ⟨x :: ws, .cons hx e⟩
def SrR (K : PySem.W.Frag) (H : Hp) (vs : List V) {α : Type} [DecidableEq α] [Datum α] (v : Value) (b : α) : Prop := ∃ x, x ∈ vs ∧ RelV x v ∧ Hd K H x b
theorem srt_in {α : Type} [DecidableEq α] [Datum α] {K : PySem.W.Frag} {H : Hp} {all : List V} : ∀ {vs : List V} {its : List Value} {xs : List α}, (∀ v ∈ vs, v ∈ all) → Vals vs its → Hs K H vs xs → EachIs (SrR K H all) its xs
  | [], _, [], _, r, _ => by cases r; exact .nil
  | [], _, _ :: _, _, _, h => by cases h
  | _ :: _, _, [], _, _, h => by cases h
  | v :: vs, _, x :: xs, m, r, h => by
    cases r with
    | cons r1 r2 =>
      cases h with
      | cons h1 h2 => exact .cons ⟨v, m v List.mem_cons_self, r1, h1⟩ (srt_in (fun u hu => m u (List.mem_cons_of_mem _ hu)) r2 h2)
theorem srt_out {α : Type} [DecidableEq α] [Datum α] {K : PySem.W.Frag} {H : Hp} {all : List V} : ∀ {its : List Value} {xs : List α}, EachIs (SrR K H all) its xs → ∃ ws, Vals ws its ∧ Hs K H ws xs ∧ ∀ w ∈ ws, w ∈ all
  | _, _, .nil => ⟨[], .nil, .nil, fun w h => by cases h⟩
  | _, _, .cons h r => by
    obtain ⟨x, m, rx, hx⟩ := h
    obtain ⟨ws, r1, r2, r3⟩ := srt_out r
    exact ⟨x :: ws, .cons rx r1, .cons hx r2, fun w hw => by
      rcases List.mem_cons.mp hw with e | e
      · rw [e]; exact m
      · exact r3 w e⟩
/-- the order of sorted -/
def leH {α : Type} [DecidableEq α] [Datum α] : α → α → Bool := dataLe false Datum.toD
def rSortH (α : Type) [DecidableEq α] [Datum α] (K : PySem.W.Frag) : List V → Hp → VK → Prop := fun vs H Q => ∃ (a : Addr) (xs : List V) (L : List α), vs = [V.ref a] ∧ SqL K H a xs ∧ Hs K H xs L ∧
  ∀ p ws, (∀ w ∈ ws, w ∈ xs) → Hs K H ws (L.mergeSort leH) → H p = none → Q (.ref p) (upd H p (.lst ws))
theorem cr_sortH (α : Type) [DecidableEq α] [Datum α] [Srt1 α] (hu : X.A.units + 2 + Datum.depth α < cLine) : CallR X (.builtin "sorted") (rSortH α X.K) := by
  intro pins s σ H vs us Q I r h
  obtain ⟨a, xs, L, rfl, hs, hL, q⟩ := h
  obtain ⟨its, rv, hl, hz⟩ := I.list hs
  rw [Vals.ref1 r]
  have el := srt_in (all := xs) (fun _ m => m) rv hL
  have n1 : L.length = xs.length := hL.len.symm
  have er : EachIs (fun v (b : α) => ∃ as, Reads s.heap v (Datum.toD b) as) its L := el.mono fun v b ⟨x, _, rx, hx⟩ => Dp.reads I _ x v hx rx
  refine sorted_data (enc := Datum.toD) hl.isList el er (AllAlike.of Srt1.like) (Sortable.others Srt1.other) (by rw [n1]; exact hz) (fun b _ => Nat.lt_of_le_of_lt (Nat.add_le_add_left (Datum.depth_le b) _) hu) fun out ho eo => ?_
  obtain ⟨ws, r1, r2, r3⟩ := srt_out eo
  obtain ⟨ep, he'⟩ := PyProof.Rows.sortedAll_at s.heap its out.toArray
  have hlen : ws.length ≤ sizeLine := by rw [r1.length, ho, n1]; exact hz
  exact ⟨.ref _, upd H (s.heap.objs.size + 1) (.lst ws), I.laid (t' := s.toks) (fun _ _ => PyProof.Rows.sortedAll_old) (Nat.le_succ _) ⟨hlen, out, ep, r1, he'⟩, rfl, q _ _ r3 r2 (I.hok.fresh (Nat.le_succ _))⟩
end

/-! ### zip of lists and tuples -/
def SqK (κ : Bool) (K : PySem.W.Frag) (H : Hp) (a : Addr) (xs : List V) : Prop := if κ = true then SqT K H a xs else SqL K H a xs
theorem sqk_of {K : PySem.W.Frag} {H : Hp} {a : Addr} {xs : List V} (h : Sq K H a xs) : ∃ κ, SqK κ K H a xs := h.elim (fun q => ⟨false, q⟩) (fun q => ⟨true, q⟩)
theorem SqK.same {κ : Bool} {K : PySem.W.Frag} {H H' : Hp} {a : Addr} {xs : List V} (e : Same H H') (h : SqK κ K H a xs) : SqK κ K H' a xs := by
  cases κ with
  | false => exact e.seq (show SqL K H a xs from h)
  | true => exact same_sqT e (show SqT K H a xs from h)
theorem sqk_lst {K : PySem.W.Frag} {H : Hp} {a : Addr} {xs : List V} (h : H a = some (.lst xs)) : SqK false K H a xs := SqL.of h
theorem SqK.sq {κ : Bool} {K : PySem.W.Frag} {H : Hp} {a : Addr} {xs : List V} (h : SqK κ K H a xs) : Sq K H a xs := by
  cases κ with
  | false => exact .inl h
  | true => exact .inr h
def ItAtK (κ : Bool) (h : Heap) (it l : Addr) (i : Nat) : Prop := if κ = true then h.IsTupleIter it l i else h.IsListIter it l i
def SqAtK (κ : Bool) (h : Heap) (l : Addr) (its : Array Value) : Prop := if κ = true then h.IsTuple l its else h.IsList l its
theorem ItAtK.at {κ : Bool} {h h' : Heap} {it l : Addr} {i : Nat} (a : ItAtK κ h it l i) (k : ∀ o, h.get? it = some o → h'.get? it = some o) : ItAtK κ h' it l i := by
  cases κ with
  | false => exact Heap.IsListIter.at (show h.IsListIter it l i from a) k
  | true => exact Heap.IsTupleIter.at (show h.IsTupleIter it l i from a) k
theorem ItAtK.obj {κ : Bool} {h : Heap} {it l : Addr} {i : Nat} (a : ItAtK κ h it l i) : ∃ o, h.get? it = some o ∧ ∀ v, o.data ≠ .cell v := by
  cases κ with
  | false => obtain ⟨o, e, _, d⟩ := (show h.IsListIter it l i from a); exact ⟨o, e, fun v q => by rw [d] at q; cases q⟩
  | true => obtain ⟨o, e, _, d⟩ := (show h.IsTupleIter it l i from a); exact ⟨o, e, fun v q => by rw [d] at q; cases q⟩
theorem draws_k {prog : Program} {w : World} {A : Around} (κ : Bool) (hh : A.handled = none) (it l : Addr) (ne : l ≠ it) (its : Array Value) :
    Draws prog w A it [it, l] its.size (fun i v => its[i]? = some v) (fun i h => ItAtK κ h it l i ∧ SqAtK κ h l its) := by
  cases κ with
  | false => exact Draws.list hh it l ne its
  | true => exact Draws.tuple hh it l ne its
theorem Inv.seqK {X : Cx} {pins : List (Addr × Obj)} {σ : L2.St} {H : Hp} {s : Shared} {κ : Bool} {a : Addr} {xs : List V} (I : L2.Inv X pins σ H s) (h : SqK κ X.K H a xs) : ∃ its : List Value, Vals xs its ∧ SqAtK κ s.heap a its.toArray ∧ a < s.heap.objs.size := by
  cases κ with
  | false =>
    obtain ⟨its, rv, p, _⟩ := I.list (show SqL X.K H a xs from h)
    exact ⟨its, rv, p.isList, p.lt⟩
  | true =>
    obtain ⟨its, rv, p, _⟩ := I.tuple (show SqT X.K H a xs from h)
    obtain ⟨o, ho, _⟩ := id p
    exact ⟨its, rv, p, Heap.lt_size ho⟩
theorem Inv.seqK_inj {X : Cx} {pins : List (Addr × Obj)} {σ : L2.St} {H : Hp} {s : Shared} {κ : Bool} {a : Addr} {xs ys : List V} (I : L2.Inv X pins σ H s) (h : SqK κ X.K H a xs) (g : SqK κ X.K H a ys) : xs = ys := by
  cases κ with
  | false => exact I.list_inj (show SqL X.K H a xs from h) (show SqL X.K H a ys from g)
  | true => exact I.tuple_inj (show SqT X.K H a xs from h) (show SqT X.K H a ys from g)
def ItZ (K : PySem.W.Frag) (κ1 κ2 : Bool) (a b : Addr) (xs ys : List V) : It :=
  ⟨fun i H => SqK κ1 K H a xs ∧ SqK κ2 K H b ys ∧ i < xs.length ∧ i < ys.length,
    fun i H v H' => ∃ T x y, v = .ref T ∧ H T = none ∧ H' = upd H T (.tup [x, y]) ∧ xs[i]? = some x ∧ ys[i]? = some y,
    fun i H => SqK κ1 K H a xs ∧ SqK κ2 K H b ys ∧ i ≤ xs.length ∧ i ≤ ys.length ∧ (i = xs.length ∨ i = ys.length)⟩
def TnZ (κ1 κ2 : Bool) (z TI TO i1 i2 a b : Addr) (i : Nat) (h : Heap) : Prop := IsZip h z TI TO .none ∧ IsPair h TI (.ref i1) (.ref i2) ∧ (∃ x y, IsPair h TO x y) ∧ ItAtK κ1 h i1 a i ∧ ItAtK κ2 h i2 b i
theorem zip_turns {P : Program} {w : World} {K : PySem.W.Frag} {elts : List Expr} {kk : Nat} {tpos : Pos} {κ1 κ2 : Bool} {a b z TI TO i1 i2 : Addr} {xs ys : List V} (D : ZipApart z TI TO i1 i2 a b) :
    Turn P w K (.Tuple elts kk tpos) (ItZ K κ1 κ2 a b xs ys) [z, TI, TO, i1, i2] z (TnZ κ1 κ2 z TI TO i1 i2 a b) := by
  have S : ZipSep2 z TI TO i1 i2 [i1, a] [i2, b] := by
    refine ⟨D.TIz, D.TOz, D.TITO, D.TIi1, by simp, ?_, ?_, D.TIi2, by simp, ?_, ?_, ?_, ?_⟩ <;>
      · simp only [List.mem_cons, List.not_mem_nil, or_false, not_or]
        first
          | exact ⟨D.i1z.symm, D.l1z.symm⟩ | exact ⟨D.TOi1, D.l1TO.symm⟩ | exact ⟨D.i2z.symm, D.l2z.symm⟩ | exact ⟨D.TOi2, D.l2TO.symm⟩ | exact ⟨D.i12, D.l2i1.symm⟩ | exact ⟨D.i12.symm, D.l1i2.symm⟩
  refine ⟨by simp, ?_, ?_, ?_, ?_, ?_⟩
  · rintro i h ⟨hz, hTI, ⟨x, y, hTO⟩, h1, h2⟩ c hc
    have e' : c = z ∨ c = TI ∨ c = TO ∨ c = i1 ∨ c = i2 := by simpa using hc
    rcases e' with q | q | q | q | q <;> subst q
    · exact ⟨_, hz, fun v q => nomatch q⟩
    · exact ⟨_, hTI, fun v q => nomatch q⟩
    · exact ⟨_, hTO, fun v q => nomatch q⟩
    · exact h1.obj
    · exact h2.obj
  · rintro i h h' ⟨hz, hTI, ⟨x, y, hTO⟩, h1, h2⟩ k
    exact ⟨k z (by simp) _ hz, k TI (by simp) _ hTI, ⟨x, y, k TO (by simp) _ hTO⟩, h1.at fun o q => k i1 (by simp) o q, h2.at fun o q => k i2 (by simp) o q⟩
  · intro X hP hw hK hc i pins s σ H E I hf st hg
    subst hP hw hK
    obtain ⟨hz, hTI, ⟨x0, y0, hTO⟩, h1, h2⟩ := st
    obtain ⟨qx, qy, l1, l2⟩ := hg
    obtain ⟨its, rv, p, _⟩ := Inv.seqK I qx
    obtain ⟨its2, rv2, p2, _⟩ := Inv.seqK I qy
    have hA : X.A.in1.handled = none := by
      have q := I.ok.hd hc
      simpa using q
    have zl : z < s.heap.objs.size := Heap.lt_size hz
    have n1 := rv.length
    have n2 := rv2.length
    refine wpAny_pyNext_zipD2_item S (draws_k κ1 hA i1 a D.l1i1 its.toArray) (draws_k κ2 hA i2 b D.l2i2 its2.toArray) hz hTI hTO ⟨h1, p⟩ ⟨h2, p2⟩ (by simp; omega) (by simp; omega) ?_
    intro u u2 h' tk hu hu2 z' TO' st1 st2 hT hsz hk
    obtain ⟨x, hx, ru⟩ : ∃ x, xs[i]? = some x ∧ RelV x u := by
      obtain ⟨u', e1, e2⟩ := rv.get (List.getElem?_eq_getElem l1)
      have e3 : its[i]? = some u := by simpa using hu
      rw [e1] at e3
      obtain rfl := Option.some.inj e3
      exact ⟨_, List.getElem?_eq_getElem l1, e2⟩
    obtain ⟨y, hy, ru2⟩ : ∃ y, ys[i]? = some y ∧ RelV y u2 := by
      obtain ⟨u', e1, e2⟩ := rv2.get (List.getElem?_eq_getElem l2)
      have e3 : its2[i]? = some u2 := by simpa using hu2
      rw [e1] at e3
      obtain rfl := Option.some.inj e3
      exact ⟨_, List.getElem?_eq_getElem l2, e2⟩
    refine ⟨_, rfl, wpAny_letOwnedTupleGo_zip (s := { s with heap := h', toks := tk }) z' fun h'' z'' sb => ?_⟩
    have T2 : h''.get? s.heap.objs.size = some { cls := .type "tuple", data := .seq #[u, u2] } := (sb.2 _ (Nat.ne_of_gt zl)).trans hT
    have far : ∀ c o, c ∉ [z, TI, TO, i1, i2] → s.heap.get? c = some o → h''.get? c = some o := fun c o hb q => by
      simp only [List.mem_cons, List.not_mem_nil, or_false, not_or] at hb
      exact (sb.2 c hb.1).trans (hk c o hb.1 hb.2.2.1 hb.2.2.2.1 hb.2.2.2.2 q)
    have I1 : L2.Inv X pins σ (upd H s.heap.objs.size (.tup [x, y])) { s with heap := h'', toks := tk } :=
      I.turnedNew (t' := tk) (ch := [z, TI, TO, i1, i2]) far hf (Nat.le_refl _) ⟨by show 2 ≤ sizeLine; decide, [u, u2], .cons ru (.cons ru2 .nil), ⟨_, T2, rfl, _, rfl⟩⟩
    refine ⟨.ref s.heap.objs.size, _, I1, rfl, ⟨_, x, y, rfl, I.hok.fresh (Nat.le_refl _), rfl, hx, hy⟩, ⟨z'', ?_, ⟨u, u2, ?_⟩, ?_, ?_⟩, fun c hcm => ?_⟩
    · exact (sb.2 _ D.TIz).trans (hk _ _ D.TIz D.TITO D.TIi1 D.TIi2 hTI)
    · exact (sb.2 _ D.TOz).trans TO'
    · exact st1.1.at fun o q => (sb.2 _ D.i1z).trans q
    · exact st2.1.at fun o q => (sb.2 _ D.i2z).trans q
    · have lt : c < s.heap.objs.size := by
        have e' : c = z ∨ c = TI ∨ c = TO ∨ c = i1 ∨ c = i2 := by simpa using hcm
        rcases e' with q | q | q | q | q <;> subst q
        · exact zl
        · exact Heap.lt_size hTI
        · exact Heap.lt_size hTO
        · obtain ⟨_, e1, _⟩ := h1.obj; exact Heap.lt_size e1
        · obtain ⟨_, e2, _⟩ := h2.obj; exact Heap.lt_size e2
      rw [upd_ne (Nat.ne_of_lt lt)]
      exact (hf c hcm).1
  · intro X hP hw hK hc i pins s σ H E I hf st hg
    subst hP hw hK
    obtain ⟨hz, hTI, ⟨x0, y0, hTO⟩, h1, h2⟩ := st
    obtain ⟨qx, qy, l1, l2, l3⟩ := hg
    obtain ⟨its, rv, p, _⟩ := Inv.seqK I qx
    obtain ⟨its2, rv2, p2, _⟩ := Inv.seqK I qy
    have hA : X.A.in1.handled = none := by
      have q := I.ok.hd hc
      simpa using q
    have n1 := rv.length
    have n2 := rv2.length
    refine wpAny_pyNext_zipD2_end S (draws_k κ1 hA i1 a D.l1i1 its.toArray) (draws_k κ2 hA i2 b D.l2i2 its2.toArray) hz hTI hTO ⟨h1, p⟩ ⟨h2, p2⟩ (by simp; omega) (by simp; omega) (by simp; omega) fun h' tk hk => ?_
    refine ⟨rfl, I.turnedL (t' := tk) (ch := [z, TI, TO, i1, i2]) (fun c o hb q => ?_) hf⟩
    simp only [List.mem_cons, List.not_mem_nil, or_false, not_or] at hb
    exact hk c o hb.1 hb.2.2.1 hb.2.2.2.1 hb.2.2.2.2 q
  · intro A i s Q E st h
    exact wpAny_pyIter_zip st.1 h
def iZipS (K : PySem.W.Frag) (ta : TA) : TI := fun σ H R => ta σ H fun vs H1 => ∃ a b xs ys κ1 κ2, vs = [.ref a, .ref b] ∧ SqK κ1 K H1 a xs ∧ SqK κ2 K H1 b ys ∧ R (ItZ K κ1 κ2 a b xs ys) H1
theorem zip_made {prog : Program} {w : World} {A : Around} {E : Value → Shared → Prop} {s : Shared} {κ1 κ2 : Bool} {l1 l2 : Addr} {xs ys : Array Value} {Q : Value → Shared → Prop} (h1 : SqAtK κ1 s.heap l1 xs) (h2 : SqAtK κ2 s.heap l2 ys)
    (h : ∀ h', IsZip h' (s.heap.objs.size + 4) (s.heap.objs.size + 2) (s.heap.objs.size + 3) .none → IsPair h' (s.heap.objs.size + 2) (.ref s.heap.objs.size) (.ref (s.heap.objs.size + 1)) → IsPair h' (s.heap.objs.size + 3) .none .none →
      ItAtK κ1 h' s.heap.objs.size l1 0 → ItAtK κ2 h' (s.heap.objs.size + 1) l2 0 → (∀ c o, s.heap.get? c = some o → h'.get? c = some o) → Q (.ref (s.heap.objs.size + 4)) { s with heap := h' }) :
    wpAny (model prog w) A (call (.type "zip") [.ref l1, .ref l2]) Q E s := by
  cases κ1 <;> cases κ2
  · exact zip_begins2 (begins_list l1 xs) (begins_list l2 ys) h1 h2 fun h' a b c d e _ f => h h' a b c ⟨_, d, rfl, rfl⟩ ⟨_, e, rfl, rfl⟩ f
  · exact zip_begins2 (begins_list l1 xs) (begins_tuple l2 ys) h1 h2 fun h' a b c d e _ f => h h' a b c ⟨_, d, rfl, rfl⟩ ⟨_, e, rfl, rfl⟩ f
  · exact zip_begins2 (begins_tuple l1 xs) (begins_list l2 ys) h1 h2 fun h' a b c d e _ f => h h' a b c ⟨_, d, rfl, rfl⟩ ⟨_, e, rfl, rfl⟩ f
  · exact zip_begins2 (begins_tuple l1 xs) (begins_tuple l2 ys) h1 h2 fun h' a b c d e _ f => h h' a b c ⟨_, d, rfl, rfl⟩ ⟨_, e, rfl, rfl⟩ f
theorem pi_zipS {X : Cx} {e e2 : Expr} {ta : TA} {p pos tpos : Pos} {elts : List Expr} {kk : Nat} (hg : Gl X "zip") (hm : X.mg "zip" = none) (ha : PA X [e, e2] ta)
    (hs : starEach [e, e2] X.env = (false, eval e X.env) :: starEach [e2] X.env := by rfl) (hpl : (backTo pos (starEach [e2] X.env)).any (·.1) = false := by rfl) :
    PI X (.Tuple elts kk tpos) (.Call (.Name "zip" p) [e, e2] [] pos) (iZipS X.K ta) := by
  refine ⟨fun pins s σ H R I h => Call_ (ld_blt I hg hm PyProof.Rows.boot_zip (PyProof.Rows.callWith_type1 (thn (ha.run pos pins s σ H _ I h) ?_) hs hpl))⟩
  rintro us s1 ⟨vs, H1, I1, r1, a, b, xs, ys, κ1, κ2, rfl, kx, ky, q⟩
  obtain ⟨u1, u2, rfl, ra, rb⟩ := vals2 r1
  cases ra
  cases rb
  obtain ⟨its, rv, p1, la⟩ := Inv.seqK I1 kx
  obtain ⟨its2, rv2, p2, lb⟩ := Inv.seqK I1 ky
  refine zip_made p1 p2 fun h' hz hTI hTO h1 h2 hk => wpAny_pyIter_zip hz ?_
  refine ⟨s1.heap.objs.size + 4, _, _, _, H1, rfl, I1.kept (t' := s1.toks) hk, zip_turns (PySem.W.ktu_apart s1.heap.objs.size a b la lb), ⟨hz, hTI, ⟨_, _, hTO⟩, h1, h2⟩, fun c hcm => ?_, q⟩
  have le : s1.heap.objs.size ≤ c := by
    have e' : c = s1.heap.objs.size + 4 ∨ c = s1.heap.objs.size + 2 ∨ c = s1.heap.objs.size + 3 ∨ c = s1.heap.objs.size ∨ c = s1.heap.objs.size + 1 := by simpa using hcm
    rcases e' with z | z | z | z | z <;> rw [z] <;> first | exact Nat.le_refl _ | exact Nat.le_add_right _ _
  exact I1.fpOk le (I1.hok.fresh le)
theorem walk_zipS {K : PySem.W.Frag} {κ1 κ2 : Bool} {a b : Addr} {xs ys : List V} {n : Nat} (hn : n = min xs.length ys.length) :
    Walk (ItZ K κ1 κ2 a b xs ys) n (fun H => SqK κ1 K H a xs ∧ SqK κ2 K H b ys) (YPair (fun i => xs[i]?) (fun i => ys[i]?)) := by
  subst hn
  refine ⟨fun i _ hi q => ⟨q.1, q.2, by omega, by omega⟩, fun _ q => ⟨q.1, q.2, by omega, by omega, by omega⟩, fun i H v H' _ q y => ?_⟩
  obtain ⟨T, x, z, h1, h2, h3, h4, h5⟩ := y
  exact ⟨T, x, z, h1, h2, h3, h4, h5⟩

/-! ### comprehensions whose elements make new objects: Rel by the turn and what was made so far -/
/-- the heap without D -/
def wo (D : Addr) (H : Hp) : Hp := fun b => if b = D then none else H b
theorem wo_upd {D : Addr} {H : Hp} {o : HO} : wo D (upd H D o) = wo D H := by
  funext b
  unfold wo
  by_cases e : b = D
  · rw [if_pos e, if_pos e]
  · rw [if_neg e, if_neg e, upd_ne e]
theorem wo_same {D : Addr} {H H' : Hp} (e : Same H H') : Same (wo D H) (wo D H') := fun b o q => by
  unfold wo at q ⊢
  by_cases z : b = D
  · rw [if_pos z] at q; cases q
  · rw [if_neg z] at q ⊢; exact e _ _ q
theorem same_wo {D : Addr} {H H' : Hp} (n : H D = none) (e : Same H H') : Same H (wo D H') := fun b o q => by
  unfold wo
  rw [if_neg (ne_of_none q n)]
  exact e _ _ q
theorem wo_le {D : Addr} {H : Hp} : Same (wo D H) H := fun b o q => by
  unfold wo at q
  by_cases z : b = D
  · rw [if_pos z] at q; cases q
  · rw [if_neg z] at q; exact q
theorem wo_ne {D b : Addr} {H : Hp} (h : b ≠ D) : wo D H b = H b := if_neg h
/-- a new object beside D -/
theorem wo_new {D p : Addr} {H : Hp} {o : HO} {acc : List V} (hD : H D = some (.lst acc)) (hp : H p = none) : wo D (upd H p o) = upd (wo D H) p o := by
  have ne : p ≠ D := fun z => by rw [z, hD] at hp; cases hp
  funext b
  by_cases e : b = D
  · subst e
    rw [upd_ne ne.symm]
    exact (if_pos rfl).trans (if_pos rfl).symm
  · rw [wo_ne e]
    by_cases z : b = p
    · subst z
      rw [upd_same, upd_same]
    · rw [upd_ne z, upd_ne z, wo_ne e]
section
variable {J : It} {n : Nat} {G : Hp → Prop} {Y : Nat → Hp → V → Hp → Prop} {g : TG} {tt : TT} {te : TE} {vs : List Nat} {σ : L2.St} {H1 : Hp} {D : Addr} {Qd : Hp → Prop}
def RInv (Rel : Nat → List V → Hp → Prop) (H1 : Hp) (D : Addr) (i : Nat) (H : Hp) : Prop := Same H1 H ∧ ∃ acc, H D = some (.lst acc) ∧ acc.length ≤ i ∧ Rel i acc (wo D H)
theorem lc_rel (w : Walk J n G Y) (Rel : Nat → List V → Hp → Prop) (hD : H1 D = none) (hz : n ≤ sizeLine) (hG : ∀ H', Same H1 H' → G H') (h0 : Rel 0 [] H1) (hm : ∀ i acc A B, Same A B → Rel i acc A → Rel i acc B)
    (hs : ∀ i x acc Ha Hb, i < n → Same H1 Ha → Ha D = some (.lst acc) → Rel i acc (wo D Ha) → Y i Ha x Hb → ∀ (Yc : V → Hp → Prop) (Nc : Hp → Prop), (∀ y H4, Same Ha H4 → Rel (i + 1) (acc ++ [y]) (wo D H4) → Yc y H4) → (∀ H3, Same Ha H3 → Rel (i + 1) acc (wo D H3) → Nc H3) →
      g x (wipe σ vs) Hb fun σ2 H2 => wipe σ2 vs = wipe σ vs ∧ tt σ2 H2 fun b H3 => if b = true then te σ2 H3 Yc else Nc H3)
    (hd : ∀ acc H', Same H1 H' → H' D = some (.lst acc) → Rel n acc (wo D H') → Qd H') :
    ∃ W : Nat → Nat → Hp → Prop, (∃ m, W 0 m (upd H1 D (.lst []))) ∧ ∀ i m H, W i m H →
      (J.stop i H ∧ Qd H) ∨ (J.go i H ∧ ∃ Nx : Hp → Prop, (∀ H', Nx H' → ∃ m', m' < m ∧ W (i + 1) m' H') ∧ ∀ x H', J.yld i H x H' → g x (wipe σ vs) H' fun σ2 H2 => wipe σ2 vs = wipe σ vs ∧ tt σ2 H2 fun b H3 =>
        if b = true then te σ2 H3 fun y H4 => ∃ acc, H4 D = some (.lst acc) ∧ acc.length < sizeLine ∧ Nx (upd H4 D (.lst (acc ++ [y]))) else Nx H3) := by
  refine lc_it w (RInv Rel H1 D) ⟨same_new hD, [], upd_same, Nat.le_refl _, ?_⟩ (fun i H hi p => hG H p.1) (fun i x H H' hi ⟨s1, acc, ha, hl, hr⟩ y => ?_) (fun H ⟨s1, acc, ha, _, hr⟩ => hd acc H s1 ha hr)
  · rw [wo_upd]
    exact hm _ _ _ _ (same_wo hD (Same.refl _)) h0
  · refine hs i x acc H H' hi s1 ha hr y _ _ (fun y H4 s2 r => ?_) (fun H3 s2 r => ?_)
    · refine ⟨acc, s2 _ _ ha, by omega, ?_, acc ++ [y], upd_same, ?_, ?_⟩
      · intro b o q
        rw [upd_ne (ne_of_none q hD)]
        exact s2 _ _ (s1 _ _ q)
      · rw [List.length_append]; simp only [List.length_cons, List.length_nil]; omega
      · rw [wo_upd]; exact r
    · exact ⟨s1.trans s2, acc, s2 _ _ ha, by omega, r⟩
end
end Fp

namespace Fp
open PySem PySem.Spec PyProof.Rows L2 PySem.W
theorem dle {u d : Nat} (hu : u + 64 < cLine) (h : d ≤ 60) : u + d < cLine := by omega
theorem dle1 {u d : Nat} (hu : u + 64 < cLine) (h : d ≤ 60) : u + 1 + d < cLine := by omega
theorem dle2 {u d : Nat} (hu : u + 64 < cLine) (h : d ≤ 60) : u + 2 + d < cLine := by omega
theorem iteT2 {b : Bool} {A B : Prop} (h : b = true) (a : A) : if b = true then A else B := by subst h; exact iteT a
theorem iteF2 {b : Bool} {A B : Prop} (h : b = false) (a : B) : if b = true then A else B := by subst h; exact iteF a
section
variable {X : Cx}
/-! ### subscripts and slices of a list or a tuple -/
def rIxQ (K : PySem.W.Frag) : R2 := fun x y H Q => rIxL K x y H Q ∨ rIxT K x y H Q
theorem ix_sq : IxR X (rIxQ X.K) := ix_list.or ix_tup
theorem ixq {K : PySem.W.Frag} {H : Hp} {a : Addr} {xs : List V} {i : Int} {v : V} {Q : VK} (h : Sq K H a xs) (e : atI xs i = some v) (q : Q v H) : rIxQ K (.ref a) (.int i) H Q :=
  h.elim (fun s => .inl ⟨a, xs, i, v, rfl, rfl, s, e, q⟩) (fun s => .inr ⟨a, xs, i, v, rfl, rfl, s, e, q⟩)
theorem sl_or {r r' : V → Option Int → Option Int → Hp → VK → Prop} (h : SlR X r) (h' : SlR X r') : SlR X (fun x lo hi H Q => r x lo hi H Q ∨ r' x lo hi H Q) := by
  intro pins s σ H x v vl vu lo hi sl Q I rx hs pl pu q
  rcases q with q | q
  · exact h pins s σ H x v vl vu lo hi sl Q I rx hs pl pu q
  · exact h' pins s σ H x v vl vu lo hi sl Q I rx hs pl pu q
def rSlS (K : PySem.W.Frag) : V → Option Int → Option Int → Hp → VK → Prop := fun x lo hi H Q => rSlL K x lo hi H Q ∨ rSlA K x lo hi H Q
theorem sl_sq : SlR X (rSlS X.K) := sl_or sl_list sl_tupA
/-- a slice of a list or a tuple: something that is read as its part -/
theorem slq {K : PySem.W.Frag} {H : Hp} {a : Addr} {xs : List V} {lo hi : Option Int} {Q : VK} (h : Sq K H a xs) (q : ∀ p H', Same H H' → Sq K H' p (cutV xs lo hi) → Q (.ref p) H') : rSlS K (.ref a) lo hi H Q := by
  rcases h with h | h
  · exact .inl ⟨a, xs, rfl, h, fun p hp => q p _ (same_new hp) (sq_lst upd_same)⟩
  · refine .inr ⟨a, xs, rfl, h, fun z => q a H (Same.refl H) (.inr ?_), fun _ p hp => q p _ (same_new hp) (sq_tup upd_same)⟩
    have e : cutV xs lo hi = xs := by
      unfold cutV
      rw [z.1, z.2]; simp
    rw [e]; exact h
theorem cut_from {xs : List V} (n : Nat) : cutV xs (some (n : Int)) none = xs.drop n := by
  have e : HT.sIx xs.length 0 (some (n : Int)) = min n xs.length := by
    show (if (n : Int) < 0 then ((n : Int) + (xs.length : Int)).toNat else min (n : Int).toNat xs.length) = min n xs.length
    rw [if_neg (by omega), Int.toNat_natCast]
  unfold cutV
  rw [e, HT.sIx_none, List.take_of_length_le (by rw [List.length_drop]; omega)]
  rcases Nat.le_total n xs.length with h | h
  · rw [Nat.min_eq_left h]
  · rw [Nat.min_eq_right h, List.drop_of_length_le (Nat.le_refl _), List.drop_of_length_le h]
theorem cut_to {xs : List V} (n : Nat) : cutV xs none (some (n : Int)) = xs.take n := by
  have e : HT.sIx xs.length xs.length (some (n : Int)) = min n xs.length := by
    show (if (n : Int) < 0 then ((n : Int) + (xs.length : Int)).toNat else min (n : Int).toNat xs.length) = min n xs.length
    rw [if_neg (by omega), Int.toNat_natCast]
  have e0 : HT.sIx xs.length 0 none = 0 := rfl
  unfold cutV
  rw [e, e0, List.drop_zero, Nat.sub_zero]
  rcases Nat.le_total n xs.length with h | h
  · rw [Nat.min_eq_left h]
  · rw [Nat.min_eq_right h, List.take_of_length_le (Nat.le_refl _), List.take_of_length_le h]
/-! ### xs[i] op= e -/
theorem pget_list : PGet X (fun o i H Q => ∃ p xs k v, o = .ref p ∧ i = .int k ∧ SqL X.K H p xs ∧ 0 ≤ k ∧ xs[k.toNat]? = some v ∧ Q v H) := by
  intro pins s σ H o i ov iv Q I ro ri h
  obtain ⟨p, xs, k, v, rfl, rfl, hq, h0, he, q⟩ := h
  cases ro
  obtain ⟨t, rfl⟩ := ri
  obtain ⟨its, r, pl, hz⟩ := I.list hq
  obtain ⟨w, ew, rw'⟩ := r.get he
  have hl := r.length
  have hn := line63
  have hk := (List.getElem?_eq_some_iff.mp he).1
  exact wpAny_getItem_list (x := w) pl.isList h0 (by omega) (by simpa using ew) ⟨v, H, I, rw', q⟩
end
/-! ### truth of lists of bools, tables -/
theorem hs_bls {K : PySem.W.Frag} {H : Hp} : ∀ bs : List Bool, Hs K H (bs.map V.bl) bs
  | [] => .nil
  | b :: r => .cons (.bl b) (hs_bls r)
theorem bls_hs {K : PySem.W.Frag} {H : Hp} : ∀ {vs : List V} {bs : List Bool}, Hs K H vs bs → vs = bs.map V.bl
  | [], [], _ => rfl
  | [], _ :: _, h => by cases h
  | _ :: _, [], h => by cases h
  | v :: vs, b :: bs, h => by
    cases h with
    | cons a r =>
      have e : v = .bl b := by
        have a' : Dp K H v (.bool b) := a
        cases a'; rfl
      rw [e, bls_hs r]; rfl
theorem bls_hd {K : PySem.W.Frag} {H : Hp} {v : V} {bs : List Bool} (h : Hd K H v bs) : ∃ a, v = .ref a ∧ SqL K H a (bs.map V.bl) := by
  obtain ⟨a, vs, e, hs, r⟩ := lst_hd h
  rw [bls_hs r] at hs
  exact ⟨a, e, hs⟩
/-! ### comprehensions with two fors -/
section
variable {J : It} {n : Nat} {G : Hp → Prop} {Y : Nat → Hp → V → Hp → Prop} {g : TG} {tt : TT} {te : TE} {vs : List Nat} {σ : L2.St} {H1 : Hp} {D : Addr} {Qd : Hp → Prop}
/-- the inner loop's own reading -/
def In2 (D : Addr) (σ2 : L2.St) (vs1 : List Nat) (g1 : TG) (tt1 : TT) (te : TE) (Nx : Hp → Prop) (J1 : It) (H4 : Hp) : Prop := ∃ W1 : Nat → Nat → Hp → Prop, (∃ m, W1 0 m H4) ∧ ∀ j k H, W1 j k H →
  (J1.stop j H ∧ Nx H) ∨ (J1.go j H ∧ ∃ Nx1 : Hp → Prop, (∀ H', Nx1 H' → ∃ k', k' < k ∧ W1 (j + 1) k' H') ∧ ∀ x H', J1.yld j H x H' → g1 x (wipe σ2 vs1) H' fun σ3 H5 => wipe σ3 vs1 = wipe σ2 vs1 ∧ tt1 σ3 H5 fun b H6 =>
    if b = true then te σ3 H6 fun y H7 => ∃ acc, H7 D = some (.lst acc) ∧ acc.length < sizeLine ∧ Nx1 (upd H7 D (.lst (acc ++ [y]))) else Nx1 H6)
theorem lc2_in {σ2 : L2.St} {vs1 : List Nat} {g1 : TG} {tt1 : TT} {Nx : Hp → Prop} {H4 : Hp} {acc0 : List V} (w : Walk J n G Y) (Rel : Nat → List V → Hp → Prop) (hD : H4 D = some (.lst acc0)) (h0 : Rel 0 acc0 (wo D H4)) (hz : ∀ i acc H, i ≤ n → Rel i acc H → acc.length < sizeLine) (hG : ∀ H', Same (wo D H4) (wo D H') → G H')
    (hs : ∀ i x acc Ha Hb, i < n → Same (wo D H4) (wo D Ha) → Ha D = some (.lst acc) → Rel i acc (wo D Ha) → Y i Ha x Hb → ∀ (Yc : V → Hp → Prop) (Nc : Hp → Prop), (∀ y Hc, Same Ha Hc → Rel (i + 1) (acc ++ [y]) (wo D Hc) → Yc y Hc) → (∀ Hc, Same Ha Hc → Rel (i + 1) acc (wo D Hc) → Nc Hc) →
      g1 x (wipe σ2 vs1) Hb fun σ3 H5 => wipe σ3 vs1 = wipe σ2 vs1 ∧ tt1 σ3 H5 fun b H6 => if b = true then te σ3 H6 Yc else Nc H6)
    (hd : ∀ acc H', Same (wo D H4) (wo D H') → H' D = some (.lst acc) → Rel n acc (wo D H') → Nx H') : In2 D σ2 vs1 g1 tt1 te Nx J H4 := by
  refine ⟨fun i m H => m = n - i ∧ i ≤ n ∧ Same (wo D H4) (wo D H) ∧ ∃ acc, H D = some (.lst acc) ∧ Rel i acc (wo D H), ⟨n, by simp, Nat.zero_le _, Same.refl _, acc0, hD, h0⟩, ?_⟩
  rintro i m H ⟨rfl, hi, s1, acc, ha, hr⟩
  have q := hG H s1
  by_cases hlt : i < n
  · refine .inr ⟨w.goes i H hlt q, fun H' => i + 1 ≤ n ∧ Same (wo D H4) (wo D H') ∧ ∃ acc, H' D = some (.lst acc) ∧ Rel (i + 1) acc (wo D H'), fun H' p' => ⟨n - (i + 1), by omega, rfl, p'.1, p'.2⟩, fun x H' y => ?_⟩
    refine hs i x acc H H' hlt s1 ha hr (w.yields i H x H' hlt q y) _ _ (fun y Hc s2 r => ?_) (fun Hc s2 r => ?_)
    · refine ⟨acc, s2 _ _ ha, hz i acc _ hi hr, hlt, ?_, acc ++ [y], upd_same, ?_⟩
      · rw [wo_upd]; exact s1.trans (wo_same s2)
      · rw [wo_upd]; exact r
    · exact ⟨hlt, s1.trans (wo_same s2), acc, s2 _ _ ha, r⟩
  · have e : i = n := by omega
    subst e
    exact .inl ⟨w.stops H q, hd acc H s1 ha hr⟩
theorem lc2_rel {wi1 : TI} {vs1 : List Nat} {g1 : TG} {tt1 : TT} (w : Walk J n G Y) (Rel : Nat → List V → Hp → Prop) (hD : H1 D = none) (hG : ∀ H', Same H1 H' → G H') (h0 : Rel 0 [] H1) (hm : ∀ i acc A B, Same A B → Rel i acc A → Rel i acc B)
    (hs : ∀ i x acc Ha Hb, i < n → Same H1 Ha → Ha D = some (.lst acc) → Rel i acc (wo D Ha) → Y i Ha x Hb → ∀ Nx : Hp → Prop, (∀ acc' H', Same H1 H' → H' D = some (.lst acc') → Rel (i + 1) acc' (wo D H') → Nx H') →
      g x (wipe σ vs) Hb fun σ2 H2 => wipe σ2 vs = wipe σ vs ∧ tt σ2 H2 fun b H3 => if b = true then wi1 σ2 H3 (In2 D σ2 vs1 g1 tt1 te Nx) else Nx H3)
    (hd : ∀ acc H', Same H1 H' → H' D = some (.lst acc) → Rel n acc (wo D H') → Qd H') :
    ∃ W : Nat → Nat → Hp → Prop, (∃ m, W 0 m (upd H1 D (.lst []))) ∧ ∀ i m H, W i m H →
      (J.stop i H ∧ Qd H) ∨ (J.go i H ∧ ∃ Nx : Hp → Prop, (∀ H', Nx H' → ∃ m', m' < m ∧ W (i + 1) m' H') ∧ ∀ x H', J.yld i H x H' → g x (wipe σ vs) H' fun σ2 H2 => wipe σ2 vs = wipe σ vs ∧ tt σ2 H2 fun b H3 =>
        if b = true then wi1 σ2 H3 (In2 D σ2 vs1 g1 tt1 te Nx) else Nx H3) := by
  refine ⟨fun i m H => m = n - i ∧ i ≤ n ∧ Same H1 H ∧ ∃ acc, H D = some (.lst acc) ∧ Rel i acc (wo D H), ⟨n, by simp, Nat.zero_le _, same_new hD, [], upd_same, ?_⟩, ?_⟩
  · rw [wo_upd]
    exact hm _ _ _ _ (same_wo hD (Same.refl _)) h0
  rintro i m H ⟨rfl, hi, s1, acc, ha, hr⟩
  have q := hG H s1
  by_cases hlt : i < n
  · refine .inr ⟨w.goes i H hlt q, fun H' => i + 1 ≤ n ∧ Same H1 H' ∧ ∃ acc, H' D = some (.lst acc) ∧ Rel (i + 1) acc (wo D H'), fun H' p' => ⟨n - (i + 1), by omega, rfl, p'.1, p'.2⟩, fun x H' y => ?_⟩
    exact hs i x acc H H' hlt s1 ha hr (w.yields i H x H' hlt q y) _ fun acc' H' a b c => ⟨hlt, a, acc', b, c⟩
  · have e : i = n := by omega
    subst e
    exact .inl ⟨w.stops H q, hd acc H s1 ha hr⟩
end
/-! ### repr(..) of a truth value -/
theorem cr_reprB {X : Cx} : CallR X (.builtin "repr") (fun xs H Q => ∃ b : Bool, xs = [.bl b] ∧ Q (.str (if b then "True" else "False")) H) := by
  intro pins s σ H xs us Q I r h
  obtain ⟨b, rfl, q⟩ := h
  obtain ⟨u, rfl, ru⟩ := vals1 r
  cases ru
  exact PySem.P.repr_of_bool ⟨.str _, H, I.tok _, ⟨_, rfl⟩, q⟩
theorem cut_neg {xs : List V} (n : Nat) (h : 0 < n) : cutV xs (some (-(n : Int))) none = xs.drop (xs.length - n) := by
  have e : HT.sIx xs.length 0 (some (-(n : Int))) = xs.length - n := by
    show (if (-(n : Int)) < 0 then ((-(n : Int)) + (xs.length : Int)).toNat else min (-(n : Int)).toNat xs.length) = xs.length - n
    rw [if_pos (by omega)]; omega
  unfold cutV
  rw [e, HT.sIx_none, List.take_of_length_le (by rw [List.length_drop]; omega)]
/-! ### lists of new lists of ints -/
structure A2 {β : Type} (R : V → β → Prop) (vs : List V) (bs : List β) : Prop where
  len : vs.length = bs.length
  at_ : ∀ (i : Nat) (v : V), vs[i]? = some v → ∃ b, bs[i]? = some b ∧ R v b
section
variable {β : Type} {R S : V → β → Prop}
theorem A2.nil : A2 R [] [] := ⟨rfl, fun i v h => by cases h⟩
theorem A2.snoc {vs : List V} {bs : List β} {v : V} {b : β} (h : A2 R vs bs) (r : R v b) : A2 R (vs ++ [v]) (bs ++ [b]) := by
  refine ⟨by rw [List.length_append, List.length_append, h.len]; rfl, fun i u hu => ?_⟩
  by_cases e : i < vs.length
  · rw [List.getElem?_append_left e] at hu
    obtain ⟨b', e1, e2⟩ := h.at_ i u hu
    exact ⟨b', by rw [List.getElem?_append_left (by rw [← h.len]; exact e)]; exact e1, e2⟩
  · rw [List.getElem?_append_right (by omega)] at hu
    have z : i - vs.length = 0 := by
      have := (List.getElem?_eq_some_iff.mp hu).1
      simp only [List.length_cons, List.length_nil] at this
      omega
    rw [z] at hu
    obtain rfl := Option.some.inj hu
    exact ⟨b, by rw [List.getElem?_append_right (by rw [← h.len]; omega), ← h.len, z]; rfl, r⟩
theorem A2.mono {vs : List V} {bs : List β} (h : A2 R vs bs) (k : ∀ v b, R v b → S v b) : A2 S vs bs := ⟨h.len, fun i v e => let ⟨b, e1, e2⟩ := h.at_ i v e; ⟨b, e1, k v b e2⟩⟩
theorem A2.tail {v : V} {vs : List V} {b : β} {bs : List β} (h : A2 R (v :: vs) (b :: bs)) : R v b ∧ A2 R vs bs := by
  refine ⟨?_, by simpa using h.len, fun i u e => h.at_ (i + 1) u e⟩
  obtain ⟨b', e1, e2⟩ := h.at_ 0 v rfl
  obtain rfl : b = b' := Option.some.inj e1
  exact e2
theorem A2.cons {v : V} {vs : List V} {b : β} {bs : List β} (r : R v b) (h : A2 R vs bs) : A2 R (v :: vs) (b :: bs) := by
  refine ⟨by rw [List.length_cons, List.length_cons, h.len], fun i u e => ?_⟩
  cases i with
  | zero => obtain rfl := Option.some.inj e; exact ⟨b, rfl, r⟩
  | succ i => exact h.at_ i u e
theorem A2.app {vs ws : List V} {bs cs : List β} (h : A2 R vs bs) (g : A2 R ws cs) : A2 R (vs ++ ws) (bs ++ cs) := by
  induction vs generalizing bs with
  | nil =>
    cases bs with
    | nil => exact g
    | cons _ _ => have := h.len; cases this
  | cons v vs ih =>
    cases bs with
    | nil => have := h.len; cases this
    | cons b bs => exact .cons h.tail.1 (ih h.tail.2)
theorem A2.get {vs : List V} {bs : List β} (h : A2 R vs bs) {i : Nat} {b : β} (e : bs[i]? = some b) : ∃ v, vs[i]? = some v ∧ R v b := by
  have l := (List.getElem?_eq_some_iff.mp e).1
  have hv : vs[i]? = some (vs[i]'(by rw [h.len]; exact l)) := List.getElem?_eq_getElem _
  obtain ⟨b', e1, e2⟩ := h.at_ i _ hv
  rw [e] at e1
  obtain rfl := Option.some.inj e1
  exact ⟨_, hv, e2⟩
end
theorem a2_hs {K : PySem.W.Frag} {H : Hp} {α : Type} [DecidableEq α] [Datum α] {R : V → α → Prop} (k : ∀ v b, R v b → Hd K H v b) : ∀ {vs : List V} {bs : List α}, A2 R vs bs → Hs K H vs bs
  | [], [], _ => .nil
  | [], _ :: _, h => by have := h.len; cases this
  | _ :: _, [], h => by have := h.len; cases this
  | _ :: _, _ :: _, h => .cons (k _ _ h.tail.1) (a2_hs k h.tail.2)
/-- a list of ints that is new since H0 -/
def Rw (H0 H : Hp) (v : V) (l : List Int) : Prop := ∃ b, v = .ref b ∧ H0 b = none ∧ H b = some (.lst (l.map V.int))
theorem Rw.same {H0 H H' : Hp} {v : V} {l : List Int} (e : Same H H') (h : Rw H0 H v l) : Rw H0 H' v l := let ⟨b, a, c, d⟩ := h; ⟨b, a, c, e _ _ d⟩
theorem Rw.old {H0 G0 H : Hp} {v : V} {l : List Int} (e : Same G0 H0) (h : Rw H0 H v l) : Rw G0 H v l := let ⟨b, a, c, d⟩ := h; ⟨b, a, e.free c, d⟩
theorem Rw.hd {K : PySem.W.Frag} {H0 H : Hp} {v : V} {l : List Int} (h : Rw H0 H v l) : Hd K H v l := by
  obtain ⟨b, rfl, _, d⟩ := h
  exact hd_ints (SqL.of d)
theorem rws_hs {K : PySem.W.Frag} {H0 H : Hp} {vs : List V} {L : List (List Int)} (h : A2 (Rw H0 H) vs L) : Hs K H vs L := a2_hs (fun _ _ r => r.hd) h
end Fp

namespace Fp
open PySem PySem.Spec PyProof.Rows L2 PySem.W
/-! ### enumerate of a list or a tuple -/
abbrev eObj (it : Addr) : Obj := { cls := .type "enumerate", data := .fields #[.none, .bool false, .ref it, rawInt 0, .none, .none] }
theorem meets_enum1 {v : Value} {o : Obj} {G : Heap → Prop} (B : Begins v o G) :
    Meets (Builtin.«enumerate.__new__» ⟨[.type "enumerate", v], []⟩) (fun _ R s => G s.heap ∧ R (.ok (.ret (.ref (s.heap.push o).objs.size))) { s with heap := (s.heap.push o).push (eObj s.heap.objs.size) }) :=
  .of_wp fun prog w A R s0 hyp => by
    obtain ⟨hp0, gens0, drawn0, tok0, os0⟩ := s0
    obtain ⟨ground, fin⟩ := hyp
    have subE := sub_enumerate
    have first : ∀ {A' : Around} {E : Value → Shared → Prop} {Q : Value → Shared → Prop}, Q (.ref hp0.objs.size) ⟨hp0.push o, gens0, drawn0, tok0, os0⟩ → wpAny (model prog w) A' (pyIter v) Q E ⟨hp0, gens0, drawn0, tok0, os0⟩ :=
      fun z => B.iter prog w _ _ ⟨hp0, gens0, drawn0, tok0, os0⟩ _ ground z
    wp_walk using first
    refine wpAny_stack_any fun frames => wpAny_pure ?_
    split
    · rename_i cl _ _ _ _ _
      cases (cl == Value.type "enumerate") <;>
      · wp_walk using first
        exact ⟨_, rfl, fin⟩
    · wp_walk using first
      exact ⟨_, rfl, fin⟩
section
variable {prog : Program} {w : World} {A : Around} {E : Value → Shared → Prop} {s : Shared}
theorem enum_made {κ : Bool} {l : Addr} {xs : Array Value} {Q : Value → Shared → Prop} (h1 : SqAtK κ s.heap l xs)
    (h : ∀ h', IsEnum h' (s.heap.objs.size + 1) s.heap.objs.size 0 .none → ItAtK κ h' s.heap.objs.size l 0 → (∀ b o, s.heap.get? b = some o → h'.get? b = some o) → Q (.ref (s.heap.objs.size + 1)) { s with heap := h' }) :
    wpAny (model prog w) A (call (.type "enumerate") [.ref l]) Q E s := by
  have key : ∀ {o : Obj} {G : Heap → Prop}, Begins (.ref l) o G → G s.heap → (∀ h' : Heap, h'.get? s.heap.objs.size = some o → ItAtK κ h' s.heap.objs.size l 0) → wpAny (model prog w) A (call (.type "enumerate") [.ref l]) Q E s := by
    intro o G B hG hit
    refine callType_new F.called_enumerate (by decide) (F.typeCall_enumerate_1 _) (F.newCall_enumerate_1 _) (fun obj => F.args_object_init_2 obj _) F.entry_enumerate_new (meets_enum1 B) ⟨hG, ?_⟩
    have sz : (s.heap.push o).objs.size = s.heap.objs.size + 1 := Heap.size_push ..
    have at1 : ((s.heap.push o).push (eObj s.heap.objs.size)).get? (s.heap.objs.size + 1) = some (eObj s.heap.objs.size) := by
      have z := Heap.get?_push_size (s.heap.push o) (o := eObj s.heap.objs.size) rfl
      rw [sz] at z
      exact z
    show _ ∧ _
    rw [sz]
    exact ⟨⟨_, at1, rfl⟩, h _ at1 (hit _ (Heap.get?_push_of_some _ (Heap.get?_push_size _ B.free))) fun b o x => Heap.get?_push_of_some _ (Heap.get?_push_of_some _ x)⟩
  cases κ with
  | false => exact key (begins_list l xs) h1 fun h' e => ⟨_, e, rfl, rfl⟩
  | true => exact key (begins_tuple l xs) h1 fun h' e => ⟨_, e, rfl, rfl⟩
end
def ItN (K : PySem.W.Frag) (κ : Bool) (a : Addr) (xs : List V) : It :=
  ⟨fun i H => SqK κ K H a xs ∧ i < xs.length, fun i H v H' => ∃ T x, v = .ref T ∧ H T = none ∧ H' = upd H T (.tup [.int (i : Nat), x]) ∧ xs[i]? = some x, fun i H => SqK κ K H a xs ∧ i = xs.length⟩
def TnN (κ : Bool) (e it a : Addr) (i : Nat) (h : Heap) : Prop := (∃ old, IsEnum h e it ((i : Nat) : Int) old) ∧ ItAtK κ h it a i ∧ e ≠ it ∧ e ≠ a ∧ a ≠ it
theorem enum_turns {P : Program} {w : World} {K : PySem.W.Frag} {elts : List Expr} {kk : Nat} {tpos : Pos} {κ : Bool} {a e it : Addr} {xs : List V} :
    Turn P w K (.Tuple elts kk tpos) (ItN K κ a xs) [e, it] e (TnN κ e it a) := by
  refine ⟨by simp, ?_, ?_, ?_, ?_, ?_⟩
  · rintro i h ⟨⟨old, he⟩, hi, _⟩ b hb
    have e' : b = e ∨ b = it := by simpa using hb
    rcases e' with z | z <;> subst z
    · exact ⟨_, he, fun v q => nomatch q⟩
    · exact hi.obj
  · rintro i h h' ⟨⟨old, he⟩, hi, n1, n2, n3⟩ k
    exact ⟨⟨old, k e (by simp) _ he⟩, hi.at fun o q => k it (by simp) o q, n1, n2, n3⟩
  · intro X hP hw hK hc i pins s σ H E I hf st hg
    subst hP hw hK
    obtain ⟨⟨old, he⟩, hit, n1, n2, n3⟩ := st
    obtain ⟨qx, lx⟩ := hg
    obtain ⟨its, rv, p, _⟩ := Inv.seqK I qx
    have hA : X.A.in1.handled = none := by
      have q := I.ok.hd hc
      simpa using q
    have el : e < s.heap.objs.size := Heap.lt_size he
    have il : it < s.heap.objs.size := by obtain ⟨_, q, _⟩ := hit.obj; exact Heap.lt_size q
    have len := rv.length
    refine wpAny_pyNext_enum_itemC (draws_k κ hA it a n3 its.toArray) he ⟨hit, p⟩ (by simp; omega) n1 (by simp only [List.mem_cons, List.not_mem_nil, or_false, not_or]; exact ⟨n1, n2⟩) ?_
    intro u h' tk hu ho st' hT hsz hk
    obtain ⟨x, hx, ru⟩ : ∃ x, xs[i]? = some x ∧ RelV x u := by
      obtain ⟨u', e1, e2⟩ := rv.get (List.getElem?_eq_getElem lx)
      have e3 : its[i]? = some u := by simpa using hu
      rw [e1] at e3
      obtain rfl := Option.some.inj e3
      exact ⟨_, List.getElem?_eq_getElem lx, e2⟩
    refine ⟨_, rfl, wpAny_letOwnedTupleGo_enum (s := { s with heap := h', toks := tk + 1 }) ho fun h'' he' sb => ?_⟩
    have T2 : h''.get? s.heap.objs.size = some { cls := .type "tuple", data := .seq #[.int i tk, u] } := (sb.2 _ (Nat.ne_of_gt el)).trans hT
    have I1 : L2.Inv X pins σ (upd H s.heap.objs.size (.tup [.int (i : Nat), x])) { s with heap := h'', toks := tk + 1 } :=
      I.turnedNew (ch := [e, it]) (fun b ob hb q => (sb.2 b (fun z => hb (by simp [z]))).trans (hk b ob (fun z => hb (by simp [z])) (fun z => hb (by simp [z])) q)) hf (Nat.le_refl _)
        ⟨by show 2 ≤ sizeLine; decide, [.int i tk, u], .cons ⟨_, rfl⟩ (.cons ru .nil), ⟨_, T2, rfl, _, rfl⟩⟩
    refine ⟨.ref s.heap.objs.size, _, I1, rfl, ⟨_, x, rfl, I.hok.fresh (Nat.le_refl _), rfl, hx⟩, ⟨⟨u, ?_⟩, st'.1.at fun o q => (sb.2 it (Ne.symm n1)).trans q, n1, n2, n3⟩, fun b hb => ?_⟩
    · have e1 : ((i + 1 : Nat) : Int) = (i : Int) + 1 := by omega
      rw [e1]; exact he'
    · have lt : b < s.heap.objs.size := by
        have e' : b = e ∨ b = it := by simpa using hb
        rcases e' with z | z <;> subst z
        · exact el
        · exact il
      rw [upd_ne (Nat.ne_of_lt lt)]
      exact (hf b hb).1
  · intro X hP hw hK hc i pins s σ H E I hf st hg
    subst hP hw hK
    obtain ⟨⟨old, he⟩, hit, n1, n2, n3⟩ := st
    obtain ⟨qx, lx⟩ := hg
    obtain ⟨its, rv, p, _⟩ := Inv.seqK I qx
    have hA : X.A.in1.handled = none := by
      have q := I.ok.hd hc
      simpa using q
    have len := rv.length
    obtain ⟨f0, f1, f2, f3, f4, f5⟩ := hf it (by simp)
    have le : its.toArray.size = i := by simp; omega
    refine wpAny_pyNext_enum_endD (draws_k κ hA it a n3 its.toArray) he (by rw [le]; exact ⟨hit, p⟩) fun h' eb => ⟨rfl, I.turned (t' := s.toks) (fun b o hb q => eb b o hb q) f0 f1 f3 f4 f5⟩
  · rintro A i s Q E ⟨⟨old, he⟩, _⟩ h
    exact wpAny_pyIter_enum he h
def iEnumS (K : PySem.W.Frag) (ta : TA) : TI := fun σ H R => ta σ H fun vs H1 => ∃ a xs κ, vs = [.ref a] ∧ SqK κ K H1 a xs ∧ R (ItN K κ a xs) H1
theorem pi_enumS {X : Cx} {e : Expr} {ta : TA} {p pos tpos : Pos} {elts : List Expr} {kk : Nat} (hg : Gl X "enumerate") (hm : X.mg "enumerate" = none) (ha : PA X [e] ta) (hs : starEach [e] X.env = [(false, eval e X.env)] := by rfl) :
    PI X (.Tuple elts kk tpos) (.Call (.Name "enumerate" p) [e] [] pos) (iEnumS X.K ta) := by
  refine ⟨fun pins s σ H R I h => Call_ (ld_blt I hg hm boot_enumerate (PyProof.Rows.callWith_type1 (thn (ha.run pos pins s σ H _ I h) ?_) hs rfl))⟩
  rintro us s1 ⟨vs, H1, I1, r1, a, xs, κ, rfl, kx, q⟩
  obtain ⟨u1, rfl, ra⟩ := vals1 r1
  cases ra
  obtain ⟨its, rv, p1, la⟩ := Inv.seqK I1 kx
  refine enum_made p1 fun h' he hit hk => wpAny_pyIter_enum he ?_
  refine ⟨s1.heap.objs.size + 1, _, _, _, H1, rfl, I1.kept (t' := s1.toks) hk, enum_turns, ⟨⟨.none, he⟩, hit, Nat.succ_ne_self _, Nat.ne_of_gt (Nat.lt_succ_of_lt la), Nat.ne_of_lt la⟩, fun b hb => ?_, q⟩
  have le : s1.heap.objs.size ≤ b := by
    have e' : b = s1.heap.objs.size + 1 ∨ b = s1.heap.objs.size := by simpa using hb
    rcases e' with z | z <;> rw [z]
    · exact Nat.le_succ _
    · exact Nat.le_refl _
  exact I1.fpOk le (I1.hok.fresh le)
theorem walk_enumS {K : PySem.W.Frag} {κ : Bool} {a : Addr} {xs : List V} {n : Nat} (hn : n = xs.length) : Walk (ItN K κ a xs) n (fun H => SqK κ K H a xs) (YPair (fun i => some (.int (i : Nat))) (fun i => xs[i]?)) := by
  subst hn
  refine ⟨fun i _ hi q => ⟨q, hi⟩, fun _ q => ⟨q, rfl⟩, fun i H v H' _ q y => ?_⟩
  obtain ⟨T, x, h1, h2, h3, h4⟩ := y
  exact ⟨T, .int (i : Nat), x, h1, h2, h3, rfl, h4⟩
end Fp

namespace PyProof.Rows
open PySem PySem.Spec PySem.W
theorem collect_tupI {prog : Program} {w : World} {A : Around} {E : Value → Shared → Prop} {s : Shared} {l : Addr} {vs : List Value} {Q : List Value → Shared → Prop} (hl : s.heap.IsTuple l vs.toArray)
    (h : Q vs { s with heap := (s.heap.push (seqObj "list" #[] 0)).update s.heap.objs.size (Obj.mapSeq (· ++ vs.toArray)) }) (hsz : vs.length ≤ sizeLine) :
    wpAny (model prog w) A (collect (.ref l)) Q E s := by
  obtain ⟨o, ho, hc, n, hd⟩ := id hl
  unfold collect
  refine wpAny_bind (wpAny_runValue (codeAny_builtin entry_proto_collect' ?_))
  show wpAny _ _ (do again (.builtin "list.__iadd__" ⟨[← newList [], .ref l], []⟩)) _ _ s
  refine wpAny_bind (wpAny_newList (wpAny_pure ⟨Code.quiet_builtin _ (by decide +kernel), codeAny_builtin entry_list_iadd' ?_⟩))
  show wpAny _ _ (Builtin.List.listExtendWith (.ref s.heap.objs.size) (.ref l) (.ref s.heap.objs.size)) _ _ { s with heap := s.heap.push (seqObj "list" #[] 0) }
  unfold Builtin.List.listExtendWith
  have ho' : (s.heap.push (seqObj "list" #[] 0)).get? l = some o := Heap.get?_push_of_some _ ho
  refine wpAny_bind (wpAny_typeOf (T := "tuple") ⟨o, ho', hc⟩ ?_)
  have ht : (Value.type "tuple" == Value.type "tuple") = true := by rfl
  rw [if_pos (by rw [ht]; simp)]
  refine wpAny_bind (listItems_at ho' hd ?_)
  refine wpAny_bind (listItems_at (xs := #[]) (n := 0) (Heap.get?_push_size _ rfl) rfl ?_)
  rw [if_neg (by simp)]
  refine wpAny_bind (listUpdate_at (xs := #[]) (n := 0) (Heap.get?_push_size _ rfl) rfl ?_ (Nat.zero_le _) (by show (#[] ++ vs.toArray).size ≤ sizeLine + 1; simp only [Array.size_append, List.size_toArray, List.length_nil]; omega))
  refine wpAny_pure ?_
  show wpAny (model prog w) A (do
      let o ← load s.heap.objs.size
      match o.data with
      | .seq xs _ => pure xs.toList
      | _ => unsupported "internal:collect") Q E { s with heap := (s.heap.push (seqObj "list" #[] 0)).update s.heap.objs.size (Obj.mapSeq (· ++ vs.toArray)) }
  refine wpAny_bind (wpAny_load (get?_update_seq (Heap.get?_push_size _ rfl) _) ?_)
  show wpAny _ _ (pure ((#[] : Array Value) ++ vs.toArray).toList) Q E _
  refine wpAny_pure ?_
  simpa using h
end PyProof.Rows
namespace SrtO
open PySem PySem.Spec PyProof.Rows PySem.W
theorem sorted_ordT {prog : Program} {w : World} {A : Around} {E : Value → Shared → Prop} {s : Shared} {l : Addr} {vs : List Value} {ltv : Value → Value → Bool} {Q : Value → Shared → Prop} (O : Swo ltv) (hl : s.heap.IsTuple l vs.toArray) (hz : vs.length ≤ sizeLine)
    (hS : 2 ≤ vs.length → ∀ (h₁ : Heap) (a : Addr), h₁.get? a = some (seqObj "list" vs.toArray 0) → (∀ b o, s.heap.get? b = some o → b ≠ a ∧ h₁.get? b = some o) → SortableO prog w A.in1.in1 { s with heap := h₁ } a vs ltv)
    (h : ∀ out : List Value, Srtd ltv out → Stb ltv out vs → Q (.ref (s.heap.objs.size + 1)) { s with heap := sortedAll s.heap vs out.toArray }) :
    wpAny (model prog w) A (call (.builtin "sorted") [.ref l]) Q E s := by
  refine Calls.call_function_entry kind_sorted plain_sorted entry_sorted (args_sorted1 _) ?_
  unfold Builtin.«sorted»
  refine wpAny_bind (m := checkCount "sorted" 1 1 _) (wpAny_pure ?_)
  refine wpAny_bind (collect_tupI hl ?_ hz)
  refine wpAny_bind (wpAny_newList ?_ hz)
  have hsz : ((s.heap.push (seqObj "list" #[] 0)).update s.heap.objs.size (Obj.mapSeq (· ++ vs.toArray))).objs.size = s.heap.objs.size + 1 := by
    rw [Heap.size_update, size_push']
  have hoL : (((s.heap.push (seqObj "list" #[] 0)).update s.heap.objs.size (Obj.mapSeq (· ++ vs.toArray))).push (seqObj "list" vs.toArray 0)).get? (s.heap.objs.size + 1) = some (seqObj "list" vs.toArray 0) := by
    rw [← hsz]; exact Heap.get?_push_size _ rfl
  have keep : ∀ b o, s.heap.get? b = some o → b ≠ s.heap.objs.size + 1 ∧ (((s.heap.push (seqObj "list" #[] 0)).update s.heap.objs.size (Obj.mapSeq (· ++ vs.toArray))).push (seqObj "list" vs.toArray 0)).get? b = some o := fun b o q => by
    have hlt : b < s.heap.objs.size := Heap.lt_size q
    refine ⟨Nat.ne_of_lt (Nat.lt_succ_of_lt hlt), Heap.get?_push_of_some _ ?_⟩
    rw [Heap.get?_update_ne _ _ _ _ (Nat.ne_of_lt hlt)]
    exact Heap.get?_push_of_some _ q
  show wpAny _ _ _ _ _ { s with heap := ((s.heap.push (seqObj "list" #[] 0)).update s.heap.objs.size (Obj.mapSeq (· ++ vs.toArray))).push (seqObj "list" vs.toArray 0) }
  rw [hsz]
  refine wpAny_bind (wpAny_holding (wpAny_call_entry slot_list_sort ⟨_, hoL, rfl⟩ entry_list_sort (list_sort_ord O hoL hz (fun h2 => hS h2 _ _ hoL keep) fun out hs hb => ⟨_, rfl, ?_⟩) (args_list_sort _)))
  exact wpAny_pure ⟨_, rfl, h out hs hb⟩
end SrtO
namespace Fp
open PySem PySem.Spec PyProof.Rows L2 PySem.W
/-- sorted of ints in a list or a tuple -/
def rSortIS (K : PySem.W.Frag) : List V → Hp → VK → Prop := fun vs H Q => ∃ (a : Addr) (ns : List Int), vs = [V.ref a] ∧ Sq K H a (ns.map V.int) ∧
  ∀ (ns' : List Int) (p : Addr), ns'.Perm ns → ns'.Pairwise (· ≤ ·) → H p = none → Q (.ref p) (upd H p (.lst (ns'.map V.int)))
theorem cr_sortIS {X : Cx} : CallR X (.builtin "sorted") (rSortIS X.K) := by
  intro pins s σ H vs us Q I r h
  obtain ⟨a, ns, rfl, hs, q⟩ := h
  rcases hs with hs | hs
  · exact cr_sortedI pins s σ H [.ref a] us Q I r ⟨a, ns, rfl, hs, q⟩
  obtain ⟨its, rv, hl, hz⟩ := I.tuple hs
  rw [Vals.ref1 r]
  have hi := rv.ints
  have hz' : its.length ≤ sizeLine := by
    have := rv.length
    first | omega | exact this ▸ hz | simpa using hz
  refine SrtO.sorted_ordT SrtO.swo_int hl hz' (fun h2 h₁ a' _ _ => SrtO.ints_sortable hi h2) fun out h1 h2 => ?_
  obtain ⟨k1, k2, k3⟩ := SrtO.ints_out hi h1 h2
  obtain ⟨ep, he'⟩ := PyProof.Rows.sortedAll_at s.heap its out.toArray
  have hlen : ((out.map SrtO.iv).map V.int).length ≤ sizeLine := by
    rw [List.length_map, k2.length_eq]
    have := hi.length
    omega
  exact ⟨.ref _, upd H (s.heap.objs.size + 1) (.lst ((out.map SrtO.iv).map V.int)), I.laid (t' := s.toks) (fun _ _ => PyProof.Rows.sortedAll_old) (Nat.le_succ _) ⟨hlen, out, ep, vals_of_ints k1, he'⟩, rfl, q _ _ k2 k3 (I.hok.fresh (Nat.le_succ _))⟩
/-! ### min and max of ints in a list or a tuple -/
theorem min_tupI {prog : Program} {w : World} {A : Around} {E : Value → Shared → Prop} {s : Shared} {l : Addr} {its : List Value} {ns : List Int} {Q : Value → Shared → Prop} (hh : A.handled = none) (hl : s.heap.IsTuple l its.toArray) (hi : IntsAre its ns) (hne : 0 < ns.length)
    (h : ∀ h' tk M t', (∀ b o, s.heap.get? b = some o → h'.get? b = some o) → M ∈ ns → (∀ a, a ∈ ns → M ≤ a) → Q (.int M t') { s with heap := h', toks := tk }) : wpAny (model prog w) A (call (.builtin "min") [.ref l]) Q E s := by
  obtain ⟨xs, e⟩ := hi.allInts.items
  have hn : numsOf (intItems xs).toList = ns := by rw [← e]; exact hi.numsOf
  rw [nums_intItems] at hn
  subst hn
  rw [e] at hl
  have hsz : 0 < xs.size := by simpa using hne
  have hl0 : l < s.heap.objs.size := by obtain ⟨o, ho, _⟩ := hl; exact Heap.lt_size ho
  refine call_min_walk (wpAny_pyIter_tuple hl ?_)
  refine ⟨_, [_, l], [_], _, _, _, _, rfl, Walks.tuple (A := A.in1) hh _ l (Nat.ne_of_lt hl0) (intItems xs), ⟨⟨_, Heap.get?_push_size _ rfl, rfl, rfl⟩, hl.push _⟩, fun c hc => ?_, by simpa [intItems] using hsz, CmpOf.ints_lt (numAt xs) (fun _ _ => intItems_at), fun v h' tk hP hk => ?_⟩
  · show c < (s.heap.push _).objs.size
    rw [Heap.size_push]
    rcases List.mem_cons.mp hc with rfl | hc
    · exact Nat.lt_succ_self _
    · rw [List.mem_singleton.mp hc]; exact Nat.lt_succ_of_lt hl0
  · have kept : ∀ b o, s.heap.get? b = some o → h'.get? b = some o := fun b o eb => hk b o (fun hm => by
      rw [List.mem_singleton.mp hm] at eb
      exact Nat.lt_irrefl _ (Heap.lt_size eb)) (Heap.get?_push_of_some _ eb)
    obtain ⟨t, rfl⟩ := intItems_at (by simpa [intItems] using hP)
    obtain ⟨h1, h2⟩ := argBest_lt (numAt xs) (xs.size - 1)
    refine h h' tk _ t kept ?_ fun a ha => ?_
    · rw [numAt_eq]; exact PySem.getD_mem (by rw [List.length_map, Array.length_toList]; omega)
    · obtain ⟨j, hj, rfl⟩ := mem_getD ha
      rw [List.length_map, Array.length_toList] at hj
      rw [← numAt_eq]; exact h2 j (by omega)
def rMinS (K : PySem.W.Frag) : List V → Hp → VK → Prop := fun vs H Q => ∃ (a : Addr) (ns : List Int), vs = [V.ref a] ∧ Sq K H a (ns.map V.int) ∧ 0 < ns.length ∧ ∀ m, m ∈ ns → (∀ y, y ∈ ns → m ≤ y) → Q (.int m) H
theorem cr_minS {X : Cx} (hc : X.calm = true) : CallR X (.builtin "min") (rMinS X.K) := by
  intro pins s σ H vs us Q I r h
  obtain ⟨a, ns, rfl, hs, hne, q⟩ := h
  rcases hs with hs | hs
  · exact cr_min hc pins s σ H [.ref a] us Q I r ⟨a, ns, rfl, hs, hne, q⟩
  · obtain ⟨its, rv, hl, _⟩ := I.tuple hs
    rw [Vals.ref1 r]
    exact min_tupI (I.ok.hd hc) hl rv.ints hne fun h' tk m t' hk h1 h2 => ⟨.int _, H, I.kept hk, ⟨_, rfl⟩, q m h1 h2⟩
theorem max_tupI {prog : Program} {w : World} {A : Around} {E : Value → Shared → Prop} {s : Shared} {l : Addr} {its : List Value} {ns : List Int} {Q : Value → Shared → Prop} (hh : A.handled = none) (hl : s.heap.IsTuple l its.toArray) (hi : IntsAre its ns) (hne : 0 < ns.length)
    (h : ∀ h' tk M t', (∀ b o, s.heap.get? b = some o → h'.get? b = some o) → M ∈ ns → (∀ a, a ∈ ns → a ≤ M) → Q (.int M t') { s with heap := h', toks := tk }) : wpAny (model prog w) A (call (.builtin "max") [.ref l]) Q E s := by
  obtain ⟨xs, e⟩ := hi.allInts.items
  have hn : numsOf (intItems xs).toList = ns := by rw [← e]; exact hi.numsOf
  rw [nums_intItems] at hn
  subst hn
  rw [e] at hl
  have hsz : 0 < xs.size := by simpa using hne
  have hl0 : l < s.heap.objs.size := by obtain ⟨o, ho, _⟩ := hl; exact Heap.lt_size ho
  refine call_max_walk (wpAny_pyIter_tuple hl ?_)
  refine ⟨_, [_, l], [_], _, _, _, _, rfl, Walks.tuple (A := A.in1) hh _ l (Nat.ne_of_lt hl0) (intItems xs), ⟨⟨_, Heap.get?_push_size _ rfl, rfl, rfl⟩, hl.push _⟩, fun c hc => ?_, by simpa [intItems] using hsz, CmpOf.ints_gt (numAt xs) (fun _ _ => intItems_at), fun v h' tk hP hk => ?_⟩
  · show c < (s.heap.push _).objs.size
    rw [Heap.size_push]
    rcases List.mem_cons.mp hc with rfl | hc
    · exact Nat.lt_succ_self _
    · rw [List.mem_singleton.mp hc]; exact Nat.lt_succ_of_lt hl0
  · have kept : ∀ b o, s.heap.get? b = some o → h'.get? b = some o := fun b o eb => hk b o (fun hm => by
      rw [List.mem_singleton.mp hm] at eb
      exact Nat.lt_irrefl _ (Heap.lt_size eb)) (Heap.get?_push_of_some _ eb)
    obtain ⟨t, rfl⟩ := intItems_at (by simpa [intItems] using hP)
    obtain ⟨h1, h2⟩ := argBest_gt (numAt xs) (xs.size - 1)
    refine h h' tk _ t kept ?_ fun a ha => ?_
    · have h1' : argBest (fun i j => decide (numAt xs j < numAt xs i)) (xs.size - 1) ≤ xs.size - 1 := h1
      rw [numAt_eq]; exact PySem.getD_mem (by rw [List.length_map, Array.length_toList]; omega)
    · obtain ⟨j, hj, rfl⟩ := mem_getD ha
      rw [List.length_map, Array.length_toList] at hj
      rw [← numAt_eq]; exact h2 j (by omega)
def rMaxS (K : PySem.W.Frag) : List V → Hp → VK → Prop := fun vs H Q => ∃ (a : Addr) (ns : List Int), vs = [V.ref a] ∧ Sq K H a (ns.map V.int) ∧ 0 < ns.length ∧ ∀ m, m ∈ ns → (∀ y, y ∈ ns → y ≤ m) → Q (.int m) H
theorem cr_maxS {X : Cx} (hc : X.calm = true) : CallR X (.builtin "max") (rMaxS X.K) := by
  intro pins s σ H vs us Q I r h
  obtain ⟨a, ns, rfl, hs, hne, q⟩ := h
  rcases hs with hs | hs
  · exact cr_max hc pins s σ H [.ref a] us Q I r ⟨a, ns, rfl, hs, hne, q⟩
  · obtain ⟨its, rv, hl, _⟩ := I.tuple hs
    rw [Vals.ref1 r]
    exact max_tupI (I.ok.hd hc) hl rv.ints hne fun h' tk m t' hk h1 h2 => ⟨.int _, H, I.kept hk, ⟨_, rfl⟩, q m h1 h2⟩
end Fp

namespace Fp
open PySem PySem.Spec PyProof.Rows L2 PySem.W
section
variable {X : Cx}
/-! ### sorted, in whatever heap the items are read -/
def SrR2 {α : Type} (all : List V) (L : List α) (v : Value) (b : α) : Prop := ∃ x, x ∈ all ∧ RelV x v ∧ ∀ S : V → α → Prop, A2 S all L → S x b
theorem srt_in2 {α : Type} {all : List V} {L : List α} : ∀ {vs : List V} {its : List Value} {xs : List α}, (∀ v ∈ vs, v ∈ all) → (∀ S : V → α → Prop, A2 S all L → A2 S vs xs) → Vals vs its → vs.length = xs.length → EachIs (SrR2 all L) its xs
  | [], _, [], _, _, r, _ => by cases r; exact .nil
  | [], _, _ :: _, _, _, _, h => by cases h
  | _ :: _, _, [], _, _, _, h => by cases h
  | v :: vs, _, x :: xs, m, t, r, h => by
    cases r with
    | cons r1 r2 =>
      exact .cons ⟨v, m v List.mem_cons_self, r1, fun S g => (t S g).tail.1⟩ (srt_in2 (fun u hu => m u (List.mem_cons_of_mem _ hu)) (fun S g => (t S g).tail.2) r2 (by simpa using h))
theorem srt_out2 {α : Type} {all : List V} {L : List α} : ∀ {its : List Value} {xs : List α}, EachIs (SrR2 all L) its xs → ∃ ws, Vals ws its ∧ (∀ S : V → α → Prop, A2 S all L → A2 S ws xs) ∧ ∀ w ∈ ws, w ∈ all
  | _, _, .nil => ⟨[], .nil, fun _ _ => .nil, fun w h => by cases h⟩
  | _, _, .cons h r => by
    obtain ⟨x, m, rx, hx⟩ := h
    obtain ⟨ws, r1, r2, r3⟩ := srt_out2 r
    exact ⟨x :: ws, .cons rx r1, fun S g => .cons (hx S g) (r2 S g), fun w hw => by
      rcases List.mem_cons.mp hw with e | e
      · rw [e]; exact m
      · exact r3 w e⟩
theorem hs_a2 {α : Type} [DecidableEq α] [Datum α] {K : PySem.W.Frag} {H : Hp} {vs : List V} {L : List α} (h : Hs K H vs L) : A2 (Hd K H) vs L := ⟨h.len, fun _ _ e => h.at e⟩
def rSortH2 (α : Type) [DecidableEq α] [Datum α] (K : PySem.W.Frag) : List V → Hp → VK → Prop := fun vs H Q => ∃ (a : Addr) (xs : List V) (L : List α), vs = [V.ref a] ∧ SqL K H a xs ∧ Hs K H xs L ∧
  ∀ p ws, (∀ w ∈ ws, w ∈ xs) → (∀ S : V → α → Prop, A2 S xs L → A2 S ws (L.mergeSort leH)) → H p = none → Q (.ref p) (upd H p (.lst ws))
theorem cr_sortH2 (α : Type) [DecidableEq α] [Datum α] [Srt1 α] (hu : X.A.units + 2 + Datum.depth α < cLine) : CallR X (.builtin "sorted") (rSortH2 α X.K) := by
  intro pins s σ H vs us Q I r h
  obtain ⟨a, xs, L, rfl, hs, hL, q⟩ := h
  obtain ⟨its, rv, hl, hz⟩ := I.list hs
  rw [Vals.ref1 r]
  have el := srt_in2 (all := xs) (L := L) (fun _ m => m) (fun _ g => g) rv hL.len
  have n1 : L.length = xs.length := hL.len.symm
  have er : EachIs (fun v (b : α) => ∃ as, Reads s.heap v (Datum.toD b) as) its L := el.mono fun v b ⟨x, _, rx, hx⟩ => Dp.reads I _ x v (hx _ (hs_a2 hL)) rx
  refine sorted_data (enc := Datum.toD) hl.isList el er (AllAlike.of Srt1.like) (Sortable.others Srt1.other) (by rw [n1]; exact hz) (fun b _ => Nat.lt_of_le_of_lt (Nat.add_le_add_left (Datum.depth_le b) _) hu) fun out ho eo => ?_
  obtain ⟨ws, r1, r2, r3⟩ := srt_out2 eo
  obtain ⟨ep, he'⟩ := PyProof.Rows.sortedAll_at s.heap its out.toArray
  have hlen : ws.length ≤ sizeLine := by rw [r1.length, ho, n1]; exact hz
  exact ⟨.ref _, upd H (s.heap.objs.size + 1) (.lst ws), I.laid (t' := s.toks) (fun _ _ => PyProof.Rows.sortedAll_old) (Nat.le_succ _) ⟨hlen, out, ep, r1, he'⟩, rfl, q _ _ r3 r2 (I.hok.fresh (Nat.le_succ _))⟩
end
end Fp

namespace Fp
open PySem PySem.Spec PyProof.Rows L2
/-! ### zip of three lists or tuples -/
def YTrip (xs ys zs : Nat → Option V) : Nat → Hp → V → Hp → Prop := fun i H v H' => ∃ T x y z, v = .ref T ∧ H T = none ∧ H' = upd H T (.tup [x, y, z]) ∧ xs i = some x ∧ ys i = some y ∧ zs i = some z
def ItZ3 (K : PySem.W.Frag) (κ1 κ2 κ3 : Bool) (a b c : Addr) (xs ys zs : List V) : It :=
  ⟨fun i H => SqK κ1 K H a xs ∧ SqK κ2 K H b ys ∧ SqK κ3 K H c zs ∧ i < xs.length ∧ i < ys.length ∧ i < zs.length,
    YTrip (fun i => xs[i]?) (fun i => ys[i]?) (fun i => zs[i]?),
    fun i H => SqK κ1 K H a xs ∧ SqK κ2 K H b ys ∧ SqK κ3 K H c zs ∧ i ≤ xs.length ∧ i ≤ ys.length ∧ i ≤ zs.length ∧ (i = xs.length ∨ i = ys.length ∨ i = zs.length)⟩
def TnZ3 (κ1 κ2 κ3 : Bool) (z TI TO i1 i2 i3 a b c : Addr) (i : Nat) (h : Heap) : Prop :=
  IsZip h z TI TO .none ∧ IsTupOf3 h TI (.ref i1) (.ref i2) (.ref i3) ∧ (∃ x y u, IsTupOf3 h TO x y u) ∧ ItAtK κ1 h i1 a i ∧ ItAtK κ2 h i2 b i ∧ ItAtK κ3 h i3 c i
theorem zip3_apart (I a b c : Nat) (la : a < I) (lb : b < I) (lc : c < I) : ZipSep3 (I + 5) (I + 3) (I + 4) I (I + 1) (I + 2) [I, a] [I + 1, b] [I + 2, c] := by
  constructor <;> (try simp only [List.mem_cons, List.not_mem_nil, or_false, not_or, true_or, or_true]) <;> (try refine ⟨?_, ?_⟩) <;> refine PySem.W.neN ?_ <;> omega
theorem zip3_turns {P : Program} {w : World} {K : PySem.W.Frag} {elts : List Expr} {kk : Nat} {tpos : Pos} {κ1 κ2 κ3 : Bool} {a b c I : Addr} {xs ys zs : List V} (la : a < I) (lb : b < I) (lc : c < I) :
    Turn P w K (.Tuple elts kk tpos) (ItZ3 K κ1 κ2 κ3 a b c xs ys zs) [I + 5, I + 3, I + 4, I, I + 1, I + 2] (I + 5) (TnZ3 κ1 κ2 κ3 (I + 5) (I + 3) (I + 4) I (I + 1) (I + 2) a b c) := by
  have S := zip3_apart I a b c la lb lc
  refine ⟨by simp, ?_, ?_, ?_, ?_, ?_⟩
  · rintro i h ⟨hz, hTI, ⟨x, y, u, hTO⟩, h1, h2, h3⟩ c hc
    have e' : c = I + 5 ∨ c = I + 3 ∨ c = I + 4 ∨ c = I ∨ c = I + 1 ∨ c = I + 2 := by simpa using hc
    rcases e' with q | q | q | q | q | q <;> subst q
    · exact ⟨_, hz, fun v q => nomatch q⟩
    · exact ⟨_, hTI, fun v q => nomatch q⟩
    · exact ⟨_, hTO, fun v q => nomatch q⟩
    · exact h1.obj
    · exact h2.obj
    · exact h3.obj
  · rintro i h h' ⟨hz, hTI, ⟨x, y, u, hTO⟩, h1, h2, h3⟩ k
    exact ⟨k (I + 5) (by simp) _ hz, k (I + 3) (by simp) _ hTI, ⟨x, y, u, k (I + 4) (by simp) _ hTO⟩, h1.at fun o q => k I (by simp) o q, h2.at fun o q => k (I + 1) (by simp) o q, h3.at fun o q => k (I + 2) (by simp) o q⟩
  · intro X hP hw hK hc i pins s σ H E Iv hf st hg
    subst hP hw hK
    obtain ⟨hz, hTI, ⟨x0, y0, u0, hTO⟩, h1, h2, h3⟩ := st
    obtain ⟨qx, qy, qz, l1, l2, l3⟩ := hg
    obtain ⟨its, rv, p, _⟩ := Inv.seqK Iv qx
    obtain ⟨its2, rv2, p2, _⟩ := Inv.seqK Iv qy
    obtain ⟨its3, rv3, p3, _⟩ := Inv.seqK Iv qz
    have hA : X.A.in1.handled = none := by
      have q := Iv.ok.hd hc
      simpa using q
    have zl : I + 5 < s.heap.objs.size := Heap.lt_size hz
    have n1 := rv.length
    have n2 := rv2.length
    have n3 := rv3.length
    refine wpAny_pyNext_zipD3_item S (draws_k κ1 hA I a (PySem.W.neN (Nat.ne_of_lt la)) its.toArray) (draws_k κ2 hA (I + 1) b (PySem.W.neN (Nat.ne_of_lt (Nat.lt_succ_of_lt lb))) its2.toArray) (draws_k κ3 hA (I + 2) c (PySem.W.neN (Nat.ne_of_lt (Nat.lt_succ_of_lt (Nat.lt_succ_of_lt lc)))) its3.toArray) hz hTI hTO ⟨h1, p⟩ ⟨h2, p2⟩ ⟨h3, p3⟩ (by simp; omega) (by simp; omega) (by simp; omega) ?_
    intro u u2 u3 h' tk hu hu2 hu3 z' TO' st1 st2 st3 hT hsz hk
    obtain ⟨x, hx, ru⟩ : ∃ x, xs[i]? = some x ∧ RelV x u := by
      obtain ⟨u', e1, e2⟩ := rv.get (List.getElem?_eq_getElem l1)
      have e3 : its[i]? = some u := by simpa using hu
      rw [e1] at e3
      obtain rfl := Option.some.inj e3
      exact ⟨_, List.getElem?_eq_getElem l1, e2⟩
    obtain ⟨y, hy, ru2⟩ : ∃ y, ys[i]? = some y ∧ RelV y u2 := by
      obtain ⟨u', e1, e2⟩ := rv2.get (List.getElem?_eq_getElem l2)
      have e3 : its2[i]? = some u2 := by simpa using hu2
      rw [e1] at e3
      obtain rfl := Option.some.inj e3
      exact ⟨_, List.getElem?_eq_getElem l2, e2⟩
    obtain ⟨y3, hy3, ru3⟩ : ∃ y, zs[i]? = some y ∧ RelV y u3 := by
      obtain ⟨u', e1, e2⟩ := rv3.get (List.getElem?_eq_getElem l3)
      have e3 : its3[i]? = some u3 := by simpa using hu3
      rw [e1] at e3
      obtain rfl := Option.some.inj e3
      exact ⟨_, List.getElem?_eq_getElem l3, e2⟩
    refine ⟨_, rfl, wpAny_letOwnedTupleGo_zip (s := { s with heap := h', toks := tk }) z' fun h'' z'' sb => ?_⟩
    have T2 : h''.get? s.heap.objs.size = some { cls := .type "tuple", data := .seq #[u, u2, u3] } := (sb.2 _ (Nat.ne_of_gt zl)).trans hT
    have far : ∀ c o, c ∉ [I + 5, I + 3, I + 4, I, I + 1, I + 2] → s.heap.get? c = some o → h''.get? c = some o := fun c o hb q => by
      simp only [List.mem_cons, List.not_mem_nil, or_false, not_or] at hb
      exact (sb.2 c hb.1).trans (hk c o hb.1 hb.2.2.1 hb.2.2.2.1 hb.2.2.2.2.1 hb.2.2.2.2.2 q)
    have I1 : L2.Inv X pins σ (upd H s.heap.objs.size (.tup [x, y, y3])) { s with heap := h'', toks := tk } :=
      Iv.turnedNew (t' := tk) (ch := [I + 5, I + 3, I + 4, I, I + 1, I + 2]) far hf (Nat.le_refl _) ⟨by show 3 ≤ sizeLine; decide, [u, u2, u3], .cons ru (.cons ru2 (.cons ru3 .nil)), ⟨_, T2, rfl, _, rfl⟩⟩
    refine ⟨.ref s.heap.objs.size, _, I1, rfl, ⟨_, x, y, y3, rfl, Iv.hok.fresh (Nat.le_refl _), rfl, hx, hy, hy3⟩, ⟨z'', ?_, ⟨u, u2, u3, ?_⟩, ?_, ?_, ?_⟩, fun c hcm => ?_⟩
    · exact (sb.2 _ S.TIz).trans (hk _ _ S.TIz S.TITO S.TIi1 S.TIi2 S.TIi3 hTI)
    · exact (sb.2 _ S.TOz).trans TO'
    · exact st1.1.at fun o q => (sb.2 _ S.zi1.symm).trans q
    · exact st2.1.at fun o q => (sb.2 _ S.zi2.symm).trans q
    · exact st3.1.at fun o q => (sb.2 _ S.zi3.symm).trans q
    · have lt : c < s.heap.objs.size := by
        have e' : c = I + 5 ∨ c = I + 3 ∨ c = I + 4 ∨ c = I ∨ c = I + 1 ∨ c = I + 2 := by simpa using hcm
        have zl' : (I : Nat) + 5 < s.heap.objs.size := zl
        rcases e' with q | q | q | q | q | q <;> subst q
        · exact zl
        · exact Heap.lt_size hTI
        · exact Heap.lt_size hTO
        · obtain ⟨_, e1, _⟩ := h1.obj; exact Heap.lt_size e1
        · obtain ⟨_, e2, _⟩ := h2.obj; exact Heap.lt_size e2
        · obtain ⟨_, e2, _⟩ := h3.obj; exact Heap.lt_size e2
      rw [upd_ne (Nat.ne_of_lt lt)]
      exact (hf c hcm).1
  · intro X hP hw hK hc i pins s σ H E Iv hf st hg
    subst hP hw hK
    obtain ⟨hz, hTI, ⟨x0, y0, u0, hTO⟩, h1, h2, h3⟩ := st
    obtain ⟨qx, qy, qz, l1, l2, l3, l4⟩ := hg
    obtain ⟨its, rv, p, _⟩ := Inv.seqK Iv qx
    obtain ⟨its2, rv2, p2, _⟩ := Inv.seqK Iv qy
    obtain ⟨its3, rv3, p3, _⟩ := Inv.seqK Iv qz
    have hA : X.A.in1.handled = none := by
      have q := Iv.ok.hd hc
      simpa using q
    have n1 := rv.length
    have n2 := rv2.length
    have n3 := rv3.length
    refine wpAny_pyNext_zipD3_end S (draws_k κ1 hA I a (PySem.W.neN (Nat.ne_of_lt la)) its.toArray) (draws_k κ2 hA (I + 1) b (PySem.W.neN (Nat.ne_of_lt (Nat.lt_succ_of_lt lb))) its2.toArray) (draws_k κ3 hA (I + 2) c (PySem.W.neN (Nat.ne_of_lt (Nat.lt_succ_of_lt (Nat.lt_succ_of_lt lc)))) its3.toArray) hz hTI hTO ⟨h1, p⟩ ⟨h2, p2⟩ ⟨h3, p3⟩ (by simp; omega) (by simp; omega) (by simp; omega) (by simp; omega) fun h' tk hk => ?_
    refine ⟨rfl, Iv.turnedL (t' := tk) (ch := [I + 5, I + 3, I + 4, I, I + 1, I + 2]) (fun c o hb q => ?_) hf⟩
    simp only [List.mem_cons, List.not_mem_nil, or_false, not_or] at hb
    exact hk c o hb.1 hb.2.2.1 hb.2.2.2.1 hb.2.2.2.2.1 hb.2.2.2.2.2 q
  · intro A i s Q E st h
    exact wpAny_pyIter_zip st.1 h
def iZip3 (K : PySem.W.Frag) (ta : TA) : TI := fun σ H R => ta σ H fun vs H1 => ∃ a b c xs ys zs κ1 κ2 κ3, vs = [.ref a, .ref b, .ref c] ∧ SqK κ1 K H1 a xs ∧ SqK κ2 K H1 b ys ∧ SqK κ3 K H1 c zs ∧ R (ItZ3 K κ1 κ2 κ3 a b c xs ys zs) H1
def begK (κ : Bool) (l : Addr) : Obj := if κ = true then { cls := .type "tuple_iterator", data := .fields #[.ref l, .int 0 0] } else { cls := .type "list_iterator", data := .fields #[.ref l, .int 0 0] }
theorem begins_k (κ : Bool) (l : Addr) (its : Array Value) : Begins (.ref l) (begK κ l) fun h => SqAtK κ h l its := by
  cases κ with
  | false => exact begins_list l its
  | true => exact begins_tuple l its
theorem begK_at {κ : Bool} {h : Heap} {i l : Addr} (e : h.get? i = some (begK κ l)) : ItAtK κ h i l 0 := by
  cases κ with
  | false => exact ⟨_, e, rfl, rfl⟩
  | true => exact ⟨_, e, rfl, rfl⟩
theorem pi_zip3 {X : Cx} {e e2 e3 : Expr} {ta : TA} {p pos tpos : Pos} {elts : List Expr} {kk : Nat} (hg : Gl X "zip") (hm : X.mg "zip" = none) (ha : PA X [e, e2, e3] ta)
    (hs : starEach [e, e2, e3] X.env = (false, eval e X.env) :: starEach [e2, e3] X.env := by rfl) (hpl : (backTo pos (starEach [e2, e3] X.env)).any (·.1) = false := by rfl) :
    PI X (.Tuple elts kk tpos) (.Call (.Name "zip" p) [e, e2, e3] [] pos) (iZip3 X.K ta) := by
  refine ⟨fun pins s σ H R I h => Call_ (ld_blt I hg hm PyProof.Rows.boot_zip (PyProof.Rows.callWith_type1 (thn (ha.run pos pins s σ H _ I h) ?_) hs hpl))⟩
  rintro us s1 ⟨vs, H1, I1, r1, a, b, c, xs, ys, zs, κ1, κ2, κ3, rfl, kx, ky, kz, q⟩
  cases r1 with
  | cons ra r1 => cases r1 with
  | cons rb r1 => cases r1 with
  | cons rc r1 =>
  cases r1
  cases ra
  cases rb
  cases rc
  obtain ⟨its, rv, p1, la⟩ := Inv.seqK I1 kx
  obtain ⟨its2, rv2, p2, lb⟩ := Inv.seqK I1 ky
  obtain ⟨its3, rv3, p3, lc⟩ := Inv.seqK I1 kz
  refine zip_begins3 (begins_k κ1 a its.toArray) (begins_k κ2 b its2.toArray) (begins_k κ3 c its3.toArray) p1 p2 p3 fun h' hz hTI hTO h1 h2 h3 _ hk => wpAny_pyIter_zip hz ?_
  refine ⟨s1.heap.objs.size + 5, _, _, _, H1, rfl, I1.kept (t' := s1.toks) hk, zip3_turns la lb lc, ⟨hz, hTI, ⟨_, _, _, hTO⟩, begK_at h1, begK_at h2, begK_at h3⟩, fun c hcm => ?_, q⟩
  have le : s1.heap.objs.size ≤ c := by
    have e' : c = s1.heap.objs.size + 5 ∨ c = s1.heap.objs.size + 3 ∨ c = s1.heap.objs.size + 4 ∨ c = s1.heap.objs.size ∨ c = s1.heap.objs.size + 1 ∨ c = s1.heap.objs.size + 2 := by simpa using hcm
    rcases e' with z | z | z | z | z | z <;> rw [z] <;> first | exact Nat.le_refl _ | exact Nat.le_add_right _ _
  exact I1.fpOk le (I1.hok.fresh le)
theorem walk_zip3 {K : PySem.W.Frag} {κ1 κ2 κ3 : Bool} {a b c : Addr} {xs ys zs : List V} {n : Nat} (hn : n = min xs.length (min ys.length zs.length)) :
    Walk (ItZ3 K κ1 κ2 κ3 a b c xs ys zs) n (fun H => SqK κ1 K H a xs ∧ SqK κ2 K H b ys ∧ SqK κ3 K H c zs) (YTrip (fun i => xs[i]?) (fun i => ys[i]?) (fun i => zs[i]?)) := by
  subst hn
  exact ⟨fun i _ hi q => ⟨q.1, q.2.1, q.2.2, by omega, by omega, by omega⟩, fun _ q => ⟨q.1, q.2.1, q.2.2, by omega, by omega, by omega, by omega⟩, fun i H v H' _ q y => y⟩
end Fp

namespace Fp
open PySem PySem.Spec PyProof.Rows L2
open Builtin
open Builtin.List
/-! ### repr(..) where own instances stand within -/
theorem sub_guard {X : Cx} {n : Nat} {A : Around} (sb : L2.Sub X (n + 1) A) {id : String} {args : Args} (hd : (A.under (.builtin id args)).depth = A.depth + 1) (hu : (A.under (.builtin id args)).units = A.units + 1) (hf : (A.under (.builtin id args)).frames = A.frames) : L2.Sub X n (A.under (.builtin id args)) :=
  ⟨⟨sb.room.hd, by have := sb.room.dp; rw [hd]; omega, by have := sb.room.un; rw [hu]; omega⟩, by rw [hf]; exact sb.fr⟩
theorem depth_list_loop (A : Around) (args : Args) : (A.under (.builtin "list.__repr__.loop" args)).depth = A.depth + 1 := by
  first | rfl | simp [Around.under, Code.weight, Code.isCreation, Code.isGuard, Code.isCaller, Code.frames, Code.isFrame, guardIds]
theorem frames_list_loop (A : Around) (args : Args) : (A.under (.builtin "list.__repr__.loop" args)).frames = A.frames := by
  first | rfl | simp [Around.under, Code.envs, pushEnvs]
theorem depth_tuple_repr (A : Around) (args : Args) : (A.under (.builtin "tuple.__repr__" args)).depth = A.depth + 1 := by
  first | rfl | simp [Around.under, Code.weight, Code.isCreation, Code.isGuard, Code.isCaller, Code.frames, Code.isFrame, guardIds]
theorem frames_tuple_repr (A : Around) (args : Args) : (A.under (.builtin "tuple.__repr__" args)).frames = A.frames := by
  first | rfl | simp [Around.under, Code.envs, pushEnvs]
theorem depth_tuple_under (A : Around) (args : Args) : (A.under (.builtin "tuple.__repr__.under" args)).depth = A.depth + 1 := by
  first | rfl | simp [Around.under, Code.weight, Code.isCreation, Code.isGuard, Code.isCaller, Code.frames, Code.isFrame, guardIds]
theorem frames_tuple_under (A : Around) (args : Args) : (A.under (.builtin "tuple.__repr__.under" args)).frames = A.frames := by
  first | rfl | simp [Around.under, Code.envs, pushEnvs]

/-- which containers have how long a text -/
abbrev ClT := Addr → Nat → Prop
abbrev Grd (Cl : ClT) (g : List Code) (m : Nat) : Prop := ∀ b k, Cl b k → k ≤ m → Clear g b
/-- x is shown as t, where H0 stands -/
def RpG (X : Cx) (n : Nat) (H0 : Hp) (Cl : ClT) (x : V) (t : Str) : Prop :=
  ∀ (A : Around) (pins : List (Addr × Obj)) (s : Shared) (σ : L2.St) (H : Hp) (u : Value) (g : List Code) (base : Nat), L2.Sub X n A → A.guards = some g → Grd Cl g t.length → base + t.length ≤ sizeLine → L2.Inv X pins σ H s → Same H0 H → RelV x u →
    wpAny (model X.prog X.w) A (pyReprUnder base u) (fun r s' => r = t ∧ ∃ H', L2.Inv X pins σ H' s' ∧ Same H H') X.xe s
theorem RpG.mono {X : Cx} {n m : Nat} {H0 : Hp} {Cl : ClT} {x : V} {t : Str} (h : RpG X n H0 Cl x t) (e : n ≤ m) : RpG X m H0 Cl x t :=
  fun A pins s σ H u g base sb => h A pins s σ H u g base (sb.mono e)
theorem RpG.is {X : Cx} {n : Nat} {H0 : Hp} {Cl : ClT} {x : V} {t : Str} (h : ∀ u, RelV x u → ReprIs X.prog X.w u t) : RpG X n H0 Cl x t :=
  fun A pins s σ H u g base sb hg hcl hb I sm r => h u r base hb A X.xe s _ fun tk => ⟨rfl, H, I.tok tk, Same.refl _⟩
/-- the loop over a list's items -/
theorem rp_list_loop {X : Cx} {n : Nat} {H0 : Hp} {Cl : ClT} {a P : Addr} {xs : List V} {ts : List Str} {A : Around} {g : List Code} {base : Nat} {pins : List (Addr × Obj)} {σ : L2.St} {R : Result → Shared → Prop} (hR2 : ∀ e s, X.xe e s → R (.error e) s)
    (fn : ∀ b k k', Cl b k → Cl b k' → k = k') (ha : H0 a = some (.lst xs)) (hca : Cl a (listText ts).length) (sb : L2.Sub X (n + 1) A) (hg : A.guards = some g) (hcl : Grd Cl g (listText ts).length) (hlen : ts.length = xs.length)
    (hT : ∀ (i : Nat) x t, xs[i]? = some x → ts[i]? = some t → RpG X n H0 Cl x t) (hsz : base + (listText ts).length ≤ sizeLine) :
    ∀ (k i : Nat) (s : Shared) (H : Hp) (acc : Array Value) (c : Nat) (done : List (Str × Tok)), xs.length - i = k → i ≤ xs.length → L2.Inv X pins σ H s → Same H0 H → FpOk X pins H P →
    s.heap.get? P = some { cls := .type "list", dict := none, data := .seq acc c, slots := #[] } → acc.toList = strValues done → done.map (·.1) = ts.take i →
    (∀ s' H' u, L2.Inv X pins σ H' s' → Same H H' → R (.ok (.ret (.str (listText ts) u))) s') →
    codeAny (model X.prog X.w) A (.builtin "list.__repr__.loop" ⟨[.ref a, rawInt i, .ref P, rawInt ((base + piled (ts.take i) : Nat) : Int)], []⟩) R s := by
  have hX : (listText ts).length = (textFrom 0 "[" ts).length + 1 := by
    show (textFrom 0 "[" ts ++ "]").length = _
    rw [strLen_append]; rfl
  have hL := textFrom_len ts 0 "["
  have hsz1 : xs.length ≤ sizeLine := by
    have h1 := hL.1
    rw [if_neg (Nat.lt_irrefl 0)] at h1
    omega
  have hsz2 : ∀ t ∈ ts, t.length ≤ sizeLine := fun t ht => by
    have h2 := hL.2.1 t ht
    omega
  have hsz3 : (listText ts).length ≤ sizeLine := by omega
  have hp3 := piled_le_listText ts
  intro k
  induction k with
  | zero =>
    intro i s H acc c done hk hi I sm hf hP hacc hdone hR
    have hin : i = xs.length := by omega
    obtain ⟨_, its, na, rv, hl, he⟩ := I.lstM (sm _ _ ha)
    refine codeAny_builtin F.entry_list_repr_loop ?_
    show wpAny _ _ («list.__repr__.loop» ⟨[.ref a, .int i 0, .ref P, .int ((base + piled (ts.take i) : Nat) : Int) 0], []⟩) _ _ s
    rw [repr_loop_tree]
    refine wpAny_bind (wpAny_listItems he rfl ?_)
    have hnone : its.toArray[(i : Int).toNat]? = none := by simp [hin, hl]
    simp only [hnone]
    unfold reprEnd
    refine wpAny_bind (wpAny_listItems hP rfl ?_)
    rw [hacc, repr_fold]
    refine wpAny_bind (wpAny_pure ?_)
    have hall : done.map (·.1) = ts := by rw [hdone, hin, ← hlen, List.take_length]
    rw [hall]
    refine wpAny_bind (wpAny_mkStr (wpAny_pure ?_) hsz3)
    exact hR _ H _ (I.tok _) (Same.refl _)
  | succ k ih =>
    intro i s H acc c done hk hi I sm hf hP hacc hdone hR
    have hlt : i < xs.length := by omega
    obtain ⟨t, ht⟩ : ∃ t, ts[i]? = some t := ⟨_, List.getElem?_eq_getElem (by omega)⟩
    have hx := List.getElem?_eq_getElem hlt
    have hrep := hT i _ t hx ht
    obtain ⟨_, its, na, rv, hl, he⟩ := I.lstM (sm _ _ ha)
    obtain ⟨u, hu, ru⟩ := rv.get hx
    have hp1 := piled_take_succ ht
    have hp2 := piled_take_le ts (i + 1)
    have lt : t.length < (listText ts).length := by omega
    refine codeAny_builtin F.entry_list_repr_loop ?_
    show wpAny _ _ («list.__repr__.loop» ⟨[.ref a, .int i 0, .ref P, .int ((base + piled (ts.take i) : Nat) : Int) 0], []⟩) _ _ s
    rw [repr_loop_tree]
    refine wpAny_bind (wpAny_listItems he rfl ?_)
    have hsome : its.toArray[(i : Int).toNat]? = some u := by simpa using hu
    simp only [hsome]
    rw [Int.toNat_natCast]
    have I1 : L2.Inv X (pins ++ [(P, ({ cls := .type "list", dict := none, data := .seq acc c, slots := #[] } : Obj))]) σ H s := I.pins_of fun p hp => by
      rcases List.mem_append.mp hp with z | z
      · exact I.pin p (List.mem_append_right _ z)
      · rw [List.mem_singleton.mp z]
        exact ⟨hP, hf.1, hf.2.1, hf.2.2.1, fun v q => nomatch q⟩
    refine wpAny_bind (wpAny_holding (wpAny_mono (hrep _ (pins ++ [(P, ({ cls := .type "list", dict := none, data := .seq acc c, slots := #[] } : Obj))]) s σ H u _ (base + piled (ts.take i) + 1) (sub_guard sb (depth_list_loop _ _) (units_under_list_loop _ _) (frames_list_loop _ _)) (guards_under_guard (isGuard_list_loop _) hg)
      (fun b m hb hm => (hcl b m hb (by omega)).cons (a := a) fun e => by
        subst e
        have := fn _ _ _ hca hb
        omega) (by omega) I1 sm ru) (fun r s1 hr => ?_) (fun e s' he => hR2 e s' he)))
    obtain ⟨rfl, H1, I2, s01⟩ := hr
    have hpn := I2.pin (P, ({ cls := .type "list", dict := none, data := .seq acc c, slots := #[] } : Obj)) (List.mem_append_right _ (List.mem_append_right _ List.mem_cons_self))
    have hP1 := hpn.1
    have hP0 := hpn.2.1
    have I3 := I2.unpinned
    refine wpAny_bind (wpAny_mkStr ?_ (hsz2 _ (List.mem_of_getElem? ht)))
    refine wpAny_bind ?_
    show wpAny _ _ (updateSeq P _) _ _ _
    have hasz : acc.size ≤ sizeLine := by
      have e1 : acc.toList.length = acc.size := by simp
      have e2 : (strValues done).length = done.length := by simp [strValues]
      have e3 : done.length = (ts.take i).length := by rw [← hdone, List.length_map]
      have e4 : (ts.take i).length ≤ i := by rw [List.length_take]; omega
      rw [hacc] at e1; omega
    refine wpAny_updateSeq hP1 rfl (wpAny_pure ⟨F.quiet_list_repr_loop _, ?_⟩) hasz
    have e1 : ((i : Int) + 1) = ((i + 1 : Nat) : Int) := by omega
    have e2 : base + piled (ts.take i) + (r.length + 2) = base + piled (ts.take (i + 1)) := by omega
    rw [e1, e2]
    have hf1 : FpOk X pins H1 P := ⟨hP0, hf.2.1, hf.2.2.1, hf.2.2.2.1, hf.2.2.2.2.1, hf.2.2.2.2.2⟩
    refine ih (i + 1) _ H1 (acc.push (.str r s1.toks)) _ (done ++ [(r, s1.toks)]) (by omega) hlt ((I3.tok (s1.toks + 1)).turnedL (t' := s1.toks + 1) (ch := [P]) (fun b o hb e => (Heap.get?_update_other _ _ (fun h : P = b => hb (by simp [h]))).trans e) (fun b hb => by rw [List.mem_singleton.mp hb]; exact hf1)) (sm.trans s01) hf1
      (Heap.get?_update_self _ hP1 rfl) (by simp [hacc, strValues]) (by simp [List.take_add_one, ht, hdone]) fun s' H' u' I' sm' => ?_
    exact hR s' H' u' I' (s01.trans sm')
/-- what a call of repr's parts gives -/
abbrev RpEnd (X : Cx) (pins : List (Addr × Obj)) (σ : L2.St) (H : Hp) (t : Str) : Value → Shared → Prop := fun v s' => ∃ u, v = .str t u ∧ ∃ H', L2.Inv X pins σ H' s' ∧ Same H H'
section
variable {X : Cx} {n : Nat} {H0 : Hp} {Cl : ClT} {a : Addr} {xs : List V} {ts : List Str}
theorem rp_listAt (fn : ∀ b k k', Cl b k → Cl b k' → k = k') (ha : H0 a = some (.lst xs)) (hne : xs ≠ []) (hca : Cl a (listText ts).length) (hlen : ts.length = xs.length) (hT : ∀ (i : Nat) x t, xs[i]? = some x → ts[i]? = some t → RpG X n H0 Cl x t)
    {A : Around} {g : List Code} {base : Nat} {pins : List (Addr × Obj)} {σ : L2.St} {H : Hp} {s : Shared} (sb : L2.Sub X (n + 1) A) (hg : A.guards = some g) (hcl : Grd Cl g (listText ts).length) (hsz : base + (listText ts).length ≤ sizeLine) (I : L2.Inv X pins σ H s) (sm : Same H0 H) :
    wpAny (model X.prog X.w) A.in1 (Builtin.listReprAt base ⟨[.ref a], []⟩) (fun fin s' => match fin with | .done f => callEnd (RpEnd X pins σ H (listText ts)) X.xe (.ok f) s' | .again c' => c'.quiet = true ∧ codeAny (model X.prog X.w) A c' (callEnd (RpEnd X pins σ H (listText ts)) X.xe) s') (fun e s' => callEnd (RpEnd X pins σ H (listText ts)) X.xe (.error e) s') s := by
  obtain ⟨_, its, na, rv, hl, he⟩ := I.lstM (sm _ _ ha)
  have hc0 : Clear g a := hcl a _ hca (Nat.le_refl _)
  cases its with
  | nil => exact absurd (List.length_eq_zero_iff.mp (by simpa using hl)) hne
  | cons x l =>
    refine wpAny_list_repr_head (A := A.in1) hg (fun v rest kw hm => listSameRef_of_ne (hc0 _ _ _ _ hm)) he rfl ?_
    refine wpAny_bind (m := newList []) (wpAny_newObj_type ?_)
    refine wpAny_pure ⟨F.quiet_list_repr_loop _, ?_⟩
    have I1 := I.kept (t' := s.toks) (h' := s.heap.push { cls := .type "list", dict := none, data := .seq #[] 0, slots := #[] }) fun b o e => Heap.get?_push_of_some _ e
    refine rp_list_loop (P := s.heap.objs.size) (R := callEnd (RpEnd X pins σ H (listText ts)) X.xe) (fun e s h => h) fn ha hca sb hg hcl hlen hT hsz _ 0 _ H #[] _ [] rfl (Nat.zero_le _) I1 sm (I.fpOk (Nat.le_refl _) (I.hok.fresh (Nat.le_refl _))) (Heap.get?_push_size _ rfl) rfl (by simp) fun s' H' u I' sm' => ?_
    exact ⟨u, rfl, H', I', sm'⟩
theorem call_list_reprG (fn : ∀ b k k', Cl b k → Cl b k' → k = k') (ha : H0 a = some (.lst xs)) (hne : xs ≠ []) (hca : Cl a (listText ts).length) (hlen : ts.length = xs.length) (hT : ∀ (i : Nat) x t, xs[i]? = some x → ts[i]? = some t → RpG X n H0 Cl x t)
    {A : Around} {g : List Code} {pins : List (Addr × Obj)} {σ : L2.St} {H : Hp} {s : Shared} (sb : L2.Sub X (n + 1) A) (hg : A.guards = some g) (hcl : Grd Cl g (listText ts).length) (hsz : (listText ts).length ≤ sizeLine) (I : L2.Inv X pins σ H s) (sm : Same H0 H) :
    wpAny (model X.prog X.w) A (call (.builtin "list.__repr__") [.ref a]) (RpEnd X pins σ H (listText ts)) X.xe s := by
  obtain ⟨_, its, na, rv, hl, he⟩ := I.lstM (sm _ _ ha)
  exact wpAny_call (codeAny_call_builtin F.slot_list_repr.plain F.entry_list_repr (F.slot_list_repr.check _ _ _ _ _ _ _ _ ⟨_, he, rfl⟩ (F.args_list_repr_1 _)
    (rp_listAt (base := 0) fn ha hne hca hlen hT sb hg hcl (by omega) I sm)))
theorem RpG.list (fn : ∀ b k k', Cl b k → Cl b k' → k = k') (ha : H0 a = some (.lst xs)) (hca : Cl a (listText ts).length) (hlen : ts.length = xs.length) (hT : ∀ (i : Nat) x t, xs[i]? = some x → ts[i]? = some t → RpG X n H0 Cl x t) : RpG X (n + 1) H0 Cl (.ref a) (listText ts) := by
  intro A pins s σ H u g base sb hg hcl hsz I sm r
  cases r
  obtain ⟨_, its, na, rv, hl, he⟩ := I.lstM (sm _ _ ha)
  by_cases hne : xs = []
  · subst hne
    have e1 : ts = [] := List.length_eq_zero_iff.mp hlen
    have e2 : its = [] := List.length_eq_zero_iff.mp (by simpa using hl.symm)
    subst e1 e2
    refine wpAny_pyReprUnder_ref (by omega) (wpAny_pyReprObjUnder_list_empty ⟨_, he, rfl⟩ sb.room.units0 he rfl ⟨_, _, rfl, rfl, H, I.tok _, Same.refl _⟩)
  · refine wpAny_pyReprUnder_ref (by omega) (wpAny_pyReprObjUnder_twin (twin := "list.__repr__.under") ⟨_, he, rfl⟩ F.slot_list_repr.toG rfl sb.room.units0
      (wpAny_mono (call_twin_plain F.plain_list_repr_under F.entry_list_repr_under F.check_list_repr_under ⟨_, he, rfl⟩ F.slot_list_repr.toG (F.args_list_repr_1 _)
        (rp_listAt fn ha hne hca hlen hT sb hg hcl hsz I sm)) (fun v s' hv => ?_) fun e s' h => h))
    obtain ⟨u, rfl, q⟩ := hv
    exact ⟨⟨_, u, rfl⟩, _, u, rfl, rfl, q⟩
end
/-- an own instance -/
def spRp (Rel : Addr → Hp → Str → Prop) : Sp := fun vs H Q _ => ∃ a t, vs = [.ref a] ∧ Rel a H t ∧ ∀ H', Same H H' → Q (.str t) H'
theorem ifBoundBy_K {M : Model} {A : Around} {E : Value → Shared → Prop} {s : Shared} {K : PySem.W.Frag} {x C f : Addr} {ox : Obj} {od : Option Obj} {name : Str} {last : Value → List Value → Sem Value} {Q : Option Value → Shared → Prop} (X : K.In s.heap) (I : PySem.W.InstAt s.heap x ox C od) (hs : PySem.W.findIn K (.ref C) name = some (some (.ref f))) (hf : PySem.W.isFn K (.ref f) = true)
    (h : wpAny M A (last (.ref f) [.ref x]) (fun v => Q (some v)) E s) : wpAny M A (callSpecialIfBoundBy? last (.ref x) name) Q E s := by
  simp only [callSpecialIfBoundBy?, bindSpecialIfBound?]
  refine wpAny_holding (wpAny_bind (wpAny_bind (wpAny_bind (I.type.here ((PySem.W.looks_findIn X hs).here ?_)))))
  refine wpAny_bind (wpAny_askSetting (wpAny_ite ?_))
  have fin : wpAny M A (last (.ref f) [.ref x] >>= fun v => pure (some v)) Q E s := wpAny_bind (wpAny_mono h (fun v s' h' => wpAny_pure h') fun _ _ h' => h')
  split
  · exact wpAny_bind ((PySem.W.bind_fn X _ (beq_iff_eq.mp hf)).here (wpAny_pure (by exact fin)))
  · exact wpAny_tryCatch (wpAny_bind ((PySem.W.bind_fn X _ (beq_iff_eq.mp hf)).here (wpAny_pure (by exact fin))))
theorem call_own {X : Cx} {CX : CXT} {k : Nat} {f a : Addr} {fd : FuncData} {ps : List Str} {Rel : Addr → Hp → Str → Prop} {E : XK} {t : Str} (F : FnOk X.prog X.w X.K X.mg X.base CX k f fd ps (spRp Rel))
    (hb : Binds X.K fd ps []) (hx : Passes CX X E) {A : Around} (sb : L2.Sub X k A) {pins : List (Addr × Obj)} {σ : L2.St} {H : Hp} {s : Shared} (I : L2.Inv X pins σ H s) (hr : Rel a H t) :
    wpAny (model X.prog X.w) A (call (.ref f) [.ref a]) (RpEnd X pins σ H t) X.xe s := by
  have hsp : spRp Rel [.ref a] H (fun v H' => v = .str t ∧ Same H H') E := ⟨a, t, rfl, hr, fun H' e => ⟨rfl, e⟩⟩
  have e0 : Env0 X.prog X.w X.K X.mg X.base A X.stack s H := by
    have e := I.env0
    exact ⟨by rw [sb.fr]; exact e.frames, e.mod, e.bs, e.bsz, e.funs, e.frf, e.hok, e.bare⟩
  have hl := F.len _ _ _ _ hsp
  have r2 : Vals [V.ref a] [Value.ref a] := .cons rfl .nil
  refine wpAny_call (codeAny_mono (F.run A X.stack s H ⟨[.ref a], []⟩ [.ref a] [.ref a] _ E sb.room e0 (by
    have := hb s [.ref a] I.kIn (by simpa using hl)
    simpa using this) r2 hsp) fun r s' hq => ?_)
  cases r with
  | error e => exact hx pins σ H s e s' I hq
  | ok fl =>
    cases fl with
    | ret w =>
      obtain ⟨z, H', I', rz, ez, ex⟩ := I.after hq
      subst ez
      obtain ⟨u, rfl⟩ := rz
      exact ⟨u, rfl, H', I', ex⟩
    | next => exact False.elim hq
    | brk => exact False.elim hq
    | cont => exact False.elim hq
theorem RpG.ins {X : Cx} {CX : CXT} {k : Nat} {H0 : Hp} {Cl : ClT} {C f a dx : Addr} {fs : List (Str × V)} {fd : FuncData} {ps : List Str} {Rel : Addr → Hp → Str → Prop} {E : XK} {t : Str} (F : FnOk X.prog X.w X.K X.mg X.base CX k f fd ps (spRp Rel))
    (hs : PySem.W.findIn X.K (.ref C) "__repr__" = some (some (.ref f))) (hf : PySem.W.isFn X.K (.ref f) = true) (hb : Binds X.K fd ps []) (hx : Passes CX X E) (ha : H0 a = some (.ins C dx fs)) (hr : ∀ H, Same H0 H → Rel a H t) : RpG X k H0 Cl (.ref a) t := by
  intro A pins s σ H u g base sb hg hcl hsz I sm r
  cases r
  obtain ⟨mA, J, _⟩ := ins_get I.hok (sm _ _ ha)
  obtain ⟨od, J, _⟩ := J.look
  have KX := I.kIn
  refine wpAny_pyReprUnder_ref (by omega) ?_
  unfold pyReprObjUnder pyReprObjBy
  refine wpAny_bind (wpAny_cRoomFor sb.room.units0 ?_)
  refine wpAny_bind (wpAny_bind (J.type.here ((PySem.W.looks_findIn KX hs).here ?_)))
  show wpAny _ _ (if (some (Value.ref f)).isNone = true then _ else _) _ _ _
  rw [if_neg (by simp)]
  refine wpAny_bind (m := callSpecialIfBoundBy? _ (.ref a) (Str.ofString "__repr__")) (ifBoundBy_K KX J hs hf (wpAny_mono (call_own F hb hx sb I (hr H sm)) (fun v s' hv => ?_) fun _ _ y => y))
  obtain ⟨u, rfl, H', I', ex⟩ := hv
  refine wpAny_bind (wpAny_isInstance (T := "str") (b := true) rfl isSubtype_str_str (wpAny_pure ?_))
  exact ⟨_, u, rfl, rfl, H', I', ex⟩
theorem top_own {X : Cx} {CX : CXT} {k : Nat} {C f a dx : Addr} {fs : List (Str × V)} {fd : FuncData} {ps : List Str} {Rel : Addr → Hp → Str → Prop} {E : XK} {t : Str} (F : FnOk X.prog X.w X.K X.mg X.base CX k f fd ps (spRp Rel))
    (hs : PySem.W.findIn X.K (.ref C) "__repr__" = some (some (.ref f))) (hf : PySem.W.isFn X.K (.ref f) = true) (hb : Binds X.K fd ps []) (hx : Passes CX X E) (hroom : Room (k + 1) X.A) {pins : List (Addr × Obj)} {σ : L2.St} {H : Hp} {s : Shared} (I : L2.Inv X pins σ H s) (ha : H a = some (.ins C dx fs)) (hr : Rel a H t) :
    wpAny (model X.prog X.w) X.A (call (.builtin "repr") [.ref a]) (RpEnd X pins σ H t) X.xe s := by
  obtain ⟨mA, J, _⟩ := ins_get I.hok ha
  obtain ⟨od, J, _⟩ := J.look
  obtain ⟨m, hF⟩ := I.fr
  refine PySem.W.repr_K (by have := hroom.un; show X.A.units + 1 < cLine; omega) hF I.ok.mod.kin J hs hf (wpAny_mono (call_own F hb hx ⟨hroom.in1, rfl⟩ I hr) (fun v s' hv => ?_) fun _ _ y => y)
  obtain ⟨u, rfl, H', I', ex⟩ := hv
  exact ⟨u, rfl, H', I', ex⟩
/-! tuples -/
section
variable {X : Cx} {n : Nat} {H0 : Hp} {Cl : ClT} {a : Addr}
theorem rp_tupFold {A : Around} {g : List Code} {pins : List (Addr × Obj)} {σ : L2.St} {m : Nat} (sb : L2.Sub X n A) (hg : A.guards = some g) (hcl : Grd Cl g m) : ∀ (l : List Value) (xs : List V) (ts : List Str) (acc : Array Str) (k : Nat) (s : Shared) (H : Hp) (Q : (Array Str × Nat) → Shared → Prop), Vals xs l → ts.length = xs.length →
    (∀ (i : Nat) x t, xs[i]? = some x → ts[i]? = some t → RpG X n H0 Cl x t) → (∀ t ∈ ts, t.length ≤ m) → k + piled ts ≤ sizeLine → L2.Inv X pins σ H s → Same H0 H →
    (∀ s' H', L2.Inv X pins σ H' s' → Same H H' → Q ⟨acc ++ ts.toArray, k + piled ts⟩ s') →
    wpAny (model X.prog X.w) A (forIn l (⟨acc, k⟩ : (Array Str × Nat)) tupBody) Q X.xe s := by
  intro l
  induction l with
  | nil =>
    intro xs ts acc k s H Q rv hlen hT hm hz I sm h
    cases rv
    have e1 : ts = [] := List.length_eq_zero_iff.mp (by simpa using hlen)
    subst e1
    have h0 := h s H I (Same.refl _)
    simp only [List.forIn_nil]
    exact wpAny_pure (by simpa [piled] using h0)
  | cons u l ih =>
    intro xs ts acc k s H Q rv hlen hT hm hz I sm h
    cases rv with
    | cons ru rv =>
      rename_i x xs
      cases ts with
      | nil => simp at hlen
      | cons t ts =>
        rw [piled_cons] at hz
        rw [List.forIn_cons]
        have hlt := hm t List.mem_cons_self
        refine wpAny_bind (wpAny_bind (wpAny_mono (hT 0 x t rfl rfl A pins s σ H u g (k + 1) sb hg (fun b q hb hq => hcl b q hb (by omega)) (by omega) I sm ru) (fun r s1 hr => ?_) fun _ _ e => e))
        obtain ⟨rfl, H1, I1, s01⟩ := hr
        refine wpAny_pure ?_
        refine ih xs ts (acc.push r) (k + (r.length + 2)) s1 H1 Q rv (by simpa using hlen) (fun i x t h1 h2 => hT (i + 1) x t (by simpa using h1) (by simpa using h2)) (fun t ht => hm t (List.mem_cons_of_mem _ ht)) (by omega) I1 (sm.trans s01) fun s' H' I' sm' => ?_
        have h1 := h s' H' I' (s01.trans sm')
        have e : k + piled (r :: ts) = k + (r.length + 2) + piled ts := by rw [piled_cons]; omega
        rw [e] at h1
        simpa using h1
theorem rp_tupAt (fn : ∀ b k k', Cl b k → Cl b k' → k = k') {xs : List V} {ts : List Str} (ha : H0 a = some (.tup xs)) (hca : Cl a (tupleText ts).length) (hlen : ts.length = xs.length) (hT : ∀ (i : Nat) x t, xs[i]? = some x → ts[i]? = some t → RpG X n H0 Cl x t)
    {A : Around} {g : List Code} {base : Nat} {pins : List (Addr × Obj)} {σ : L2.St} {H : Hp} {s : Shared} {id : String} {rest : List Value} (sb : L2.Sub X n (A.under (.builtin id ⟨.ref a :: rest, []⟩))) (hcg : (Code.builtin id ⟨.ref a :: rest, []⟩).isGuard = true) (hg : A.guards = some g) (hcl : Grd Cl g (tupleText ts).length) (hsz : base + (tupleText ts).length ≤ sizeLine) (I : L2.Inv X pins σ H s) (sm : Same H0 H) :
    wpOwn (model X.prog X.w) A (.builtin id ⟨.ref a :: rest, []⟩) (Builtin.tupleReprAt base ⟨[.ref a], []⟩) (fun fin s' => match fin with | .done f => callEnd (RpEnd X pins σ H (tupleText ts)) X.xe (.ok f) s' | .again c' => c'.quiet = true ∧ codeAny (model X.prog X.w) A c' (callEnd (RpEnd X pins σ H (tupleText ts)) X.xe) s') (fun e s' => callEnd (RpEnd X pins σ H (tupleText ts)) X.xe (.error e) s') s := by
  have hc0 : Clear g a := hcl a _ hca (Nat.le_refl _)
  have hp := piled_le_tupleText ts
  have hsz0 : (tupleText ts).length ≤ sizeLine := by omega
  obtain ⟨its, rv, he, hz⟩ := I.tuple (.inl (.inl (sm _ _ ha)) : SqT X.K H a xs)
  have he' := he
  obtain ⟨o, ho, hoc, nn, hod⟩ := he'
  rw [tuple_repr_tree, tupleReprUnderWay_eq]
  refine wpOwn_bind (wpOwn_stackTailAny hg (tupGuardF_off _) (tupGuardF_pos _) ?_)
  have hn : (g.any fun c => tupGuardF (.ref a) (c, default)) = false := by
    rw [List.any_eq_false]
    intro c hcm
    rw [tupGuardF_of_clear hc0 c hcm]
    exact Bool.false_ne_true
  rw [hn]
  refine wpOwn_of_wpAny ?_
  show wpAny _ _ (tupleReprRest base (.ref a)) _ _ s
  unfold tupleReprRest Builtin.Tuple.tupleItemsOf
  refine wpAny_bind (wpAny_bind (wpAny_seqItems ho hod (wpAny_pure ?_)))
  rw [← Array.forIn_toList]
  have pm : ∀ {ts : List Str} {t : Str}, t ∈ ts → t.length + 2 ≤ piled ts := fun {ts t} ht => by
    induction ts with
    | nil => cases ht
    | cons y r ih =>
      rw [piled_cons]
      rcases List.mem_cons.mp ht with e | e
      · rw [e]; omega
      · have := ih e; omega
  refine wpAny_bind (rp_tupFold (m := (tupleText ts).length - 1) (g := .builtin id ⟨.ref a :: rest, []⟩ :: g) sb (guards_under_guard hcg hg) (fun b q hb hq => ?_) its xs ts _ _ s H _ (by simpa using rv) hlen hT (fun t ht => by have := pm ht; omega) (by omega) I sm fun s' H' I' sm' => ?_)
  · have lpos : 1 ≤ (tupleText ts).length := by
      unfold tupleText
      rw [strLen_append, strLen_append]
      have e1 : ((("(" : String) : Str)).length = 1 := rfl
      omega
    exact (hcl b q hb (by omega)).cons (a := a) fun e => by
      subst e
      have := fn _ _ _ hca hb
      omega
  refine wpAny_bind (wpAny_mkStr (wpAny_pure ?_) ?_)
  · refine ⟨s'.toks, ?_, H', I'.tok _, sm'⟩
    have lz : its.length = ts.length := by rw [hlen, rv.length]
    simp [tupleText, lz]
  · have lz : its.length = ts.length := by rw [hlen, rv.length]
    have e : (tupleText ts) = (("(" : Str) ++ Str.join ", " ts ++ (if ts.length == 1 then ",)" else ")" : String)) := rfl
    rw [e] at hsz0
    simpa [lz] using hsz0
theorem RpG.tup (fn : ∀ b k k', Cl b k → Cl b k' → k = k') {xs : List V} {ts : List Str} (ha : H0 a = some (.tup xs)) (hca : Cl a (tupleText ts).length) (hlen : ts.length = xs.length) (hT : ∀ (i : Nat) x t, xs[i]? = some x → ts[i]? = some t → RpG X n H0 Cl x t) : RpG X (n + 1) H0 Cl (.ref a) (tupleText ts) := by
  intro A pins s σ H u g base sb hg hcl hsz I sm r
  cases r
  obtain ⟨its, rv, he, hz⟩ := I.tuple (.inl (.inl (sm _ _ ha)) : SqT X.K H a xs)
  obtain ⟨o, ho, hoc, nn, hod⟩ := he
  refine wpAny_pyReprUnder_ref (by omega) (wpAny_pyReprObjUnder_twin (twin := "tuple.__repr__.under") ⟨o, ho, hoc⟩ F.slot_tuple_repr rfl sb.room.units0
    (wpAny_mono (call_twin_own (F.quiet_tuple_repr_under _) F.entry_tuple_repr_under F.check_tuple_repr_under ⟨o, ho, hoc⟩ F.slot_tuple_repr (F.args_tuple_repr_1 _)
      (rp_tupAt fn ha hca hlen hT (sub_guard sb (depth_tuple_under _ _) (units_under_tuple_repr_under _ _) (frames_tuple_under _ _)) (isGuard_tuple_repr_under _) hg hcl hsz I sm)) (fun v s' hv => ?_) fun e s' h => h))
  obtain ⟨u, rfl, q⟩ := hv
  exact ⟨⟨_, u, rfl⟩, _, u, rfl, rfl, q⟩
theorem call_tuple_reprG (fn : ∀ b k k', Cl b k → Cl b k' → k = k') {xs : List V} {ts : List Str} (ha : H0 a = some (.tup xs)) (hca : Cl a (tupleText ts).length) (hlen : ts.length = xs.length) (hT : ∀ (i : Nat) x t, xs[i]? = some x → ts[i]? = some t → RpG X n H0 Cl x t)
    {A : Around} {g : List Code} {pins : List (Addr × Obj)} {σ : L2.St} {H : Hp} {s : Shared} (sb : L2.Sub X (n + 1) A) (hg : A.guards = some g) (hcl : Grd Cl g (tupleText ts).length) (hsz : (tupleText ts).length ≤ sizeLine) (I : L2.Inv X pins σ H s) (sm : Same H0 H) :
    wpAny (model X.prog X.w) A (call (.builtin "tuple.__repr__") [.ref a]) (RpEnd X pins σ H (tupleText ts)) X.xe s := by
  obtain ⟨its, rv, he, hz⟩ := I.tuple (.inl (.inl (sm _ _ ha)) : SqT X.K H a xs)
  obtain ⟨o, ho, hoc, nn, hod⟩ := he
  exact wpAny_call (codeAny_call_builtin_own (Code.quiet_builtin _ (by decide +kernel)) F.entry_tuple_repr (F.slot_tuple_repr.check _ _ _ _ _ _ _ _ ⟨o, ho, hoc⟩ (F.args_tuple_repr_1 _)
    (rp_tupAt (base := 0) fn ha hca hlen hT (sub_guard sb (depth_tuple_repr _ _) (units_under_tuple_repr _ _) (frames_tuple_repr _ _)) (isGuard_tuple_repr _) hg hcl (by omega) I sm)))
end
/-! what is shown how -/
/-- a ratio: an instance of the class at C with these two numbers -/
def Rat2 (C : Addr) (H : Hp) (a : Addr) (p q : Int) : Prop := ∃ dx, H a = some (.ins C dx [("_top", .int p), ("_bottom", .int q)])
theorem Rat2.same {C : Addr} {H H' : Hp} {a : Addr} {p q : Int} (h : Rat2 C H a p q) (e : Same H H') : Rat2 C H' a p q := let ⟨dx, h⟩ := h; ⟨dx, e _ _ h⟩
def ratText (p q : Int) : Str := Str.ofString "Ratio(" ++ Str.ofString (toString p) ++ Str.ofString ", " ++ Str.ofString (toString q) ++ Str.ofString ")"
def dEnt (p : Int × Int) : Str := Str.ofString (toString p.1) ++ ": " ++ Str.ofString (toString p.2)
abbrev okI (i : Int) : Prop := i.natAbs.log2 < 1920
abbrev okS (i : Int) : Prop := i.natAbs < 10 ^ 50
theorem okS.ok {i : Int} (h : okS i) : okI i := by
  show i.natAbs.log2 < 1920
  by_cases z : i.natAbs = 0
  · rw [z]; decide
  · refine (Nat.log2_lt z).mpr (Nat.lt_of_lt_of_le h ?_)
    exact Nat.le_trans (by decide : 10 ^ 50 ≤ 2 ^ 167) (Nat.pow_le_pow_right (by omega) (by omega))
/-- lowest terms -/
def RdI (p q : Int) : Prop := 0 < q ∧ Nat.gcd p.natAbs q.natAbs = 1
theorem rdI_one (p : Int) : RdI p 1 := ⟨by decide, by show Nat.gcd p.natAbs 1 = 1; exact Nat.gcd_one_right _⟩
inductive Sh (C : Addr) (H : Hp) : Nat → V → Str → Prop
  | int {d : Nat} {i : Int} (h : okS i) : Sh C H d (.int i) (Str.ofString (toString i))
  | bl {d : Nat} (b : Bool) : Sh C H d (.bl b) (if b = true then Str.ofString "True" else Str.ofString "False")
  | non {d : Nat} : Sh C H d .non "None"
  | str {d : Nat} (x : Str) (h : (reprText x).length ≤ 3900) : Sh C H d (.str x) (reprText x)
  | own {d : Nat} {a : Addr} {p q : Int} : Rat2 C H a p q → okS p → okS q → RdI p q → Sh C H d (.ref a) (ratText p q)
  | lst {d : Nat} {a : Addr} {xs : List V} {ts : List Str} : H a = some (.lst xs) → xs.length ≤ 61 → ts.length = xs.length → (∀ (i : Nat) x t, xs[i]? = some x → ts[i]? = some t → Sh C H d x t) → Sh C H (d + 1) (.ref a) (listText ts)
  | tup {d : Nat} {a : Addr} {xs : List V} {ts : List Str} : H a = some (.tup xs) → xs.length ≤ 61 → ts.length = xs.length → (∀ (i : Nat) x t, xs[i]? = some x → ts[i]? = some t → Sh C H d x t) → Sh C H (d + 1) (.ref a) (tupleText ts)
  | dct {d : Nat} {a : Addr} {ds : List (Int × Int)} : H a = some (.dK (ds.map fun p => (.inl p.1, .int p.2))) → ds.length ≤ 61 → (∀ p ∈ ds, okI p.1 ∧ okI p.2) → Sh C H (d + 1) (.ref a) (dictText (ds.map dEnt))
  | dcl {d : Nat} {a b : Addr} {k : Int} {ns : List Int} : H a = some (.dK [(.inl k, .ref b)]) → H b = some (.lst (ns.map V.int)) → ns.length ≤ 61 → okI k → (∀ x ∈ ns, okS x) →
      Sh C H (d + 2) (.ref a) (dictText [Str.ofString (toString k) ++ ": " ++ listText (ns.map fun x => Str.ofString (toString x))])
theorem Sh.same {C : Addr} {H H' : Hp} {d : Nat} {x : V} {t : Str} (h : Sh C H d x t) (e : Same H H') : Sh C H' d x t := by
  induction h with
  | int h => exact .int h
  | bl b => exact .bl b
  | non => exact .non
  | str x h => exact .str x h
  | own r h1 h2 h3 => exact .own (r.same e) h1 h2 h3
  | lst h1 h0 h2 _ ih => exact .lst (e _ _ h1) h0 h2 ih
  | tup h1 h0 h2 _ ih => exact .tup (e _ _ h1) h0 h2 ih
  | dct h1 h0 h2 => exact .dct (e _ _ h1) h0 h2
  | dcl h1 h2 h3 h4 h5 => exact .dcl (e _ _ h1) (e _ _ h2) h3 h4 h5
theorem dk_inj : ∀ {ds es : List (Int × Int)}, (ds.map fun p => ((.inl p.1 : Key), V.int p.2)) = es.map (fun p => ((.inl p.1 : Key), V.int p.2)) → ds = es
  | [], [], _ => rfl
  | [], _ :: _, h => by cases h
  | _ :: _, [], h => by cases h
  | (a, b) :: ds, (c, d) :: es, h => by
    rw [List.map_cons, List.map_cons] at h
    injection h with h1 h2
    injection h1 with h3 h4
    injection h3 with h5
    injection h4 with h6
    rw [show a = c from h5, show b = d from h6, dk_inj h2]
theorem dk_ne {ds : List (Int × Int)} {k : Int} {b : Addr} (h : (ds.map fun p => ((.inl p.1 : Key), V.int p.2)) = [((.inl k : Key), V.ref b)]) : False := by
  cases ds with
  | nil => cases h
  | cons p r =>
    rw [List.map_cons] at h
    injection h with h1 _
    injection h1 with _ h2
    cases h2
theorem vint_inj : ∀ {ns ms : List Int}, ns.map V.int = ms.map V.int → ns = ms
  | [], [], _ => rfl
  | [], _ :: _, h => by cases h
  | _ :: _, [], h => by cases h
  | n :: ns, m :: ms, h => by
    rw [List.map_cons, List.map_cons] at h
    injection h with h1 h2
    injection h1 with h3
    rw [h3, vint_inj h2]
theorem Sh.fn {C : Addr} {H : Hp} {d : Nat} {x : V} {t : Str} (h : Sh C H d x t) : ∀ {d' : Nat} {t' : Str}, Sh C H d' x t' → t = t' := by
  induction h with
  | int h => intro d' t' g; cases g; rfl
  | bl b => intro d' t' g; cases g; rfl
  | non => intro d' t' g; cases g; rfl
  | str x _ => intro d' t' g; cases g; rfl
  | own r _ _ _ =>
    intro d' t' g
    obtain ⟨dx, r⟩ := r
    cases g with
    | own r2 =>
      obtain ⟨dx2, r2⟩ := r2
      rw [r] at r2
      injection r2 with r2
      injection r2 with _ _ z
      injection z with z1 z2
      injection z1 with _ z3
      injection z3 with z3
      injection z2 with z2 _
      injection z2 with _ z4
      injection z4 with z4
      rw [z3, z4]
    | lst h1 => rw [r] at h1; cases h1
    | tup h1 => rw [r] at h1; cases h1
    | dct h1 => rw [r] at h1; cases h1
    | dcl h1 => rw [r] at h1; cases h1
  | lst h1 h0 h2 h3 ih =>
    intro d' t' g
    cases g with
    | own r2 => obtain ⟨dx2, r2⟩ := r2; rw [h1] at r2; cases r2
    | lst g1 g0 g2 g3 =>
      rw [h1] at g1; cases g1
      congr 1
      refine List.ext_getElem (by rw [h2, g2]) fun i a b => ?_
      have hx := List.getElem?_eq_getElem (show i < _ from h2 ▸ a)
      exact ih i _ _ hx (List.getElem?_eq_getElem a) (g3 i _ _ hx (List.getElem?_eq_getElem b))
    | tup g1 => rw [h1] at g1; cases g1
    | dct g1 => rw [h1] at g1; cases g1
    | dcl g1 => rw [h1] at g1; cases g1
  | tup h1 h0 h2 h3 ih =>
    intro d' t' g
    cases g with
    | own r2 => obtain ⟨dx2, r2⟩ := r2; rw [h1] at r2; cases r2
    | tup g1 g0 g2 g3 =>
      rw [h1] at g1; cases g1
      congr 1
      refine List.ext_getElem (by rw [h2, g2]) fun i a b => ?_
      have hx := List.getElem?_eq_getElem (show i < _ from h2 ▸ a)
      exact ih i _ _ hx (List.getElem?_eq_getElem a) (g3 i _ _ hx (List.getElem?_eq_getElem b))
    | lst g1 => rw [h1] at g1; cases g1
    | dct g1 => rw [h1] at g1; cases g1
    | dcl g1 => rw [h1] at g1; cases g1
  | dct h1 h0 h2 =>
    intro d' t' g
    cases g with
    | own r2 => obtain ⟨dx2, r2⟩ := r2; rw [h1] at r2; cases r2
    | lst g1 => rw [h1] at g1; cases g1
    | tup g1 => rw [h1] at g1; cases g1
    | dct g1 =>
      rw [h1] at g1
      injection g1 with g1
      injection g1 with g1
      rw [dk_inj g1]
    | dcl g1 =>
      rw [h1] at g1
      injection g1 with g1
      injection g1 with g1
      exact (dk_ne g1).elim
  | dcl h1 h2 h3 h4 h5 =>
    intro d' t' g
    cases g with
    | own r2 => obtain ⟨dx2, r2⟩ := r2; rw [h1] at r2; cases r2
    | lst g1 => rw [h1] at g1; cases g1
    | tup g1 => rw [h1] at g1; cases g1
    | dct g1 =>
      rw [h1] at g1
      injection g1 with g1
      injection g1 with g1
      exact (dk_ne g1.symm).elim
    | dcl g1 g2 g3 g4 g5 =>
      rw [h1] at g1
      injection g1 with g1
      injection g1 with g1
      injection g1 with g1 _
      injection g1 with ga gb
      injection ga with ga
      injection gb with gb
      subst gb
      rw [h2] at g2
      injection g2 with g2
      injection g2 with g2
      rw [show _ = _ from ga, vint_inj g2]
def ShCl (C : Addr) (H : Hp) : ClT := fun a m => ∃ d t, Sh C H d (.ref a) t ∧ t.length = m
theorem shcl_fn (C : Addr) (H : Hp) : ∀ b k k', ShCl C H b k → ShCl C H b k' → k = k' := fun b k k' ⟨d, t, h, e⟩ ⟨d', t', h', e'⟩ => by rw [← e, ← e', h.fn h']
/-! a dict of ints -/
theorem ents_of {P : Program} {w : World} {h₀ : Heap} : ∀ {ds : List (Int × Int)} {es : List DictEntry} {vs : List (Key × Value)}, Pairs (mixKind P w) es vs → KV (ds.map fun p => ((.inl p.1 : Key), V.int p.2)) vs → (∀ p ∈ ds, okI p.1 ∧ okI p.2) →
    ReprEntriesK P w [] h₀ 0 es (ds.map dEnt)
  | [], _, _, hp, hk, _ => by
    cases hk
    cases hp
    exact .nil
  | p :: ds, _, _, hp, hk, hb => by
    cases hk with
    | cons r hk =>
      cases hp with
      | cons k1 k2 hp =>
        obtain ⟨r1, r2⟩ := r
        obtain ⟨b1, b2⟩ := hb p List.mem_cons_self
        have k1' : keyIs _ _ = true := k1
        rw [← r1] at k1'
        rcases keyIs_shape k1' with ⟨i, t, e, e2⟩ | ⟨x, t, e, _⟩
        · obtain rfl : p.1 = i := by injection e
          obtain ⟨u, hu⟩ := (show ∃ u, _ = Value.int p.2 u from r2)
          refine .cons (k := Str.ofString (toString p.1)) (v := Str.ofString (toString p.2)) ?_ ?_ (ents_of hp hk fun q hq => hb q (List.mem_cons_of_mem _ hq))
          · rw [e2]; exact .of_is (ReprIs.int t b1) _ _ _
          · rw [k2, hu]; exact .of_is (ReprIs.int u b2) _ _ _
        · cases e
section
variable {X : Cx} {n : Nat} {H0 : Hp} {Cl : ClT} {a : Addr} {ds : List (Int × Int)}
theorem RpG.dict (ha : H0 a = some (.dK (ds.map fun p => (.inl p.1, .int p.2)))) (hca : Cl a (dictText (ds.map dEnt)).length) (hb : ∀ p ∈ ds, okI p.1 ∧ okI p.2) : RpG X (n + 1) H0 Cl (.ref a) (dictText (ds.map dEnt)) := by
  intro A pins s σ H u g base sb hg hcl hsz I sm r
  cases r
  obtain ⟨_, hsys, vs, kv, o, es, ep, he, hex, hd, _, hp, _⟩ := I.hok a _ (sm _ _ ha)
  refine wpAny_pyReprUnder_ref (by omega) (wpAny_pyReprObjUnder_dictK (as := []) (h₀ := s.heap) (d := 0) he hex.1 hd hsys (by simp) (ents_of hp kv hb) hg (fun b hb => ?_) (by have := sb.room.un; omega) (fun _ _ e => e) (fun h' u tk hk => ⟨_, u, rfl, rfl, H, I.kept (t' := tk) hk, Same.refl _⟩) hsz)
  rw [List.mem_singleton.mp hb]
  exact hcl a _ hca (Nat.le_refl _)
theorem call_dict_reprG (ha : H0 a = some (.dK (ds.map fun p => (.inl p.1, .int p.2)))) (hca : Cl a (dictText (ds.map dEnt)).length) (hb : ∀ p ∈ ds, okI p.1 ∧ okI p.2)
    {A : Around} {g : List Code} {pins : List (Addr × Obj)} {σ : L2.St} {H : Hp} {s : Shared} (sb : L2.Sub X (n + 1) A) (hg : A.guards = some g) (hcl : Grd Cl g (dictText (ds.map dEnt)).length) (hsz : (dictText (ds.map dEnt)).length ≤ sizeLine) (I : L2.Inv X pins σ H s) (sm : Same H0 H) :
    wpAny (model X.prog X.w) A (call (.builtin "dict.__repr__") [.ref a]) (RpEnd X pins σ H (dictText (ds.map dEnt))) X.xe s := by
  obtain ⟨_, hsys, vs, kv, o, es, ep, he, hex, hd, _, hp, _⟩ := I.hok a _ (sm _ _ ha)
  refine call_dict_reprK (as := []) (h₀ := s.heap) (d := 0) he hex.1 hd hsys (by simp) (ents_of hp kv hb) hg (fun b hb => ?_) (by have := sb.room.un; omega) (fun _ _ e => e) (fun h' u tk hk => ⟨u, rfl, H, I.kept (t' := tk) hk, Same.refl _⟩) hsz
  rw [List.mem_singleton.mp hb]
  exact hcl a _ hca (Nat.le_refl _)
end
/-! a dict of one list of ints -/
theorem dl_le {k : Int} {ns : List Int} : (listText (ns.map fun x => Str.ofString (toString x))).length ≤ (dictText [Str.ofString (toString k) ++ ": " ++ listText (ns.map fun x => Str.ofString (toString x))]).length := by
  unfold dictText
  rw [strLen_append, strLen_append]
  have : (Str.join ", " [Str.ofString (toString k) ++ ": " ++ listText (ns.map fun x => Str.ofString (toString x))]) = Str.ofString (toString k) ++ ": " ++ listText (ns.map fun x => Str.ofString (toString x)) := rfl
  rw [this, strLen_append, strLen_append]
  omega
section
variable {X : Cx} {n : Nat} {H0 : Hp} {Cl : ClT} {a b : Addr} {k : Int} {ns : List Int}
abbrev dlTxt (ns : List Int) : Str := listText (ns.map fun x => Str.ofString (toString x))
abbrev dlText (k : Int) (ns : List Int) : Str := dictText [Str.ofString (toString k) ++ ": " ++ dlTxt ns]
theorem dl_ents {pins : List (Addr × Obj)} {σ : L2.St} {H : Hp} {s : Shared} (I : L2.Inv X pins σ H s) (hb : H b = some (.lst (ns.map V.int))) (ok : okI k) (on : ∀ x ∈ ns, okI x) {es : List DictEntry} {vs : List (Key × Value)}
    (hp : Pairs (mixKind X.prog X.w) es vs) (hk : KV [((.inl k : Key), V.ref b)] vs) : ReprEntriesK X.prog X.w [b] s.heap 1 es [Str.ofString (toString k) ++ ": " ++ dlTxt ns] := by
  obtain ⟨_, its, na, rv, hl, he⟩ := I.lstM hb
  cases hk with
  | cons r hk =>
    cases hk
    cases hp with
    | cons k1 k2 hp =>
      cases hp
      obtain ⟨r1, r2⟩ := r
      have k1' : keyIs _ _ = true := k1
      rw [← r1] at k1'
      have kb : ReprK X.prog X.w [b] s.heap 1 (.ref b) (dlTxt ns) := by
        have l0 : its.length = ns.length := by rw [← hl]; simp
        have at_ : ∀ (i : Nat) (y : Value), its[i]? = some y → ∃ z u, ns[i]? = some z ∧ y = .int z u := fun i y hy => by
          have li := (List.getElem?_eq_some_iff.mp hy).1
          obtain ⟨z, hz⟩ : ∃ z, ns[i]? = some z := ⟨_, List.getElem?_eq_getElem (l0 ▸ li)⟩
          obtain ⟨u, hu, ru⟩ := rv.get (i := i) (x := V.int z) (by rw [List.getElem?_map, hz]; rfl)
          rw [hu] at hy
          obtain ⟨u2, e⟩ := (show ∃ t, u = Value.int z t from ru)
          exact ⟨z, u2, hz, by rw [← Option.some.inj hy]; exact e⟩
        cases its with
        | nil =>
          have e0 : ns = [] := List.length_eq_zero_iff.mp (by simpa using l0.symm)
          subst e0
          exact ReprK.listEmpty he rfl rfl
        | cons x l =>
          refine ReprK.list (as := []) (d := 0) he rfl rfl (by simp) (by rw [List.length_map, List.size_toArray]; exact l0.symm) fun i y hy => ?_
          obtain ⟨z, u, hz, rfl⟩ := at_ i y (by simpa using hy)
          exact ⟨_, by rw [List.getElem?_map, hz]; rfl, .of_is (ReprIs.int u (on z (List.mem_of_getElem? hz))) _ _ _⟩
      rcases keyIs_shape k1' with ⟨i, t, e, e2⟩ | ⟨x, t, e, _⟩
      · obtain rfl : k = i := by injection e
        refine .cons (k := Str.ofString (toString k)) (v := dlTxt ns) ?_ ?_ .nil
        · rw [e2]; exact .of_is (ReprIs.int t ok) _ _ _
        · rw [k2, show _ = Value.ref b from r2]; exact kb
      · cases e
theorem RpG.dictL (ha : H0 a = some (.dK [(.inl k, .ref b)])) (hb : H0 b = some (.lst (ns.map V.int))) (hca : Cl a (dlText k ns).length) (hcb : Cl b (dlTxt ns).length) (ok : okI k) (on : ∀ x ∈ ns, okI x) : RpG X (n + 2) H0 Cl (.ref a) (dlText k ns) := by
  intro A pins s σ H u g base sb hg hcl hsz I sm r
  cases r
  obtain ⟨_, hsys, vs, kv, o, es, ep, he, hex, hd, _, hp, _⟩ := I.hok a _ (sm _ _ ha)
  have ne : a ≠ b := fun z => by rw [z, hb] at ha; cases ha
  have lt : (dlTxt ns).length ≤ (dlText k ns).length := dl_le
  refine wpAny_pyReprUnder_ref (by omega) (wpAny_pyReprObjUnder_dictK (as := [b]) (h₀ := s.heap) (d := 1) he hex.1 hd hsys (by simp [ne]) (dl_ents I (sm _ _ hb) ok on hp kv) hg (fun c hc => ?_) (by have := sb.room.un; omega) (fun _ _ e => e) (fun h' u tk hk => ⟨_, u, rfl, rfl, H, I.kept (t' := tk) hk, Same.refl _⟩) hsz)
  rcases List.mem_cons.mp hc with z | z
  · rw [z]; exact hcl a _ hca (Nat.le_refl _)
  · rw [List.mem_singleton.mp z]; exact hcl b _ hcb lt
theorem call_dictL (ha : H0 a = some (.dK [(.inl k, .ref b)])) (hb : H0 b = some (.lst (ns.map V.int))) (hca : Cl a (dlText k ns).length) (hcb : Cl b (dlTxt ns).length) (ok : okI k) (on : ∀ x ∈ ns, okI x)
    {A : Around} {g : List Code} {pins : List (Addr × Obj)} {σ : L2.St} {H : Hp} {s : Shared} (sb : L2.Sub X (n + 2) A) (hg : A.guards = some g) (hcl : Grd Cl g (dlText k ns).length) (hsz : (dlText k ns).length ≤ sizeLine) (I : L2.Inv X pins σ H s) (sm : Same H0 H) :
    wpAny (model X.prog X.w) A (call (.builtin "dict.__repr__") [.ref a]) (RpEnd X pins σ H (dlText k ns)) X.xe s := by
  obtain ⟨_, hsys, vs, kv, o, es, ep, he, hex, hd, _, hp, _⟩ := I.hok a _ (sm _ _ ha)
  have ne : a ≠ b := fun z => by rw [z, hb] at ha; cases ha
  have lt : (dlTxt ns).length ≤ (dlText k ns).length := dl_le
  refine call_dict_reprK (as := [b]) (h₀ := s.heap) (d := 1) he hex.1 hd hsys (by simp [ne]) (dl_ents I (sm _ _ hb) ok on hp kv) hg (fun c hc => ?_) (by have := sb.room.un; omega) (fun _ _ e => e) (fun h' u tk hk => ⟨u, rfl, H, I.kept (t' := tk) hk, Same.refl _⟩) hsz
  rcases List.mem_cons.mp hc with z | z
  · rw [z]; exact hcl a _ hca (Nat.le_refl _)
  · rw [List.mem_singleton.mp z]; exact hcl b _ hcb lt
end
/-- how the own class is shown -/
structure OwnRp (X : Cx) (C : Addr) (k : Nat) : Prop where
  go : ∀ (H0 : Hp) (Cl : ClT) (a : Addr) (p q : Int), Rat2 C H0 a p q → okI p → okI q → RpG X k H0 Cl (.ref a) (ratText p q)
  top : ∀ (pins : List (Addr × Obj)) (s : Shared) (σ : L2.St) (H : Hp) (a : Addr) (p q : Int), L2.Inv X pins σ H s → Rat2 C H a p q → okI p → okI q → wpAny (model X.prog X.w) X.A (call (.builtin "repr") [.ref a]) (RpEnd X pins σ H (ratText p q)) X.xe s
theorem Sh.ints {C : Addr} {H : Hp} {d : Nat} {a : Addr} {ns : List Int} (h : H a = some (.lst (ns.map V.int))) (l : ns.length ≤ 61) (ok : ∀ x ∈ ns, okS x) : Sh C H (d + 1) (.ref a) (listText (ns.map fun x => Str.ofString (toString x))) :=
  .lst h (by rw [List.length_map]; exact l) (by rw [List.length_map, List.length_map]) fun i x t e1 e2 => by
    rw [List.getElem?_map] at e1 e2
    obtain ⟨z, hz, rfl⟩ := Option.map_eq_some_iff.mp e1
    rw [hz] at e2
    cases e2
    exact .int (ok z (List.mem_of_getElem? hz))
theorem Sh.rp {X : Cx} {C : Addr} {k : Nat} (O : OwnRp X C k) {H0 : Hp} {d : Nat} {x : V} {t : Str} (h : Sh C H0 d x t) : t.length ≤ sizeLine → RpG X (k + d) H0 (ShCl C H0) x t := by
  induction h with
  | @int d i h =>
    intro _
    refine RpG.is fun u r => ?_
    obtain ⟨t, rfl⟩ := r
    exact ReprIs.int t h.ok
  | bl b =>
    intro _
    refine RpG.is fun u r => ?_
    cases r
    exact ReprIs.bool b
  | non =>
    intro _
    refine RpG.is fun u r => ?_
    cases r
    exact ReprIs.none
  | str x _ =>
    intro hz
    refine RpG.is fun u r => ?_
    obtain ⟨t, rfl⟩ := r
    exact ReprIs.str x t hz
  | own r b1 b2 _ => exact fun hz => (O.go _ _ _ _ _ r b1.ok b2.ok).mono (Nat.le_add_right _ _)
  | @lst d a xs ts h1 h0 h2 h3 ih =>
    intro hz
    have hp := piled_le_listText ts
    refine RpG.list (shcl_fn C H0) h1 ⟨_, _, Sh.lst h1 h0 h2 h3, rfl⟩ h2 fun i x t e1 e2 => ih i x t e1 e2 ?_
    have : t.length + 2 ≤ piled ts := by
      have := piled_take_succ e2
      have := piled_take_le ts (i + 1)
      omega
    omega
  | @tup d a xs ts h1 h0 h2 h3 ih =>
    intro hz
    have hp := piled_le_tupleText ts
    refine RpG.tup (shcl_fn C H0) h1 ⟨_, _, Sh.tup h1 h0 h2 h3, rfl⟩ h2 fun i x t e1 e2 => ih i x t e1 e2 ?_
    have : t.length + 2 ≤ piled ts := by
      have := piled_take_succ e2
      have := piled_take_le ts (i + 1)
      omega
    omega
  | @dct d a ds h1 h0 h2 => exact fun _ => RpG.dict h1 ⟨d + 1, _, Sh.dct h1 h0 h2, rfl⟩ h2
  | @dcl d a b k ns h1 h2 h3 h4 h5 => exact fun _ => RpG.dictL h1 h2 ⟨d + 2, _, Sh.dcl h1 h2 h3 h4 h5, rfl⟩ ⟨d + 1, _, Sh.ints h2 h3 h5, rfl⟩ h4 fun x hx => (h5 x hx).ok
theorem listText_le (ts : List Str) : (listText ts).length ≤ piled ts + 2 := by
  cases ts with
  | nil => decide
  | cons t r =>
    have h := textFrom_length_pos r 1 (("[" : Str) ++ (if (0 : Nat) > 0 then ", " else "" : String) ++ t) (Nat.succ_pos 0)
    have e : ((("[" : Str) ++ (if (0 : Nat) > 0 then ", " else "" : String) ++ t)).length = 1 + t.length := by
      rw [strLen_append, strLen_append]; rfl
    have hX : (listText (t :: r)).length = (textFrom 0 "[" (t :: r)).length + 1 := by
      show (textFrom 0 "[" (t :: r) ++ "]").length = _
      rw [strLen_append]; rfl
    have hY : (textFrom 0 "[" (t :: r)).length = (textFrom 1 (("[" : Str) ++ (if (0 : Nat) > 0 then ", " else "" : String) ++ t) r).length := rfl
    rw [hX, hY, h, e, piled_cons]; omega
theorem join_le (ts : List Str) : (Str.join ", " ts).length ≤ piled ts := by
  cases ts with
  | nil => decide
  | cons t r => have := join_length_add (t :: r) (by simp); omega
theorem tupleText_le (ts : List Str) : (tupleText ts).length ≤ piled ts + 3 := by
  have := join_le ts
  unfold tupleText
  rw [strLen_append, strLen_append]
  have e1 : ((("(" : String) : Str)).length = 1 := rfl
  have e3 : (((if ts.length == 1 then ",)" else ")" : String) : Str)).length ≤ 2 := by split <;> decide
  omega
theorem dictText_le (ts : List Str) : (dictText ts).length ≤ piled ts + 2 := by
  have := join_le ts
  unfold dictText
  rw [strLen_append, strLen_append]
  have e1 : ((("{" : String) : Str)).length = 1 := rfl
  have e2 : ((("}" : String) : Str)).length = 1 := rfl
  omega
theorem piled_all {ts : List Str} {L : Nat} (h : ∀ t ∈ ts, t.length ≤ L) : piled ts ≤ ts.length * (L + 2) := by
  induction ts with
  | nil => simp [piled]
  | cons t r ih =>
    rw [piled_cons, List.length_cons, Nat.succ_mul]
    have := h t List.mem_cons_self
    have := ih fun t ht => h t (List.mem_cons_of_mem _ ht)
    omega
def Lb : Nat → Nat
  | 0 => 3900
  | d + 1 => 61 * (Lb d + 2) + 3
theorem Lb_ge : ∀ d, 3900 ≤ Lb d
  | 0 => Nat.le_refl _
  | d + 1 => by have := Lb_ge d; show 3900 ≤ 61 * (Lb d + 2) + 3; omega
theorem int_len {i : Int} (h : okI i) : (Str.ofString (toString i)).length ≤ 1921 := int_text_len_1921 h
theorem ratText_len {p q : Int} (h1 : okI p) (h2 : okI q) : (ratText p q).length ≤ 3900 := by
  have := int_len h1
  have := int_len h2
  unfold ratText
  rw [strLen_append, strLen_append, strLen_append, strLen_append]
  have e1 : (Str.ofString "Ratio(").length = 6 := rfl
  have e2 : (Str.ofString ", ").length = 2 := rfl
  have e3 : (Str.ofString ")").length = 1 := rfl
  omega
theorem at_all {ts : List Str} {xs : List V} {L : Nat} (h2 : ts.length = xs.length) (h : ∀ (i : Nat) (x : V) (t : Str), xs[i]? = some x → ts[i]? = some t → t.length ≤ L) : ∀ t ∈ ts, t.length ≤ L := fun t ht => by
  obtain ⟨i, hi⟩ := List.getElem?_of_mem ht
  have l := (List.getElem?_eq_some_iff.mp hi).1
  exact h i _ t (List.getElem?_eq_getElem (h2 ▸ l)) hi
theorem Sh.len {C : Addr} {H : Hp} {d : Nat} {x : V} {t : Str} (h : Sh C H d x t) : t.length ≤ Lb d := by
  induction h with
  | @int d i h => exact Nat.le_trans (int_len h.ok) (Nat.le_trans (by decide) (Lb_ge d))
  | @bl d b => exact Nat.le_trans (by cases b <;> decide) (Lb_ge d)
  | @non d => exact Nat.le_trans (by decide) (Lb_ge d)
  | @str d x h => exact Nat.le_trans h (Lb_ge d)
  | @own d a p q r h1 h2 _ => exact Nat.le_trans (ratText_len h1.ok h2.ok) (Lb_ge d)
  | @lst d a xs ts h1 h0 h2 h3 ih =>
    have := listText_le ts
    have p := piled_all (at_all h2 ih)
    have : ts.length * (Lb d + 2) ≤ 61 * (Lb d + 2) := Nat.mul_le_mul_right _ (by omega)
    show _ ≤ 61 * (Lb d + 2) + 3
    omega
  | @tup d a xs ts h1 h0 h2 h3 ih =>
    have := tupleText_le ts
    have p := piled_all (at_all h2 ih)
    have : ts.length * (Lb d + 2) ≤ 61 * (Lb d + 2) := Nat.mul_le_mul_right _ (by omega)
    show _ ≤ 61 * (Lb d + 2) + 3
    omega
  | @dct d a ds h1 h0 h2 =>
    have := dictText_le (ds.map dEnt)
    have p := piled_all (ts := ds.map dEnt) (L := 3900) fun t ht => by
      obtain ⟨p, hp, rfl⟩ := List.mem_map.mp ht
      have := int_len (h2 p hp).1
      have := int_len (h2 p hp).2
      unfold dEnt
      rw [strLen_append, strLen_append]
      have e1 : (((": " : String) : Str)).length = 2 := rfl
      omega
    rw [List.length_map] at p
    have b := Lb_ge d
    have : ds.length * (3900 + 2) ≤ 61 * (Lb d + 2) := Nat.mul_le_mul h0 (by omega)
    show _ ≤ 61 * (Lb d + 2) + 3
    omega
  | @dcl d a b k ns h1 h2 h3 h4 h5 =>
    have l1 := int_len h4
    have l2 : (dlTxt ns).length ≤ _ := listText_le (ns.map fun x => Str.ofString (toString x))
    have l3 : (dlText k ns).length ≤ _ := dictText_le [Str.ofString (toString k) ++ ": " ++ dlTxt ns]
    have p := piled_all (ts := ns.map fun x => Str.ofString (toString x)) (L := 3900) fun t ht => by
      obtain ⟨p, hp, rfl⟩ := List.mem_map.mp ht
      have := int_len (h5 p hp).ok
      omega
    rw [List.length_map] at p
    have q : piled [Str.ofString (toString k) ++ ": " ++ dlTxt ns] = (Str.ofString (toString k) ++ ": " ++ dlTxt ns).length + 2 := by rw [piled_cons]; rfl
    rw [strLen_append, strLen_append] at q
    have e1 : (((": " : String) : Str)).length = 2 := rfl
    have b0 := Lb_ge d
    have : ns.length * (3900 + 2) ≤ 61 * (Lb d + 2) := Nat.mul_le_mul h3 (by omega)
    show (dlText k ns).length ≤ 61 * ((61 * (Lb d + 2) + 3) + 2) + 3
    omega
theorem Sh.size {C : Addr} {H : Hp} {d : Nat} {x : V} {t : Str} (h : Sh C H d x t) (hd : d ≤ 2) : t.length ≤ sizeLine := by
  have := h.len
  have e : Lb d ≤ Lb 2 := by
    have : d = 0 ∨ d = 1 ∨ d = 2 := by omega
    rcases this with rfl | rfl | rfl <;> decide
  have : Lb 2 ≤ sizeLine := by decide
  omega
/-- repr(..) of such a value, where nothing is being shown -/
def rSh (C : Addr) : List V → Hp → VK → Prop := fun vs H Q => ∃ (x : V) (t : Str) (d : Nat), vs = [x] ∧ Sh C H d x t ∧ t.length ≤ sizeLine ∧ d ≤ 6 ∧ ∀ H', Same H H' → Q (.str t) H'
theorem cr_sh {X : Cx} {C : Addr} {k : Nat} (O : OwnRp X C k) (hr : Room (k + 8) X.A) (hg : X.A.guards = some []) : CallR X (.builtin "repr") (rSh C) := by
  intro pins s σ H xs us Q I r h
  obtain ⟨x, t, d, rfl, hsh, hz, hd, q⟩ := h
  obtain ⟨u, rfl, ru⟩ := r.one
  have fin : ∀ v s', RpEnd X pins σ H t v s' → EP X pins σ Q v s' := fun v s' ⟨u, e, H', I', sm⟩ => by
    subst e
    exact ⟨.str t, H', I', ⟨u, rfl⟩, q H' sm⟩
  have gr : ∀ m, Grd (ShCl C H) [] m := fun m b k _ _ => Clear.nil b
  have sb : ∀ m, m ≤ k + 7 → L2.Sub X m X.A.in1 := fun m hm => ⟨(hr.mono (show m + 1 ≤ k + 8 by omega)).in1, rfl⟩
  cases hsh with
  | @int d i h =>
    obtain ⟨t, rfl⟩ := ru
    exact PySem.P.repr_of_int h.ok (fin _ _ ⟨_, rfl, H, I.tok _, Same.refl _⟩)
  | bl b =>
    cases ru
    exact PySem.P.repr_of_bool (fin _ _ ⟨_, rfl, H, I.tok _, Same.refl _⟩)
  | non =>
    cases ru
    exact PySem.P.repr_of_none (fin _ _ ⟨_, rfl, H, I.tok _, Same.refl _⟩)
  | str x _ =>
    obtain ⟨t, rfl⟩ := ru
    exact PySem.P.repr_of_str (fin _ _ ⟨_, rfl, H, I.tok _, Same.refl _⟩) hz
  | own r2 b1 b2 _ =>
    cases ru
    exact wpAny_mono (O.top pins s σ H _ _ _ I r2 b1.ok b2.ok) fin fun _ _ e => e
  | @lst d a xs ts h1 h0 h2 h3 =>
    cases ru
    obtain ⟨_, its, na, rv, hl, he⟩ := I.lstM h1
    have hp := piled_le_listText ts
    have tl : ∀ (i : Nat) (t : Str), ts[i]? = some t → t.length ≤ sizeLine := fun i t e2 => by
      have := piled_take_succ e2
      have := piled_take_le ts (i + 1)
      omega
    refine call_repr_slot (by have := hr.un; omega) ⟨_, he, rfl⟩ F.slot_list_repr.toG ?_
    by_cases hne : xs = []
    · subst hne
      have e1 : ts = [] := List.length_eq_zero_iff.mp h2
      have e2 : its = [] := List.length_eq_zero_iff.mp (by simpa using hl.symm)
      subst e1 e2
      exact call_list_repr_empty ⟨_, he, rfl⟩ he rfl ⟨_, _, rfl, fin _ _ ⟨_, rfl, H, I.tok _, Same.refl _⟩⟩
    · refine wpAny_mono (call_list_reprG (n := k + d) (shcl_fn C H) h1 hne ⟨d + 1, _, Sh.lst h1 h0 h2 h3, rfl⟩ h2 (fun i x t e1 e2 => (h3 i x t e1 e2).rp O (tl i t e2)) (sb _ (by omega)) hg (gr _) hz I (Same.refl _)) (fun v s' hv => ?_) fun _ _ e => e
      obtain ⟨u, e, q⟩ := hv
      exact ⟨_, u, e, fin v s' ⟨u, e, q⟩⟩
  | @tup d a xs ts h1 h0 h2 h3 =>
    cases ru
    obtain ⟨its, rv, he, _⟩ := I.tuple (.inl (.inl h1) : SqT X.K H a xs)
    obtain ⟨o, ho, hoc, nn, hod⟩ := he
    have hp := piled_le_tupleText ts
    have tl : ∀ (i : Nat) (t : Str), ts[i]? = some t → t.length ≤ sizeLine := fun i t e2 => by
      have := piled_take_succ e2
      have := piled_take_le ts (i + 1)
      omega
    refine call_repr_slot (by have := hr.un; omega) ⟨o, ho, hoc⟩ F.slot_tuple_repr ?_
    refine wpAny_mono (call_tuple_reprG (n := k + d) (shcl_fn C H) h1 ⟨d + 1, _, Sh.tup h1 h0 h2 h3, rfl⟩ h2 (fun i x t e1 e2 => (h3 i x t e1 e2).rp O (tl i t e2)) (sb _ (by omega)) hg (gr _) hz I (Same.refl _)) (fun v s' hv => ?_) fun _ _ e => e
    obtain ⟨u, e, q⟩ := hv
    exact ⟨_, u, e, fin v s' ⟨u, e, q⟩⟩
  | @dct d a ds h1 h0 h2 =>
    cases ru
    obtain ⟨_, hsys, vs, kv, o, es, ep, he, hex, hd, _, hp, _⟩ := I.hok a _ h1
    refine call_repr_slot (by have := hr.un; omega) ⟨o, he, hex.1⟩ F.slot_dict_repr ?_
    refine wpAny_mono (call_dict_reprG (n := k + d) h1 ⟨d + 1, _, Sh.dct h1 h0 h2, rfl⟩ h2 (sb _ (by omega)) hg (gr _) hz I (Same.refl _)) (fun v s' hv => ?_) fun _ _ e => e
    obtain ⟨u, e, q⟩ := hv
    exact ⟨_, u, e, fin v s' ⟨u, e, q⟩⟩
  | @dcl d a b kk ns h1 h2 h3 h4 h5 =>
    cases ru
    obtain ⟨_, hsys, vs, kv, o, es, ep, he, hex, hd2, _, hp, _⟩ := I.hok a _ h1
    refine call_repr_slot (by have := hr.un; omega) ⟨o, he, hex.1⟩ F.slot_dict_repr ?_
    refine wpAny_mono (call_dictL (n := 0) h1 h2 ⟨d + 2, _, Sh.dcl h1 h2 h3 h4 h5, rfl⟩ ⟨d + 1, _, Sh.ints h2 h3 h5, rfl⟩ h4 (fun x hx => (h5 x hx).ok) (sb _ (by omega)) hg (gr _) hz I (Same.refl _)) (fun v s' hv => ?_) fun _ _ e => e
    obtain ⟨u, e, q⟩ := hv
    exact ⟨_, u, e, fin v s' ⟨u, e, q⟩⟩
end Fp

namespace K21
/-- the numbers that are sums of the ints that P tells -/
inductive Rch (P : Int → Prop) : Int → Prop
  | zero : Rch P 0
  | step {n c : Int} (h : P c) (r : Rch P n) : Rch P (n + c)
theorem Rch.add {P : Int → Prop} {a b : Int} (ha : Rch P a) (hb : Rch P b) : Rch P (a + b) := by
  induction hb with
  | zero => rw [Int.add_zero]; exact ha
  | step h r ih => rw [← Int.add_assoc]; exact .step h ih
theorem Rch.one {P : Int → Prop} {c : Int} (h : P c) : Rch P c := by
  have q := Rch.step h (.zero (P := P))
  rw [Int.zero_add] at q
  exact q
theorem Rch.trans {P Q : Int → Prop} (h : ∀ c, P c → Rch Q c) {n : Int} (r : Rch P n) : Rch Q n := by
  induction r with
  | zero => exact .zero
  | step hc _ ih => exact ih.add (h _ hc)
theorem Rch.mono {P Q : Int → Prop} (h : ∀ c, P c → Q c) {n : Int} (r : Rch P n) : Rch Q n := r.trans fun c hc => .one (h c hc)
theorem Rch.nonneg {P : Int → Prop} (h : ∀ c, P c → 0 < c) {n : Int} (r : Rch P n) : 0 ≤ n := by
  induction r with
  | zero => exact Int.le_refl 0
  | step hc _ ih => have := h _ hc; omega
theorem Rch.le {P : Int → Prop} (h : ∀ c, P c → 0 < c) {n : Int} (r : Rch P n) : Rch (fun c => P c ∧ c ≤ n) n := by
  induction r with
  | zero => exact .zero
  | @step n c hc r ih =>
    have h0 := Rch.nonneg h r
    have h1 := h _ hc
    exact .step ⟨hc, by omega⟩ (ih.mono fun d hd => ⟨hd.1, by omega⟩)
theorem rch_next {P : Int → Prop} (h : ∀ c, P c → 0 < c) {n : Int} (hn : 0 < n) : Rch P n ↔ ∃ c, P c ∧ c ≤ n ∧ Rch P (n - c) := by
  constructor
  · intro r
    cases r with
    | zero => omega
    | @step m c hc r =>
      have h0 := Rch.nonneg h r
      refine ⟨c, hc, by omega, ?_⟩
      rw [Int.add_sub_cancel]
      exact r
  · rintro ⟨c, hc, _, r⟩
    have q := Rch.step hc r
    rw [Int.sub_add_cancel] at q
    exact q
/-- met, as a bool -/
noncomputable def mb (cs : List Int) (n : Int) : Bool := @decide (Rch (· ∈ cs) n) (Classical.propDecidable _)
theorem mb_iff {cs : List Int} {n : Int} : mb cs n = true ↔ Rch (· ∈ cs) n := by
  unfold mb
  exact @decide_eq_true_iff _ (Classical.propDecidable _)
theorem mb_false {cs : List Int} {n : Int} : mb cs n = false ↔ ¬ Rch (· ∈ cs) n := by
  rw [← mb_iff]
  cases mb cs n <;> simp
theorem mb_congr {cs ds : List Int} {n : Int} (h : Rch (· ∈ cs) n ↔ Rch (· ∈ ds) n) : mb cs n = mb ds n := by
  cases e : mb ds n with
  | true => exact mb_iff.mpr (h.mpr (mb_iff.mp e))
  | false => exact mb_false.mpr fun z => mb_false.mp e (h.mp z)
theorem mb_zero {cs : List Int} : mb cs 0 = true := mb_iff.mpr .zero
def Pos (cs : List Int) : Prop := ∀ c ∈ cs, 0 < c
theorem mb_next {cs : List Int} (h : Pos cs) {n : Int} (hn : 0 < n) : mb cs n = cs.any fun c => decide (c ≤ n) && mb cs (n - c) := by
  cases e : (cs.any fun c => decide (c ≤ n) && mb cs (n - c)) with
  | true =>
    obtain ⟨c, hc, q⟩ := List.any_eq_true.mp e
    rw [Bool.and_eq_true, decide_eq_true_eq] at q
    exact mb_iff.mpr ((rch_next h hn).mpr ⟨c, hc, q.1, mb_iff.mp q.2⟩)
  | false =>
    refine mb_false.mpr fun r => ?_
    obtain ⟨c, hc, hl, r⟩ := (rch_next h hn).mp r
    have q := List.any_eq_false.mp e c hc
    rw [mb_iff.mpr r, decide_eq_true hl] at q
    exact q rfl
/-- the table of what is met -/
noncomputable def tb (cs : List Int) (m : Nat) : List Bool := (List.range m).map fun i : Nat => mb cs ((i : Nat) : Int)
theorem tb_len (cs : List Int) (m : Nat) : (tb cs m).length = m := by unfold tb; rw [List.length_map, List.length_range]
theorem tb_at {cs : List Int} {m i : Nat} (h : i < m) : (tb cs m)[i]? = some (mb cs (i : Int)) := by
  unfold tb
  rw [List.getElem?_map, List.getElem?_range h]; rfl
theorem tb_succ (cs : List Int) (m : Nat) : tb cs (m + 1) = tb cs m ++ [mb cs (m : Int)] := by
  unfold tb
  rw [List.range_succ, List.map_append]; rfl
theorem tb_one (cs : List Int) : tb cs 1 = [true] := by
  rw [tb_succ]
  show [] ++ [mb cs ((0 : Nat) : Int)] = [true]
  rw [show ((0 : Nat) : Int) = 0 from rfl, mb_zero]; rfl
/-! ### least counts -/
def stepL (f : List Int → Int → Bool) (found : List Int) (x : Int) : List Int := if f found x = true then found else found ++ [x]
noncomputable def lst (s : List Int) : List Int := s.foldl (stepL mb) []
structure IsL (cs R : List Int) : Prop where
  srt : R.Pairwise (· < ·)
  mem : ∀ x, x ∈ R ↔ x ∈ cs ∧ ¬ Rch (fun c => c ∈ cs ∧ c < x) x
theorem sorted_ext : ∀ {R S : List Int}, R.Pairwise (· < ·) → S.Pairwise (· < ·) → (∀ x, x ∈ R ↔ x ∈ S) → R = S
  | [], [], _, _, _ => rfl
  | [], y :: _, _, _, h => absurd ((h y).mpr List.mem_cons_self) (by simp)
  | x :: _, [], _, _, h => absurd ((h x).mp List.mem_cons_self) (by simp)
  | x :: R, y :: S, hR, hS, h => by
    obtain ⟨h1, h2⟩ := List.pairwise_cons.mp hR
    obtain ⟨h3, h4⟩ := List.pairwise_cons.mp hS
    have exy : x = y := by
      rcases List.mem_cons.mp ((h x).mp List.mem_cons_self) with e | e
      · exact e
      · rcases List.mem_cons.mp ((h y).mpr List.mem_cons_self) with e' | e'
        · exact e'.symm
        · have a := h1 _ e'
          have b := h3 _ e
          omega
    subst exy
    rw [sorted_ext h2 h4 fun z => ?_]
    constructor
    · intro hz
      rcases List.mem_cons.mp ((h z).mp (List.mem_cons_of_mem _ hz)) with e | e
      · have := h1 _ hz; omega
      · exact e
    · intro hz
      rcases List.mem_cons.mp ((h z).mpr (List.mem_cons_of_mem _ hz)) with e | e
      · have := h3 _ hz; omega
      · exact e
theorem IsL.uniq {cs R S : List Int} (a : IsL cs R) (b : IsL cs S) : R = S := sorted_ext a.srt b.srt fun x => (a.mem x).trans (b.mem x).symm
theorem IsL.congr {cs ds R : List Int} (a : IsL cs R) (h : ∀ x, x ∈ cs ↔ x ∈ ds) : IsL ds R :=
  ⟨a.srt, fun x => by
    have e : (fun c => c ∈ cs ∧ c < x) = fun c => c ∈ ds ∧ c < x := funext fun c => propext (by rw [h])
    rw [a.mem x, h, e]⟩
/-- the state of the search behind a part p of the sorted counts -/
structure Sch (cs p f : List Int) : Prop where
  srt : f.Pairwise (· < ·)
  mem : ∀ x, x ∈ f ↔ x ∈ p ∧ ¬ Rch (fun c => c ∈ cs ∧ c < x) x
  rch : ∀ n, Rch (· ∈ f) n ↔ Rch (· ∈ p) n
theorem Sch.nil {cs : List Int} : Sch cs [] [] := ⟨List.Pairwise.nil, fun x => by simp, fun n => Iff.rfl⟩
theorem Sch.turn {cs p f r : List Int} {x : Int} (hs : (p ++ x :: r).Pairwise (· ≤ ·)) (hm : ∀ c, c ∈ cs ↔ c ∈ p ++ x :: r) (S : Sch cs p f) : Sch cs (p ++ [x]) (stepL mb f x) := by
  have hp : ∀ c ∈ p, c ≤ x := fun c hc => (List.pairwise_append.mp hs).2.2 c hc x List.mem_cons_self
  have hr : ∀ c ∈ r, x ≤ c := fun c hc => (List.pairwise_cons.mp (List.pairwise_append.mp hs).2.1).1 c hc
  have hpc : ∀ c ∈ p, c ∈ cs := fun c hc => (hm c).mpr (List.mem_append_left _ hc)
  have hlow : ∀ c, c ∈ cs → c < x → c ∈ p := fun c hc hl => by
    rcases List.mem_append.mp ((hm c).mp hc) with h | h
    · exact h
    · rcases List.mem_cons.mp h with h | h
      · omega
      · have := hr c h; omega
  have hfp : ∀ c ∈ f, c ∈ p := fun c hc => ((S.mem c).mp hc).1
  have mem1 : ∀ c, c ∈ p ++ [x] ↔ c ∈ p ∨ c = x := fun c => by simp
  unfold stepL
  cases e : mb f x with
  | true =>
    rw [if_pos rfl]
    have rx : Rch (· ∈ p) x := (S.rch x).mp (mb_iff.mp e)
    refine ⟨S.srt, fun y => ?_, fun n => ?_⟩
    · rw [S.mem y, mem1]
      constructor
      · exact fun h => ⟨.inl h.1, h.2⟩
      · rintro ⟨h | h, h2⟩
        · exact ⟨h, h2⟩
        · subst h
          by_cases hy : y ∈ p
          · exact ⟨hy, h2⟩
          · refine absurd (rx.mono fun c hc => ⟨hpc c hc, ?_⟩) h2
            have := hp c hc
            have hne : c ≠ y := fun z => hy (z ▸ hc)
            omega
    · rw [S.rch n]
      constructor
      · exact fun q => q.mono fun c hc => (mem1 c).mpr (.inl hc)
      · refine fun q => q.trans fun c hc => ?_
        rcases (mem1 c).mp hc with h | h
        · exact .one h
        · rw [h]; exact rx
  | false =>
    rw [if_neg Bool.false_ne_true]
    have nx : ¬ Rch (· ∈ p) x := fun z => mb_false.mp e ((S.rch x).mpr z)
    have hxp : x ∉ p := fun z => nx (.one z)
    have mem2 : ∀ c, c ∈ f ++ [x] ↔ c ∈ f ∨ c = x := fun c => by simp
    refine ⟨?_, fun y => ?_, fun n => ?_⟩
    · refine List.pairwise_append.mpr ⟨S.srt, List.pairwise_singleton _ _, fun a ha b hb => ?_⟩
      rw [List.mem_singleton.mp hb]
      have := hp a (hfp a ha)
      have hne : a ≠ x := fun z => hxp (z ▸ hfp a ha)
      omega
    · rw [mem2, S.mem y, mem1]
      constructor
      · rintro (h | h)
        · exact ⟨.inl h.1, h.2⟩
        · subst h
          exact ⟨.inr rfl, fun z => nx (z.mono fun c hc => hlow c hc.1 hc.2)⟩
      · rintro ⟨h | h, h2⟩
        · exact .inl ⟨h, h2⟩
        · exact .inr h
    · constructor
      · refine fun q => q.mono fun c hc => (mem1 c).mpr ?_
        rcases (mem2 c).mp hc with h | h
        · exact .inl (hfp c h)
        · exact .inr h
      · refine fun q => q.trans fun c hc => ?_
        rcases (mem1 c).mp hc with h | h
        · exact ((S.rch c).mpr (.one h)).mono fun d hd => (mem2 d).mpr (.inl hd)
        · exact .one ((mem2 c).mpr (.inr h))
theorem take_split {α : Type} {l : List α} {i : Nat} {x : α} (h : l[i]? = some x) : l = l.take i ++ x :: l.drop (i + 1) := by
  obtain ⟨hi, e⟩ := List.getElem?_eq_some_iff.mp h
  subst e
  rw [← List.drop_eq_getElem_cons hi, List.take_append_drop]
theorem take_one {α : Type} {l : List α} {i : Nat} {x : α} (h : l[i]? = some x) : l.take (i + 1) = l.take i ++ [x] := by
  rw [List.take_add_one, h]; rfl
theorem lst_take {s : List Int} {i : Nat} {x : Int} (h : s[i]? = some x) : lst (s.take (i + 1)) = stepL mb (lst (s.take i)) x := by
  unfold lst
  rw [take_one h, List.foldl_append]; rfl
theorem sch_take {cs s : List Int} (hs : s.Pairwise (· ≤ ·)) (hm : ∀ c, c ∈ cs ↔ c ∈ s) : ∀ i, i ≤ s.length → Sch cs (s.take i) (lst (s.take i))
  | 0, _ => by rw [List.take_zero]; exact Sch.nil
  | i + 1, h => by
    have hx : s[i]? = some s[i] := List.getElem?_eq_getElem h
    have e := take_split hx
    rw [lst_take hx, take_one hx]
    refine Sch.turn (r := s.drop (i + 1)) ?_ ?_ (sch_take hs hm i (Nat.le_of_lt h))
    · rw [← e]; exact hs
    · rw [← e]; exact hm
theorem lst_len_le (s : List Int) : ∀ i, (lst (s.take i)).length ≤ i
  | 0 => by simp [lst]
  | i + 1 => by
    cases e : s[i]? with
    | none =>
      have h : s.length ≤ i := List.getElem?_eq_none_iff.mp e
      have q := lst_len_le s i
      rw [List.take_of_length_le h] at q
      rw [List.take_of_length_le (Nat.le_succ_of_le h)]
      omega
    | some x =>
      have q := lst_len_le s i
      rw [lst_take e]
      unfold stepL
      split
      · omega
      · rw [List.length_append, List.length_singleton]; omega
theorem lst_mem {s : List Int} : ∀ i, ∀ x ∈ lst (s.take i), x ∈ s
  | 0, x, h => by simp [lst] at h
  | i + 1, x, h => by
    cases e : s[i]? with
    | none =>
      have hl : s.length ≤ i := List.getElem?_eq_none_iff.mp e
      rw [List.take_of_length_le (Nat.le_succ_of_le hl), ← List.take_of_length_le hl] at h
      exact lst_mem i x h
    | some y =>
      rw [lst_take e] at h
      unfold stepL at h
      split at h
      · exact lst_mem i x h
      · rcases List.mem_append.mp h with h | h
        · exact lst_mem i x h
        · rw [List.mem_singleton.mp h]; exact List.mem_of_getElem? e
/-- what least counts are -/
structure IsLst (cs R : List Int) : Prop where
  isL : IsL cs R
  rch : ∀ n, Rch (· ∈ R) n ↔ Rch (· ∈ cs) n
theorem lst_is {cs s : List Int} (hs : s.Pairwise (· ≤ ·)) (hm : ∀ c, c ∈ cs ↔ c ∈ s) : IsLst cs (lst s) := by
  have S := sch_take hs hm s.length (Nat.le_refl _)
  rw [List.take_length] at S
  refine ⟨⟨S.srt, fun x => (S.mem x).trans (by rw [hm])⟩, fun n => (S.rch n).trans ?_⟩
  have e : (· ∈ s) = (· ∈ cs) := funext fun c => propext (hm c).symm
  rw [e]
theorem IsLst.self {cs R : List Int} (a : IsLst cs R) : IsL R R :=
  ⟨a.isL.srt, fun x => ⟨fun h => ⟨h, fun z => ((a.isL.mem x).mp h).2 (z.mono fun c hc => ⟨((a.isL.mem c).mp hc.1).1, hc.2⟩)⟩, fun h => h.1⟩⟩
theorem IsLst.more {cs ds R : List Int} {b : Int} (hp : Pos cs) (hb : Rch (· ∈ cs) b) (hm : ∀ x, x ∈ ds ↔ x ∈ cs ∨ x = b) (a : IsLst cs R) : IsL ds R := by
  refine ⟨a.isL.srt, fun x => ?_⟩
  rw [a.isL.mem x, hm]
  have hb' := Rch.le hp hb
  constructor
  · rintro ⟨h1, h2⟩
    refine ⟨.inl h1, fun z => h2 (z.trans fun c hc => ?_)⟩
    rcases (hm c).mp hc.1 with h | h
    · exact .one ⟨h, hc.2⟩
    · subst h
      exact hb'.mono fun d hd => ⟨hd.1, by have := hc.2; have := hd.2; omega⟩
  · rintro ⟨h1, h2⟩
    rcases h1 with h1 | h1
    · exact ⟨h1, fun z => h2 (z.mono fun c hc => ⟨(hm c).mpr (.inl hc.1), hc.2⟩)⟩
    · subst h1
      by_cases hx : x ∈ cs
      · exact ⟨hx, fun z => h2 (z.mono fun c hc => ⟨(hm c).mpr (.inl hc.1), hc.2⟩)⟩
      · refine absurd (hb'.mono fun c hc => ⟨(hm c).mpr (.inl hc.1), ?_⟩) h2
        have hne : c ≠ x := fun z => hx (z ▸ hc.1)
        have := hc.2
        omega
theorem rch_more {cs ds : List Int} {b : Int} (hb : Rch (· ∈ cs) b) (hm : ∀ x, x ∈ ds ↔ x ∈ cs ∨ x = b) (n : Int) : Rch (· ∈ ds) n ↔ Rch (· ∈ cs) n :=
  ⟨fun q => q.trans fun c hc => by
    rcases (hm c).mp hc with h | h
    · exact .one h
    · rw [h]; exact hb, fun q => q.mono fun c hc => (hm c).mpr (.inl hc)⟩
theorem rch_congr {cs ds : List Int} (hm : ∀ x, x ∈ ds ↔ x ∈ cs) (n : Int) : Rch (· ∈ ds) n ↔ Rch (· ∈ cs) n := by
  have e : (· ∈ ds) = (· ∈ cs) := funext fun c => propext (hm c)
  rw [e]
/-! ### common counts -/
def gstep (g c : Int) : Int := ((Nat.gcd g.natAbs c.natAbs : Nat) : Int)
def gl (cs : List Int) : Int := cs.foldl gstep 0
theorem gl_take {s : List Int} {i : Nat} {x : Int} (h : s[i]? = some x) : gl (s.take (i + 1)) = gstep (gl (s.take i)) x := by
  unfold gl
  rw [take_one h, List.foldl_append]; rfl
theorem gfold_nonneg : ∀ (cs : List Int) (g : Int), 0 ≤ g → 0 ≤ cs.foldl gstep g
  | [], g, h => h
  | c :: r, g, _ => gfold_nonneg r (gstep g c) (Int.natCast_nonneg _)
theorem gl_nonneg (cs : List Int) : 0 ≤ gl cs := gfold_nonneg cs 0 (Int.le_refl 0)
theorem gfold_dvd : ∀ (cs : List Int) (g : Int) (d : Nat), d ∣ (cs.foldl gstep g).natAbs ↔ d ∣ g.natAbs ∧ ∀ c ∈ cs, d ∣ c.natAbs
  | [], g, d => by simp
  | c :: r, g, d => by
    rw [List.foldl_cons, gfold_dvd r (gstep g c) d]
    unfold gstep
    rw [Int.natAbs_natCast, Nat.dvd_gcd_iff]
    constructor
    · rintro ⟨⟨h1, h2⟩, h3⟩
      exact ⟨h1, fun x hx => (List.mem_cons.mp hx).elim (fun e => e ▸ h2) (h3 x)⟩
    · rintro ⟨h1, h2⟩
      exact ⟨⟨h1, h2 c List.mem_cons_self⟩, fun x hx => h2 x (List.mem_cons_of_mem _ hx)⟩
theorem gl_dvd (cs : List Int) (d : Nat) : d ∣ (gl cs).natAbs ↔ ∀ c ∈ cs, d ∣ c.natAbs := by
  unfold gl
  rw [gfold_dvd]
  simp
theorem gl_eq {cs ds : List Int} (h : ∀ d : Nat, (∀ c ∈ cs, d ∣ c.natAbs) ↔ ∀ c ∈ ds, d ∣ c.natAbs) : gl cs = gl ds := by
  have e : (gl cs).natAbs = (gl ds).natAbs := Nat.dvd_antisymm ((gl_dvd ds _).mpr ((h _).mp ((gl_dvd cs _).mp (Nat.dvd_refl _)))) ((gl_dvd cs _).mpr ((h _).mpr ((gl_dvd ds _).mp (Nat.dvd_refl _))))
  have h1 := gl_nonneg cs
  have h2 := gl_nonneg ds
  omega
theorem rch_dvd {cs : List Int} {d : Nat} (h : ∀ c ∈ cs, d ∣ c.natAbs) {n : Int} (r : Rch (· ∈ cs) n) : d ∣ n.natAbs := by
  rw [← Int.ofNat_dvd_left] at *
  induction r with
  | zero => exact Int.dvd_zero _
  | step hc _ ih => exact Int.dvd_add ih (Int.ofNat_dvd_left.mpr (h _ hc))
theorem gl_more {cs ds : List Int} {b : Int} (hb : Rch (· ∈ cs) b) (hm : ∀ x, x ∈ ds ↔ x ∈ cs ∨ x = b) : gl ds = gl cs :=
  gl_eq fun d => ⟨fun h c hc => h c ((hm c).mpr (.inl hc)), fun h c hc => by
    rcases (hm c).mp hc with q | q
    · exact h c q
    · rw [q]; exact rch_dvd h hb⟩
theorem gl_congr {cs ds : List Int} (hm : ∀ x, x ∈ ds ↔ x ∈ cs) : gl ds = gl cs := gl_eq fun d => ⟨fun h c hc => h c ((hm c).mpr hc), fun h c hc => h c ((hm c).mp hc)⟩
end K21

namespace K21
open PySem PySem.Spec PyProof.Rows L2 Fp
def top (i : Nat) : Stmt := PySem.Challenge.pw_fromplaces_k38_whole_root_parts.main.body.getD i (.Pass ⟨0, 0, 0, 0⟩)
abbrev sInteger : Stmt := top 12
abbrev sList : Stmt := top 14
/-- what the module's names hold -/
structure Mg (mg : Str → Option Value) : Prop where
  isi : mg "isinstance" = none
  int : mg "int" = none
  bool : mg "bool" = none
  list : mg "list" = none
  tuple : mg "tuple" = none
  len : mg "len" = none
  all : mg "all" = none
  any : mg "any" = none
  range : mg "range" = none
  enum : mg "enumerate" = none
  sorted : mg "sorted" = none
  set : mg "set" = none
  repr : mg "repr" = none
  abs : mg "abs" = none
  max : mg "max" = none
  divmod : mg "divmod" = none
  zip : mg "zip" = none
  sum : mg "sum" = none
  str : mg "str" = none
  lcm : mg "lcm" = some (.builtin "math.lcm")
  gcd : mg "gcd" = some (.builtin "math.gcd")
/-- a value is handed back, what is tracked is as it was -/
abbrev Ret (H : Hp) (Q : VK) (v : V) : Prop := ∀ H', Same H H' → Q v H'
theorem ifF {c A B : Prop} [Decidable c] (h : ¬ c) (b : B) : if decide c = true then A else B := by rw [decide_eq_false h]; exact iteF b
theorem ifT {c A B : Prop} [Decidable c] (h : c) (a : A) : if decide c = true then A else B := by rw [decide_eq_true h]; exact iteT a
abbrev VI (ns : List Int) : List V := ns.map V.int
theorem vi_at {ns : List Int} {i : Nat} {x : V} (h : (VI ns)[i]? = some x) : ∃ n, ns[i]? = some n ∧ x = .int n := by
  rw [List.getElem?_map] at h
  cases e : ns[i]? with
  | none => rw [e] at h; cases h
  | some n => rw [e] at h; exact ⟨n, rfl, (Option.some.inj h).symm⟩
section
variable {P : Program} {w : World} {K : PySem.W.Frag} {mg : Str → Option Value} {base : Heap} {k : Nat}
/-! ### whole numbers and lists -/
def spInteger : Sp := fun vs H Q _ => ∃ i : Int, vs = [.int i] ∧ Ret H Q (.bl true)
theorem sc6 : FnScope ["value"] ["value"] (defScope sInteger) := ⟨rfl, rfl, rfl, by decide +kernel, rfl, by decide +kernel, by decide +kernel⟩
theorem d_integer (B : Bnd K mg "is_integer" sInteger) (M : Mg mg) : Def P w K mg base (k + 1) "is_integer" sInteger ["value"] spInteger := by
  refine def_of B sc6 (by rintro _ _ _ _ ⟨i, rfl, _⟩; rfl) (fun _ _ _ _ _ _ us hl => match us, hl with | [_], _ => rfl) fun f cdv A outer s H vs Q E hr h => ?_
  obtain ⟨i, rfl, q⟩ := h
  refine ⟨_, pss_one (ps_ret (pe_and (pe_callB call_isi (by rfl) M.isi (by decide +kernel) (pa_cons (pv 0) (pa_cons (pe_bltn (v := .ty "int") (by rfl) M.int (by decide +kernel) rfl) pa_nil)))
    (pe_one (pe_not (pe_callB call_isi (by rfl) M.isi (by decide +kernel) (pa_cons (pv 0) (pa_cons (pe_bltn (v := .ty "bool") (by rfl) M.bool (by decide +kernel) rfl) pa_nil))))))), ?_⟩
  refine ⟨_, rfl, _, _, _, _, true, rfl, .ty _, .base (.int i), kit_int, true, rfl, iteT ?_⟩
  exact ⟨_, rfl, _, _, _, _, false, rfl, .ty _, .base (.int i), kit_int_bool, false, rfl, q H (Same.refl H)⟩
end
theorem all_true {n : Nat} : ((List.range n).filterMap fun _ => some (V.bl true)) = (List.replicate n true).map V.bl := by
  induction n with
  | zero => rfl
  | succ n ih => rw [fm_succ, ih, List.replicate_succ', List.map_append]; rfl
theorem all_rep : ∀ n : Nat, (List.replicate n true).all id = true
  | 0 => rfl
  | n + 1 => by rw [List.replicate_succ, List.all_cons, all_rep n]; rfl
theorem vi_len (ns : List Int) : (VI ns).length = ns.length := List.length_map _
theorem small {n : Nat} (h : n ≤ 1000) : n < sizeLine := small1000 h
abbrev sPot : Stmt := top 35
abbrev sDraw : Stmt := top 36
abbrev sPick : Stmt := top 37
/-- a pot: two numbers, none below 0, the second one small -/
def PotOk (H : Hp) (p : Addr) : Prop := ∃ u v : Int, H p = some (.lst [.int u, .int v]) ∧ 0 ≤ u ∧ 0 ≤ v ∧ v ≤ 2147483587
theorem PotOk.same {H H' : Hp} {p : Addr} (h : PotOk H p) (e : Same H H') : PotOk H' p := let ⟨u, v, a, b⟩ := h; ⟨u, v, e _ _ a, b⟩
section
variable {P : Program} {w : World} {K : PySem.W.Frag} {mg : Str → Option Value} {base : Heap} {k : Nat}
def spPot (K : PySem.W.Frag) : Sp := fun vs H Q _ => ∃ (a : Addr) (ns : List Int) (k : Int), vs = [.ref a, .int k] ∧ SqL K H a (VI ns) ∧ 0 ≤ k ∧ k ≤ 100 ∧ ∀ p H', Same H H' → H p = none → PotOk H' p → Q (.ref p) H'
theorem sc23 : FnScope ["script", "k", "cell"] ["script", "k"] (defScope sPot) := ⟨rfl, rfl, rfl, by decide +kernel, rfl, by decide +kernel, by decide +kernel⟩
theorem d_pot (B : Bnd K mg "_law_pot" sPot) (M : Mg mg) : Def P w K mg base (k + 1) "_law_pot" sPot ["script", "k"] (spPot K) := by
  refine def_of B sc23 (by rintro _ _ _ _ ⟨a, ns, n, rfl, _⟩; rfl) (fun _ _ _ _ _ _ us hl => match us, hl with | [_, _], _ => rfl) fun f cdv A outer s H vs Q E hr h => ?_
  obtain ⟨a, ns, n, rfl, hS, h0, h1, q⟩ := h
  refine ⟨_, pss_cons (ps_set (i := 2) sc23.nd rfl (.inl rfl) (pe_ifExp (pt_cmpR op_lt (pv 1) (pe_callB call_len_seq (by rfl) M.len boot_len (pa_cons (pv 0) pa_nil)) (nomark _)) (pe_callB call_abs (by rfl) M.abs (by decide +kernel) (pa_cons (pe_ix ix_list (pv 0) (pv 1) (fun _ _ => rfl)) pa_nil))
      (pe_op op_add (pe_op op_mul pe_int (pv 1)) pe_int)))
    (pss_one (ps_ret (pe_lst (pa_cons (pe_callB (call_max2 rfl) (by rfl) M.max (by decide +kernel) (pa_cons pe_int (pa_cons (pe_op op_sub (pv 2) (pe_op op_pow pe_int pe_int)) pa_nil)))
      (pa_cons (pe_op op_add (pe_op op_mod (pe_callTy call_int1 (by rfl) M.int (by decide +kernel) (pa_cons (pe_op op_add (pe_op op_add (pe_op op_mul (pe_op op_mod (pe_callTy call_int1 (by rfl) M.int (by decide +kernel) (pa_cons (pv 2) pa_nil)) pe_int) pe_int) (pe_op op_mul pe_int (pv 1))) pe_int) pa_nil)) pe_int) pe_int) pa_nil))))), ?_⟩
  have l0 := vi_len ns
  refine ⟨_, rfl, _, rfl, a, _, rfl, .inl hS, _, _, rfl, rfl, _, rfl, ite2 (fun c => ?_) (fun c => ?_)⟩
  · have c' := of_decide_eq_true c
    rw [l0] at c'
    have hz : ns[n.toNat]? = some ns[n.toNat] := List.getElem?_eq_getElem (by omega)
    refine ⟨_, rfl, _, rfl, a, _, n, .int ns[n.toNat], rfl, rfl, hS, at_of (j := n.toNat) (by omega) (by rw [List.getElem?_map, hz]; rfl), _, rfl, ?_⟩
    refine ⟨_, rfl, 10, 18, rfl, rfl, ⟨by omega, by omega, by decide⟩, _, _, rfl, rfl, _, _, rfl, ?_⟩
    refine ⟨_, rfl, Or.inl ⟨_, rfl, ?_⟩⟩
    refine ⟨_, _, rfl, rfl, (by omega), _, _, rfl, rfl, .inl ⟨by omega, by omega⟩, _, rfl, _, _, rfl, rfl, .inl ⟨by omega, by omega⟩, _, _, rfl, rfl, _, _, rfl, rfl, ?_⟩
    refine Or.inl ⟨_, rfl, ?_⟩
    refine ⟨_, _, rfl, rfl, (by omega), _, _, rfl, rfl, (by show 2 ≤ sizeLine; decide), fun p hp => ?_⟩
    refine q p _ (same_new hp) hp ⟨_, _, upd_same, ?_, ?_, ?_⟩
    · split <;> omega
    · omega
    · omega
  · refine ⟨_, rfl, _, _, rfl, rfl, .inl ⟨by omega, by omega⟩, _, _, rfl, rfl, ?_⟩
    refine ⟨_, rfl, 10, 18, rfl, rfl, ⟨by omega, by omega, by decide⟩, _, _, rfl, rfl, _, _, rfl, ?_⟩
    refine ⟨_, rfl, Or.inl ⟨_, rfl, ?_⟩⟩
    refine ⟨_, _, rfl, rfl, (by omega), _, _, rfl, rfl, .inl ⟨by omega, by omega⟩, _, rfl, _, _, rfl, rfl, .inl ⟨by omega, by omega⟩, _, _, rfl, rfl, _, _, rfl, rfl, ?_⟩
    refine Or.inl ⟨_, rfl, ?_⟩
    refine ⟨_, _, rfl, rfl, (by omega), _, _, rfl, rfl, (by show 2 ≤ sizeLine; decide), fun p hp => ?_⟩
    refine q p _ (same_new hp) hp ⟨_, _, upd_same, ?_, ?_, ?_⟩
    · split <;> omega
    · omega
    · omega
/-! ### draws -/
def spDraw : Sp := fun vs H Q _ => ∃ (p : Addr) (m : Int), vs = [.ref p, .int m] ∧ PotOk H p ∧ 1 ≤ m ∧ m ≤ 1000000 ∧ ∀ d H', 0 ≤ d → d < m → PotOk H' p → Keep p H H' → Q (.int d) H'
theorem sc24 : FnScope ["pot", "many", "digit"] ["pot", "many"] (defScope sDraw) := ⟨rfl, rfl, rfl, by decide +kernel, rfl, by decide +kernel, by decide +kernel⟩
theorem d_draw (B : Bnd K mg "_law_draw" sDraw) (M : Mg mg) : Def P w K mg base (k + 1) "_law_draw" sDraw ["pot", "many"] spDraw := by
  refine def_of B sc24 (by rintro _ _ _ _ ⟨a, n, rfl, _⟩; rfl) (fun _ _ _ _ _ _ us hl => match us, hl with | [_, _], _ => rfl) fun f cdv A outer s H vs Q E hr h => ?_
  obtain ⟨p, m, rfl, ⟨u, v, hp, hu, hv, hv2⟩, h1, h2, q⟩ := h
  refine ⟨_, pss_cons (ps_if (pt_cmpR op_gt (pe_ix ix_list (pv 0) pe_int (fun _ _ => rfl)) pe_int (nomark _))
      (pss_cons (ps_asg (pe_callB call_divmod (by rfl) M.divmod (by decide +kernel) (pa_cons (pe_ix ix_list (pv 0) pe_int (fun _ _ => rfl)) (pa_cons (pv 1) pa_nil))) (pg_tup rfl (pgs_cons (pg_sub (pv 0) pe_int set_list) (pgs_cons (pg_name (i := 2) sc24.nd rfl (.inl rfl)) pgs_nil))))
        (pss_one (ps_ret (pv 2)))) pss_nil)
    (pss_cons (ps_asg (pe_op op_mod (pe_callTy call_int1 (by rfl) M.int (by decide +kernel) (pa_cons (pe_op op_add (pe_op op_mul (pe_ix ix_list (pv 0) pe_int (fun _ _ => rfl)) pe_int) pe_int) pa_nil)) pe_int) (pg_sub (pv 0) pe_int set_list))
    (pss_one (ps_ret (pe_op op_mod (pe_callTy call_int1 (by rfl) M.int (by decide +kernel) (pa_cons (pe_op op_fdiv (pe_op op_mod (pe_callTy call_int1 (by rfl) M.int (by decide +kernel) (pa_cons (pe_op op_mul (pe_ix ix_list (pv 0) pe_int (fun _ _ => rfl)) (pe_ix ix_list (pv 0) pe_int (fun _ _ => rfl))) pa_nil)) pe_int) pe_int) pa_nil)) (pv 1))))), ?_⟩
  refine ⟨_, rfl, p, _, 0, .int u, rfl, rfl, SqL.of hp, rfl, u, 0, rfl, rfl, _, rfl, ite2 (fun c => ?_) (fun c => ?_)⟩
  · have c' := of_decide_eq_true c
    refine ⟨_, rfl, p, _, 0, .int u, rfl, rfl, SqL.of hp, rfl, _, rfl, u, m, rfl, ⟨by omega, by omega⟩, fun t nt => ?_⟩
    have ne : p ≠ t := ne_of_none hp nt
    refine ⟨t, _, rfl, SqT.of upd_same, rfl, _, _, rfl, _, rfl, p, _, 0, 0, rfl, rfl, by rw [upd_ne ne]; exact hp, rfl, _, _, rfl, rfl, _, rfl, ?_⟩
    refine q _ _ (Int.emod_nonneg _ (by omega)) (Int.emod_lt_of_pos _ (by omega)) ⟨u / m, v, upd_same, Int.ediv_nonneg hu (by omega), hv, hv2⟩ ?_
    exact (Keep.of (same_new nt)).trans keep_upd
  · refine ⟨_, rfl, p, _, 1, .int v, rfl, rfl, SqL.of hp, rfl, v, _, rfl, rfl, .inl ⟨by omega, by omega⟩, _, _, rfl, rfl, Or.inl ⟨_, rfl, _, _, rfl, rfl, by omega, ?_⟩⟩
    refine ⟨_, rfl, p, _, 1, 1, rfl, rfl, hp, rfl, ?_⟩
    have b0 : 0 ≤ (v * 39373 + 7927) % 2147483587 := Int.emod_nonneg _ (by omega)
    have b1 : (v * 39373 + 7927) % 2147483587 < 2147483587 := Int.emod_lt_of_pos _ (by omega)
    have hp' : (upd H p (.lst ([V.int u, V.int v].set 1 (.int ((v * 39373 + 7927) % 2147483587))))) p = some (.lst [.int u, .int ((v * 39373 + 7927) % 2147483587)]) := upd_same
    refine ⟨_, rfl, p, _, 1, _, rfl, rfl, SqL.of hp', rfl, _, rfl, p, _, 1, _, rfl, rfl, SqL.of hp', rfl, _, _, rfl, rfl, .inl ⟨by omega, by omega⟩, Or.inl ⟨_, rfl, _, _, rfl, rfl, by omega, _, _, rfl, rfl, ⟨by omega, by omega⟩, Or.inl ⟨_, rfl, ?_⟩⟩⟩
    refine ⟨_, rfl, _, m, rfl, rfl, by omega, ?_⟩
    exact q _ _ (Int.emod_nonneg _ (by omega)) (Int.emod_lt_of_pos _ (by omega)) ⟨u, _, hp', hu, b0, by omega⟩ keep_upd
def spPick : Sp := fun vs H Q _ => ∃ (p b : Addr) (xs : List V), vs = [.ref p, .ref b] ∧ PotOk H p ∧ H b = some (.lst xs) ∧ b ≠ p ∧ 1 ≤ xs.length ∧ xs.length ≤ 1000 ∧ ∀ x H', x ∈ xs → PotOk H' p → Keep p H H' → Q x H'
theorem sc25 : FnScope ["pot", "some"] ["pot", "some"] (defScope sPick) := ⟨rfl, rfl, rfl, by decide +kernel, rfl, by decide +kernel, by decide +kernel⟩
theorem d_pick (B : Bnd K mg "_law_pick" sPick) (M : Mg mg) (D : Def P w K mg base k "_law_draw" sDraw ["pot", "many"] spDraw) : Def P w K mg base (k + 1) "_law_pick" sPick ["pot", "some"] spPick := by
  refine def_of B sc25 (by rintro _ _ _ _ ⟨a, n, x, rfl, _⟩; rfl) (fun _ _ _ _ _ _ us hl => match us, hl with | [_, _], _ => rfl) fun f cdv A outer s H vs Q E hr h => ?_
  obtain ⟨p, b, xs, rfl, hp, hb, ne, l1, l2, q⟩ := h
  refine ⟨_, pss_one (ps_ret (pe_ix ix_list (pv 1) (pe_d D hr (by rfl) (pa_cons (pv 0) (pa_cons (pe_callB call_len_seq (by rfl) M.len boot_len (pa_cons (pv 1) pa_nil)) pa_nil))) (fun _ _ => rfl))), ?_⟩
  refine ⟨_, rfl, _, rfl, _, rfl, b, xs, rfl, .inl (SqL.of hb), p, _, rfl, hp, by omega, by omega, fun d H' d0 d1 hp' kp => ?_⟩
  have hd : d.toNat < xs.length := by omega
  exact ⟨b, xs, d, xs[d.toNat], rfl, rfl, SqL.of (kp _ _ ne hb), at_of (j := d.toNat) (by omega) (List.getElem?_eq_getElem hd), q _ _ (List.getElem_mem hd) hp' kp⟩
end
/-! ### lists of ints as data -/
abbrev DI (ns : List Int) : PyData := .list (ns.map PyData.int)
theorem dpAll_ints {K : PySem.W.Frag} {H : Hp} : ∀ ns : List Int, DpAll K H (VI ns) (ns.map PyData.int)
  | [] => .nil
  | n :: r => .cons (.int n) (dpAll_ints r)
theorem dp_ints {K : PySem.W.Frag} {H : Hp} {a : Addr} {ns : List Int} (h : SqL K H a (VI ns)) : Dp K H (.ref a) (DI ns) := .lst h (dpAll_ints ns)
theorem di_lay : ∀ ns : List Int, PyData.canLayAll0 (ns.map PyData.int) = true
  | [] => rfl
  | n :: r => by rw [List.map_cons, PyData.canLayAll0, di_lay r]; rfl
theorem di_depthAll : ∀ ns : List Int, PyData.depthAll (ns.map PyData.int) ≤ 1
  | [] => by simp [PyData.depthAll]
  | n :: r => by
    have := di_depthAll r
    rw [List.map_cons, PyData.depthAll]
    simp only [PyData.depth]
    omega
theorem di_depth (ns : List Int) : (DI ns).depth ≤ 8 := by
  have := di_depthAll ns
  simp only [PyData.depth]
  omega
theorem di_shaped (ns : List Int) : SeqAt.shaped (DI ns) = true := by
  unfold SeqAt.shaped
  have h1 : (DI ns).canLay0 = true := by rw [PyData.canLay0]; exact di_lay ns
  have h2 := di_depth ns
  rw [h1, decide_eq_true (by omega)]; rfl
theorem di_refl (ns : List Int) : PyData.eqv (DI ns) (DI ns) = true := SeqAt.eqv_refl _ (by rw [PyData.canLay0]; exact di_lay ns)
theorem di_nil : ∀ ns : List Int, PyData.eqv (DI ns) (DI []) = ns.isEmpty
  | [] => di_refl []
  | n :: r => by rw [PyData.eqv, List.map_cons, List.map_nil]; rfl
theorem int_short : ∀ n : Nat, n < 1000 → (PyData.shown (.int (n : Int))).length ≤ 8 := by decide +kernel
theorem int_log : ∀ n : Nat, n < 1000 → n.log2 < 1920 := fun n h => by
  have h1 : n < 2 ^ 10 := by omega
  by_cases h0 : n = 0
  · subst h0; decide
  · have := (Nat.log2_lt h0).mpr h1
    omega
abbrev Sm (ns : List Int) : Prop := ∀ n ∈ ns, 0 ≤ n ∧ n < 1000
theorem di_leaves : ∀ ns : List Int, Sm ns → PyData.leavesShortAll 8 (ns.map PyData.int) = true
  | [], _ => rfl
  | n :: r, h => by
    have h1 := h n List.mem_cons_self
    rw [List.map_cons, PyData.leavesShortAll, di_leaves r fun x hx => h x (List.mem_cons_of_mem _ hx), Bool.and_true, PyData.leavesShort]
    have h2 := int_short n.toNat (by omega)
    rw [show ((n.toNat : Nat) : Int) = n by omega] at h2
    exact decide_eq_true h2
theorem di_showAll : ∀ ns : List Int, Sm ns → PyData.showableAll (ns.map PyData.int) = true
  | [], _ => rfl
  | n :: r, h => by
    have h1 := h n List.mem_cons_self
    rw [List.map_cons, PyData.showableAll, di_showAll r fun x hx => h x (List.mem_cons_of_mem _ hx), Bool.and_true, PyData.showable]
    exact decide_eq_true (int_log n.natAbs (by omega))
theorem di_dictAll : ∀ ns : List Int, PyData.hasDictAll (ns.map PyData.int) = false
  | [] => rfl
  | n :: r => by rw [List.map_cons, PyData.hasDictAll, di_dictAll r]; rfl
theorem di_bulk : ∀ ns : List Int, PyData.bulkAll (ns.map PyData.int) = ns.length
  | [] => rfl
  | n :: r => by rw [List.map_cons, PyData.bulkAll, di_bulk r, PyData.bulk, List.length_cons]; omega
/-- what repr asks of a list of small ints -/
theorem di_repr {ns : List Int} (h : Sm ns) (hz : ns.length ≤ 1000) : (DI ns).showable = true ∧ (DI ns).hasDict = false ∧ (DI ns).depth ≤ 8 ∧ (DI ns).shown.length ≤ sizeLine := by
  refine ⟨by rw [PyData.showable]; exact di_showAll ns h, by rw [PyData.hasDict]; exact di_dictAll ns, di_depth ns, PyData.shown_fits_bulk (B := 8) (by omega) (by omega) (by rw [PyData.leavesShort]; exact di_leaves ns h) ?_⟩
  rw [PyData.bulk, di_bulk]
  omega
/-- a pair of bools -/
theorem db_repr (b c : Bool) : (PyData.list [.bool b, .bool c]).showable = true ∧ (PyData.list [.bool b, .bool c]).hasDict = false ∧ (PyData.list [.bool b, .bool c]).depth ≤ 8 ∧ (PyData.list [.bool b, .bool c]).shown.length ≤ sizeLine := by
  cases b <;> cases c <;> refine ⟨by decide +kernel, by decide +kernel, by decide +kernel, ?_⟩ <;> exact Nat.le_trans (show _ ≤ 100 by decide +kernel) (by decide)
/-! ### slices -/
theorem cut_last (L : List V) (x : V) : cutV (L ++ [x]) none (some (-1)) = L := by
  have e : HT.sIx (L ++ [x]).length (L ++ [x]).length (some (-1)) = L.length := by
    show (if (-1 : Int) < 0 then ((-1 : Int) + ((L ++ [x]).length : Int)).toNat else min (-1 : Int).toNat (L ++ [x]).length) = L.length
    rw [if_pos (by decide), List.length_append, List.length_singleton]
    omega
  unfold cutV
  rw [e, HT.sIx_none, List.drop_zero, Nat.sub_zero]
  simp
/-! ### comprehensions over a list -/
section
variable {K : PySem.W.Frag} {a : Addr} {xs : List V} {g : TG} {tt : TT} {te : TE} {vs : List Nat} {σ : L2.St} {H : Hp}
theorem lc_l {Dd : Addr} {Qd : Hp → Prop} (f : Nat → Option V) (hS : SqL K H a xs) (hD : H Dd = none) (hz : xs.length ≤ sizeLine)
    (hs : ∀ i x H1, xs[i]? = some x → Same H H1 → LcTurn f g tt te vs σ i x H1 H1)
    (hd : ∀ H1, Same H H1 → H1 Dd = some (.lst ((List.range xs.length).filterMap f)) → Qd H1) : ∃ W : Nat → Nat → Hp → Prop, (∃ m, W 0 m (upd H Dd (.lst []))) ∧ ∀ i m H, W i m H →
      ((Itl K a).stop i H ∧ Qd H) ∨ ((Itl K a).go i H ∧ ∃ Nx : Hp → Prop, (∀ H', Nx H' → ∃ m', m' < m ∧ W (i + 1) m' H') ∧ ∀ x H', (Itl K a).yld i H x H' → g x (wipe σ vs) H' fun σ2 H2 => wipe σ2 vs = wipe σ vs ∧ tt σ2 H2 fun b H3 =>
        if b = true then te σ2 H3 fun y H4 => ∃ acc, H4 Dd = some (.lst acc) ∧ acc.length < sizeLine ∧ Nx (upd H4 Dd (.lst (acc ++ [y]))) else Nx H3) :=
  lc_list (xs := xs) (LcInv f H Dd) (LcInv.start hD) (fun i H1 _ p => p.1.seq hS) (fun i x H1 hx p => p.turn hD (Nat.lt_of_lt_of_le (List.getElem?_eq_some_iff.mp hx).1 hz) (Same.refl _) (hs i x H1 hx p.1)) fun H1 p => hd H1 p.1 p.2
end
end K21

namespace Fp
open PySem PySem.Spec PyProof.Rows L2
/-! ### the class Ratio -/
structure RCls (K : PySem.W.Frag) (mg : Str → Option Value) (C fI fR : Addr) : Prop where
  cl : Cls K C
  nT : NoAttr K C "_top"
  nB : NoAttr K C "_bottom"
  mgC : mg "Ratio" = some (.ref C)
  make : Mk K C fI
  rpA : PySem.W.findIn K (.ref C) "__repr__" = some (some (.ref fR))
  rpF : PySem.W.isFn K (.ref fR) = true
  isA : PySem.W.findIn K (.ref C) "__class__" = some (some (.builtin "object.__class__"))
  isN : PySem.W.specialIn K (.builtin "object.__class__") "__get__" = some (some (.builtin "getset_descriptor.__get__"))
  isT : PySem.W.takesIn K (.builtin "object.__class__") = some true
  isM : PySem.W.mroIn K C (.type "object") = some true
  kI : PySem.W.kitOne K (.ref C) (.type "int") = some false
  kB : PySem.W.kitOne K (.ref C) (.type "bool") = some false
  kL : PySem.W.kitOne K (.ref C) (.type "list") = some false
  kT : PySem.W.kitOne K (.ref C) (.type "tuple") = some false
/-- behind __init__: the instance at p holds top and bottom -/
def spRI (C : Addr) : Sp := fun vs H Q _ => ∃ (p dx : Addr) (t b : Int), vs = [.ref p, .int t, .int b] ∧ RdI t b ∧ H p = some (.ins C dx []) ∧ ∀ H', (∀ b o, b ≠ p → H b = some o → H' b = some o) → H' p = some (.ins C dx [("_top", .int t), ("_bottom", .int b)]) → Q .non H'
def spRR (C : Addr) : Sp := spRp fun a H t => ∃ p q, Rat2 C H a p q ∧ okI p ∧ okI q ∧ t = ratText p q
/-- a def's facts, with defaults -/
structure RDef (P : Program) (w : World) (K : PySem.W.Frag) (mg : Str → Option Value) (base : Heap) (k : Nat) (C : Addr) : Prop where
  ex : ∃ (fI fR : Addr) (fdI fdR : FuncData), RCls K mg C fI fR ∧ FnOk P w K mg base CX0 k fI fdI ["self", "top", "bottom"] (spRI C) ∧ (∃ ds, Vals [V.int 1] ds ∧ Binds K fdI ["self", "top", "bottom"] ds) ∧ Binds K fdI ["self", "top", "bottom"] [] ∧
    FnOk P w K mg base CX0 k fR fdR ["self"] (spRR C) ∧ Binds K fdR ["self"] []
section
variable {X : Cx} {C : Addr} {k : Nat}
theorem RDef.own (D : RDef X.prog X.w X.K X.mg X.base k C) (hr : Room (k + 1) X.A) : OwnRp X C k := by
  obtain ⟨fI, fR, fdI, fdR, R, _, _, _, FR, bR⟩ := D.ex
  constructor
  · intro H0 Cl a p q r b1 b2
    obtain ⟨dx, e⟩ := id r
    exact RpG.ins FR R.rpA R.rpF bR (pass0 (X := X)) e fun H sm => ⟨p, q, r.same sm, b1, b2, rfl⟩
  · intro pins s σ H a p q I r b1 b2
    obtain ⟨dx, e⟩ := id r
    exact top_own FR R.rpA R.rpF bR (pass0 (X := X)) hr I e ⟨p, q, r, b1, b2, rfl⟩
/-- Ratio(e) -/
def tRat (C : Addr) (t : TA) : TE := fun σ H Q => t σ H fun vs H1 => ∃ i : Int, vs = [.int i] ∧ ∀ a H', H1 a = none → Same H1 H' → Rat2 C H' a i 1 → Q (.ref a) H'
theorem pe_rat (D : RDef X.prog X.w X.K X.mg X.base k C) (hr : Room (k + 1) X.A) {p pos : Pos} {e : Expr} {es : List Expr} {t : TA} (hg : Gl X "Ratio") (ha : PA X (e :: es) t)
    (he : starEach (e :: es) X.env = (false, eval e X.env) :: starEach es X.env := by rfl) (hpl : (backTo pos (starEach es X.env)).any (·.1) = false := by rfl) : PE X (.Call (.Name "Ratio" p) (e :: es) [] pos) (tRat C t) := by
  obtain ⟨fI, fR, fdI, fdR, R, FI, ⟨ds, hds, bI⟩, _⟩ := D.ex
  refine ⟨fun pins s σ H Q I h => ?_⟩
  refine wpAny_Call_Name_kw (ld_glob I hg R.mgC ?_ (by decide))
  refine PySem.W.callWith_K (h₀ := X.base) I.ok.mod.kin R.make.kp (thn (ha.run pos pins s σ H _ I h) fun us s1 ⟨vs, H1, I1, r, q⟩ => ⟨I1.kIn, ?_⟩) he hpl
  refine run_make R.make FI hr bI hds (pass0 (X := X)) I1 r fun x dx nx ndx ne => ?_
  obtain ⟨i, rfl, q⟩ := q
  refine ⟨x, dx, i, 1, rfl, rdI_one i, upd_same, fun H' kp hx => ⟨rfl, q x H' nx (fun b o e => ?_) ⟨dx, hx⟩⟩⟩
  have n1 := ne_of_none e nx
  exact kp b o n1 (by rw [upd_ne n1, upd_ne (ne_of_none e ndx)]; exact e)
/-- Ratio(e, f) in lowest terms -/
def tRat2 (C : Addr) (t : TA) : TE := fun σ H Q => t σ H fun vs H1 => ∃ i j : Int, vs = [.int i, .int j] ∧ RdI i j ∧ ∀ a H', H1 a = none → Same H1 H' → Rat2 C H' a i j → Q (.ref a) H'
theorem pe_rat2 (D : RDef X.prog X.w X.K X.mg X.base k C) (hr : Room (k + 1) X.A) {p pos : Pos} {e : Expr} {es : List Expr} {t : TA} (hg : Gl X "Ratio") (ha : PA X (e :: es) t)
    (he : starEach (e :: es) X.env = (false, eval e X.env) :: starEach es X.env := by rfl) (hpl : (backTo pos (starEach es X.env)).any (·.1) = false := by rfl) : PE X (.Call (.Name "Ratio" p) (e :: es) [] pos) (tRat2 C t) := by
  obtain ⟨fI, fR, fdI, fdR, R, FI, _, bI, _⟩ := D.ex
  refine ⟨fun pins s σ H Q I h => ?_⟩
  refine wpAny_Call_Name_kw (ld_glob I hg R.mgC ?_ (by decide))
  refine PySem.W.callWith_K (h₀ := X.base) I.ok.mod.kin R.make.kp (thn (ha.run pos pins s σ H _ I h) fun us s1 ⟨vs, H1, I1, r, q⟩ => ⟨I1.kIn, ?_⟩) he hpl
  refine run_make (dvs := []) R.make FI hr bI .nil (pass0 (X := X)) I1 r fun x dx nx ndx ne => ?_
  obtain ⟨i, j, rfl, rd, q⟩ := q
  refine ⟨x, dx, i, j, rfl, rd, upd_same, fun H' kp hx => ⟨rfl, q x H' nx (fun b o e => ?_) ⟨dx, hx⟩⟩⟩
  have n1 := ne_of_none e nx
  exact kp b o n1 (by rw [upd_ne n1, upd_ne (ne_of_none e ndx)]; exact e)
end
end Fp

namespace Fp
open PySem PySem.Spec PyProof.Rows L2
/-! ### any value -/
def isI : V → Bool
  | .int _ => true
  | _ => false
def isB : V → Bool
  | .bl _ => true
  | _ => false
def isCnt : V → Bool
  | .int i => decide (0 ≤ i)
  | _ => false
def toZ : V → Int
  | .int i => i
  | _ => 0
/-- the items of a list or a tuple -/
def itemsOf (H : Hp) : V → Option (List V)
  | .ref a => match H a with
    | some (.lst xs) => some xs
    | some (.tup xs) => some xs
    | _ => none
  | _ => none
/-- how long a text may be -/
def Bz (d : Nat) : Nat := if d = 0 then 600 else if d = 1 then 36800 else if d = 2 then 2250000 else 16000000
theorem Bz_mono {d e : Nat} (h : d ≤ e) : Bz d ≤ Bz e := by unfold Bz; (repeat' split) <;> omega
theorem Bz_size (d : Nat) : Bz d ≤ sizeLine := by rw [sizeLine_eq]; unfold Bz; (repeat' split) <;> omega
theorem Bz_ge (d : Nat) : 600 ≤ Bz d := by unfold Bz; (repeat' split) <;> omega
def Sk (C : Addr) (H : Hp) (d : Nat) (x : V) : Prop := ∃ t, Sh C H d x t ∧ t.length ≤ Bz d
theorem okI_small {i : Int} (h : i.natAbs < 10 ^ 50) : okS i := h
theorem int_short {i : Int} (h : okS i) : (Str.ofString (toString i)).length ≤ 51 := by
  have := PySem.int_text_length_le10 (a := i) (k := 50) (by omega) h
  have e : (Str.ofString (toString i)).length = (toString i).length := by
    rw [congrFun Str.ofString_eq_byList]
    unfold Str.ofStringByList Str.length
    simp
    try first | rfl | exact String.length_toList
  omega
theorem Sh.more {C : Addr} {H : Hp} {d : Nat} {x : V} {t : Str} (h : Sh C H d x t) : ∀ {e : Nat}, d ≤ e → Sh C H e x t := by
  induction h with
  | int h => exact fun _ => .int h
  | bl b => exact fun _ => .bl b
  | non => exact fun _ => .non
  | str x h => exact fun _ => .str x h
  | own r h1 h2 h3 => exact fun _ => .own r h1 h2 h3
  | lst h1 h0 h2 _ ih =>
    intro e le
    cases e with
    | zero => omega
    | succ e => exact .lst h1 h0 h2 fun i x t a b => ih i x t a b (by omega)
  | tup h1 h0 h2 _ ih =>
    intro e le
    cases e with
    | zero => omega
    | succ e => exact .tup h1 h0 h2 fun i x t a b => ih i x t a b (by omega)
  | dct h1 h0 h2 =>
    intro e le
    cases e with
    | zero => omega
    | succ e => exact .dct h1 h0 h2
  | dcl h1 h2 h3 h4 h5 =>
    intro e le
    match e, le with
    | e + 2, le => exact .dcl h1 h2 h3 h4 h5
    | 0, le => omega
    | 1, le => omega
section
variable {C : Addr} {H H' : Hp} {d : Nat} {x : V}
theorem Sk.same (h : Sk C H d x) (e : Same H H') : Sk C H' d x := let ⟨t, h, l⟩ := h; ⟨t, h.same e, l⟩
theorem Sk.more {e : Nat} (h : Sk C H d x) (le : d ≤ e) : Sk C H e x := let ⟨t, h, l⟩ := h; ⟨t, h.more le, Nat.le_trans l (Bz_mono le)⟩
theorem Sk.int {i : Int} (h : okS i) : Sk C H d (.int i) := ⟨_, .int h, by have := int_short h; have := Bz_ge d; omega⟩
theorem Sk.bl (b : Bool) : Sk C H d (.bl b) := ⟨_, .bl b, by have := Bz_ge d; cases b <;> exact Nat.le_trans (by decide) this⟩
theorem Sk.non : Sk C H d .non := ⟨_, .non, Nat.le_trans (by decide) (Bz_ge d)⟩
theorem Sk.str {x : Str} (h : (reprText x).length ≤ 600) : Sk C H d (.str x) := ⟨_, .str x (by omega), Nat.le_trans h (Bz_ge d)⟩
theorem Sk.own {a : Addr} {p q : Int} (r : Rat2 C H a p q) (h1 : okS p) (h2 : okS q) (h3 : RdI p q) : Sk C H d (.ref a) := ⟨_, .own r h1 h2 h3, by
  have := int_short h1
  have := int_short h2
  have := Bz_ge d
  unfold ratText
  rw [strLen_append, strLen_append, strLen_append, strLen_append]
  have e1 : (Str.ofString "Ratio(").length = 6 := rfl
  have e2 : (Str.ofString ", ").length = 2 := rfl
  have e3 : (Str.ofString ")").length = 1 := rfl
  omega⟩
theorem texts {xs : List V} (h : ∀ x ∈ xs, Sk C H d x) : ∃ ts : List Str, ts.length = xs.length ∧ (∀ t ∈ ts, t.length ≤ Bz d) ∧ ∀ (i : Nat) x t, xs[i]? = some x → ts[i]? = some t → Sh C H d x t := by
  induction xs with
  | nil => exact ⟨[], rfl, (fun t h => by cases h), fun i x t h => by simp at h⟩
  | cons x xs ih =>
    obtain ⟨t, ht, l0⟩ := h x List.mem_cons_self
    obtain ⟨ts, l, bs, hs⟩ := ih fun y hy => h y (List.mem_cons_of_mem _ hy)
    refine ⟨t :: ts, by rw [List.length_cons, List.length_cons, l], fun u hu => ?_, fun i y u h1 h2 => ?_⟩
    · rcases List.mem_cons.mp hu with z | z
      · rw [z]; exact l0
      · exact bs u z
    cases i with
    | zero =>
      simp at h1 h2
      subst h1 h2
      exact ht
    | succ i => exact hs i y u (by simpa using h1) (by simpa using h2)
/-- how many items a list of depth d + 1 may have -/
def Nz (d : Nat) : Nat := if d ≤ 1 then 61 else if d = 2 then 7 else 0
theorem Nz_60 (d : Nat) : Nz d ≤ 61 := by unfold Nz; (repeat' split) <;> omega
theorem Nz_le (h : d ≤ 1) : Nz d = 61 := if_pos h
theorem Bz_up : ∀ {d n : Nat}, n ≤ Nz d → n * (Bz d + 2) + 3 ≤ Bz (d + 1)
  | 0, n, h => by
    have h2 : n ≤ 61 := h
    show n * (600 + 2) + 3 ≤ 36800
    omega
  | 1, n, h => by
    have h2 : n ≤ 61 := h
    show n * (36800 + 2) + 3 ≤ 2250000
    omega
  | 2, n, h => by
    have h2 : n ≤ 7 := h
    show n * (2250000 + 2) + 3 ≤ 16000000
    omega
  | d + 3, n, h => by
    have h2 : n ≤ 0 := by unfold Nz at h; rw [if_neg (by omega), if_neg (by omega)] at h; exact h
    obtain rfl := Nat.le_zero.mp h2
    have := Bz_ge (d + 3 + 1)
    omega
theorem Sk.lstN {a : Addr} {xs : List V} (h : H a = some (.lst xs)) (l : xs.length ≤ Nz d) (hx : ∀ x ∈ xs, Sk C H d x) : Sk C H (d + 1) (.ref a) := by
  obtain ⟨ts, h1, b, h2⟩ := texts hx
  refine ⟨_, .lst h (Nat.le_trans l (Nz_60 d)) h1 h2, ?_⟩
  have := listText_le ts
  have := piled_all b
  have := Bz_up (n := ts.length) (h1 ▸ l)
  omega
theorem Sk.tupN {a : Addr} {xs : List V} (h : H a = some (.tup xs)) (l : xs.length ≤ Nz d) (hx : ∀ x ∈ xs, Sk C H d x) : Sk C H (d + 1) (.ref a) := by
  obtain ⟨ts, h1, b, h2⟩ := texts hx
  refine ⟨_, .tup h (Nat.le_trans l (Nz_60 d)) h1 h2, ?_⟩
  have := tupleText_le ts
  have := piled_all b
  have := Bz_up (n := ts.length) (h1 ▸ l)
  omega
theorem Sk.lst {a : Addr} {xs : List V} (h : H a = some (.lst xs)) (l : xs.length ≤ 61) (hx : ∀ x ∈ xs, Sk C H d x) (hd : d ≤ 1 := by omega) : Sk C H (d + 1) (.ref a) := Sk.lstN h (by rw [Nz_le hd]; exact l) hx
theorem Sk.tup {a : Addr} {xs : List V} (h : H a = some (.tup xs)) (l : xs.length ≤ 61) (hx : ∀ x ∈ xs, Sk C H d x) (hd : d ≤ 1 := by omega) : Sk C H (d + 1) (.ref a) := Sk.tupN h (by rw [Nz_le hd]; exact l) hx
theorem Sk.sh (h : Sk C H d x) : ∃ t, Sh C H d x t ∧ t.length ≤ sizeLine := let ⟨t, h, l⟩ := h; ⟨t, h, Nat.le_trans l (Bz_size d)⟩
theorem itemsOf_same (h : Sk C H d x) (e : Same H H') : itemsOf H' x = itemsOf H x := by
  obtain ⟨t, h, _⟩ := h
  cases h with
  | int h => rfl
  | bl b => rfl
  | non => rfl
  | str x h => rfl
  | own r h1 h2 =>
    obtain ⟨dx, r⟩ := r
    unfold itemsOf
    simp only [r, e _ _ r]
  | lst h1 => unfold itemsOf; simp only [h1, e _ _ h1]
  | tup h1 => unfold itemsOf; simp only [h1, e _ _ h1]
  | dct h1 => unfold itemsOf; simp only [h1, e _ _ h1]
  | dcl h1 => unfold itemsOf; simp only [h1, e _ _ h1]
/-- a list or a tuple, or neither -/
theorem Sk.items (h : Sk C H d x) {xs : List V} (e : itemsOf H x = some xs) : ∃ a, x = .ref a ∧ (H a = some (.lst xs) ∨ H a = some (.tup xs)) ∧ xs.length ≤ 61 ∧ ∀ y ∈ xs, Sk C H d y := by
  obtain ⟨t, h, lt⟩ := h
  cases h with
  | int h => cases e
  | bl b => cases e
  | non => cases e
  | str x h => cases e
  | own r h1 h2 =>
    obtain ⟨dx, r⟩ := r
    unfold itemsOf at e
    simp only [r] at e
    cases e
  | @lst d a ys ts h1 h0 h2 h3 =>
    unfold itemsOf at e
    simp only [h1] at e
    obtain rfl := Option.some.inj e
    refine ⟨a, rfl, .inl h1, h0, fun y hy => ?_⟩
    obtain ⟨i, hi⟩ := List.getElem?_of_mem hy
    have l := (List.getElem?_eq_some_iff.mp hi).1
    have e2 := List.getElem?_eq_getElem (h2 ▸ l : i < ts.length)
    have p0 := piled_le_listText ts
    have p1 := piled_take_succ e2
    have p2 := piled_take_le ts (i + 1)
    exact ⟨_, (h3 i y _ hi e2).more (Nat.le_succ d), by omega⟩
  | @tup d a ys ts h1 h0 h2 h3 =>
    unfold itemsOf at e
    simp only [h1] at e
    obtain rfl := Option.some.inj e
    refine ⟨a, rfl, .inr h1, h0, fun y hy => ?_⟩
    obtain ⟨i, hi⟩ := List.getElem?_of_mem hy
    have l := (List.getElem?_eq_some_iff.mp hi).1
    have e2 := List.getElem?_eq_getElem (h2 ▸ l : i < ts.length)
    have p0 := piled_le_tupleText ts
    have p1 := piled_take_succ e2
    have p2 := piled_take_le ts (i + 1)
    exact ⟨_, (h3 i y _ hi e2).more (Nat.le_succ d), by omega⟩
  | dct h1 =>
    unfold itemsOf at e
    simp only [h1] at e
    cases e
  | dcl h1 =>
    unfold itemsOf at e
    simp only [h1] at e
    cases e
theorem kit_seqs {K : PySem.W.Frag} {t : String} (h1 : kitB t "list" = some false) (h2 : kitB t "tuple" = some false) : PySem.W.kitAny K (.type t) [.type "list", .type "tuple"] = some false :=
  kitAny_cons (kit_ty (r := false) h1) (fun _ => kitAny_cons (kit_ty (r := false) h2) (fun _ => rfl) (fun z => nomatch z)) (fun z => nomatch z)
/-- its type, and what isinstance says -/
theorem Sk.kit {K : PySem.W.Frag} {mg : Str → Option Value} {fI fR : Addr} (h : Sk C H d x) (R : RCls K mg C fI fR) :
    ∃ ty, TyX K H x ty ∧ PySem.W.kitOne K ty (.type "int") = some (isI x || isB x) ∧ PySem.W.kitOne K ty (.type "bool") = some (isB x) ∧ PySem.W.kitAny K ty [.type "list", .type "tuple"] = some (itemsOf H x).isSome := by
  obtain ⟨t, h, lt⟩ := h
  cases h with
  | int h => exact ⟨_, .base (.int _), kit_ty (r := true) (by decide +kernel), kit_ty (r := false) (by decide +kernel), kit_seqs (by decide +kernel) (by decide +kernel)⟩
  | bl b => exact ⟨_, .base (.bl _), kit_ty (r := true) (by decide +kernel), kit_ty (r := true) (by decide +kernel), kit_seqs (by decide +kernel) (by decide +kernel)⟩
  | non => exact ⟨_, .base .non, kit_ty (r := false) (by decide +kernel), kit_ty (r := false) (by decide +kernel), kit_seqs (by decide +kernel) (by decide +kernel)⟩
  | str x h => exact ⟨_, .base (.str _), kit_ty (r := false) (by decide +kernel), kit_ty (r := false) (by decide +kernel), kit_seqs (by decide +kernel) (by decide +kernel)⟩
  | @own d a p q r h1 h2 _ =>
    obtain ⟨dx, r⟩ := r
    refine ⟨_, .base (.ins r R.cl R.isA R.isN R.isT R.isM), R.kI, R.kB, ?_⟩
    have e : (itemsOf H (.ref a)).isSome = false := by unfold itemsOf; simp only [r]; rfl
    rw [e]
    exact kitAny_cons R.kL (fun _ => kitAny_cons R.kT (fun _ => rfl) (fun z => nomatch z)) (fun z => nomatch z)
  | @lst d a xs ts h1 h0 h2 h3 =>
    refine ⟨_, .base (.lst h1), kit_ty (r := false) (by decide +kernel), kit_ty (r := false) (by decide +kernel), ?_⟩
    have e : (itemsOf H (.ref a)).isSome = true := by unfold itemsOf; simp only [h1]; rfl
    rw [e]
    exact kit_lt.1
  | @tup d a xs ts h1 h0 h2 h3 =>
    refine ⟨_, .base (.tup h1), kit_ty (r := false) (by decide +kernel), kit_ty (r := false) (by decide +kernel), ?_⟩
    have e : (itemsOf H (.ref a)).isSome = true := by unfold itemsOf; simp only [h1]; rfl
    rw [e]
    exact kit_lt.2
  | @dct d a ds h1 h0 h2 =>
    refine ⟨_, .base (.dK h1), kit_ty (r := false) (by decide +kernel), kit_ty (r := false) (by decide +kernel), ?_⟩
    have e : (itemsOf H (.ref a)).isSome = false := by unfold itemsOf; simp only [h1]; rfl
    rw [e]
    exact kit_seqs (by decide +kernel) (by decide +kernel)
  | @dcl d a b k ns h1 h2 =>
    refine ⟨_, .base (.dK h1), kit_ty (r := false) (by decide +kernel), kit_ty (r := false) (by decide +kernel), ?_⟩
    have e : (itemsOf H (.ref a)).isSome = false := by unfold itemsOf; simp only [h1]; rfl
    rw [e]
    exact kit_seqs (by decide +kernel) (by decide +kernel)
end
end Fp

namespace Fp
open PySem PySem.Spec PyProof.Rows L2
/-- the heap without some objects -/
def wos (S : List Addr) (H : Hp) : Hp := fun b => if b ∈ S then none else H b
theorem wos_ne {S : List Addr} {b : Addr} {H : Hp} (h : b ∉ S) : wos S H b = H b := if_neg h
theorem wos_some {S : List Addr} {b : Addr} {H : Hp} {o : HO} : wos S H b = some o ↔ b ∉ S ∧ H b = some o := by
  unfold wos
  by_cases h : b ∈ S
  · rw [if_pos h]; exact ⟨fun z => (by cases z), fun z => absurd h z.1⟩
  · rw [if_neg h]; exact ⟨fun z => ⟨h, z⟩, fun z => z.2⟩
theorem wos_same {S : List Addr} {H H' : Hp} (e : Same H H') : Same (wos S H) (wos S H') := fun b o q => by
  obtain ⟨h1, h2⟩ := wos_some.mp q
  exact wos_some.mpr ⟨h1, e _ _ h2⟩
theorem wos_le {S : List Addr} {H : Hp} : Same (wos S H) H := fun b o q => (wos_some.mp q).2
def Kn (S : List Addr) (H : Hp) : Prop := ∀ s ∈ S, H s ≠ none
theorem Kn.same {S : List Addr} {H H' : Hp} (h : Kn S H) (e : Same H H') : Kn S H' := fun s hs z => by
  cases q : H s with
  | none => exact h s hs q
  | some o => rw [e _ _ q] at z; cases z
theorem Kn.new {S : List Addr} {H : Hp} {a : Addr} (h : Kn S H) (na : H a = none) : a ∉ S := fun hs => h a hs na
theorem wos_sub {S T : List Addr} {H : Hp} (h : ∀ b, b ∈ T → b ∈ S ∨ H b = none) : Same (wos S H) (wos T H) := fun b o q => by
  obtain ⟨h1, h2⟩ := wos_some.mp q
  exact wos_some.mpr ⟨fun z => (h b z).elim h1 fun e => (by rw [e] at h2; cases h2), h2⟩
/-! ### what an expression makes, if it only makes -/
def Gv (t : TE) (σ : L2.St) (H : Hp) (φ : V → Hp → Prop) : Prop := ∀ Q : VK, (∀ v H', Same H H' → φ v H' → Q v H') → t σ H Q
def GvA (t : TA) (σ : L2.St) (H : Hp) (φ : List V → Hp → Prop) : Prop := ∀ Q : List V → Hp → Prop, (∀ vs H', Same H H' → φ vs H' → Q vs H') → t σ H Q
section
variable {C : Addr} {S : List Addr} {K : PySem.W.Frag} {σ : L2.St} {H : Hp} {d e n m : Nat} {t t1 t2 : TE} {ts : TA}
abbrev GvS (C : Addr) (S : List Addr) (d : Nat) (t : TE) (σ : L2.St) (H : Hp) : Prop := Gv t σ H fun v H' => Sk C (wos S H') d v
abbrev GvSA (C : Addr) (S : List Addr) (d n : Nat) (t : TA) (σ : L2.St) (H : Hp) : Prop := GvA t σ H fun vs H' => vs.length = n ∧ ∀ v ∈ vs, Sk C (wos S H') d v
def LsV (C : Addr) (S : List Addr) (d n : Nat) (v : V) (H : Hp) : Prop := ∃ a ys, v = .ref a ∧ a ∉ S ∧ H a = some (.lst ys) ∧ ys.length ≤ n ∧ ∀ y ∈ ys, Sk C (wos S H) d y
abbrev GvL (C : Addr) (S : List Addr) (d n : Nat) (t : TE) (σ : L2.St) (H : Hp) : Prop := Gv t σ H fun v H' => LsV C S d n v H'
theorem LsV.same {v : V} {H' : Hp} (h : LsV C S d n v H) (s : Same H H') : LsV C S d n v H' := let ⟨a, ys, e1, e2, e3, e4, e5⟩ := h; ⟨a, ys, e1, e2, s _ _ e3, e4, fun y hy => (e5 y hy).same (wos_same s)⟩
theorem LsV.skN {v : V} (h : LsV C S d n v H) (hn : n ≤ Nz d) : Sk C (wos S H) (d + 1) v := by
  obtain ⟨a, ys, rfl, e2, e3, e4, e5⟩ := h
  exact Sk.lstN (by rw [wos_ne e2]; exact e3) (Nat.le_trans e4 hn) e5
theorem LsV.sk {v : V} (h : LsV C S d n v H) (hn : n ≤ 60) (hd : d ≤ 1 := by omega) : Sk C (wos S H) (d + 1) v := h.skN (by rw [Nz_le hd]; omega)
theorem LsV.more {v : V} (h : LsV C S d n v H) (hd : d ≤ e) (hn : n ≤ m) : LsV C S e m v H := let ⟨a, ys, e1, e2, e3, e4, e5⟩ := h; ⟨a, ys, e1, e2, e3, by omega, fun y hy => (e5 y hy).more hd⟩
theorem Gv.imp {φ ψ : V → Hp → Prop} (h : Gv t σ H φ) (k : ∀ v H', Same H H' → φ v H' → ψ v H') : Gv t σ H ψ := fun Q q => h Q fun v H' s f => q v H' s (k v H' s f)
theorem GvL.sN (h : GvL C S d n t σ H) (hn : n ≤ Nz d) : GvS C S (d + 1) t σ H := Gv.imp h fun v H' s f => f.skN hn
theorem GvL.s (h : GvL C S d n t σ H) (hn : n ≤ 60) (hd : d ≤ 1 := by omega) : GvS C S (d + 1) t σ H := Gv.imp h fun v H' s f => f.sk hn hd
theorem gvs_c {v : V} (h : ∀ H', Sk C H' d v) : GvS C S d (tC v) σ H := fun Q q => q v H (Same.refl _) (h _)
theorem gv_nil : GvSA C S d 0 tNil σ H := fun Q q => q [] H (Same.refl _) ⟨rfl, fun v h => by cases h⟩
theorem gv_cons (h1 : GvS C S d t σ H) (h2 : ∀ H1, Same H H1 → GvSA C S d n ts σ H1) : GvSA C S d (n + 1) (tCons t ts) σ H := fun Q q =>
  h1 _ fun v H1 s1 f1 => h2 H1 s1 _ fun vs H2 s2 f2 => q (v :: vs) H2 (s1.trans s2) ⟨by rw [List.length_cons, f2.1], fun x hx => by
    rcases List.mem_cons.mp hx with z | z
    · rw [z]; exact f1.same (wos_same s2)
    · exact f2.2 x z⟩
theorem gvl_lst (hp : Kn S H) (hn : n ≤ 1000) (h : GvSA C S d n ts σ H) : GvL C S d n (tLst ts) σ H := fun Q q =>
  h _ fun vs H1 s1 f1 => ⟨by rw [f1.1, sizeLine_eq]; omega, fun a na => by
    have np : a ∉ S := (hp.same s1).new na
    exact q _ _ (s1.trans (same_new na)) ⟨a, vs, rfl, np, upd_same, by rw [f1.1]; exact Nat.le_refl _, fun y hy => (f1.2 y hy).same (wos_same (same_new na))⟩⟩
theorem gvl_cat (hp : Kn S H) (hn : n + m ≤ 1000) (h1 : GvL C S d n t1 σ H) (h2 : ∀ H1, Same H H1 → GvL C S d m t2 σ H1) : GvL C S d (n + m) (tOp rCat t1 t2) σ H := fun Q q =>
  h1 _ fun v H1 s1 f1 => h2 H1 s1 _ fun u H2 s2 f2 => by
    obtain ⟨a, ys, rfl, e2, e3, e4, e5⟩ := f1.same s2
    obtain ⟨b, zs, rfl, g2, g3, g4, g5⟩ := f2
    refine ⟨a, b, ys, zs, rfl, rfl, e3, g3, by rw [sizeLine_eq]; omega, fun c nc => ?_⟩
    have s12 := s1.trans s2
    have np : c ∉ S := (hp.same s12).new nc
    exact q _ _ (s12.trans (same_new nc)) ⟨c, ys ++ zs, rfl, np, upd_same, by rw [List.length_append]; omega, fun y hy => by
      rcases List.mem_append.mp hy with z | z
      · exact (e5 y z).same (wos_same (same_new nc))
      · exact (g5 y z).same (wos_same (same_new nc))⟩
/-- a slice of a list that stands at the slot i -/
theorem gvl_sl {i : Nat} {W : Addr} {xs : List V} {lo hi : Option Int} {tlo thi : TO} (hv : ∀ H Q, Q (.ref W) H → tVar i σ H Q) (hlo : ∀ H (Q : Option Int → Hp → Prop), Q lo H → tlo σ H Q) (hhi : ∀ H (Q : Option Int → Hp → Prop), Q hi H → thi σ H Q) (hW : H W = some (.lst xs)) (hp : Kn S H)
    (hx : ∀ x ∈ xs, Sk C (wos S H) d x) (hn : xs.length ≤ n) : GvL C S d n (tSl (rSlL K) (tVar i) tlo thi) σ H := fun Q q =>
  hv _ _ (hlo _ _ (hhi _ _ ⟨W, xs, rfl, SqL.of hW, fun c nc => by
    have np : c ∉ S := hp.new nc
    refine q _ _ (same_new nc) ⟨c, _, rfl, np, upd_same, ?_, fun y hy => (hx y ?_).same (wos_same (same_new nc))⟩
    · exact Nat.le_trans (cutV_length _ _ _) hn
    · unfold cutV at hy
      exact List.mem_of_mem_drop (List.mem_of_mem_take hy)⟩))
theorem hv_of {i : Nat} {v : V} (h : σ[i]? = some (some v)) : ∀ H Q, Q v H → tVar i σ H Q := fun H Q q => ⟨v, h, q⟩
theorem hno : ∀ H (Q : Option Int → Hp → Prop), Q none H → tNoPart σ H Q := fun H Q q => q
theorem hpart {j : Nat} {s : Int} (h : σ[j]? = some (some (.int s))) : ∀ H (Q : Option Int → Hp → Prop), Q (some s) H → tPart (tVar j) σ H Q := fun H Q q => ⟨_, h, s, rfl, q⟩
theorem hpart1 {j : Nat} {s : Int} (h : σ[j]? = some (some (.int s))) : ∀ H (Q : Option Int → Hp → Prop), Q (some (s + 1)) H → tPart (tOp (rI0 fun i j => V.int (i + j)) (tVar j) (tC (V.int 1))) σ H Q := fun H Q q => ⟨_, h, s, 1, rfl, rfl, s + 1, rfl, q⟩
theorem gvs_var {i : Nat} {v : V} (h : σ[i]? = some (some v)) (hs : Sk C (wos S H) d v) : GvS C S d (tVar i) σ H := fun Q q => ⟨v, h, q v H (Same.refl _) hs⟩
theorem gvs_tup1 (hp : Kn S H) (h : GvS C S d t σ H) (hd : d ≤ 1 := by omega) : GvS C S (d + 1) (tTup (tCons t tNil)) σ H := fun Q q =>
  h _ fun v H1 s1 f1 => ⟨by show 1 ≤ sizeLine; decide, fun a na => by
    have np : a ∉ S := (hp.same s1).new na
    refine q _ _ (s1.trans (same_new na)) (Sk.tup (xs := [v]) (by rw [wos_ne np]; exact upd_same) (by simp) (fun y hy => ?_) hd)
    rw [List.mem_singleton.mp hy]
    exact f1.same (wos_same (same_new na))⟩
/-- a new list, its items shown without it -/
theorem gvl_lstW (hp : Kn S H) (hn : n ≤ 1000) (h : GvSA C S d n ts σ H) : Gv (tLst ts) σ H fun v H' => ∃ a ys, v = .ref a ∧ H a = none ∧ a ∉ S ∧ H' a = some (.lst ys) ∧ ys.length = n ∧ ∀ y ∈ ys, Sk C (wos (a :: S) H') d y := fun Q q =>
  h _ fun vs H1 s1 f1 => ⟨by rw [f1.1, sizeLine_eq]; omega, fun a na => by
    have np : a ∉ S := (hp.same s1).new na
    refine q _ _ (s1.trans (same_new na)) ⟨a, vs, rfl, s1.free na, np, upd_same, f1.1, fun y hy => (f1.2 y hy).same ?_⟩
    refine (wos_sub (T := a :: S) fun b hb => ?_).trans (wos_same (same_new na))
    rcases List.mem_cons.mp hb with z | z
    · exact .inr (z ▸ na)
    · exact .inl z⟩
/-- a comprehension over a list of ints, its elements ints or bools -/
theorem gvl_lc {g : TG} {te : TE} {vs : List Nat} {W : Addr} {ns : List Int} {i : Nat} (hv : σ[i]? = some (some (.ref W))) (hW : H W = some (.lst (ns.map V.int))) (hp : Kn S H) (hn : ns.length ≤ n) (h60 : n ≤ 60)
    (hs : ∀ (j : Nat) (x : Int) (H1 : Hp) (Yc : VK) (Nc : Hp → Prop), ns[j]? = some x → (∀ y, (∀ G, Sk C G d y) → Yc y H1) → g (.int x) (wipe σ vs) H1 fun σ2 H2 => wipe σ2 vs = wipe σ vs ∧ tYes σ2 H2 fun b H3 => if b = true then te σ2 H3 Yc else Nc H3) :
    GvL C S d n (tLc (iList K (tVar i)) g tYes te vs) σ H := fun Q q =>
  ⟨_, hv, W, rfl, ⟨_, SqL.of hW⟩, fun D hD => by
    refine lc_rel (walk_list (K := K) (a := W) (xs := ns.map V.int)) (fun i acc Hh => acc.length ≤ i ∧ ∀ y ∈ acc, ∀ G, Sk C G d y) hD (by rw [List.length_map, sizeLine_eq]; omega) (fun Hh sh => SqL.of (sh _ _ hW)) ⟨Nat.le_refl _, fun y hy => by cases hy⟩ (fun i acc A B e r => r)
      (fun j v acc Ha Hb hj sa ha hr hy Yc Nc yc nc => ?_) (fun acc H1 s1 hD1 hr => ?_)
    · obtain ⟨rfl, hx⟩ := hy
      rw [List.getElem?_map] at hx
      obtain ⟨x, hx', rfl⟩ := Option.map_eq_some_iff.mp hx
      exact hs j x Hb Yc Nc hx' fun y hy => yc y Hb (Same.refl _) ⟨by rw [List.length_append]; have := hr.1; simp only [List.length_cons, List.length_nil]; omega, fun u hu => by
        rcases List.mem_append.mp hu with w | w
        · exact hr.2 u w
        · rw [List.mem_singleton.mp w]; exact hy⟩
    · rw [List.length_map] at hr
      exact q _ _ s1 ⟨D, acc, rfl, hp.new hD, hD1, by omega, fun y hy => hr.2 y hy _⟩⟩
theorem ch_ofString (s : String) : ∀ c ∈ (Str.ofString s).cps.toList, c < 16 ^ 8 := fun c hc => by
  rw [congrFun Str.ofString_eq_byList s] at hc
  unfold Str.ofStringByList at hc
  simp only [List.mem_map] at hc
  obtain ⟨ch, _, rfl⟩ := hc
  have := ch.val.toNat_lt
  show ch.val.toNat < 16 ^ 8
  omega
theorem rt_int {i : Int} (h : i.natAbs < 10 ^ 50) : (reprText (Str.ofString (toString i))).length ≤ 600 := by
  have l := StrLaws.reprText_len (Str.ofString (toString i)) (ch_ofString _)
  have := int_short (i := i) h
  omega
theorem wos_upd {a : Addr} {o : HO} (h : a ∈ S) : wos S (upd H a o) = wos S H := by
  funext b
  unfold wos
  by_cases z : b ∈ S
  · rw [if_pos z, if_pos z]
  · rw [if_neg z, if_neg z, upd_ne (fun (e : b = a) => z (e ▸ h))]
theorem seq_asg {g : TG} {B : TS} {D : Ends} {φ : V → Hp → Prop} (h : Gv t σ H φ) (k : ∀ v H', Same H H' → φ v H' → g v σ H' fun σ2 H2 => B D σ2 H2) : tSeq (tAsg t g) B D σ H := h _ fun v H' s f => k v H' s f
theorem ret_gv {D : Ends} {φ : V → Hp → Prop} (h : Gv t σ H φ) (k : ∀ v H', Same H H' → φ v H' → D.rt v H') : tRet t D σ H := h _ fun v H' s f => k v H' s f
theorem seq_ext {B : TS} {D : Ends} {φ : V → Hp → Prop} {i : Nat} {f : Addr} {fs : List V} (hi : σ[i]? = some (some (.ref f))) (hf : H f = some (.lst fs)) (h : Gv t σ H φ)
    (k : ∀ v H', Same H H' → φ v H' → ∃ g gs, v = .ref g ∧ H' g = some (.lst gs) ∧ fs.length + gs.length ≤ 1000 ∧ B D σ (upd H' f (.lst (fs ++ gs)))) : tSeq (tDrop (tBM K "list" rExtend (tVar i) (tCons t tNil))) B D σ H :=
  ⟨_, hi, Or.inl ⟨rfl, _, SqL.of hf⟩, h _ fun v H' s ph => by
    obtain ⟨g, gs, rfl, hg, hz, q⟩ := k v H' s ph
    exact ⟨f, g, fs, gs, rfl, rfl, s _ _ hf, hg, by rw [sizeLine_eq]; omega, q⟩⟩
end
end Fp

namespace Fp
open PySem PySem.Spec PyProof.Rows L2
/-! ### str(..) of data, and more that only makes -/
theorem cr_strD {X : Cx} (hu : X.A.units + 64 < cLine) (hg : X.A.guards = some []) : CallR X (.type "str") (rRepr X.K) := by
  intro pins s σ H xs us Q I r h
  obtain ⟨a, d, rfl, hd, h1, h2, h3, h4, q⟩ := h
  rw [Vals.ref1 r]
  obtain ⟨as, hr⟩ := Dp.reads I d _ (.ref a) hd rfl
  refine str_of_reads hr h1 (fun z => by rw [h2] at z; cases z) hg (by omega) (fun _ _ e => e) (fun h' u tk k => ?_) h4
  exact ⟨.str d.shown, H, I.kept (t' := tk) k, ⟨u, rfl⟩, q⟩
def ChOk (x : Str) : Prop := ∀ c ∈ x.cps.toList, c < 16 ^ 8
theorem ChOk.app {x y : Str} (h1 : ChOk x) (h2 : ChOk y) : ChOk (x ++ y) := fun c hc => by
  have e : (x ++ y).cps.toList = x.cps.toList ++ y.cps.toList := by
    show (x.cps ++ y.cps).toList = _
    exact Array.toList_append
  rw [e] at hc
  exact (List.mem_append.mp hc).elim (h1 c) (h2 c)
theorem ChOk.of (s : String) : ChOk (Str.ofString s) := ch_ofString s
theorem ChOk.from : ∀ (ts : List Str) (k : Nat) (acc : Str), ChOk acc → (∀ t ∈ ts, ChOk t) → ChOk (textFrom k acc ts)
  | [], _, acc, h, _ => h
  | t :: ts, k, acc, h, g => ChOk.from ts (k + 1) _ ((h.app (ChOk.of _)).app (g t List.mem_cons_self)) fun x hx => g x (List.mem_cons_of_mem _ hx)
theorem ChOk.list {ts : List Str} (h : ∀ t ∈ ts, ChOk t) : ChOk (listText ts) := (ChOk.from ts 0 _ (ChOk.of "[") h).app (ChOk.of "]")
theorem ChOk.ints : ∀ ns : List Int, ∀ t ∈ PyData.shownAll (ns.map PyData.int), ChOk t
  | [], t, h => by simp only [List.map_nil, PyData.shownAll] at h; exact nomatch h
  | n :: r, t, h => by
    simp only [List.map_cons, PyData.shownAll] at h
    rcases List.mem_cons.mp h with z | z
    · rw [z]; simp only [PyData.shown]; exact ChOk.of _
    · exact ChOk.ints r t z
theorem shown_ints (ns : List Int) : ChOk (PyData.shown (.list (ns.map PyData.int))) := by
  simp only [PyData.shown]
  exact ChOk.list (ChOk.ints ns)
section
variable {C : Addr} {S : List Addr} {K : PySem.W.Frag} {σ : L2.St} {H : Hp} {d e n m : Nat} {t t1 t2 : TE} {ts : TA}
theorem gvl_rev {i : Nat} {W : Addr} {xs : List V} (hv : σ[i]? = some (some (.ref W))) (hW : SqL K H W xs) (hp : Kn S H) (hx : ∀ x ∈ xs, Sk C (wos S H) d x) (hn : xs.length ≤ n) : GvL C S d n (tRevL K (tVar i)) σ H := fun Q q =>
  ⟨_, hv, W, xs, rfl, hW, fun c nc => by
    have np : c ∉ S := hp.new nc
    exact q _ _ (same_new nc) ⟨c, _, rfl, np, upd_same, by rw [List.length_reverse]; exact hn, fun y hy => (hx y (List.mem_reverse.mp hy)).same (wos_same (same_new nc))⟩⟩
abbrev Hi (t : TE) (σ : L2.St) (H : Hp) (z : Int) : Prop := ∀ Q : VK, Q (.int z) H → t σ H Q
theorem gvl_rep {z : Nat} (hp : Kn S H) (h1 : GvL C S d 1 t1 σ H) (h2 : ∀ H1, Same H H1 → Hi t2 σ H1 (z : Int)) (hz : z ≤ n) (hn : n ≤ 60) : GvL C S d n (tOp rRep t1 t2) σ H := fun Q q =>
  h1 _ fun v H1 s1 f1 => h2 H1 s1 _ (by
    obtain ⟨a, ys, rfl, e2, e3, e4, e5⟩ := f1
    refine ⟨a, (z : Int), ys, rfl, rfl, e3, by omega, by omega, ?_, fun c nc => ?_⟩
    · rw [Int.toNat_natCast, sizeLine_eq]
      have := Nat.mul_le_mul e4 hz
      omega
    have np : c ∉ S := (hp.same s1).new nc
    refine q _ _ (s1.trans (same_new nc)) ⟨c, _, rfl, np, upd_same, ?_, fun y hy => ?_⟩
    · rw [Int.toNat_natCast, List.length_flatten, List.map_replicate, List.sum_replicate_nat]
      have := Nat.mul_le_mul hz e4
      omega
    · obtain ⟨l, hl, hy2⟩ := List.mem_flatten.mp hy
      rw [(List.mem_replicate.mp hl).2] at hy2
      exact (e5 y hy2).same (wos_same (same_new nc)))
theorem gvs_dict0 (hp : Kn S H) : GvS C S (d + 1) tDNewK σ H := fun Q q => fun c nc => by
  have np : c ∉ S := hp.new nc
  exact q _ _ (same_new nc) ⟨_, Sh.dct (ds := []) (by rw [wos_ne np]; exact upd_same) (by simp) (fun p hp => by cases hp), Nat.le_trans (by decide) (Bz_ge (d + 1))⟩
theorem gvs_disp1 {tk tv : TE} {k v : Int} (hp : Kn S H) (hk : ∀ H1, Same H H1 → Hi tk σ H1 k) (hv : ∀ H1, Same H H1 → Hi tv σ H1 v) (ok : okS k) (ov : okS v) : GvS C S (d + 1) (tDisp [(tk, tv)]) σ H := fun Q q => fun c nc => by
  have np : c ∉ S := hp.new nc
  have s1 := same_new (o := .dK []) nc
  refine hk _ s1 _ (hv _ s1 _ ⟨upd_same, [(.inl k, .int v)], rfl, by simp, ?_⟩)
  rw [show mergeK [] [((Sum.inl k : L2.Key), V.int v)] = [((Sum.inl k : L2.Key), V.int v)] from rfl]
  refine q _ _ (fun b o e => ?_) ⟨_, Sh.dct (ds := [(k, v)]) (by rw [wos_ne np]; exact upd_same) (by simp) (fun p hp => by rw [List.mem_singleton.mp hp]; exact ⟨ok.ok, ov.ok⟩), by
    have l1 := int_short ok
    have l2 := int_short ov
    have l3 := dictText_le [dEnt (k, v)]
    have q : piled [dEnt (k, v)] = (dEnt (k, v)).length + 2 := by rw [piled_cons]; rfl
    have q2 : (dEnt (k, v)).length = (Str.ofString (toString k)).length + 2 + (Str.ofString (toString v)).length := by
      unfold dEnt
      rw [strLen_append, strLen_append]; rfl
    have b0 := Bz_ge (d + 1)
    show (dictText [dEnt (k, v)]).length ≤ _
    omega⟩
  have nb := ne_of_none e nc
  rw [upd_ne nb, upd_ne nb]; exact e
theorem gvs_rat {z : Int} (hp : Kn S H) (ht : Hi t σ H z) (oz : okS z) : GvS C S d (tRat C (tCons t tNil)) σ H := fun Q q =>
  ht _ ⟨z, rfl, fun a H' na sm r => q _ H' sm (Sk.own (by
    obtain ⟨dx, r⟩ := r
    exact ⟨dx, by rw [wos_ne (hp.new na)]; exact r⟩) oz (by decide) (rdI_one z))⟩
theorem gvs_int {z : Int} (ht : Hi t σ H z) (oz : okS z) : GvS C S d t σ H := fun Q q => ht _ (q _ _ (Same.refl _) (Sk.int oz))
theorem gvs_tup {n : Nat} (hp : Kn S H) (hn : n ≤ 60) (h : GvSA C S d n ts σ H) (hd : d ≤ 1 := by omega) : GvS C S (d + 1) (tTup ts) σ H := fun Q q =>
  h _ fun vs H1 s1 f1 => ⟨by rw [f1.1, sizeLine_eq]; omega, fun a na => by
    have np : a ∉ S := (hp.same s1).new na
    exact q _ _ (s1.trans (same_new na)) (Sk.tup (xs := vs) (by rw [wos_ne np]; exact upd_same) (by rw [f1.1]; omega) (fun y hy => (f1.2 y hy).same (wos_same (same_new na))) hd)⟩
theorem gvs_more (h : GvS C S d t σ H) (le : d ≤ e) : GvS C S e t σ H := Gv.imp h fun v H' _ z => z.more le
/-! ### lists whose items need no heap -/
abbrev GvP (P : V → Prop) (S : List Addr) (n : Nat) (t : TE) (σ : L2.St) (H : Hp) : Prop := Gv t σ H fun v H' => ∃ a ys, v = .ref a ∧ a ∉ S ∧ H' a = some (.lst ys) ∧ ys.length ≤ n ∧ ∀ y ∈ ys, P y
variable {P : V → Prop}
theorem gvp_cat (hp : Kn S H) (hn : n + m ≤ 1000) (h1 : GvP P S n t1 σ H) (h2 : ∀ H1, Same H H1 → GvP P S m t2 σ H1) : GvP P S (n + m) (tOp rCat t1 t2) σ H := fun Q q =>
  h1 _ fun v H1 s1 f1 => h2 H1 s1 _ fun u H2 s2 f2 => by
    obtain ⟨a, ys, rfl, e2, e3, e4, e5⟩ := f1
    obtain ⟨b, zs, rfl, g2, g3, g4, g5⟩ := f2
    refine ⟨a, b, ys, zs, rfl, rfl, s2 _ _ e3, g3, by rw [sizeLine_eq]; omega, fun c nc => ?_⟩
    have s12 := s1.trans s2
    have np : c ∉ S := (hp.same s12).new nc
    exact q _ _ (s12.trans (same_new nc)) ⟨c, ys ++ zs, rfl, np, upd_same, by rw [List.length_append]; omega, fun y hy => by
      rcases List.mem_append.mp hy with z | z
      · exact e5 y z
      · exact g5 y z⟩
theorem gvp_sl {i : Nat} {W : Addr} {xs : List V} {lo hi : Option Int} {tlo thi : TO} (hv : ∀ H Q, Q (.ref W) H → tVar i σ H Q) (hlo : ∀ H (Q : Option Int → Hp → Prop), Q lo H → tlo σ H Q) (hhi : ∀ H (Q : Option Int → Hp → Prop), Q hi H → thi σ H Q) (hW : H W = some (.lst xs)) (hp : Kn S H)
    (hx : ∀ x ∈ xs, P x) (hn : xs.length ≤ n) : GvP P S n (tSl (rSlL K) (tVar i) tlo thi) σ H := fun Q q =>
  hv _ _ (hlo _ _ (hhi _ _ ⟨W, xs, rfl, SqL.of hW, fun c nc => by
    have np : c ∉ S := hp.new nc
    refine q _ _ (same_new nc) ⟨c, _, rfl, np, upd_same, ?_, fun y hy => hx y ?_⟩
    · exact Nat.le_trans (cutV_length _ _ _) hn
    · unfold cutV at hy
      exact List.mem_of_mem_drop (List.mem_of_mem_take hy)⟩))
theorem gvp_lst2 {z1 z2 : Int} (hp : Kn S H) (h1 : Hi t1 σ H z1) (h2 : Hi t2 σ H z2) (p1 : P (.int z1)) (p2 : P (.int z2)) : GvP P S 2 (tLst (tCons t1 (tCons t2 tNil))) σ H := fun Q q =>
  h1 _ (h2 _ ⟨by show 2 ≤ sizeLine; decide, fun a na => q _ _ (same_new na) ⟨a, _, rfl, hp.new na, upd_same, Nat.le_refl 2, fun y hy => by
    simp only [List.mem_cons, List.not_mem_nil, or_false] at hy
    rcases hy with z | z <;> rw [z] <;> assumption⟩⟩)
theorem ext_one {D : Ends} {φ : V → Hp → Prop} {i : Nat} {f : Addr} {fs : List V} (hi : σ[i]? = some (some (.ref f))) (hf : H f = some (.lst fs)) (h : Gv t σ H φ)
    (k : ∀ v H', Same H H' → φ v H' → ∃ g gs, v = .ref g ∧ H' g = some (.lst gs) ∧ fs.length + gs.length ≤ 1000 ∧ D.nx σ (upd H' f (.lst (fs ++ gs)))) : tDrop (tBM K "list" rExtend (tVar i) (tCons t tNil)) D σ H :=
  ⟨_, hi, Or.inl ⟨rfl, _, SqL.of hf⟩, h _ fun v H' s ph => by
    obtain ⟨g, gs, rfl, hg, hz, q⟩ := k v H' s ph
    exact ⟨f, g, fs, gs, rfl, rfl, s _ _ hf, hg, by rw [sizeLine_eq]; omega, q⟩⟩
end
end Fp

namespace Fp
open PySem PySem.Spec PyProof.Rows L2
/-! ### own operators -/
structure BinF (K : PySem.W.Frag) (C f : Addr) (op : Operator) : Prop where
  sf : PySem.W.selfFirst K C = true
  hs : PySem.W.findIn K (.ref C) (PySem.dunder op.info.2) = some (some (.ref f))
  hf : PySem.W.isFn K (.ref f) = true
  hr : ∃ g : Addr, PySem.W.findIn K (.ref C) (PySem.dunderR op.info.2) = some (some (.ref g))
  h1 : ∃ fo, PySem.W.findIn K (.type "int") (PySem.dunder op.info.2) = some fo
  h2 : ∃ ro, PySem.W.findIn K (.type "int") (PySem.dunderR op.info.2) = some ro
  hsub : PySem.W.subIn K (.type "int") (.ref C) = some false
def rOwn (C : Addr) (sp : Sp) : R2 := fun x y H Q => ∃ a dx fs, x = .ref a ∧ H a = some (.ins C dx fs) ∧ ((∃ i, y = .int i) ∨ ∃ b dy gs, y = .ref b ∧ H b = some (.ins C dy gs)) ∧ sp [x, y] H (fun v H' => (∃ r, v = .ref r) ∧ Q v H') E0
theorem op_own {X : Cx} {C f : Addr} {op : Operator} {n : Nat} {fd : FuncData} {sp : Sp} (B : BinF X.K C f op) (F : FnOk X.prog X.w X.K X.mg X.base CX0 n f fd ["self", "other"] sp) (hb : Binds X.K fd ["self", "other"] []) (hr : Room n X.A) : OpR X (binaryOp op) (rOwn C sp) := by
  intro pins s σ H x y v u Q I rx ry hq
  obtain ⟨a, dx, fs, rfl, ha, hy, hsp⟩ := hq
  cases rx
  obtain ⟨mA, J, _⟩ := ins_get I.hok ha
  obtain ⟨od, J, _⟩ := J.look
  obtain ⟨m, hF⟩ := I.fr
  obtain ⟨g, hr1⟩ := B.hr
  obtain ⟨fo, h1⟩ := B.h1
  obtain ⟨ro, h2⟩ := B.h2
  have main : wpAny (model X.prog X.w) X.A (call (.ref f) [.ref a, u]) (PySem.W.CmpBack (EP X pins σ Q)) X.xe s := by
    have hl := F.len _ _ _ _ hsp
    have r2 : Vals [V.ref a, y] [Value.ref a, u] := .cons rfl (.cons ry .nil)
    refine wpAny_call (codeAny_mono (F.run X.A X.stack s H ⟨[.ref a, u], []⟩ [.ref a, u] [.ref a, y] _ E0 hr I.env0 (by
      have := hb s [.ref a, u] I.kIn (by simpa using hl)
      simpa using this) r2 hsp) fun r s' hq => ?_)
    cases r with
    | error e => exact pass0 (X := X) pins σ H s e s' I hq
    | ok fl =>
      cases fl with
      | ret w =>
        obtain ⟨z, H', I', rz, ⟨r, ez⟩, q⟩ := I.after hq
        subst ez
        cases rz
        exact ⟨.ref r, H', I', rfl, q⟩
      | next => exact False.elim hq
      | brk => exact False.elim hq
      | cont => exact False.elim hq
  rcases hy with ⟨i, rfl⟩ | ⟨b, dy, gs, rfl, hb2⟩
  · obtain ⟨t, rfl⟩ := ry
    exact PySem.W.ksp_binT (T := "int") hF I.ok.mod.kin J rfl B.sf B.hs B.hf hr1 (.inr ⟨g, rfl⟩) h1 h2 B.hsub main
  · cases ry
    obtain ⟨mB, J', _⟩ := ins_get I.hok hb2
    obtain ⟨od', J', _⟩ := J'.look
    exact PySem.W.binop_K hF I.ok.mod.kin J J'.type B.sf B.hs B.hf main
/-! ### isinstance(x, Ratio) -/
def isOwn (H : Hp) : V → Bool
  | .ref a => match H a with
    | some (.ins _ _ _) => true
    | _ => false
  | _ => false
structure RIsi (K : PySem.W.Frag) (C : Addr) : Prop where
  i : PySem.W.kitOne K (.type "int") (.ref C) = some false
  b : PySem.W.kitOne K (.type "bool") (.ref C) = some false
  n : PySem.W.kitOne K (.type "NoneType") (.ref C) = some false
  s : PySem.W.kitOne K (.type "str") (.ref C) = some false
  l : PySem.W.kitOne K (.type "list") (.ref C) = some false
  t : PySem.W.kitOne K (.type "tuple") (.ref C) = some false
  d : PySem.W.kitOne K (.type "dict") (.ref C) = some false
  c : PySem.W.kitOne K (.ref C) (.ref C) = some true
section
variable {C : Addr} {H H' : Hp} {d : Nat} {x : V} {K : PySem.W.Frag} {mg : Str → Option Value} {fI fR : Addr}
theorem Sk.kitC (h : Sk C H d x) (R : RCls K mg C fI fR) (I : RIsi K C) : ∃ ty, TyX K H x ty ∧ PySem.W.kitOne K ty (.ref C) = some (isOwn H x) := by
  obtain ⟨t, h, _⟩ := h
  cases h with
  | int h => exact ⟨_, .base (.int _), I.i⟩
  | bl b => exact ⟨_, .base (.bl _), I.b⟩
  | non => exact ⟨_, .base .non, I.n⟩
  | str x h => exact ⟨_, .base (.str _), I.s⟩
  | @own d a p q r h1 h2 =>
    obtain ⟨dx, r⟩ := r
    have e : isOwn H (.ref a) = true := by unfold isOwn; simp only [r]
    rw [e]
    exact ⟨_, .base (.ins r R.cl R.isA R.isN R.isT R.isM), I.c⟩
  | @lst d a xs ts h1 h0 h2 h3 =>
    have e : isOwn H (.ref a) = false := by unfold isOwn; simp only [h1]
    rw [e]
    exact ⟨_, .base (.lst h1), I.l⟩
  | @tup d a xs ts h1 h0 h2 h3 =>
    have e : isOwn H (.ref a) = false := by unfold isOwn; simp only [h1]
    rw [e]
    exact ⟨_, .base (.tup h1), I.t⟩
  | @dct d a ds h1 h0 h2 =>
    have e : isOwn H (.ref a) = false := by unfold isOwn; simp only [h1]
    rw [e]
    exact ⟨_, .base (.dK h1), I.d⟩
  | @dcl d a b k ns h1 h2 =>
    have e : isOwn H (.ref a) = false := by unfold isOwn; simp only [h1]
    rw [e]
    exact ⟨_, .base (.dK h1), I.d⟩
theorem isOwn_same (h : Sk C H d x) (e : Same H H') : isOwn H' x = isOwn H x := by
  obtain ⟨t, h, _⟩ := h
  cases h with
  | int h => rfl
  | bl b => rfl
  | non => rfl
  | str x h => rfl
  | own r h1 h2 =>
    obtain ⟨dx, r⟩ := r
    unfold isOwn
    simp only [r, e _ _ r]
  | lst h1 => unfold isOwn; simp only [h1, e _ _ h1]
  | tup h1 => unfold isOwn; simp only [h1, e _ _ h1]
  | dct h1 => unfold isOwn; simp only [h1, e _ _ h1]
  | dcl h1 => unfold isOwn; simp only [h1, e _ _ h1]
/-! ### numbers -/
def isNum (H : Hp) (x : V) : Bool := isI x || isOwn H x
theorem isNum_same (h : Sk C H d x) (e : Same H H') : isNum H' x = isNum H x := by unfold isNum; rw [isOwn_same h e]
/-- top and bottom -/
def numOf (H : Hp) : V → Int × Int
  | .int i => (i, 1)
  | .ref a => match H a with
    | some (.ins _ _ [(_, .int p), (_, .int q)]) => (p, q)
    | _ => (0, 1)
  | _ => (0, 1)
def NumV (C : Addr) (H : Hp) (x : V) (p q : Int) : Prop := (x = .int p ∧ q = 1) ∨ ∃ a, x = .ref a ∧ Rat2 C H a p q
theorem NumV.same {p q : Int} (h : NumV C H x p q) (e : Same H H') : NumV C H' x p q := h.elim .inl fun ⟨a, h1, h2⟩ => .inr ⟨a, h1, h2.same e⟩
theorem Sk.num (h : Sk C H d x) (n : isNum H x = true) : NumV C H x (numOf H x).1 (numOf H x).2 ∧ okS (numOf H x).1 ∧ okS (numOf H x).2 ∧ RdI (numOf H x).1 (numOf H x).2 := by
  obtain ⟨t, h, _⟩ := h
  cases h with
  | @int d i h => exact ⟨.inl ⟨rfl, rfl⟩, h, (by decide : okS 1), rdI_one _⟩
  | bl b => cases n
  | non => cases n
  | str x h => cases n
  | @own d a p q r h1 h2 h3 =>
    obtain ⟨dx, r⟩ := r
    have e : numOf H (.ref a) = (p, q) := by unfold numOf; simp only [r]
    rw [e]
    exact ⟨.inr ⟨a, rfl, dx, r⟩, h1, h2, h3⟩
  | lst h1 => unfold isNum isOwn at n; simp only [h1] at n; cases n
  | tup h1 => unfold isNum isOwn at n; simp only [h1] at n; cases n
  | dct h1 => unfold isNum isOwn at n; simp only [h1] at n; cases n
  | dcl h1 => unfold isNum isOwn at n; simp only [h1] at n; cases n
theorem NumV.kitC {p q : Int} (h : NumV C H x p q) (R : RCls K mg C fI fR) (I : RIsi K C) : ∃ ty, TyX K H x ty ∧ PySem.W.kitOne K ty (.ref C) = some (isOwn H x) := by
  rcases h with ⟨rfl, _⟩ | ⟨a, rfl, dx, r⟩
  · exact ⟨_, .base (.int _), I.i⟩
  · have e : isOwn H (.ref a) = true := by unfold isOwn; simp only [r]
    rw [e]
    exact ⟨_, .base (.ins r R.cl R.isA R.isN R.isT R.isM), I.c⟩
theorem numOf_same (h : Sk C H d x) (e : Same H H') : numOf H' x = numOf H x := by
  obtain ⟨t, h, _⟩ := h
  cases h with
  | int h => rfl
  | bl b => rfl
  | non => rfl
  | str x h => rfl
  | own r h1 h2 =>
    obtain ⟨dx, r⟩ := r
    unfold numOf
    simp only [r, e _ _ r]
  | lst h1 => unfold numOf; simp only [h1, e _ _ h1]
  | tup h1 => unfold numOf; simp only [h1, e _ _ h1]
  | dct h1 => unfold numOf; simp only [h1, e _ _ h1]
  | dcl h1 => unfold numOf; simp only [h1, e _ _ h1]
end
/-! ### properties, own + and == in a text -/
structure PropX (P : Program) (w : World) (K : PySem.W.Frag) (mg : Str → Option Value) (base : Heap) (k : Nat) (C : Addr) (f : Str) (sp : Sp) : Prop where
  ex : ∃ (p g : Addr) (fd : FuncData), PropOf K C f p g ∧ FnOk P w K mg base CX0 k g fd ["self"] sp ∧ Binds K fd ["self"] []
structure BinX (P : Program) (w : World) (K : PySem.W.Frag) (mg : Str → Option Value) (base : Heap) (k : Nat) (C : Addr) (op : Operator) (sp : Sp) : Prop where
  ex : ∃ (f : Addr) (fd : FuncData), BinF K C f op ∧ FnOk P w K mg base CX0 k f fd ["self", "other"] sp ∧ Binds K fd ["self", "other"] []
/-- the same number -/
def SameR (C : Addr) (a b : Addr) (H : Hp) : Prop := ∃ p q, Rat2 C H a p q ∧ Rat2 C H b p q
structure EqX (P : Program) (w : World) (K : PySem.W.Frag) (mg : Str → Option Value) (base : Heap) (k : Nat) (C : Addr) : Prop where
  ex : ∃ (f : Addr) (fd : FuncData), PySem.W.findIn K (.ref C) "__eq__" = some (some (.ref f)) ∧ PySem.W.isFn K (.ref f) = true ∧ FnOk P w K mg base CX0 k f fd ["self", "other"] (spEq (SameR C)) ∧ Binds K fd ["self", "other"] []
def spTopR (C : Addr) : Sp := fun vs H Q _ => ∃ a p q, vs = [.ref a] ∧ Rat2 C H a p q ∧ Q (.int p) H
def spBotR (C : Addr) : Sp := fun vs H Q _ => ∃ a p q, vs = [.ref a] ∧ Rat2 C H a p q ∧ Q (.int q) H
def sgnI (p : Int) : Int := if p < 0 then -1 else if 0 < p then 1 else 0
def spSgnR (C : Addr) : Sp := fun vs H Q _ => ∃ a p q, vs = [.ref a] ∧ Rat2 C H a p q ∧ Q (.int (sgnI p)) H
def spAddR (C : Addr) : Sp := fun vs H Q _ => ∃ a y p q, vs = [.ref a, y] ∧ Rat2 C H a 0 1 ∧ NumV C H y p q ∧ RdI p q ∧ ∀ m H', Same H H' → Rat2 C H' m p q → Q (.ref m) H'
section
variable {X : Cx} {k : Nat} {C : Addr} {f : Str} {sp : Sp} {op : Operator} {e : Expr} {pos : Pos} {ta : TE}
theorem pe_propX (D : PropX X.prog X.w X.K X.mg X.base k C f sp) (hr : Room (k + 1) X.A) (c : Cls X.K C) (he : PE X e ta) (hab : attributeBase e f X.env (eval e X.env) = eval e X.env) : PE X (.Attribute e f pos) (tProp C sp [] E0 ta) := by
  obtain ⟨p, g, fd, h1, F, hb⟩ := D.ex
  exact pe_prop he c h1 F hr hb .nil (pass0 (X := X.nox)) hab
theorem op_ownX (D : BinX X.prog X.w X.K X.mg X.base k C op sp) (hr : Room k X.A) : OpR X (binaryOp op) (rOwn C sp) := by
  obtain ⟨f, fd, B, F, hb⟩ := D.ex
  exact op_own B F hb hr
theorem EqX.eqG (D : EqX X.prog X.w X.K X.mg X.base k C) : EqG X k (DIns C (SameR C)) := by
  obtain ⟨f, fd, h1, h2, F, hb⟩ := D.ex
  exact eqG_ins F h1 h2 hb (pass0 (X := X))
theorem mon_rat : Mon (DIns C (SameR C)) := mon_ins fun a b H H' e ⟨p, q, ⟨d1, h1⟩, ⟨d2, h2⟩⟩ => ⟨p, q, ⟨d1, e _ _ h1⟩, ⟨d2, e _ _ h2⟩⟩
/-- == of two lists of lists of own numbers, the same -/
theorem op_eq2 (D : EqX X.prog X.w X.K X.mg X.base k C) (hr : Room (k + 2) X.A) : OpR X (compareOp .Eq) (rEqG (DList (DList (DIns C (SameR C))))) :=
  op_eqG (rcG_list (mon_list mon_rat) (eqG_list mon_rat D.eqG)) hr
end
end Fp

namespace Fp
open PySem PySem.Spec PyProof.Rows L2
/-! ### a comprehension over a list or a tuple, what is kept of its items -/
section
variable {K : PySem.W.Frag} {a : Addr} {xs : List V} {g : TG} {tt : TT} {te : TE} {vs : List Nat} {σ : L2.St} {H : Hp} {tl : TE} {Q : VK}
theorem lc_relS (Rel : Nat → List V → Hp → Prop) (hv : ∀ R : V → Hp → Prop, R (.ref a) H → tl σ H R) (hS : Sq K H a xs) (hz : xs.length ≤ sizeLine) (h0 : Rel 0 [] H) (hm : ∀ i acc A B, Same A B → Rel i acc A → Rel i acc B)
    (hs : ∀ (D : Addr) (i : Nat) (x : V) (acc : List V) (Ha : Hp), H D = none → xs[i]? = some x → Same H Ha → Ha D = some (.lst acc) → Rel i acc (wo D Ha) → ∀ (Yc : V → Hp → Prop) (Nc : Hp → Prop), (∀ y H4, Same Ha H4 → Rel (i + 1) (acc ++ [y]) (wo D H4) → Yc y H4) → (∀ H3, Same Ha H3 → Rel (i + 1) acc (wo D H3) → Nc H3) →
      g x (wipe σ vs) Ha fun σ2 H2 => wipe σ2 vs = wipe σ vs ∧ tt σ2 H2 fun b H3 => if b = true then te σ2 H3 Yc else Nc H3)
    (hd : ∀ (D : Addr) (acc : List V) (H' : Hp), H D = none → Same H H' → H' D = some (.lst acc) → Rel xs.length acc (wo D H') → Q (.ref D) H') : tLc (iSq K tl) g tt te vs σ H Q := by
  rcases hS with hS | hS
  · refine Or.inl (hv _ ⟨a, rfl, ⟨xs, hS⟩, fun D hD => ?_⟩)
    exact lc_rel (walk_list (K := K) (a := a) (xs := xs)) Rel hD hz (fun Hh sh => hS.ext sh) h0 hm (fun i x acc Ha Hb hi sa ha hr hy Yc Nc yc nc => by
      obtain ⟨rfl, hx⟩ := hy
      exact hs D i x acc _ hD hx sa ha hr Yc Nc yc nc) (fun acc H' s1 ha hr => hd D acc H' hD s1 ha hr)
  · refine Or.inr (hv _ ⟨a, rfl, ⟨xs, hS⟩, fun D hD => ?_⟩)
    exact lc_rel (walk_tup (K := K) (a := a) (xs := xs)) Rel hD hz (fun Hh sh => same_sqT sh hS) h0 hm (fun i x acc Ha Hb hi sa ha hr hy Yc Nc yc nc => by
      obtain ⟨rfl, hx⟩ := hy
      exact hs D i x acc _ hD hx sa ha hr Yc Nc yc nc) (fun acc H' s1 ha hr => hd D acc H' hD s1 ha hr)
end
/-! ### numbers of a list -/
structure RatL (C : Addr) (H : Hp) (vs : List V) (ps : List (Int × Int)) : Prop where
  len : vs.length = ps.length
  at_ : ∀ (i : Nat) (v : V), vs[i]? = some v → ∃ (pq : Int × Int) (a : Addr), ps[i]? = some pq ∧ v = .ref a ∧ Rat2 C H a pq.1 pq.2
section
variable {C : Addr} {H H' : Hp} {vs : List V} {ps : List (Int × Int)} {d : Nat} {x : V}
theorem RatL.same (h : RatL C H vs ps) (e : Same H H') : RatL C H' vs ps := ⟨h.len, fun i v hv => let ⟨pq, a, h1, h2, h3⟩ := h.at_ i v hv; ⟨pq, a, h1, h2, h3.same e⟩⟩
theorem RatL.nil : RatL C H [] [] := ⟨rfl, fun i v h => by cases h⟩
theorem RatL.snoc (h : RatL C H vs ps) {a : Addr} {p q : Int} (r : Rat2 C H a p q) : RatL C H (vs ++ [.ref a]) (ps ++ [(p, q)]) := ⟨by rw [List.length_append, List.length_append, h.len]; rfl, fun i v hv => by
  rcases Nat.lt_trichotomy i vs.length with l | l | l
  · rw [List.getElem?_append_left l] at hv
    obtain ⟨pq, b, h1, h2, h3⟩ := h.at_ i v hv
    exact ⟨pq, b, by rw [List.getElem?_append_left (h.len ▸ l)]; exact h1, h2, h3⟩
  · subst l
    rw [List.getElem?_append_right (Nat.le_refl _), Nat.sub_self] at hv
    obtain rfl := Option.some.inj hv
    exact ⟨(p, q), a, by rw [h.len, List.getElem?_append_right (Nat.le_refl _), Nat.sub_self]; rfl, rfl, r⟩
  · rw [List.getElem?_eq_none (by rw [List.length_append]; simp; omega)] at hv; cases hv⟩
theorem RatL.take (h : RatL C H vs ps) (n : Nat) : RatL C H (vs.take n) (ps.take n) := ⟨by rw [List.length_take, List.length_take, h.len], fun i v hv => by
  rw [List.getElem?_take] at hv ⊢
  split at hv
  · rename_i l
    rw [if_pos l]
    exact h.at_ i v hv
  · cases hv⟩
/-- without the noughts at the end -/
def trimP (ps : List (Int × Int)) : List (Int × Int) := (ps.reverse.dropWhile fun x => x.1 == 0).reverse
theorem trimP_nil : trimP [] = [] := rfl
theorem trimP_zero {A : List (Int × Int)} {x : Int × Int} (h : x.1 = 0) : trimP (A ++ [x]) = trimP A := by
  unfold trimP
  rw [List.reverse_append, List.reverse_singleton, List.singleton_append, List.dropWhile_cons, if_pos (by simp [h])]
theorem trimP_nz {A : List (Int × Int)} {x : Int × Int} (h : x.1 ≠ 0) : trimP (A ++ [x]) = A ++ [x] := by
  unfold trimP
  rw [List.reverse_append, List.reverse_singleton, List.singleton_append, List.dropWhile_cons, if_neg (by simp [h])]
  simp
theorem snoc_of {α : Type} {l : List α} (h : l ≠ []) : ∃ A x, l = A ++ [x] := by
  rcases List.eq_nil_or_concat l with e | ⟨A, x, e⟩
  · exact absurd e h
  · exact ⟨A, x, by rw [e, List.concat_eq_append]⟩
theorem trimP_len (ps : List (Int × Int)) : (trimP ps).length ≤ ps.length := by
  unfold trimP
  rw [List.length_reverse]
  have := (List.dropWhile_suffix (fun x : Int × Int => x.1 == 0) (l := ps.reverse)).length_le
  rw [List.length_reverse] at this
  exact this
/-! ### polynomials and makers among any values -/
def isPolyV (H : Hp) (x : V) : Bool := match itemsOf H x with
  | none => false
  | some xs => decide (xs.length ≤ 49) && xs.all (isNum H)
def itemsD (H : Hp) (x : V) : List V := (itemsOf H x).getD []
def toldP (H : Hp) (x : V) : List (Int × Int) := trimP ((itemsD H x).map (numOf H))
def isMakerV (H : Hp) (y : V) : Bool := isPolyV H y && (decide (2 ≤ (toldP H y).length) && decide ((toldP H y).length ≤ 8))
def isMakersV (H : Hp) (x : V) : Bool := match itemsOf H x with
  | none => false
  | some ys => decide (1 ≤ ys.length) && (decide (ys.length ≤ 4) && ys.all (isMakerV H))
def toldsP (H : Hp) (x : V) : List (List (Int × Int)) := (itemsD H x).map (toldP H)
theorem all_same {f g : V → Bool} : ∀ {xs : List V}, (∀ x ∈ xs, f x = g x) → xs.all f = xs.all g
  | [], _ => rfl
  | x :: xs, h => by
    rw [List.all_cons, List.all_cons, h x List.mem_cons_self, all_same fun y hy => h y (List.mem_cons_of_mem _ hy)]
theorem map_same {β : Type} {f g : V → β} : ∀ {xs : List V}, (∀ x ∈ xs, f x = g x) → xs.map f = xs.map g
  | [], _ => rfl
  | x :: xs, h => by
    rw [List.map_cons, List.map_cons, h x List.mem_cons_self, map_same fun y hy => h y (List.mem_cons_of_mem _ hy)]
theorem isPolyV_same (h : Sk C H d x) (e : Same H H') : isPolyV H' x = isPolyV H x := by
  unfold isPolyV
  rw [itemsOf_same h e]
  cases q : itemsOf H x with
  | none => rfl
  | some xs =>
    obtain ⟨a, _, _, _, hy⟩ := h.items q
    dsimp only
    rw [all_same fun y m => isNum_same (hy y m) e]
theorem itemsD_same (h : Sk C H d x) (e : Same H H') : itemsD H' x = itemsD H x := by unfold itemsD; rw [itemsOf_same h e]
theorem Sk.itemsD (h : Sk C H d x) : ∀ y ∈ itemsD H x, Sk C H d y := fun y m => by
  unfold Fp.itemsD at m
  cases q : itemsOf H x with
  | none => rw [q] at m; cases m
  | some xs =>
    obtain ⟨a, _, _, _, hy⟩ := h.items q
    rw [q] at m
    exact hy y m
theorem toldP_same (h : Sk C H d x) (e : Same H H') : toldP H' x = toldP H x := by
  unfold toldP
  rw [itemsD_same h e, map_same fun y m => numOf_same (h.itemsD y m) e]
theorem isMakerV_same (h : Sk C H d x) (e : Same H H') : isMakerV H' x = isMakerV H x := by
  unfold isMakerV
  rw [isPolyV_same h e, toldP_same h e]
theorem isMakersV_same (h : Sk C H d x) (e : Same H H') : isMakersV H' x = isMakersV H x := by
  unfold isMakersV
  rw [itemsOf_same h e]
  cases q : itemsOf H x with
  | none => rfl
  | some xs =>
    obtain ⟨a, _, _, _, hy⟩ := h.items q
    dsimp only
    rw [all_same fun y m => isMakerV_same (hy y m) e]
theorem toldsP_same (h : Sk C H d x) (e : Same H H') : toldsP H' x = toldsP H x := by
  unfold toldsP
  rw [itemsD_same h e, map_same fun y m => toldP_same (h.itemsD y m) e]
theorem poly_items (h : isPolyV H x = true) : ∃ xs, itemsOf H x = some xs ∧ itemsD H x = xs ∧ xs.length ≤ 49 ∧ ∀ y ∈ xs, isNum H y = true := by
  unfold isPolyV at h
  cases q : itemsOf H x with
  | none => rw [q] at h; cases h
  | some xs =>
    rw [q] at h
    simp only [Bool.and_eq_true, decide_eq_true_eq, List.all_eq_true] at h
    exact ⟨xs, rfl, by unfold itemsD; rw [q]; rfl, h.1, h.2⟩
theorem Rat2.wo {D a : Addr} {p q : Int} {acc : List V} (r : Rat2 C H a p q) (hD : H D = some (.lst acc)) : Rat2 C (wo D H) a p q := by
  obtain ⟨dx, r⟩ := r
  refine ⟨dx, ?_⟩
  rw [wo_ne (fun z => by rw [z, hD] at r; cases r)]
  exact r
theorem wo_mono {D : Addr} (e : Same H H') : Same (wo D H) (wo D H') := fun b o q => by
  have nb : b ≠ D := fun w => by rw [w] at q; unfold wo at q; rw [if_pos rfl] at q; cases q
  rw [wo_ne nb] at q ⊢
  exact e _ _ q
theorem takeS {α : Type} {l : List α} {i : Nat} {x : α} (h : l[i]? = some x) : l.take (i + 1) = l.take i ++ [x] := by
  rw [List.take_add_one, h]; rfl
theorem RatL.step {D m : Addr} {xs : List V} {f : V → Int × Int} {i : Nat} {y : V} {acc : List V} {Ha H4 : Hp} (r : RatL C (wo D Ha) acc ((xs.map f).take i)) (hy : xs[i]? = some y) (s : Same Ha H4) (ha : Ha D = some (.lst acc)) (rm : Rat2 C H4 m (f y).1 (f y).2) :
    RatL C (wo D H4) (acc ++ [.ref m]) ((xs.map f).take (i + 1)) := by
  rw [takeS (show (xs.map f)[i]? = some (f y) by rw [List.getElem?_map, hy]; rfl)]
  exact (r.same (wo_mono s)).snoc (rm.wo (s _ _ ha))
end
/-! ### a list is not empty -/
def rNeNil : R2 := fun x y H Q => ∃ a b us, x = .ref a ∧ y = .ref b ∧ H a = some (.lst us) ∧ H b = some (.lst []) ∧ Q (.bl (!us.isEmpty)) H
theorem op_neNil {X : Cx} (hu : X.A.units + 64 < cLine) : OpR X (compareOp .NotEq) rNeNil := by
  intro pins s σ H x y v u Q I rx ry hq
  obtain ⟨a, b, us, rfl, rfl, ha, hb, q⟩ := hq
  cases rx
  cases ry
  obtain ⟨_, its, na, rv, hl, he⟩ := I.lstM ha
  obtain ⟨_, it2, nb, rv2, hl2, he2⟩ := I.lstM hb
  have e2 : it2 = [] := List.length_eq_zero_iff.mp (by simpa using hl2.symm)
  subst e2
  show wpAny (model X.prog X.w) X.A (richCompare .NotEq (.ref a) (.ref b)) (EP X pins σ Q) X.xe s
  have fin : ∀ k : Bool, k = (!us.isEmpty) → EP X pins σ Q (.bool k) s := fun k hk => ⟨.bl k, H, I, rfl, by rw [hk]; exact q⟩
  cases us with
  | nil =>
    have e1 : its = [] := List.length_eq_zero_iff.mp (by simpa using hl.symm)
    subst e1
    exact SeqAt.RcNeAt.lists (e := fun _ => true) ⟨_, he, rfl, na, rfl⟩ ⟨_, he2, rfl, nb, rfl⟩ rfl (by omega) (fun j h1 => absurd h1 (by simp)) X.prog X.w X.xe _ (fin _ rfl)
  | cons z r =>
    refine SeqAt.RcNeAt.lists_lengths ⟨_, he, rfl, na, rfl⟩ ⟨_, he2, rfl, nb, rfl⟩ ?_ (by omega) X.prog X.w X.xe _ (fin _ rfl)
    have : its.length = r.length + 1 := by rw [← hl]; simp
    simp
    intro e
    rw [e] at this
    simp at this
/-- len of a list or a tuple -/
def rLenS (K : PySem.W.Frag) : List V → Hp → VK → Prop := fun xs H Q => ∃ p ys, xs = [.ref p] ∧ (SqL K H p ys ∨ SqT K H p ys) ∧ Q (.int ys.length) H
end Fp

namespace Fp
/-! ### fractions: top and bottom of a quotient, sizes -/
theorem gcd_cast (t b : Int) : ((t.natAbs.gcd b.natAbs : Nat) : Int) = (Int.gcd b t : Int) := by
  rw [Nat.gcd_comm]; rfl
theorem fdiv_exact {t g : Int} (h : g ∣ t) : t.fdiv g = t / g := Int.fdiv_eq_ediv_of_dvd h
theorem divInt_top {t b : Int} (h : b ≠ 0) : t.fdiv (if b < 0 then -((t.natAbs.gcd b.natAbs : Nat) : Int) else ((t.natAbs.gcd b.natAbs : Nat) : Int)) = (Rat.divInt t b).num := by
  rw [Rat.num_divInt, gcd_cast]
  have d : (Int.gcd b t : Int) ∣ t := Int.gcd_dvd_right ..
  by_cases hb : b < 0
  · rw [if_pos hb, Int.sign_eq_neg_one_of_neg hb, fdiv_exact (Int.neg_dvd.mpr d), Int.ediv_neg]
    obtain ⟨c, e⟩ := d
    have g0 : (Int.gcd b t : Int) ≠ 0 := fun z => by
      have := Int.gcd_eq_zero_iff.mp (by omega : Int.gcd b t = 0)
      omega
    have e2 : -1 * t = (Int.gcd b t : Int) * (-c) := by rw [Int.mul_neg, ← e]; omega
    rw [e2, Int.mul_ediv_cancel_left _ g0]
    have e3 : t / (Int.gcd b t : Int) = c := by
      conv => lhs; lhs; rw [e]
      exact Int.mul_ediv_cancel_left _ g0
    rw [e3]
  · rw [if_neg hb, Int.sign_eq_one_of_pos (by omega), fdiv_exact d, Int.one_mul]
theorem divInt_bot {t b : Int} (h : b ≠ 0) : b.fdiv (if b < 0 then -((t.natAbs.gcd b.natAbs : Nat) : Int) else ((t.natAbs.gcd b.natAbs : Nat) : Int)) = ((Rat.divInt t b).den : Int) := by
  rw [Rat.den_divInt, if_neg h, gcd_cast]
  have d : (Int.gcd b t : Int) ∣ b := Int.gcd_dvd_left ..
  have g0 : (Int.gcd b t : Int) ≠ 0 := fun z => by
      have := Int.gcd_eq_zero_iff.mp (by omega : Int.gcd b t = 0)
      omega
  obtain ⟨c, e⟩ := d
  have e3 : b / (Int.gcd b t : Int) = c := by
      conv => lhs; lhs; rw [e]
      exact Int.mul_ediv_cancel_left _ g0
  by_cases hb : b < 0
  · rw [if_pos hb, fdiv_exact (Int.neg_dvd.mpr (Int.gcd_dvd_left ..)), Int.ediv_neg, e3]
    have : (b.natAbs : Int) = -b := by omega
    rw [Int.natCast_ediv, this]
    have e4 : -b = (Int.gcd b t : Int) * (-c) := by rw [Int.mul_neg, ← e]
    rw [e4, Int.mul_ediv_cancel_left _ g0]
  · rw [if_neg hb, fdiv_exact (Int.gcd_dvd_left ..), e3]
    have : (b.natAbs : Int) = b := by omega
    rw [Int.natCast_ediv, this, e3]
/-- a number of at most n bits -/
def LbI (n : Nat) (z : Int) : Prop := z.natAbs < 2 ^ n
def Bits (n : Nat) (x : Rat) : Prop := LbI n x.num ∧ LbI n x.den
theorem LbI.mono {n m : Nat} {z : Int} (h : LbI n z) (l : n ≤ m) : LbI m z := Nat.lt_of_lt_of_le h (Nat.pow_le_pow_right (by decide) l)
theorem Bits.mono {n m : Nat} {x : Rat} (h : Bits n x) (l : n ≤ m) : Bits m x := ⟨h.1.mono l, h.2.mono l⟩
theorem LbI.mul {n m : Nat} {a b : Int} (h : LbI n a) (g : LbI m b) : LbI (n + m) (a * b) := by
  unfold LbI at *
  rw [Int.natAbs_mul, Nat.pow_add]
  exact Nat.mul_lt_mul'' h g
theorem LbI.neg {n : Nat} {a : Int} (h : LbI n a) : LbI n (-a) := by unfold LbI at *; rw [Int.natAbs_neg]; exact h
theorem LbI.add {n : Nat} {a b : Int} (h : LbI n a) (g : LbI n b) : LbI (n + 1) (a + b) := by
  unfold LbI at *
  have := Int.natAbs_add_le a b
  rw [Nat.pow_succ]; omega
theorem LbI.sub {n : Nat} {a b : Int} (h : LbI n a) (g : LbI n b) : LbI (n + 1) (a - b) := by
  rw [Int.sub_eq_add_neg]; exact h.add g.neg
theorem LbI.of_le {n : Nat} {a b : Int} (h : LbI n a) (l : b.natAbs ≤ a.natAbs) : LbI n b := Nat.lt_of_le_of_lt l h
theorem LbI.nat {n k : Nat} (h : k < 2 ^ n) : LbI n (k : Int) := h
theorem natAbs_div_le (a b : Int) : (a / b).natAbs ≤ a.natAbs := by
  by_cases h : b = 0
  · subst h; simp
  exact Int.natAbs_ediv_le_natAbs a b
theorem Bits.divInt {n : Nat} {t b : Int} (h : LbI n t) (g : LbI n b) (b0 : b ≠ 0) : Bits n (Rat.divInt t b) := by
  constructor
  · rw [Rat.num_divInt]
    refine h.of_le (Nat.le_trans (natAbs_div_le _ _) ?_)
    rw [Int.natAbs_mul]
    have : b.sign.natAbs ≤ 1 := by
      rcases Int.lt_trichotomy b 0 with z | z | z
      · rw [Int.sign_eq_neg_one_of_neg z]; decide
      · rw [z]; decide
      · rw [Int.sign_eq_one_of_pos z]; decide
    have := Nat.mul_le_mul_right t.natAbs this
    omega
  · rw [Rat.den_divInt, if_neg b0]
    exact g.of_le (Nat.div_le_self _ _)
theorem divInt_mul (x y : Rat) : Rat.divInt (x.num * y.num) (x.den * y.den) = x * y := by
  rw [← Rat.divInt_mul_divInt, Rat.num_divInt_den, Rat.num_divInt_den]
theorem divInt_sub (x y : Rat) : Rat.divInt (x.num * y.den - y.num * x.den) (x.den * y.den) = x - y := by
  have h := Rat.sub_def' x y
  rw [h, ← Rat.divInt_ofNat, Int.natCast_mul]
theorem divInt_add (x y : Rat) : Rat.divInt (x.num * y.den + y.num * x.den) (x.den * y.den) = x + y := by
  have h := Rat.add_def' x y
  rw [h, ← Rat.divInt_ofNat, Int.natCast_mul]
theorem divInt_over (x y : Rat) : Rat.divInt (x.num * y.den) (x.den * y.num) = x / y := by
  rw [← Rat.divInt_mul_divInt, Rat.num_divInt_den, Rat.div_def, Rat.inv_def]
theorem divInt_self (x : Rat) : Rat.divInt x.num x.den = x := Rat.num_divInt_den x
theorem divInt_frac (z b : Int) : Rat.divInt z b = (z : Rat) / b := Rat.divInt_eq_div z b
theorem num_ne {x : Rat} (h : x ≠ 0) : x.num ≠ 0 := fun z => h (Rat.num_eq_zero.mp z)
theorem den_pos (x : Rat) : (0 : Int) < x.den := by have := x.den_pos; omega
theorem rat_red (x : Rat) : Int.gcd x.num x.den = 1 := x.reduced
theorem red_rat {p q : Int} (h0 : 0 < q) (h : Int.gcd p q = 1) : (Rat.divInt p q).num = p ∧ ((Rat.divInt p q).den : Int) = q := by
  have g : Int.gcd q p = 1 := by rw [Int.gcd_comm]; exact h
  rw [Rat.num_divInt, Rat.den_divInt, if_neg (by omega), g, Int.sign_eq_one_of_pos h0]
  constructor
  · simp
  · simp; omega
/-! ### polynomials by their coefficients -/
def co (xs : List Rat) (i : Nat) : Rat := xs.getD i 0
def sumN (f : Nat → Rat) : Nat → Rat
  | 0 => 0
  | n + 1 => sumN f n + f n
def sh (i : Nat) (g : Nat → Rat) (n : Nat) : Rat := if n < i then 0 else g (n - i)
def prodc (xs : List Rat) (g : Nat → Rat) (n : Nat) : Rat := sumN (fun i => co xs i * sh i g n) xs.length
def single (m : Nat) (c : Rat) (n : Nat) : Rat := if n = m then c else 0
/-- told: no nought at the end -/
def Told (xs : List Rat) : Prop := ∀ z, xs.getLast? = some z → z ≠ 0
theorem sumN_congr {f g : Nat → Rat} : ∀ {n : Nat}, (∀ i, i < n → f i = g i) → sumN f n = sumN g n
  | 0, _ => rfl
  | n + 1, h => by
    show sumN f n + f n = sumN g n + g n
    rw [sumN_congr fun i hi => h i (by omega), h n (by omega)]
theorem sumN_zero {f : Nat → Rat} : ∀ {n : Nat}, (∀ i, i < n → f i = 0) → sumN f n = 0
  | 0, _ => rfl
  | n + 1, h => by
    show sumN f n + f n = 0
    rw [sumN_zero fun i hi => h i (by omega), h n (by omega)]; grind
theorem sumN_add {f g : Nat → Rat} : ∀ n : Nat, sumN (fun i => f i + g i) n = sumN f n + sumN g n
  | 0 => by show (0 : Rat) = 0 + 0; grind
  | n + 1 => by
    show sumN (fun i => f i + g i) n + (f n + g n) = (sumN f n + f n) + (sumN g n + g n)
    rw [sumN_add n]; grind
theorem sumN_mul {f : Nat → Rat} (c : Rat) : ∀ n : Nat, sumN (fun i => c * f i) n = c * sumN f n
  | 0 => by show (0 : Rat) = c * 0; grind
  | n + 1 => by
    show sumN (fun i => c * f i) n + c * f n = c * (sumN f n + f n)
    rw [sumN_mul c n]; grind
theorem sumN_one {f : Nat → Rat} {m : Nat} : ∀ {n : Nat}, m < n → (∀ i, i < n → i ≠ m → f i = 0) → sumN f n = f m
  | 0, h, _ => absurd h (Nat.not_lt_zero _)
  | n + 1, h, h0 => by
    show sumN f n + f n = f m
    by_cases e : n = m
    · subst e
      rw [sumN_zero fun i hi => h0 i (by omega) (by omega)]; grind
    · rw [sumN_one (by omega) fun i hi => h0 i (by omega), h0 n (by omega) e]; grind
theorem co_out {xs : List Rat} {i : Nat} (h : xs.length ≤ i) : co xs i = 0 := by
  unfold co; rw [List.getD_eq_getElem?_getD, List.getElem?_eq_none h]; rfl
theorem co_at {xs : List Rat} {i : Nat} {x : Rat} (h : xs[i]? = some x) : co xs i = x := by
  unfold co; rw [List.getD_eq_getElem?_getD, h]; rfl
theorem co_nil (i : Nat) : co [] i = 0 := rfl
theorem prodc_add (xs : List Rat) (g h : Nat → Rat) (n : Nat) : prodc xs (fun i => g i + h i) n = prodc xs g n + prodc xs h n := by
  unfold prodc
  rw [← sumN_add]
  refine sumN_congr fun i _ => ?_
  unfold sh; split <;> grind
theorem prodc_sub (xs : List Rat) (g h : Nat → Rat) (n : Nat) : prodc xs (fun i => g i - h i) n = prodc xs g n - prodc xs h n := by
  have e := prodc_add xs (fun i => g i - h i) h n
  have e2 : (fun i => g i - h i + h i) = g := funext fun i => by grind
  rw [e2] at e
  grind
theorem prodc_single (xs : List Rat) (m : Nat) (c : Rat) (n : Nat) : prodc xs (single m c) n = if n < m then 0 else c * co xs (n - m) := by
  unfold prodc
  by_cases h : n < m
  · rw [if_pos h]
    refine sumN_zero fun i hi => ?_
    unfold sh single
    split
    · grind
    · rw [if_neg (by omega)]; grind
  · rw [if_neg h]
    by_cases l : n - m < xs.length
    · rw [sumN_one l fun i hi ne => ?_]
      · unfold sh single
        rw [if_neg (by omega), if_pos (by omega)]; grind
      · unfold sh single
        split
        · grind
        · rw [if_neg (by omega)]; grind
    · rw [co_out (by omega), sumN_zero fun i hi => ?_]
      · grind
      · unfold sh single
        split
        · grind
        · rw [if_neg (by omega)]; grind
theorem prodc_congr {xs : List Rat} {g h : Nat → Rat} (e : ∀ i, g i = h i) (n : Nat) : prodc xs g n = prodc xs h n := by rw [funext e]
/-- the highest one -/
theorem prodc_top {xs : List Rat} {g : Nat → Rat} {m s : Nat} (hs : xs.length = s + 1) (hg : ∀ i, m < i → g i = 0) : prodc xs g (s + m) = co xs s * g m := by
  unfold prodc
  rw [hs, sumN_one (m := s) (by omega) fun i hi ne => ?_]
  · unfold sh; rw [if_neg (by omega)]; congr 2; omega
  · unfold sh
    rw [if_neg (by omega), hg _ (by omega)]; grind
theorem told_top {xs : List Rat} (t : Told xs) (h : xs ≠ []) : co xs (xs.length - 1) ≠ 0 := by
  have e : xs.getLast? = some (xs.getLast h) := List.getLast?_eq_some_getLast h
  rw [List.getLast?_eq_getElem?] at e
  rw [co_at e]
  exact t _ (by rw [List.getLast?_eq_getElem?]; exact e)
theorem told_of_top {xs : List Rat} (h : xs ≠ [] → co xs (xs.length - 1) ≠ 0) : Told xs := fun z hz => by
  have n : xs ≠ [] := fun e => by rw [e] at hz; cases hz
  rw [List.getLast?_eq_getElem?] at hz
  have := h n
  rw [co_at hz] at this
  exact this
theorem told_nil : Told [] := fun z h => by cases h
/-- told lists with the same coefficients are the same -/
theorem told_ext {xs ys : List Rat} (tx : Told xs) (ty : Told ys) (e : ∀ i, co xs i = co ys i) : xs = ys := by
  have l : ∀ {as bs : List Rat}, Told as → (∀ i, co as i = co bs i) → as.length ≤ bs.length := fun {as bs} ta e => by
    by_cases n : as = []
    · rw [n]; exact Nat.zero_le _
    · have t := told_top ta n
      have : 0 < as.length := List.length_pos_iff.mpr n
      by_cases h : as.length ≤ bs.length
      · exact h
      · rw [e, co_out (by omega)] at t
        exact absurd rfl t
  have le := Nat.le_antisymm (l tx e) (l ty fun i => (e i).symm)
  refine List.ext_getElem le fun i h1 h2 => ?_
  have := e i
  rw [co_at (List.getElem?_eq_getElem h1), co_at (List.getElem?_eq_getElem h2)] at this
  exact this
/-- quotient and rest are the only ones -/
theorem div_unique {S : List Rat} {Q1 Q2 R1 R2 : List Rat} (hS : S ≠ []) (tS : Told S) (q1 : Told Q1) (q2 : Told Q2) (r1 : Told R1) (r2 : Told R2) (l1 : R1.length < S.length) (l2 : R2.length < S.length)
    (h : ∀ n, prodc S (co Q1) n + co R1 n = prodc S (co Q2) n + co R2 n) : Q1 = Q2 ∧ R1 = R2 := by
  have top := told_top tS hS
  have ls : S.length = (S.length - 1) + 1 := by omega
  have D : ∀ k m, m + k = max Q1.length Q2.length → ∀ i, m ≤ i → co Q1 i - co Q2 i = 0 := by
    intro k
    induction k with
    | zero =>
      intro m hm i hi
      rw [co_out (by omega), co_out (by omega)]; grind
    | succ k ih =>
      intro m hm i hi
      have above := ih (m + 1) (by omega)
      by_cases e : i = m
      · subst e
        have t := prodc_top (g := fun i => co Q1 i - co Q2 i) (m := i) ls (fun j hj => above j (by omega))
        rw [prodc_sub] at t
        have hn := h (S.length - 1 + i)
        rw [co_out (xs := R1) (by omega), co_out (xs := R2) (by omega)] at hn
        have z : co S (S.length - 1) * (co Q1 i - co Q2 i) = 0 := by grind
        rcases Rat.mul_eq_zero.mp z with y | y
        · exact absurd y top
        · exact y
      · exact above i (by omega)
  have eQ : ∀ i, co Q1 i = co Q2 i := fun i => by
    have := D (max Q1.length Q2.length) 0 (by omega) i (Nat.zero_le _)
    grind
  refine ⟨told_ext q1 q2 eQ, told_ext r1 r2 fun n => ?_⟩
  have := h n
  rw [prodc_congr eQ] at this
  grind
/-! ### one step of the division -/
theorem co_take {xs : List Rat} {k n : Nat} (h : n < k) : co (xs.take k) n = co xs n := by
  unfold co; rw [List.getD_eq_getElem?_getD, List.getD_eq_getElem?_getD, List.getElem?_take_of_lt h]
theorem co_append_left {xs ys : List Rat} {n : Nat} (h : n < xs.length) : co (xs ++ ys) n = co xs n := by
  unfold co; rw [List.getD_eq_getElem?_getD, List.getD_eq_getElem?_getD, List.getElem?_append_left h]
theorem co_append_right {xs ys : List Rat} {n : Nat} (h : xs.length ≤ n) : co (xs ++ ys) n = co ys (n - xs.length) := by
  unfold co; rw [List.getD_eq_getElem?_getD, List.getD_eq_getElem?_getD, List.getElem?_append_right h]
/-- what is left behind a part c -/
def restOf (c : Rat) (S xs : List Rat) : List Rat := xs.take (xs.length - S.length) ++ (List.zipWith (fun a b => a - c * b) (xs.drop (xs.length - S.length)) S).dropLast
theorem restOf_len {c : Rat} {S xs : List Rat} (hS : 0 < S.length) (h : S.length ≤ xs.length) : (restOf c S xs).length = xs.length - 1 := by
  unfold restOf
  rw [List.length_append, List.length_take, List.length_dropLast, List.length_zipWith, List.length_drop]
  omega
theorem restOf_co {c : Rat} {S xs : List Rat} (hS : 0 < S.length) (h : S.length ≤ xs.length) (hc : co xs (xs.length - 1) = c * co S (S.length - 1)) (n : Nat) :
    co xs n = prodc S (single (xs.length - S.length) c) n + co (restOf c S xs) n := by
  rw [prodc_single]
  by_cases h1 : n < xs.length - S.length
  · rw [if_pos h1]
    unfold restOf
    rw [co_append_left (by rw [List.length_take]; omega), co_take h1]; grind
  · rw [if_neg h1]
    by_cases h2 : n < xs.length - 1
    · unfold restOf
      rw [co_append_right (by rw [List.length_take]; omega), List.length_take, Nat.min_eq_left (by omega)]
      have l : n - (xs.length - S.length) < (List.zipWith (fun a b => a - c * b) (xs.drop (xs.length - S.length)) S).dropLast.length := by
        rw [List.length_dropLast, List.length_zipWith, List.length_drop]; omega
      have e : (List.zipWith (fun a b => a - c * b) (xs.drop (xs.length - S.length)) S).dropLast[n - (xs.length - S.length)]? = some (co xs n - c * co S (n - (xs.length - S.length))) := by
        rw [List.getElem?_eq_getElem l, List.getElem_dropLast, List.getElem_zipWith, List.getElem_drop]
        congr 2
        · rw [co_at (x := xs[xs.length - S.length + (n - (xs.length - S.length))]'(by omega))]
          rw [List.getElem?_eq_some_iff]
          refine ⟨by omega, ?_⟩
          congr 1; omega
        · congr 1
          rw [co_at (List.getElem?_eq_getElem _)]
      rw [co_at e]; grind
    · rw [co_out (xs := restOf c S xs) (by rw [restOf_len hS h]; omega)]
      by_cases h3 : n = xs.length - 1
      · rw [h3, hc, show xs.length - 1 - (xs.length - S.length) = S.length - 1 by omega]; grind
      · rw [co_out (by omega), co_out (xs := S) (by omega)]; grind
/-- the parts so far, by their places -/
def qf (L : Nat) (qs : List Rat) (i : Nat) : Rat := if i ≤ L ∧ L - i < qs.length then co qs (L - i) else 0
theorem qf_nil (L i : Nat) : qf L [] i = 0 := by
  unfold qf; rw [if_neg]; simp
theorem qf_snoc {L : Nat} {qs : List Rat} {c : Rat} (h : qs.length ≤ L) (i : Nat) : qf L (qs ++ [c]) i = qf L qs i + single (L - qs.length) c i := by
  unfold qf single
  rw [List.length_append, List.length_singleton]
  by_cases h1 : i ≤ L ∧ L - i < qs.length
  · rw [if_pos h1, if_pos (by omega), co_append_left h1.2, if_neg (by omega)]; grind
  · rw [if_neg h1]
    by_cases h2 : i = L - qs.length
    · rw [if_pos (by omega), if_pos h2, co_append_right (by omega), show L - i - qs.length = 0 by omega]
      show c = 0 + c
      grind
    · rw [if_neg h2]
      by_cases h3 : i ≤ L ∧ L - i < qs.length + 1
      · omega
      · rw [if_neg h3]; grind
theorem qf_rev {L : Nat} {qs : List Rat} (h : qs.length = L + 1) (i : Nat) : qf L qs i = co qs.reverse i := by
  unfold qf
  by_cases h1 : i ≤ L
  · rw [if_pos ⟨h1, by omega⟩]
    have : qs.reverse[i]? = qs[L - i]? := by
      rw [List.getElem?_reverse (by omega)]; congr 1; omega
    unfold co
    rw [List.getD_eq_getElem?_getD, List.getD_eq_getElem?_getD, this]
  · rw [if_neg (by omega), co_out (by rw [List.length_reverse]; omega)]
end Fp
namespace Fp
/-- without the noughts at the end -/
def trimQ (xs : List Rat) : List Rat := (xs.reverse.dropWhile fun x => x == 0).reverse
theorem trimQ_nil : trimQ [] = [] := rfl
theorem trimQ_zero {A : List Rat} {x : Rat} (h : x = 0) : trimQ (A ++ [x]) = trimQ A := by
  unfold trimQ
  rw [List.reverse_append, List.reverse_singleton, List.singleton_append, List.dropWhile_cons, if_pos (by simp [h])]
theorem trimQ_nz {A : List Rat} {x : Rat} (h : x ≠ 0) : trimQ (A ++ [x]) = A ++ [x] := by
  unfold trimQ
  rw [List.reverse_append, List.reverse_singleton, List.singleton_append, List.dropWhile_cons, if_neg (by simp [h])]
  simp
theorem snoc_cases {α : Type} (l : List α) : l = [] ∨ ∃ A x, l = A ++ [x] := by
  rcases List.eq_nil_or_concat l with e | ⟨A, x, e⟩
  · exact .inl e
  · exact .inr ⟨A, x, by rw [e, List.concat_eq_append]⟩
/-- by the last one -/
theorem snoc_ind {α : Type} {φ : List α → Prop} (h0 : φ []) (h1 : ∀ A x, φ A → φ (A ++ [x])) : ∀ l, φ l := fun l => by
  have : ∀ n (l : List α), l.length = n → φ l := by
    intro n
    induction n with
    | zero => intro l e; rw [List.length_eq_zero_iff.mp e]; exact h0
    | succ n ih =>
      intro l e
      rcases snoc_cases l with z | ⟨A, x, rfl⟩
      · rw [z] at e; cases e
      · exact h1 A x (ih A (by rw [List.length_append] at e; simpa using e))
  exact this _ l rfl
theorem trimQ_told (xs : List Rat) : Told (trimQ xs) := by
  induction xs using snoc_ind with
  | h0 => exact told_nil
  | h1 A x ih =>
    by_cases h : x = 0
    · rw [trimQ_zero h]; exact ih
    · rw [trimQ_nz h]; intro z hz
      rw [List.getLast?_concat] at hz
      obtain rfl := Option.some.inj hz
      exact h
theorem trimQ_co (xs : List Rat) (n : Nat) : co (trimQ xs) n = co xs n := by
  induction xs using snoc_ind with
  | h0 => rfl
  | h1 A x ih =>
    by_cases h : x = 0
    · rw [trimQ_zero h, ih]
      by_cases l : n < A.length
      · rw [co_append_left l]
      · rw [co_append_right (by omega), co_out (by omega)]
        cases hh : n - A.length with
        | zero => exact h.symm
        | succ k => rfl
    · rw [trimQ_nz h]
theorem trimQ_len (xs : List Rat) : (trimQ xs).length ≤ xs.length := by
  unfold trimQ
  rw [List.length_reverse]
  have := (List.dropWhile_suffix (fun x : Rat => x == 0) (l := xs.reverse)).length_le
  rw [List.length_reverse] at this
  exact this
theorem trimQ_mem {xs : List Rat} {x : Rat} (h : x ∈ trimQ xs) : x ∈ xs := by
  unfold trimQ at h
  have h2 := (List.dropWhile_sublist _).mem (List.mem_reverse.mp h)
  exact List.mem_reverse.mp h2
theorem trimQ_id {xs : List Rat} (h : Told xs) : trimQ xs = xs := told_ext (trimQ_told xs) h (trimQ_co xs)
/-- top and bottom of a number -/
def nd (x : Rat) : Int × Int := (x.num, x.den)
theorem nd_zero {x : Rat} : ((nd x).1 = 0) ↔ x = 0 := Rat.num_eq_zero
theorem nd_inj {x y : Rat} (h : nd x = nd y) : x = y := by
  have h1 : x.num = y.num := congrArg Prod.fst h
  have h2 : (x.den : Int) = y.den := congrArg Prod.snd h
  exact Rat.ext h1 (by omega)
end Fp

namespace Fp
open PySem PySem.Spec PyProof.Rows L2
/-! ### // by any number but 0, sizes -/
def CDivNW (_ j : Int) : Prop := j ≠ 0 ∧ j.natAbs.log2 < 9000
theorem op_fdivNW {X : Cx} : OpR X (binaryOp .FloorDiv) (rI CDivNW fun i j => .int (i.fdiv j)) := opI fun _ _ _ _ _ _ _ hc q => floordiv_int hc.1 q (.inl (PyProof.noPylong_of_log2 hc.2))
theorem LbI.log {n : Nat} {z : Int} (h : LbI n z) : z.natAbs.log2 ≤ n := by
  by_cases e : z.natAbs = 0
  · rw [e]; exact Nat.zero_le _
  · exact Nat.le_of_lt ((Nat.log2_lt e).mpr h)
theorem LbI.div {n : Nat} {i z : Int} (h : LbI n z) (l : n ≤ 8990) (h0 : z ≠ 0) : CDivNW i z := ⟨h0, by have := h.log; omega⟩
theorem LbI.cm {n m : Nat} {a b : Int} (h : LbI n a) (g : LbI m b) (l : n + m ≤ 999990) : CMulW a b := by
  have := h.log
  have := g.log
  unfold CMulW
  omega
theorem LbI.small {a : Int} {k : Nat} (h : a.natAbs < 2 ^ k) : LbI k a := h
theorem LbI.zero {n : Nat} : LbI n 0 := Nat.two_pow_pos n
/-! ### Ratios -/
def RQ (C : Addr) (H : Hp) (a : Addr) (x : Rat) : Prop := Rat2 C H a x.num x.den
theorem RQ.same {C : Addr} {H H' : Hp} {a : Addr} {x : Rat} (h : RQ C H a x) (e : Same H H') : RQ C H' a x := Rat2.same h e
abbrev QL (C : Addr) (H : Hp) (us : List V) (xs : List Rat) : Prop := RatL C H us (xs.map nd)
def NumQ (C : Addr) (H : Hp) (v : V) (x : Rat) : Prop := NumV C H v x.num x.den
theorem NumQ.same {C : Addr} {H H' : Hp} {v : V} {x : Rat} (h : NumQ C H v x) (e : Same H H') : NumQ C H' v x := NumV.same h e
theorem RQ.nq {C : Addr} {H : Hp} {a : Addr} {x : Rat} (h : RQ C H a x) : NumQ C H (.ref a) x := .inr ⟨a, rfl, h⟩
theorem NumQ.int {C : Addr} {H : Hp} {i : Int} : NumQ C H (.int i) (i : Rat) := .inl ⟨rfl, rfl⟩
theorem RQ.red {x : Rat} : RdI x.num x.den := ⟨den_pos x, x.reduced⟩
theorem NumQ.own {C : Addr} {H : Hp} {v : V} {x : Rat} (h : NumQ C H v x) : (∃ i, v = .int i) ∨ ∃ b dy gs, v = .ref b ∧ H b = some (.ins C dy gs) := by
  rcases h with ⟨h1, _⟩ | ⟨c, h1, dy, h2⟩
  · exact .inl ⟨_, h1⟩
  · exact .inr ⟨c, dy, _, h1, h2⟩
theorem QL.at {C : Addr} {H : Hp} {us : List V} {xs : List Rat} (h : QL C H us xs) {i : Nat} {v : V} (hv : us[i]? = some v) : ∃ x a, xs[i]? = some x ∧ v = .ref a ∧ RQ C H a x := by
  obtain ⟨pq, a, h1, h2, h3⟩ := h.at_ i v hv
  rw [List.getElem?_map] at h1
  cases e : xs[i]? with
  | none => rw [e] at h1; cases h1
  | some x => rw [e] at h1; obtain rfl := Option.some.inj h1; exact ⟨x, a, rfl, h2, h3⟩
theorem QL.len {C : Addr} {H : Hp} {us : List V} {xs : List Rat} (h : QL C H us xs) : us.length = xs.length := by rw [RatL.len h, List.length_map]
theorem QL.nil {C : Addr} {H : Hp} : QL C H [] [] := RatL.nil
theorem QL.mk {C : Addr} {H : Hp} {us : List V} {xs : List Rat} (l : us.length = xs.length) (h : ∀ (i : Nat) v x, us[i]? = some v → xs[i]? = some x → ∃ a, v = .ref a ∧ RQ C H a x) : QL C H us xs :=
  ⟨by rw [List.length_map]; exact l, fun i v hv => by
    have li := (List.getElem?_eq_some_iff.mp hv).1
    have hx : xs[i]? = some xs[i] := List.getElem?_eq_getElem (by omega)
    obtain ⟨a, h1, h2⟩ := h i v _ hv hx
    exact ⟨nd xs[i], a, by rw [List.getElem?_map, hx]; rfl, h1, h2⟩⟩
theorem QL.snoc {C : Addr} {H : Hp} {us : List V} {xs : List Rat} (h : QL C H us xs) {a : Addr} {x : Rat} (r : RQ C H a x) : QL C H (us ++ [.ref a]) (xs ++ [x]) := by
  have := RatL.snoc h r
  show RatL C H _ ((xs ++ [x]).map nd)
  rw [List.map_append]; exact this
theorem QL.take {C : Addr} {H : Hp} {us : List V} {xs : List Rat} (h : QL C H us xs) (n : Nat) : QL C H (us.take n) (xs.take n) := by
  have := RatL.take h n
  show RatL C H _ ((xs.take n).map nd)
  rw [List.map_take]; exact this
theorem QL.drop {C : Addr} {H : Hp} {us : List V} {xs : List Rat} (h : QL C H us xs) (n : Nat) : QL C H (us.drop n) (xs.drop n) :=
  QL.mk (by rw [List.length_drop, List.length_drop, h.len]) fun i v x hv hx => by
    rw [List.getElem?_drop] at hv hx
    obtain ⟨y, a, h1, h2, h3⟩ := h.at hv
    rw [hx] at h1
    obtain rfl := Option.some.inj h1
    exact ⟨a, h2, h3⟩
theorem QL.app {C : Addr} {H : Hp} {us ws : List V} {xs ys : List Rat} (h : QL C H us xs) (g : QL C H ws ys) : QL C H (us ++ ws) (xs ++ ys) :=
  QL.mk (by rw [List.length_append, List.length_append, h.len, g.len]) fun i v x hv hx => by
    have l := h.len
    by_cases z : i < us.length
    · rw [List.getElem?_append_left z] at hv
      rw [List.getElem?_append_left (by omega)] at hx
      obtain ⟨y, a, h1, h2, h3⟩ := h.at hv
      rw [hx] at h1
      obtain rfl := Option.some.inj h1
      exact ⟨a, h2, h3⟩
    · rw [List.getElem?_append_right (by omega)] at hv hx
      rw [l] at hv
      obtain ⟨y, a, h1, h2, h3⟩ := g.at hv
      rw [hx] at h1
      obtain rfl := Option.some.inj h1
      exact ⟨a, h2, h3⟩
theorem QL.dropLast {C : Addr} {H : Hp} {us : List V} {xs : List Rat} (h : QL C H us xs) : QL C H us.dropLast xs.dropLast := by
  rw [List.dropLast_eq_take, List.dropLast_eq_take, h.len]; exact h.take _
theorem QL.rev {C : Addr} {H : Hp} {us : List V} {xs : List Rat} (h : QL C H us xs) : QL C H us.reverse xs.reverse :=
  QL.mk (by rw [List.length_reverse, List.length_reverse, h.len]) fun i v x hv hx => by
    have li := (List.getElem?_eq_some_iff.mp hv).1
    rw [List.length_reverse] at li
    have l := h.len
    rw [List.getElem?_reverse (by omega)] at hv hx
    rw [l] at hv
    obtain ⟨y, a, h1, h2, h3⟩ := h.at hv
    rw [hx] at h1
    obtain rfl := Option.some.inj h1
    exact ⟨a, h2, h3⟩
theorem trimP_nd (xs : List Rat) : trimP (xs.map nd) = (trimQ xs).map nd := by
  induction xs using snoc_ind with
  | h0 => rfl
  | h1 A x ih =>
    rw [List.map_append]
    by_cases h : x = 0
    · rw [trimQ_zero h, ← ih]
      exact trimP_zero (nd_zero.mpr h)
    · rw [trimQ_nz h, List.map_append]
      exact trimP_nz fun z => h (nd_zero.mp z)
/-! ### Ratio(t, b), its methods -/
def spRQ (C : Addr) : Sp := fun vs H Q _ => ∃ (p dx : Addr) (t b : Int), vs = [.ref p, .int t, .int b] ∧ b ≠ 0 ∧ LbI 8990 b ∧ H p = some (.ins C dx []) ∧ ∀ H', (∀ b o, b ≠ p → H b = some o → H' b = some o) → H' p = some (.ins C dx [("_top", .int (Rat.divInt t b).num), ("_bottom", .int (Rat.divInt t b).den)]) → Q .non H'
structure RDefQ (P : Program) (w : World) (K : PySem.W.Frag) (mg : Str → Option Value) (base : Heap) (k : Nat) (C : Addr) : Prop where
  ex : ∃ (fI fR : Addr) (fdI : FuncData), RCls K mg C fI fR ∧ FnOk P w K mg base CX0 k fI fdI ["self", "top", "bottom"] (spRQ C) ∧ Binds K fdI ["self", "top", "bottom"] []
def tRatQ (C : Addr) (t : TA) : TE := fun σ H Q => t σ H fun vs H1 => ∃ i j : Int, vs = [.int i, .int j] ∧ j ≠ 0 ∧ LbI 8990 j ∧ ∀ a H', H1 a = none → Same H1 H' → RQ C H' a (Rat.divInt i j) → Q (.ref a) H'
theorem pe_ratQ {X : Cx} {C : Addr} {k : Nat} (D : RDefQ X.prog X.w X.K X.mg X.base k C) (hr : Room (k + 1) X.A) {p pos : Pos} {e : Expr} {es : List Expr} {t : TA} (hg : Gl X "Ratio") (ha : PA X (e :: es) t)
    (he : starEach (e :: es) X.env = (false, eval e X.env) :: starEach es X.env := by rfl) (hpl : (backTo pos (starEach es X.env)).any (·.1) = false := by rfl) : PE X (.Call (.Name "Ratio" p) (e :: es) [] pos) (tRatQ C t) := by
  obtain ⟨fI, fR, fdI, R, FI, bI⟩ := D.ex
  refine ⟨fun pins s σ H Q I h => ?_⟩
  refine wpAny_Call_Name_kw (ld_glob I hg R.mgC ?_ (by decide))
  refine PySem.W.callWith_K (h₀ := X.base) I.ok.mod.kin R.make.kp (thn (ha.run pos pins s σ H _ I h) fun us s1 ⟨vs, H1, I1, r, q⟩ => ⟨I1.kIn, ?_⟩) he hpl
  refine run_make (dvs := []) R.make FI hr bI .nil (pass0 (X := X)) I1 r fun x dx nx ndx ne => ?_
  obtain ⟨i, j, rfl, j0, jb, q⟩ := q
  refine ⟨x, dx, i, j, rfl, j0, jb, upd_same, fun H' kp hx => ⟨rfl, q x H' nx (fun b o e => ?_) ⟨dx, hx⟩⟩⟩
  have n1 := ne_of_none e nx
  exact kp b o n1 (by rw [upd_ne n1, upd_ne (ne_of_none e ndx)]; exact e)
def spMulQ (C : Addr) : Sp := fun vs H Q _ => ∃ (a : Addr) (y : V) (x z : Rat) (n m : Nat), vs = [.ref a, y] ∧ RQ C H a x ∧ NumQ C H y z ∧ Bits n x ∧ Bits m z ∧ n + m ≤ 8900 ∧ ∀ r H', Same H H' → RQ C H' r (x * z) → Q (.ref r) H'
def spSubQ (C : Addr) : Sp := fun vs H Q _ => ∃ (a : Addr) (y : V) (x z : Rat) (n m : Nat), vs = [.ref a, y] ∧ RQ C H a x ∧ NumQ C H y z ∧ Bits n x ∧ Bits m z ∧ n + m ≤ 8900 ∧ ∀ r H', Same H H' → RQ C H' r (x - z) → Q (.ref r) H'
def spAddQ (C : Addr) : Sp := fun vs H Q _ => ∃ (a : Addr) (y : V) (x z : Rat) (n m : Nat), vs = [.ref a, y] ∧ RQ C H a x ∧ NumQ C H y z ∧ Bits n x ∧ Bits m z ∧ n + m ≤ 8900 ∧ ∀ r H', Same H H' → RQ C H' r (x + z) → Q (.ref r) H'
def spOverQ (C : Addr) : Sp := fun vs H Q _ => ∃ (a : Addr) (y : V) (x z : Rat) (n m : Nat), vs = [.ref a, y] ∧ RQ C H a x ∧ NumQ C H y z ∧ Bits n x ∧ Bits m z ∧ n + m ≤ 8900 ∧ z ≠ 0 ∧ ∀ r H', Same H H' → RQ C H' r (x / z) → Q (.ref r) H'
theorem Bits.mul {n m : Nat} {x y : Rat} (h : Bits n x) (g : Bits m y) : Bits (n + m) (x * y) := by
  rw [← divInt_mul]
  exact Bits.divInt (h.1.mul g.1) (h.2.mul g.2) (by have := Int.mul_pos (den_pos x) (den_pos y); omega)
theorem Bits.sub {n m : Nat} {x y : Rat} (h : Bits n x) (g : Bits m y) : Bits (n + m + 1) (x - y) := by
  rw [← divInt_sub]
  refine Bits.divInt ((h.1.mul g.2).sub ?_) ((h.2.mul g.2).mono (by omega)) (by have := Int.mul_pos (den_pos x) (den_pos y); omega)
  have := g.1.mul h.2
  rw [Nat.add_comm m n] at this
  exact this
theorem Bits.add {n m : Nat} {x y : Rat} (h : Bits n x) (g : Bits m y) : Bits (n + m + 1) (x + y) := by
  rw [← divInt_add]
  refine Bits.divInt ((h.1.mul g.2).add ?_) ((h.2.mul g.2).mono (by omega)) (by have := Int.mul_pos (den_pos x) (den_pos y); omega)
  have := g.1.mul h.2
  rw [Nat.add_comm m n] at this
  exact this
theorem Bits.over {n m : Nat} {x y : Rat} (h : Bits n x) (g : Bits m y) (h0 : y ≠ 0) : Bits (n + m) (x / y) := by
  rw [← divInt_over]
  refine Bits.divInt (h.1.mul g.2) (h.2.mul g.1) fun z => ?_
  rcases Int.mul_eq_zero.mp z with e | e
  · have := den_pos x; omega
  · exact num_ne h0 e
end Fp

namespace K21
open PySem PySem.Spec PyProof.Rows L2 Fp
section
variable {P : Program} {w : World} {K : PySem.W.Frag} {mg : Str → Option Value} {base : Heap} {k : Nat}
/-! ### the class Ratio -/
-- slots: self 0, top 1, bottom 2, shared 3
abbrev s_Ratio___init__ : Stmt := inClass (top 17) 0
abbrev N_Ratio___init__ : List Str := ["self", "top", "bottom", "shared"]
theorem sc_Ratio___init__ : FnScope N_Ratio___init__ ["self", "top", "bottom"] (defScope s_Ratio___init__) := ⟨rfl, rfl, rfl, by decide +kernel, rfl, by decide +kernel, by decide +kernel⟩
-- slots: self 0
abbrev s_Ratio___repr__ : Stmt := inClass (top 17) 19
abbrev N_Ratio___repr__ : List Str := ["self"]
theorem sc_Ratio___repr__ : FnScope N_Ratio___repr__ ["self"] (defScope s_Ratio___repr__) := ⟨rfl, rfl, rfl, by decide +kernel, rfl, by decide +kernel, by decide +kernel⟩
theorem d_rinit {C fI fR f : Addr} {fd : FuncData} (F : FunD K "__init__" "Ratio.__init__" (defArgs s_Ratio___init__) (defBody s_Ratio___init__) (defScope s_Ratio___init__) [V.int 1] [] f fd) (R : RCls K mg C fI fR) (M : Mg mg) (D_is_integer : Def P w K mg base k "is_integer" sInteger ["value"] spInteger) :
    FnOk P w K mg base CX0 (k + 1) f fd ["self", "top", "bottom"] (spRI C) := by
  refine F.ok sc_Ratio___init__ (by rintro _ _ _ _ ⟨p, dx, t, b, rfl, _⟩; rfl) fun cdv A outer s H vs Q E hr h => ?_
  obtain ⟨p, dx, t, b, rfl, rd, hp, q⟩ := h
  refine ⟨_, pss_cons (ps_if (pt_not (pt_val (pe_d D_is_integer hr (by rfl) (pa_cons (pv 1) pa_nil)))) pss_never pss_nil)
    (pss_cons (ps_if (PW.pt (pw_or (pt_not (pt_val (pe_d D_is_integer hr (by rfl) (pa_cons (pv 2) pa_nil)))) (pw_or1 (pt_cmpR op_eq (pv 2) pe_int (nomark _))))) pss_never pss_nil)
    (pss_cons (ps_set (i := 3) sc_Ratio___init__.nd rfl (.inl rfl) (pe_callBfun cr_gcd (by rfl) M.gcd  (pa_cons (pv 1) (pa_cons (pv 2) pa_nil))))
    (C8.pss_cut (ps_if (pt_cmpR op_lt (pv 2) pe_int (nomark _))
      (pss_one (ps_set (i := 3) sc_Ratio___init__.nd rfl (.inl rfl) (pe_un un_neg (pv 3))))
      (pss_nil))
    (pss_cons (ps_fld (pv 0) (pe_op op_fdivNW (pv 1) (pv 3)) rfl)
    (pss_one (ps_fld (pv 0) (pe_op op_fdivNW (pv 2) (pv 3)) rfl)))))), ?_⟩
  have b0 := rd.1
  refine ⟨_, rfl, t, rfl, fun H1 s1 => ⟨true, rfl, iteF ⟨_, rfl, b, rfl, fun H2 s2 => ⟨true, rfl, iteF ⟨_, rfl, rfl, _, rfl, iteF2 (decide_eq_false fun z => by injection z with z; omega) ?_⟩⟩⟩⟩⟩
  have hp2 := (s1.trans s2) _ _ hp
  have g1 : ((t.natAbs.gcd (Int.natAbs b) : Nat) : Int) = 1 := by rw [rd.2]; rfl
  refine ⟨_, rfl, _, rfl, t, b, rfl, ?_⟩
  rw [g1]
  refine ⟨fun σ' H' => σ' = [some (.ref p), some (.int t), some (.int b), some (.int 1)] ∧ H' = H2, ⟨_, rfl, b, 0, rfl, rfl, _, rfl, iteF2 (decide_eq_false (by omega)) ⟨rfl, rfl⟩⟩, ?_⟩
  rintro _ _ ⟨rfl, rfl⟩
  rename_i H2
  have f1 : putF "_top" (V.int (t.fdiv 1)) [] = ([("_top", V.int t)] : List (Str × V)) := by rw [Int.fdiv_one]; rfl
  have f2 : putF "_bottom" (V.int (Int.fdiv b 1)) ([("_top", V.int t)] : List (Str × V)) = ([("_top", V.int t), ("_bottom", V.int b)] : List (Str × V)) := by
    show (if ("_top" : Str) = "_bottom" then [(("_top" : Str), V.int (Int.fdiv b 1))] else (("_top" : Str), V.int t) :: putF "_bottom" (V.int (Int.fdiv b 1)) []) = _
    rw [if_neg (by decide +kernel), Int.fdiv_one]; rfl
  refine ⟨_, rfl, _, rfl, t, 1, rfl, rfl, ⟨by omega, by decide⟩, _, rfl, p, C, dx, [], rfl, hp2, R.cl, R.nT, (by show 0 < 1000; decide), ?_⟩
  refine ⟨_, rfl, _, rfl, b, 1, rfl, rfl, ⟨by omega, by decide⟩, _, rfl, p, C, dx, _, rfl, upd_same, R.cl, R.nB, (by rw [f1]; show 1 < 1000; decide), ?_⟩
  rw [f1, f2]
  refine q _ (fun b o nb e => ?_) upd_same
  rw [upd_ne nb, upd_ne nb]
  exact (s1.trans s2) _ _ e
theorem d_rinitQ {C fI fR f : Addr} {fd : FuncData} (F : FunD K "__init__" "Ratio.__init__" (defArgs s_Ratio___init__) (defBody s_Ratio___init__) (defScope s_Ratio___init__) [V.int 1] [] f fd) (R : RCls K mg C fI fR) (M : Mg mg) (D_is_integer : Def P w K mg base k "is_integer" sInteger ["value"] spInteger) :
    FnOk P w K mg base CX0 (k + 1) f fd ["self", "top", "bottom"] (spRQ C) := by
  refine F.ok sc_Ratio___init__ (by rintro _ _ _ _ ⟨p, dx, t, b, rfl, _⟩; rfl) fun cdv A outer s H vs Q E hr h => ?_
  obtain ⟨p, dx, t, b, rfl, b0, bl, hp, q⟩ := h
  refine ⟨_, pss_cons (ps_if (pt_not (pt_val (pe_d D_is_integer hr (by rfl) (pa_cons (pv 1) pa_nil)))) pss_never pss_nil)
    (pss_cons (ps_if (PW.pt (pw_or (pt_not (pt_val (pe_d D_is_integer hr (by rfl) (pa_cons (pv 2) pa_nil)))) (pw_or1 (pt_cmpR op_eq (pv 2) pe_int (nomark _))))) pss_never pss_nil)
    (pss_cons (ps_set (i := 3) sc_Ratio___init__.nd rfl (.inl rfl) (pe_callBfun cr_gcd (by rfl) M.gcd  (pa_cons (pv 1) (pa_cons (pv 2) pa_nil))))
    (C8.pss_cut (ps_if (pt_cmpR op_lt (pv 2) pe_int (nomark _))
      (pss_one (ps_set (i := 3) sc_Ratio___init__.nd rfl (.inl rfl) (pe_un un_neg (pv 3))))
      (pss_nil))
    (pss_cons (ps_fld (pv 0) (pe_op op_fdivNW (pv 1) (pv 3)) rfl)
    (pss_one (ps_fld (pv 0) (pe_op op_fdivNW (pv 2) (pv 3)) rfl)))))), ?_⟩
  refine ⟨_, rfl, t, rfl, fun H1 s1 => ⟨true, rfl, iteF ⟨_, rfl, b, rfl, fun H2 s2 => ⟨true, rfl, iteF ⟨_, rfl, rfl, _, rfl, iteF2 (decide_eq_false fun z => by injection z with z; omega) ?_⟩⟩⟩⟩⟩
  have hp2 := (s1.trans s2) _ _ hp
  have eT := divInt_top (t := t) b0
  have eB := divInt_bot (t := t) b0
  have gl : LbI 8990 ((t.natAbs.gcd b.natAbs : Nat) : Int) := Nat.lt_of_le_of_lt (Nat.gcd_le_right _ (by omega)) bl
  have g0 : ((t.natAbs.gcd b.natAbs : Nat) : Int) ≠ 0 := by
    have := Nat.gcd_pos_of_pos_right t.natAbs (show 0 < b.natAbs by omega)
    omega
  refine ⟨_, rfl, _, rfl, t, b, rfl, ?_⟩
  generalize hg : ((t.natAbs.gcd b.natAbs : Nat) : Int) = g at *
  refine ⟨fun σ' H' => σ' = [some (.ref p), some (.int t), some (.int b), some (.int (if b < 0 then -g else g))] ∧ H' = H2, ⟨_, rfl, b, 0, rfl, rfl, _, rfl, ite2 (fun z => ?_) (fun z => ?_)⟩, ?_⟩
  · have z2 := of_decide_eq_true z
    rw [if_pos z2]
    exact ⟨_, rfl, _, rfl, rfl, rfl⟩
  · have z2 : ¬ b < 0 := fun y => z (decide_eq_true y)
    rw [if_neg z2]
    exact ⟨rfl, rfl⟩
  rintro _ _ ⟨rfl, rfl⟩
  rename_i H2
  have hs : CDivNW t (if b < 0 then -g else g) := by
    split
    · exact gl.neg.div (by omega) (by omega)
    · exact gl.div (by omega) g0
  generalize (if b < 0 then -g else g) = h at *
  have f1 : putF "_top" (V.int (t.fdiv h)) [] = ([("_top", V.int (Rat.divInt t b).num)] : List (Str × V)) := by rw [eT]; rfl
  have f2 : putF "_bottom" (V.int (Int.fdiv b h)) ([("_top", V.int (Rat.divInt t b).num)] : List (Str × V)) = ([("_top", V.int (Rat.divInt t b).num), ("_bottom", V.int (Rat.divInt t b).den)] : List (Str × V)) := by
    show (if ("_top" : Str) = "_bottom" then [(("_top" : Str), V.int (Int.fdiv b h))] else (("_top" : Str), V.int (Rat.divInt t b).num) :: putF "_bottom" (V.int (Int.fdiv b h)) []) = _
    rw [if_neg (by decide +kernel), eB]; rfl
  refine ⟨_, rfl, _, rfl, t, h, rfl, rfl, hs, _, rfl, p, C, dx, [], rfl, hp2, R.cl, R.nT, (by show 0 < 1000; decide), ?_⟩
  refine ⟨_, rfl, _, rfl, b, h, rfl, rfl, hs, _, rfl, p, C, dx, _, rfl, upd_same, R.cl, R.nB, (by rw [f1]; show 1 < 1000; decide), ?_⟩
  rw [f1, f2]
  refine q _ (fun b o nb e => ?_) upd_same
  rw [upd_ne nb, upd_ne nb]
  exact (s1.trans s2) _ _ e
theorem d_rrepr {C fI fR f : Addr} {fd : FuncData} (F : Fun K "__repr__" "Ratio.__repr__" s_Ratio___repr__ f fd) (R : RCls K mg C fI fR) : FnOk P w K mg base CX0 (k + 1) f fd ["self"] (spRR C) := by
  refine F.ok sc_Ratio___repr__ (by rintro _ _ _ _ ⟨p, t, rfl, _⟩; rfl) fun cdv A outer s H vs Q E hr h => ?_
  obtain ⟨a, t, rfl, ⟨p, q, r, b1, b2, rfl⟩, hq⟩ := h
  refine ⟨_, pss_one (ps_ret (pe_joined (.cons pe_str (.cons (pe_fmt (pe_fld (pv 0) rfl)) (.cons pe_str (.cons (pe_fmt (pe_fld (pv 0) rfl)) (.cons pe_str .nil))))))), ?_⟩
  obtain ⟨dx, e⟩ := id r
  have l1 := int_len b1
  have l2 := int_len b2
  have e1 : (Str.ofString "Ratio(").length = 6 := rfl
  have e2 : (Str.ofString ", ").length = 2 := rfl
  have e3 : (Str.ofString ")").length = 1 := rfl
  have e0 : Str.empty ++ Str.ofString "Ratio(" = Str.ofString "Ratio(" := rfl
  have big : 3900 ≤ sizeLine := by decide
  refine ⟨_, rfl, by rw [e0, e1]; omega, _, rfl, a, C, dx, _, .int p, rfl, e, R.cl, R.nT, rfl, .inr ⟨p, rfl, b1, _, rfl, ?_, _, rfl, ?_, _, rfl, a, C, dx, _, .int q, rfl, e, R.cl, R.nB, rfl, .inr ⟨q, rfl, b2, _, rfl, ?_, _, rfl, ?_, ?_⟩⟩⟩
  · rw [e0, strLen_append, e1]; omega
  · rw [e0, strLen_append, strLen_append, e1, e2]; omega
  · rw [e0, strLen_append, strLen_append, strLen_append, e1, e2]; omega
  · rw [e0, strLen_append, strLen_append, strLen_append, strLen_append, e1, e2, e3]; omega
  · exact hq H (Same.refl H)
-- slots: self 0
abbrev s_Ratio_top : Stmt := inClass (top 17) 1
abbrev N_Ratio_top : List Str := ["self"]
theorem sc_Ratio_top : FnScope N_Ratio_top ["self"] (defScope s_Ratio_top) := ⟨rfl, rfl, rfl, by decide +kernel, rfl, by decide +kernel, by decide +kernel⟩
-- slots: self 0
abbrev s_Ratio_bottom : Stmt := inClass (top 17) 2
abbrev N_Ratio_bottom : List Str := ["self"]
theorem sc_Ratio_bottom : FnScope N_Ratio_bottom ["self"] (defScope s_Ratio_bottom) := ⟨rfl, rfl, rfl, by decide +kernel, rfl, by decide +kernel, by decide +kernel⟩
-- slots: self 0
abbrev s_Ratio_sign : Stmt := inClass (top 17) 3
abbrev N_Ratio_sign : List Str := ["self"]
theorem sc_Ratio_sign : FnScope N_Ratio_sign ["self"] (defScope s_Ratio_sign) := ⟨rfl, rfl, rfl, by decide +kernel, rfl, by decide +kernel, by decide +kernel⟩
-- slots: self 0, other 1, more 2
abbrev s_Ratio___add__ : Stmt := inClass (top 17) 5
abbrev N_Ratio___add__ : List Str := ["self", "other", "more"]
theorem sc_Ratio___add__ : FnScope N_Ratio___add__ ["self", "other"] (defScope s_Ratio___add__) := ⟨rfl, rfl, rfl, by decide +kernel, rfl, by decide +kernel, by decide +kernel⟩
-- slots: self 0, other 1
abbrev s_Ratio___radd__ : Stmt := inClass (top 17) 6
abbrev N_Ratio___radd__ : List Str := ["self", "other"]
theorem sc_Ratio___radd__ : FnScope N_Ratio___radd__ ["self", "other"] (defScope s_Ratio___radd__) := ⟨rfl, rfl, rfl, by decide +kernel, rfl, by decide +kernel, by decide +kernel⟩
-- slots: self 0, other 1, less 2
abbrev s_Ratio___sub__ : Stmt := inClass (top 17) 7
abbrev N_Ratio___sub__ : List Str := ["self", "other", "less"]
theorem sc_Ratio___sub__ : FnScope N_Ratio___sub__ ["self", "other"] (defScope s_Ratio___sub__) := ⟨rfl, rfl, rfl, by decide +kernel, rfl, by decide +kernel, by decide +kernel⟩
-- slots: self 0, other 1, by 2
abbrev s_Ratio___mul__ : Stmt := inClass (top 17) 9
abbrev N_Ratio___mul__ : List Str := ["self", "other", "by"]
theorem sc_Ratio___mul__ : FnScope N_Ratio___mul__ ["self", "other"] (defScope s_Ratio___mul__) := ⟨rfl, rfl, rfl, by decide +kernel, rfl, by decide +kernel, by decide +kernel⟩
-- slots: self 0, other 1
abbrev s_Ratio___rmul__ : Stmt := inClass (top 17) 10
abbrev N_Ratio___rmul__ : List Str := ["self", "other"]
theorem sc_Ratio___rmul__ : FnScope N_Ratio___rmul__ ["self", "other"] (defScope s_Ratio___rmul__) := ⟨rfl, rfl, rfl, by decide +kernel, rfl, by decide +kernel, by decide +kernel⟩
-- slots: self 0, other 1, by 2
abbrev s_Ratio_over : Stmt := inClass (top 17) 12
abbrev N_Ratio_over : List Str := ["self", "other", "by"]
theorem sc_Ratio_over : FnScope N_Ratio_over ["self", "other"] (defScope s_Ratio_over) := ⟨rfl, rfl, rfl, by decide +kernel, rfl, by decide +kernel, by decide +kernel⟩
-- slots: self 0, other 1
abbrev s_Ratio___eq__ : Stmt := inClass (top 17) 17
abbrev N_Ratio___eq__ : List Str := ["self", "other"]
theorem sc_Ratio___eq__ : FnScope N_Ratio___eq__ ["self", "other"] (defScope s_Ratio___eq__) := ⟨rfl, rfl, rfl, by decide +kernel, rfl, by decide +kernel, by decide +kernel⟩
theorem d_rtop {C fI fR f : Addr} {fd : FuncData} (F : Fun K "top" "Ratio.top" s_Ratio_top f fd) (R : RCls K mg C fI fR) : FnOk P w K mg base CX0 (k + 1) f fd ["self"] (spTopR C) := by
  refine F.ok sc_Ratio_top (by rintro _ _ _ _ ⟨a, p, q, rfl, _⟩; rfl) fun cdv A outer s H vs Q E hr h => ?_
  obtain ⟨a, p, q, rfl, ⟨dx, r⟩, hq⟩ := h
  refine ⟨_, pss_one (ps_ret (pe_fld (pv 0) rfl)), ?_⟩
  exact ⟨_, rfl, a, C, dx, _, .int p, rfl, r, R.cl, R.nT, rfl, hq⟩
theorem d_rbot {C fI fR f : Addr} {fd : FuncData} (F : Fun K "bottom" "Ratio.bottom" s_Ratio_bottom f fd) (R : RCls K mg C fI fR) : FnOk P w K mg base CX0 (k + 1) f fd ["self"] (spBotR C) := by
  refine F.ok sc_Ratio_bottom (by rintro _ _ _ _ ⟨a, p, q, rfl, _⟩; rfl) fun cdv A outer s H vs Q E hr h => ?_
  obtain ⟨a, p, q, rfl, ⟨dx, r⟩, hq⟩ := h
  refine ⟨_, pss_one (ps_ret (pe_fld (pv 0) rfl)), ?_⟩
  exact ⟨_, rfl, a, C, dx, _, .int q, rfl, r, R.cl, R.nB, rfl, hq⟩
theorem d_rsgn {C fI fR f : Addr} {fd : FuncData} (F : Fun K "sign" "Ratio.sign" s_Ratio_sign f fd) (R : RCls K mg C fI fR) : FnOk P w K mg base CX0 (k + 1) f fd ["self"] (spSgnR C) := by
  refine F.ok sc_Ratio_sign (by rintro _ _ _ _ ⟨a, p, q, rfl, _⟩; rfl) fun cdv A outer s H vs Q E hr h => ?_
  obtain ⟨a, p, q, rfl, ⟨dx, r⟩, hq⟩ := h
  refine ⟨_, C8.pss_cut (ps_if (pt_cmpR op_lt (pe_fld (pv 0) rfl) pe_int (nomark _))
      (pss_one (ps_ret (pe_un un_neg pe_int)))
      (pss_nil))
    (pss_one (ps_ret (pe_ifExp (pt_cmpR op_gt (pe_fld (pv 0) rfl) pe_int (nomark _)) pe_int pe_int))), ?_⟩
  refine ⟨fun σ' H' => σ' = [some (.ref a)] ∧ H' = H ∧ 0 ≤ p, ⟨_, rfl, a, C, dx, _, .int p, rfl, r, R.cl, R.nT, rfl, p, 0, rfl, rfl, _, rfl, ite2 (fun z => ?_) (fun z => ?_)⟩, ?_⟩
  · have z2 := of_decide_eq_true z
    have e : sgnI p = -1 := if_pos z2
    rw [e] at hq
    exact ⟨1, rfl, hq⟩
  · exact ⟨rfl, rfl, by simpa using z⟩
  rintro _ _ ⟨rfl, rfl, h0⟩
  refine ⟨_, rfl, a, C, dx, _, .int p, rfl, r, R.cl, R.nT, rfl, p, 0, rfl, rfl, _, rfl, ite2 (fun z => ?_) (fun z => ?_)⟩
  · have z2 := of_decide_eq_true z
    have e : sgnI p = 1 := by unfold sgnI; rw [if_neg (by omega), if_pos z2]
    rw [e] at hq
    exact hq
  · have z2 : ¬ 0 < p := by simpa using z
    have e : sgnI p = 0 := by unfold sgnI; rw [if_neg (by omega), if_neg z2]
    rw [e] at hq
    exact hq
def spAs (C : Addr) : Sp := fun vs H Q _ => ∃ x p q, vs = [x] ∧ NumV C H x p q ∧ ∀ m H', Same H H' → Rat2 C H' m p q → Q (.ref m) H'
variable {C fI fR : Addr}
-- slots: number 0; cells: 
abbrev s_as_ratio : Stmt := top 19
abbrev N_as_ratio : List Str := ["number"]
theorem sc_as_ratio : FnScope N_as_ratio ["number"] (defScope s_as_ratio) := ⟨rfl, rfl, rfl, by decide +kernel, rfl, by decide +kernel, by decide +kernel⟩
theorem d_as_ratio (B : Bnd K mg "as_ratio" s_as_ratio) (M : Mg mg) (R : RCls K mg C fI fR) (J : RIsi K C) {kr : Nat} (RD : RDef P w K mg base kr C) (hk : kr + 8 ≤ k)  : Def P w K mg base (k + 1) "as_ratio" s_as_ratio ["number"] (spAs C) := by
  refine def_of B sc_as_ratio (by rintro _ _ _ _ ⟨x, p, q, rfl, _⟩; rfl) (fun _ _ _ _ _ _ us hl => match us, hl with | [_], _ => rfl) fun f cdv A outer s H vs Q E hr h => ?_
  obtain ⟨x, p, q, rfl, nv, hq⟩ := h
  have hu := hr.units
  refine ⟨_, C8.pss_cut (ps_if (pt_val (pe_callB call_isi (by rfl) M.isi (by decide +kernel) (pa_cons (pv 0) (pa_cons (pe_glob (v := .ref C) (by rfl) R.mgC rfl) pa_nil))))
      (pss_one (ps_ret (pv 0)))
      (pss_nil))
    (pss_one (ps_ret (pe_rat RD (hr.mono (by omega)) (by rfl) (pa_cons (pv 0) pa_nil)))), ?_⟩
  obtain ⟨ty, t1, t2⟩ := nv.kitC R J
  refine ⟨fun σ' H' => σ' = [some x] ∧ H' = H ∧ x = .int p ∧ q = 1, ⟨_, rfl, x, .ref C, ty, .ref C, isOwn H x, rfl, .own C, t1, t2, isOwn H x, rfl, ?_⟩, ?_⟩
  · rcases nv with ⟨rfl, rfl⟩ | ⟨a, rfl, r⟩
    · exact iteF ⟨rfl, rfl, rfl, rfl⟩
    · obtain ⟨dx, r1⟩ := id r
      exact iteT2 (by unfold isOwn; simp only [r1]) ⟨_, rfl, hq a H (Same.refl H) r⟩
  · rintro _ _ ⟨rfl, rfl, rfl, rfl⟩
    exact ⟨_, rfl, p, rfl, fun a H' na sm r => hq a H' sm r⟩
theorem d_rsub {C fI fR f : Addr} {fd : FuncData} (F : Fun K "__sub__" "Ratio.__sub__" s_Ratio___sub__ f fd) (R : RCls K mg C fI fR) {kr : Nat} (DQ : RDefQ P w K mg base kr C) (PT : PropX P w K mg base kr C "top" (spTopR C)) (PB : PropX P w K mg base kr C "bottom" (spBotR C)) (hk : kr + 8 ≤ k)
    (D_as_ratio : Def P w K mg base k "as_ratio" s_as_ratio ["number"] (spAs C)) : FnOk P w K mg base CX0 (k + 1) f fd ["self", "other"] (spSubQ C) := by
  refine F.ok sc_Ratio___sub__ (by rintro _ _ _ _ ⟨a, y, p, q, n, m, rfl, _⟩; rfl) fun cdv A outer s H vs Q E hr h => ?_
  obtain ⟨a, y, p, q, n, m, rfl, ra, nv, bx, by_, nm, hq⟩ := h
  refine ⟨_, pss_cons (ps_set (i := 2) sc_Ratio___sub__.nd rfl (.inl rfl) (pe_d D_as_ratio hr (by rfl) (pa_cons (pv 1) pa_nil)))
    (pss_one (ps_ret (pe_ratQ DQ (hr.mono (by omega)) (by rfl) (pa_cons (pe_op op_sub (pe_op op_mulW (pe_fld (pv 0) rfl) (pe_propX PB (hr.mono (by omega)) R.cl (pv 2) (by rfl))) (pe_op op_mulW (pe_propX PT (hr.mono (by omega)) R.cl (pv 2) (by rfl)) (pe_fld (pv 0) rfl))) (pa_cons (pe_op op_mulW (pe_fld (pv 0) rfl) (pe_propX PB (hr.mono (by omega)) R.cl (pv 2) (by rfl))) pa_nil))))), ?_⟩
  refine ⟨_, rfl, y, _, _, rfl, nv, fun m' H1 s1 rm => ?_⟩
  obtain ⟨dx, r⟩ := RQ.same ra s1
  obtain ⟨dm, rm1⟩ := id rm
  refine ⟨_, rfl, a, C, dx, _, .int p.num, rfl, r, R.cl, R.nT, rfl, _, rfl, m', dm, _, rfl, rm1, m', _, _, rfl, rm, p.num, q.den, rfl, rfl, bx.1.cm by_.2 (by omega), ?_⟩
  refine ⟨_, rfl, m', dm, _, rfl, rm1, m', _, _, rfl, rm, _, rfl, a, C, dx, _, .int p.den, rfl, r, R.cl, R.nB, rfl, q.num, p.den, rfl, rfl, by_.1.cm bx.2 (by omega), _, _, rfl, rfl, ?_⟩
  refine ⟨_, rfl, a, C, dx, _, .int p.den, rfl, r, R.cl, R.nB, rfl, _, rfl, m', dm, _, rfl, rm1, m', _, _, rfl, rm, p.den, q.den, rfl, rfl, bx.2.cm by_.2 (by omega), ?_⟩
  refine ⟨_, _, rfl, by have := Int.mul_pos (den_pos p) (den_pos q); omega, (bx.2.mul by_.2).mono (by omega), fun b H2 nb s2 rb => hq b H2 (s1.trans s2) ?_⟩
  rw [divInt_sub] at rb
  exact rb
theorem d_rmul {C fI fR f : Addr} {fd : FuncData} (F : Fun K "__mul__" "Ratio.__mul__" s_Ratio___mul__ f fd) (R : RCls K mg C fI fR) {kr : Nat} (DQ : RDefQ P w K mg base kr C) (PT : PropX P w K mg base kr C "top" (spTopR C)) (PB : PropX P w K mg base kr C "bottom" (spBotR C)) (hk : kr + 8 ≤ k)
    (D_as_ratio : Def P w K mg base k "as_ratio" s_as_ratio ["number"] (spAs C)) : FnOk P w K mg base CX0 (k + 1) f fd ["self", "other"] (spMulQ C) := by
  refine F.ok sc_Ratio___mul__ (by rintro _ _ _ _ ⟨a, y, p, q, n, m, rfl, _⟩; rfl) fun cdv A outer s H vs Q E hr h => ?_
  obtain ⟨a, y, p, q, n, m, rfl, ra, nv, bx, by_, nm, hq⟩ := h
  refine ⟨_, pss_cons (ps_set (i := 2) sc_Ratio___mul__.nd rfl (.inl rfl) (pe_d D_as_ratio hr (by rfl) (pa_cons (pv 1) pa_nil)))
    (pss_one (ps_ret (pe_ratQ DQ (hr.mono (by omega)) (by rfl) (pa_cons (pe_op op_mulW (pe_fld (pv 0) rfl) (pe_propX PT (hr.mono (by omega)) R.cl (pv 2) (by rfl))) (pa_cons (pe_op op_mulW (pe_fld (pv 0) rfl) (pe_propX PB (hr.mono (by omega)) R.cl (pv 2) (by rfl))) pa_nil))))), ?_⟩
  refine ⟨_, rfl, y, _, _, rfl, nv, fun m' H1 s1 rm => ?_⟩
  obtain ⟨dx, r⟩ := RQ.same ra s1
  obtain ⟨dm, rm1⟩ := id rm
  refine ⟨_, rfl, a, C, dx, _, .int p.num, rfl, r, R.cl, R.nT, rfl, _, rfl, m', dm, _, rfl, rm1, m', _, _, rfl, rm, p.num, q.num, rfl, rfl, bx.1.cm by_.1 (by omega), ?_⟩
  refine ⟨_, rfl, a, C, dx, _, .int p.den, rfl, r, R.cl, R.nB, rfl, _, rfl, m', dm, _, rfl, rm1, m', _, _, rfl, rm, p.den, q.den, rfl, rfl, bx.2.cm by_.2 (by omega), ?_⟩
  refine ⟨_, _, rfl, by have := Int.mul_pos (den_pos p) (den_pos q); omega, (bx.2.mul by_.2).mono (by omega), fun b H2 nb s2 rb => hq b H2 (s1.trans s2) ?_⟩
  rw [divInt_mul] at rb
  exact rb
theorem d_radd {C fI fR f : Addr} {fd : FuncData} (F : Fun K "__add__" "Ratio.__add__" s_Ratio___add__ f fd) (R : RCls K mg C fI fR) {kr : Nat} (DQ : RDefQ P w K mg base kr C) (PT : PropX P w K mg base kr C "top" (spTopR C)) (PB : PropX P w K mg base kr C "bottom" (spBotR C)) (hk : kr + 8 ≤ k)
    (D_as_ratio : Def P w K mg base k "as_ratio" s_as_ratio ["number"] (spAs C)) : FnOk P w K mg base CX0 (k + 1) f fd ["self", "other"] (spAddQ C) := by
  refine F.ok sc_Ratio___add__ (by rintro _ _ _ _ ⟨a, y, p, q, n, m, rfl, _⟩; rfl) fun cdv A outer s H vs Q E hr h => ?_
  obtain ⟨a, y, p, q, n, m, rfl, ra, nv, bx, by_, nm, hq⟩ := h
  refine ⟨_, pss_cons (ps_set (i := 2) sc_Ratio___add__.nd rfl (.inl rfl) (pe_d D_as_ratio hr (by rfl) (pa_cons (pv 1) pa_nil)))
    (pss_one (ps_ret (pe_ratQ DQ (hr.mono (by omega)) (by rfl) (pa_cons (pe_op op_add (pe_op op_mulW (pe_fld (pv 0) rfl) (pe_propX PB (hr.mono (by omega)) R.cl (pv 2) (by rfl))) (pe_op op_mulW (pe_propX PT (hr.mono (by omega)) R.cl (pv 2) (by rfl)) (pe_fld (pv 0) rfl))) (pa_cons (pe_op op_mulW (pe_fld (pv 0) rfl) (pe_propX PB (hr.mono (by omega)) R.cl (pv 2) (by rfl))) pa_nil))))), ?_⟩
  refine ⟨_, rfl, y, _, _, rfl, nv, fun m' H1 s1 rm => ?_⟩
  obtain ⟨dx, r⟩ := RQ.same ra s1
  obtain ⟨dm, rm1⟩ := id rm
  refine ⟨_, rfl, a, C, dx, _, .int p.num, rfl, r, R.cl, R.nT, rfl, _, rfl, m', dm, _, rfl, rm1, m', _, _, rfl, rm, p.num, q.den, rfl, rfl, bx.1.cm by_.2 (by omega), ?_⟩
  refine ⟨_, rfl, m', dm, _, rfl, rm1, m', _, _, rfl, rm, _, rfl, a, C, dx, _, .int p.den, rfl, r, R.cl, R.nB, rfl, q.num, p.den, rfl, rfl, by_.1.cm bx.2 (by omega), _, _, rfl, rfl, ?_⟩
  refine ⟨_, rfl, a, C, dx, _, .int p.den, rfl, r, R.cl, R.nB, rfl, _, rfl, m', dm, _, rfl, rm1, m', _, _, rfl, rm, p.den, q.den, rfl, rfl, bx.2.cm by_.2 (by omega), ?_⟩
  refine ⟨_, _, rfl, by have := Int.mul_pos (den_pos p) (den_pos q); omega, (bx.2.mul by_.2).mono (by omega), fun b H2 nb s2 rb => hq b H2 (s1.trans s2) ?_⟩
  rw [divInt_add] at rb
  exact rb
theorem d_rradd {C fI fR f : Addr} {fd : FuncData} (F : Fun K "__radd__" "Ratio.__radd__" s_Ratio___radd__ f fd) (R : RCls K mg C fI fR) {kr : Nat} (AD : BinX P w K mg base kr C .Add (spAddQ C)) (hk : kr + 8 ≤ k)
    (D_as_ratio : Def P w K mg base k "as_ratio" s_as_ratio ["number"] (spAs C)) : FnOk P w K mg base CX0 (k + 1) f fd ["self", "other"] (spAddQ C) := by
  refine F.ok sc_Ratio___radd__ (by rintro _ _ _ _ ⟨a, y, p, q, n, m, rfl, _⟩; rfl) fun cdv A outer s H vs Q E hr h => ?_
  obtain ⟨a, y, p, q, n, m, rfl, ra, nv, bx, by_, nm, hq⟩ := h
  refine ⟨_, pss_one (ps_ret (pe_op (op_ownX AD (hr.mono (by omega))) (pe_d D_as_ratio hr (by rfl) (pa_cons (pv 1) pa_nil)) (pv 0))), ?_⟩
  refine ⟨_, rfl, y, _, _, rfl, nv, fun m' H1 s1 rm => ?_⟩
  obtain ⟨dm, rm1⟩ := id rm
  refine ⟨_, rfl, m', dm, _, rfl, rm1, (RQ.same ra s1).nq.own, m', _, q, p, m, n, rfl, rm, (RQ.same ra s1).nq, by_, bx, by omega, fun r H2 s2 rr => ⟨⟨r, rfl⟩, hq r H2 (s1.trans s2) ?_⟩⟩
  rw [Rat.add_comm]; exact rr
theorem d_rrmul {C fI fR f : Addr} {fd : FuncData} (F : Fun K "__rmul__" "Ratio.__rmul__" s_Ratio___rmul__ f fd) (R : RCls K mg C fI fR) {kr : Nat} (MU : BinX P w K mg base kr C .Mult (spMulQ C)) (hk : kr + 8 ≤ k)
    (D_as_ratio : Def P w K mg base k "as_ratio" s_as_ratio ["number"] (spAs C)) : FnOk P w K mg base CX0 (k + 1) f fd ["self", "other"] (spMulQ C) := by
  refine F.ok sc_Ratio___rmul__ (by rintro _ _ _ _ ⟨a, y, p, q, n, m, rfl, _⟩; rfl) fun cdv A outer s H vs Q E hr h => ?_
  obtain ⟨a, y, p, q, n, m, rfl, ra, nv, bx, by_, nm, hq⟩ := h
  refine ⟨_, pss_one (ps_ret (pe_op (op_ownX MU (hr.mono (by omega))) (pe_d D_as_ratio hr (by rfl) (pa_cons (pv 1) pa_nil)) (pv 0))), ?_⟩
  refine ⟨_, rfl, y, _, _, rfl, nv, fun m' H1 s1 rm => ?_⟩
  obtain ⟨dm, rm1⟩ := id rm
  refine ⟨_, rfl, m', dm, _, rfl, rm1, (RQ.same ra s1).nq.own, m', _, q, p, m, n, rfl, rm, (RQ.same ra s1).nq, by_, bx, by omega, fun r H2 s2 rr => ⟨⟨r, rfl⟩, hq r H2 (s1.trans s2) ?_⟩⟩
  rw [Rat.mul_comm]; exact rr
theorem d_rover {C fI fR f : Addr} {fd : FuncData} (F : Fun K "over" "Ratio.over" s_Ratio_over f fd) (R : RCls K mg C fI fR) {kr : Nat} (DQ : RDefQ P w K mg base kr C) (PT : PropX P w K mg base kr C "top" (spTopR C)) (PB : PropX P w K mg base kr C "bottom" (spBotR C)) (PS : PropX P w K mg base kr C "sign" (spSgnR C)) (hk : kr + 8 ≤ k)
    (D_as_ratio : Def P w K mg base k "as_ratio" s_as_ratio ["number"] (spAs C)) : FnOk P w K mg base CX0 (k + 1) f fd ["self", "other"] (spOverQ C) := by
  refine F.ok sc_Ratio_over (by rintro _ _ _ _ ⟨a, y, p, q, n, m, rfl, _⟩; rfl) fun cdv A outer s H vs Q E hr h => ?_
  obtain ⟨a, y, p, q, n, m, rfl, ra, nv, bx, by_, nm, q0, hq⟩ := h
  refine ⟨_, pss_cons (ps_set (i := 2) sc_Ratio_over.nd rfl (.inl rfl) (pe_d D_as_ratio hr (by rfl) (pa_cons (pv 1) pa_nil)))
    (pss_cons (ps_if (pt_cmpR op_eq (pe_propX PS (hr.mono (by omega)) R.cl (pv 2) (by rfl)) pe_int (nomark _)) pss_never pss_nil)
    (pss_one (ps_ret (pe_ratQ DQ (hr.mono (by omega)) (by rfl) (pa_cons (pe_op op_mulW (pe_fld (pv 0) rfl) (pe_propX PB (hr.mono (by omega)) R.cl (pv 2) (by rfl))) (pa_cons (pe_op op_mulW (pe_fld (pv 0) rfl) (pe_propX PT (hr.mono (by omega)) R.cl (pv 2) (by rfl))) pa_nil)))))), ?_⟩
  refine ⟨_, rfl, y, _, _, rfl, nv, fun m' H1 s1 rm => ?_⟩
  obtain ⟨dx, r⟩ := RQ.same ra s1
  obtain ⟨dm, rm1⟩ := id rm
  have sg : sgnI q.num ≠ 0 := by
    have := num_ne q0
    unfold sgnI
    by_cases h : q.num < 0
    · rw [if_pos h]; decide
    · rw [if_neg h, if_pos (by omega)]; decide
  refine ⟨_, rfl, m', dm, _, rfl, rm1, m', _, _, rfl, rm, rfl, _, rfl, iteF2 (decide_eq_false fun z => by injection z with z; exact sg z) ?_⟩
  refine ⟨_, rfl, a, C, dx, _, .int p.num, rfl, r, R.cl, R.nT, rfl, _, rfl, m', dm, _, rfl, rm1, m', _, _, rfl, rm, p.num, q.den, rfl, rfl, bx.1.cm by_.2 (by omega), ?_⟩
  refine ⟨_, rfl, a, C, dx, _, .int p.den, rfl, r, R.cl, R.nB, rfl, _, rfl, m', dm, _, rfl, rm1, m', _, _, rfl, rm, p.den, q.num, rfl, rfl, bx.2.cm by_.1 (by omega), ?_⟩
  refine ⟨_, _, rfl, fun z => ?_, (bx.2.mul by_.1).mono (by omega), fun b H2 nb s2 rb => hq b H2 (s1.trans s2) ?_⟩
  · rcases Int.mul_eq_zero.mp z with e | e
    · have := den_pos p; omega
    · exact num_ne q0 e
  rw [divInt_over] at rb
  exact rb
theorem d_req {C fI fR f : Addr} {fd : FuncData} (F : Fun K "__eq__" "Ratio.__eq__" s_Ratio___eq__ f fd) (R : RCls K mg C fI fR) (J : RIsi K C) (M : Mg mg) : FnOk P w K mg base CX0 (k + 1) f fd ["self", "other"] (spEq (SameR C)) := by
  refine F.ok sc_Ratio___eq__ (by rintro _ _ _ _ ⟨a, b, rfl, _⟩; rfl) fun cdv A outer s H vs Q E hr h => ?_
  obtain ⟨a, b, rfl, ⟨p, q, ⟨dx, r1⟩, ⟨dy, r2⟩⟩, hq⟩ := h
  refine ⟨_, pss_one (ps_ret (pe_and (pe_callB call_isi (by rfl) M.isi (by decide +kernel) (pa_cons (pv 1) (pa_cons (pe_glob (v := .ref C) (by rfl) R.mgC rfl) pa_nil))) (pe_and (pe_cmpR op_eq (pe_fld (pv 0) rfl) (pe_fld (pv 1) rfl) (nomark _)) (pe_one (pe_cmpR op_eq (pe_fld (pv 0) rfl) (pe_fld (pv 1) rfl) (nomark _)))))), ?_⟩
  refine ⟨_, rfl, .ref b, .ref C, .ref C, .ref C, true, rfl, .own C, .base (.ins r2 R.cl R.isA R.isN R.isT R.isM), J.c, true, rfl, iteT ?_⟩
  refine ⟨_, rfl, a, C, dx, _, .int p, rfl, r1, R.cl, R.nT, rfl, _, rfl, b, C, dy, _, .int p, rfl, r2, R.cl, R.nT, rfl, rfl, _, rfl, iteT2 (decide_eq_true rfl) ?_⟩
  refine ⟨_, rfl, a, C, dx, _, .int q, rfl, r1, R.cl, R.nB, rfl, _, rfl, b, C, dy, _, .int q, rfl, r2, R.cl, R.nB, rfl, rfl, ?_⟩
  rw [show decide (V.int q = V.int q) = true from decide_eq_true rfl]
  exact hq H Ext.rfl'
end
end K21

namespace K21
open PySem PySem.Spec PyProof.Rows L2 Fp
structure Mg2 (mg : Str → Option Value) : Prop extends Mg mg where
  MOST_DEGREE : ∃ t, mg "MOST_DEGREE" = some (.int 48 t)
section
variable {P : Program} {w : World} {K : PySem.W.Frag} {mg : Str → Option Value} {base : Heap} {k : Nat} {C fI fR : Addr}
def spIntegerX (C : Addr) : Sp := fun vs H Q _ => ∃ x d, vs = [x] ∧ Sk C H d x ∧ Ret H Q (.bl (isI x))
def spListX (C : Addr) : Sp := fun vs H Q _ => ∃ x d, vs = [x] ∧ Sk C H d x ∧ Ret H Q (.bl (itemsOf H x).isSome)
def spNumberX (C : Addr) : Sp := fun vs H Q _ => ∃ x d, vs = [x] ∧ Sk C H d x ∧ Ret H Q (.bl (isNum H x))
def spPolyX (C : Addr) : Sp := fun vs H Q _ => ∃ x d, vs = [x] ∧ Sk C H d x ∧ Ret H Q (.bl (isPolyV H x))
def sp_trimmed (C : Addr) : Sp := fun vs H Q _ => ∃ l us ps, vs = [.ref l] ∧ H l = some (.lst us) ∧ RatL C H us ps ∧ us.length ≤ 1000 ∧ ∀ a H' ws, Same H H' → H a = none → H' a = some (.lst ws) → RatL C H' ws (trimP ps) → Q (.ref a) H'
def sp_told (C : Addr) : Sp := fun vs H Q _ => ∃ x d, vs = [x] ∧ Sk C H d x ∧ isPolyV H x = true ∧ ∀ a H' us, Same H H' → H a = none → H' a = some (.lst us) → RatL C H' us (toldP H x) → Q (.ref a) H'
theorem fm_idxn {xs : List V} (g : V → V) : ∀ n, n ≤ xs.length → (List.range n).filterMap (fun i => (xs[i]?).map g) = (xs.take n).map g
  | 0, _ => by simp
  | n + 1, h => by
    have hn := List.getElem?_eq_getElem (show n < xs.length by omega)
    rw [fm_succ, fm_idxn g n (by omega), takeS hn, List.map_append, hn]; rfl
theorem fm_bl (xs : List V) (g : V → Bool) : (List.range xs.length).filterMap (fun i => (xs[i]?).map fun v => V.bl (g v)) = (xs.map g).map V.bl := by
  rw [fm_idxn _ xs.length (Nat.le_refl _), List.take_length, List.map_map]; rfl
-- slots: value 0; cells: 
abbrev N_is_integer : List Str := ["value"]
theorem sc_is_integer : FnScope N_is_integer ["value"] (defScope sInteger) := ⟨rfl, rfl, rfl, by decide +kernel, rfl, by decide +kernel, by decide +kernel⟩
theorem d_is_integer (B : Bnd K mg "is_integer" sInteger) (M : Mg2 mg) (R : RCls K mg C fI fR)  : Def P w K mg base (k + 1) "is_integer" sInteger ["value"] (spIntegerX C) := by
  refine def_of B sc_is_integer (by rintro _ _ _ _ ⟨x, d, rfl, _⟩; rfl) (fun _ _ _ _ _ _ us hl => match us, hl with | [_], _ => rfl) fun f cdv A outer s H vs Q E hr h => ?_
  obtain ⟨x, d, rfl, hx, q⟩ := h
  have hu := hr.units
  refine ⟨_, pss_one (ps_ret (pe_and (pe_callB call_isi (by rfl) M.isi (by decide +kernel) (pa_cons (pv 0) (pa_cons (pe_bltn (v := .ty "int") (by rfl) M.int (by decide +kernel) rfl) pa_nil))) (pe_one (pe_not (pe_callB call_isi (by rfl) M.isi (by decide +kernel) (pa_cons (pv 0) (pa_cons (pe_bltn (v := .ty "bool") (by rfl) M.bool (by decide +kernel) rfl) pa_nil))))))), ?_⟩
  obtain ⟨ty, t1, t2, t3, _⟩ := hx.kit R
  refine ⟨_, rfl, x, _, ty, _, isI x || isB x, rfl, .ty _, t1, t2, (isI x || isB x), rfl, ?_⟩
  cases e : (isI x || isB x) with
  | false =>
    have e1 : isI x = false := (Bool.or_eq_false_iff.mp e).1
    rw [e1] at q
    exact iteF (q H (Same.refl H))
  | true =>
    refine iteT ⟨_, rfl, x, _, ty, _, isB x, rfl, .ty _, t1, t3, isB x, rfl, ?_⟩
    have e2 : (!isB x) = isI x := by cases x <;> simp_all [isI, isB]
    rw [e2]
    exact q H (Same.refl H)
-- slots: value 0; cells: 
abbrev N_is_list : List Str := ["value"]
theorem sc_is_list : FnScope N_is_list ["value"] (defScope sList) := ⟨rfl, rfl, rfl, by decide +kernel, rfl, by decide +kernel, by decide +kernel⟩
theorem d_is_list (B : Bnd K mg "is_list" sList) (M : Mg2 mg) (R : RCls K mg C fI fR)  : Def P w K mg base (k + 1) "is_list" sList ["value"] (spListX C) := by
  refine def_of B sc_is_list (by rintro _ _ _ _ ⟨x, d, rfl, _⟩; rfl) (fun _ _ _ _ _ _ us hl => match us, hl with | [_], _ => rfl) fun f cdv A outer s H vs Q E hr h => ?_
  obtain ⟨x, d, rfl, hx, q⟩ := h
  have hu := hr.units
  refine ⟨_, pss_one (ps_ret (pe_callB call_isiT (by rfl) M.isi (by decide +kernel) (pa_cons (pv 0) (pa_cons (pe_tup (pa_cons (pe_bltn (v := .ty "list") (by rfl) M.list (by decide +kernel) rfl) (pa_cons (pe_bltn (v := .ty "tuple") (by rfl) M.tuple (by decide +kernel) rfl) pa_nil))) pa_nil)))), ?_⟩
  refine ⟨_, rfl, (by show 2 ≤ sizeLine; decide), fun p np => ?_⟩
  have sp := same_new (o := .tup [V.ty "list", V.ty "tuple"]) np
  obtain ⟨ty, t1, _, _, t4⟩ := (hx.same sp).kit R
  rw [itemsOf_same hx sp] at t4
  exact ⟨x, p, _, ty, _, _, rfl, upd_same, .cons (.ty _) (.cons (.ty _) .nil), t1, t4, q _ sp⟩
-- slots: value 0; cells: 
abbrev s_is_number : Stmt := top 18
abbrev N_is_number : List Str := ["value"]
theorem sc_is_number : FnScope N_is_number ["value"] (defScope s_is_number) := ⟨rfl, rfl, rfl, by decide +kernel, rfl, by decide +kernel, by decide +kernel⟩
theorem d_is_number (B : Bnd K mg "is_number" s_is_number) (M : Mg2 mg) (R : RCls K mg C fI fR) (J : RIsi K C) (D_is_integer : Def P w K mg base k "is_integer" sInteger ["value"] (spIntegerX C)) : Def P w K mg base (k + 1) "is_number" s_is_number ["value"] (spNumberX C) := by
  refine def_of B sc_is_number (by rintro _ _ _ _ ⟨x, d, rfl, _⟩; rfl) (fun _ _ _ _ _ _ us hl => match us, hl with | [_], _ => rfl) fun f cdv A outer s H vs Q E hr h => ?_
  obtain ⟨x, d, rfl, hx, q⟩ := h
  have hu := hr.units
  refine ⟨_, pss_one (ps_ret (pe_or (pe_d D_is_integer hr (by rfl) (pa_cons (pv 0) pa_nil)) (pe_one (pe_callB call_isi (by rfl) M.isi (by decide +kernel) (pa_cons (pv 0) (pa_cons (pe_glob (v := .ref C) (by rfl) R.mgC rfl) pa_nil)))))), ?_⟩
  refine ⟨_, rfl, x, d, rfl, hx, fun H1 s1 => ⟨isI x, rfl, ?_⟩⟩
  obtain ⟨ty, t1, t2⟩ := (hx.same s1).kitC R J
  unfold isNum at q
  cases e : isI x with
  | true => rw [e] at q; exact iteT (q H1 s1)
  | false =>
    rw [e] at q
    refine iteF ⟨_, rfl, x, .ref C, ty, .ref C, isOwn H1 x, rfl, .own C, t1, t2, ?_⟩
    rw [isOwn_same hx s1]
    exact q H1 s1
-- slots: value 0, one 1; cells: 
abbrev s_is_poly : Stmt := top 23
abbrev N_is_poly : List Str := ["value", "one"]
theorem sc_is_poly : FnScope N_is_poly ["value"] (defScope s_is_poly) := ⟨rfl, rfl, rfl, by decide +kernel, rfl, by decide +kernel, by decide +kernel⟩
theorem d_is_poly (B : Bnd K mg "is_poly" s_is_poly) (M : Mg2 mg) (R : RCls K mg C fI fR) (D_is_list : Def P w K mg base k "is_list" sList ["value"] (spListX C)) (D_is_number : Def P w K mg base k "is_number" s_is_number ["value"] (spNumberX C)) : Def P w K mg base (k + 1) "is_poly" s_is_poly ["value"] (spPolyX C) := by
  refine def_of B sc_is_poly (by rintro _ _ _ _ ⟨x, d, rfl, _⟩; rfl) (fun _ _ _ _ _ _ us hl => match us, hl with | [_], _ => rfl) fun f cdv A outer s H vs Q E hr h => ?_
  obtain ⟨x, d, rfl, hx, q⟩ := h
  have hu := hr.units
  obtain ⟨t_MOST_DEGREE, m_MOST_DEGREE⟩ := M.MOST_DEGREE
  refine ⟨_, pss_one (ps_ret (pe_and (pe_d D_is_list hr (by rfl) (pa_cons (pv 0) pa_nil)) (pe_and (pe_cmpR op_le (pe_callB call_len_seq (by rfl) M.len boot_len (pa_cons (pv 0) pa_nil)) (pe_op op_add (pe_glob (v := .int 48) (by rfl) m_MOST_DEGREE ⟨_, rfl⟩) pe_int) (nomark _)) (pe_one (pe_callB (cr_all rfl) (by rfl) M.all boot_all (pa_cons (pe_lc (own := [("one", 1)]) (g := (gName 1)) (tt := tYes) (te := (tD _ (tCons (tVar 1) tNil))) rfl sc_is_poly.nd (pi_sq (pv 0)) (blkOk_by (own := [("one", 1)]) (N := N_is_poly) (sc := defScope s_is_poly) (by decide +kernel)) (fun _ _ _ _ _ => pg_name (i := 1) sc_is_poly.nd rfl (.inl rfl)) (fun _ _ _ _ _ => pts_nil) (fun _ _ _ _ _ => pe_d D_is_number hr (by rfl) (pa_cons (pv 1) pa_nil))) pa_nil)))))), ?_⟩
  refine ⟨_, rfl, x, d, rfl, hx, fun H1 s1 => ⟨(itemsOf H x).isSome, rfl, ?_⟩⟩
  cases e : itemsOf H x with
  | none =>
    refine iteF (q H1 s1 |> fun z => ?_)
    unfold isPolyV at z
    rw [e] at z
    exact z
  | some xs =>
    have ev : isPolyV H x = (decide (xs.length ≤ 49) && xs.all (isNum H)) := by unfold isPolyV; rw [e]
    obtain ⟨b, rfl, hb, l60, hys⟩ := hx.items e
    have hB : Sq K H b xs := hb.elim (fun z => .inl (SqL.of z)) (fun z => .inr (SqT.of z))
    refine iteT ⟨_, rfl, b, xs, rfl, hB.same s1, 48, 1, rfl, rfl, _, _, rfl, rfl, _, rfl, ite2 (fun z => ?_) (fun z => ?_)⟩
    · have z2 : xs.length ≤ 49 := by have := of_decide_eq_true z; omega
      dsimp only [tCB, tCons, tNil]
      refine lc_sq (xs := xs) (fun i => (xs[i]?).map fun v => V.bl (isNum H v)) (fun R r => ⟨_, rfl, r⟩) (hB.same s1) (by rw [sizeLine_eq]; omega) (fun i y H4 hy s4 Y N yy nn => ?_) (fun D H4 s4 hD hD2 => ?_)
      · have sy := hys y (List.mem_of_getElem? hy)
        refine ⟨rfl, _, rfl, y, d, rfl, sy.same (s1.trans s4), fun H5 s5 => ?_⟩
        rw [isNum_same sy (s1.trans s4)]
        exact yy _ _ s5 (by show (xs[i]?).map _ = _; rw [hy]; rfl)
      rw [fm_bl] at hD2
      refine ⟨D, xs.map (isNum H), rfl, SqL.of hD2, ?_⟩
      have al : (xs.map (isNum H)).all id = xs.all (isNum H) := by rw [List.all_map]; rfl
      rw [al, show xs.all (isNum H) = isPolyV H (.ref b) by rw [ev, decide_eq_true z2, Bool.true_and]]
      exact q H4 (s1.trans s4)
    · have z2 : ¬ xs.length ≤ 49 := fun y => z (decide_eq_true (by omega))
      rw [ev, decide_eq_false z2] at q
      exact q H1 s1
-- slots: numbers 0, size 1; cells: 
abbrev s_trimmed : Stmt := top 25
abbrev N_trimmed : List Str := ["numbers", "size"]
theorem sc_trimmed : FnScope N_trimmed ["numbers"] (defScope s_trimmed) := ⟨rfl, rfl, rfl, by decide +kernel, rfl, by decide +kernel, by decide +kernel⟩
theorem d_trimmed (B : Bnd K mg "trimmed" s_trimmed) (M : Mg2 mg) (R : RCls K mg C fI fR) (J : RIsi K C) {kr : Nat} (PS : PropX P w K mg base kr C "sign" (spSgnR C)) (hk : kr + 8 ≤ k)  : Def P w K mg base (k + 1) "trimmed" s_trimmed ["numbers"] (sp_trimmed C) := by
  refine def_of B sc_trimmed (by rintro _ _ _ _ ⟨l, us, ps, rfl, _⟩; rfl) (fun _ _ _ _ _ _ us hl => match us, hl with | [_], _ => rfl) fun f cdv A outer s H vs Q E hr h => ?_
  obtain ⟨l, us, ps, rfl, hl, hR, l1, q⟩ := h
  have hu := hr.units
  refine ⟨_, pss_cons (ps_set (i := 1) sc_trimmed.nd rfl (.inl rfl) (pe_callB call_len_seq (by rfl) M.len boot_len (pa_cons (pv 0) pa_nil)))
    (pss_cons (ps_while PassesOwn.never (PW.pt (pw_and (pt_cmpR op_gt (pv 1) pe_int (nomark _)) (pw_and1 (pt_cmpR op_eq (pe_propX PS (hr.mono (by omega)) R.cl (pe_ix (r := rIxL K) ix_list (pv 0) (pe_op op_sub (pv 1) pe_int) (fun _ _ => rfl)) (by rfl)) pe_int (nomark _)))))
      (pss_one (ps_aug (i := 1) sc_trimmed.nd rfl (.inl rfl) pe_int ip_sub)))
    (pss_one (ps_ret (pe_slice (r := rSlL K) sl_list (pv 0) po_none (po_some (pv 1)))))), ?_⟩
  refine ⟨_, rfl, l, us, rfl, .inl (SqL.of hl), ?_⟩
  refine ⟨fun mm σ H' => ∃ n : Nat, σ = [some (.ref l), some (.int (n : Int))] ∧ H' = H ∧ mm = n ∧ n ≤ us.length ∧ trimP (ps.take n) = trimP ps, ⟨us.length, us.length, rfl, rfl, rfl, Nat.le_refl _, by rw [hR.len, List.take_length]⟩, ?_⟩
  rintro mm σ H' ⟨n, rfl, rfl, rfl, nl, tp⟩
  have fin : ps.take mm = trimP ps → (tRet (tSl (rSlL K) (tVar 0) tNoPart (tPart (tVar 1)))) { nx := fun _ H1 => Q .non H1, rt := Q } [some (.ref l), some (.int (mm : Int))] H' := fun e => by
    refine ⟨_, rfl, _, rfl, mm, rfl, l, us, rfl, SqL.of hl, fun c nc => q c _ _ (same_new nc) nc upd_same ?_⟩
    rw [cut_to, ← e]
    exact (hR.same (same_new nc)).take mm
  refine ⟨_, rfl, mm, 0, rfl, rfl, _, rfl, ite2 (fun z => ?_) (fun z => ?_)⟩
  · have z2 : 0 < mm := by have := of_decide_eq_true z; omega
    obtain ⟨v, hv⟩ : ∃ v, us[mm - 1]? = some v := ⟨_, List.getElem?_eq_getElem (by omega)⟩
    obtain ⟨pq, a, h1, rfl, r⟩ := hR.at_ _ _ hv
    obtain ⟨dx, r1⟩ := id r
    have tk : ps.take mm = ps.take (mm - 1) ++ [pq] := by
      rw [show mm = (mm - 1) + 1 by omega, takeS h1, show mm - 1 + 1 - 1 = mm - 1 by omega]
    refine ⟨_, rfl, _, rfl, (mm : Int), 1, rfl, rfl, l, us, (mm : Int) - 1, _, rfl, rfl, SqL.of hl, at_of (j := mm - 1) (by omega) hv, a, dx, _, rfl, r1, a, pq.1, pq.2, rfl, r, rfl, _, rfl, ite2 (fun z3 => ?_) (fun z3 => ?_)⟩
    · have p0 : pq.1 = 0 := by
        have := of_decide_eq_true z3
        injection this with this
        unfold sgnI at this
        by_cases h : pq.1 < 0
        · rw [if_pos h] at this; omega
        · rw [if_neg h] at this
          by_cases h2 : 0 < pq.1
          · rw [if_pos h2] at this; omega
          · omega
      refine ⟨fun σ' H1 => σ' = [some (.ref l), some (.int ((mm - 1 : Nat) : Int))] ∧ H1 = H', fun σ' H1 ⟨e1, e2⟩ => ⟨mm - 1, by omega, mm - 1, e1, e2, rfl, by omega, by rw [← tp, tk, trimP_zero p0]⟩, ?_⟩
      refine ⟨_, rfl, (mm : Int), 1, rfl, rfl, ?_, rfl⟩
      show [some (V.ref l), some (V.int ((mm : Int) - 1))] = _
      rw [show (mm : Int) - 1 = ((mm - 1 : Nat) : Int) by omega]
    · have p0 : pq.1 ≠ 0 := fun e => z3 (decide_eq_true (by rw [e]; rfl))
      exact fin (by rw [← tp, tk, trimP_nz p0])
  · have z2 : mm = 0 := by
      by_cases e : mm = 0
      · exact e
      · exact absurd (decide_eq_true (by omega)) z
    subst z2
    exact fin (by rw [← tp]; rfl)
-- slots: poly 0, number 1; cells: 
abbrev s_told : Stmt := top 24
abbrev N_told : List Str := ["poly", "number"]
theorem sc_told : FnScope N_told ["poly"] (defScope s_told) := ⟨rfl, rfl, rfl, by decide +kernel, rfl, by decide +kernel, by decide +kernel⟩
theorem d_told (B : Bnd K mg "told" s_told) (M : Mg2 mg) (R : RCls K mg C fI fR) (D_as_ratio : Def P w K mg base k "as_ratio" s_as_ratio ["number"] (spAs C)) (D_is_poly : Def P w K mg base k "is_poly" s_is_poly ["value"] (spPolyX C)) (D_trimmed : Def P w K mg base k "trimmed" s_trimmed ["numbers"] (sp_trimmed C)) : Def P w K mg base (k + 1) "told" s_told ["poly"] (sp_told C) := by
  refine def_of B sc_told (by rintro _ _ _ _ ⟨x, d, rfl, _⟩; rfl) (fun _ _ _ _ _ _ us hl => match us, hl with | [_], _ => rfl) fun f cdv A outer s H vs Q E hr h => ?_
  obtain ⟨x, d, rfl, hx, hp, q⟩ := h
  have hu := hr.units
  refine ⟨_, pss_cons (ps_if (pt_not (pt_val (pe_d D_is_poly hr (by rfl) (pa_cons (pv 0) pa_nil)))) pss_never pss_nil)
    (pss_one (ps_ret (pe_d D_trimmed hr (by rfl) (pa_cons (pe_lc (own := [("number", 1)]) (g := (gName 1)) (tt := tYes) (te := (tD _ (tCons (tVar 1) tNil))) rfl sc_told.nd (pi_sq (pv 0)) (blkOk_by (own := [("number", 1)]) (N := N_told) (sc := defScope s_told) (by decide +kernel)) (fun _ _ _ _ _ => pg_name (i := 1) sc_told.nd rfl (.inl rfl)) (fun _ _ _ _ _ => pts_nil) (fun _ _ _ _ _ => pe_d D_as_ratio hr (by rfl) (pa_cons (pv 1) pa_nil))) pa_nil)))), ?_⟩
  obtain ⟨xs, e, eD, l49, hn⟩ := poly_items hp
  have eT : toldP H x = trimP (xs.map (numOf H)) := by unfold toldP; rw [eD]
  obtain ⟨b, rfl, hb, l60, hys⟩ := hx.items e
  have hB : Sq K H b xs := hb.elim (fun z => .inl (SqL.of z)) (fun z => .inr (SqT.of z))
  refine ⟨_, rfl, .ref b, d, rfl, hx, fun H1 s1 => ⟨_, rfl, iteF2 (by rw [hp]; rfl) ?_⟩⟩
  dsimp only [tNext, tRet, tD, tCons, tNil]
  refine lc_relS (fun i acc Hh => RatL C Hh acc ((xs.map (numOf H)).take i)) (fun R r => ⟨_, rfl, r⟩) (hB.same s1) (by rw [sizeLine_eq]; omega) RatL.nil (fun i acc A B s r => r.same s) (fun D i y acc Ha hD hy sa ha r Yc Nc yc nc => ?_) (fun D acc H' nD sH ha r => ?_)
  · have my := List.mem_of_getElem? hy
    have nv := ((hys y my).num (hn y my)).1
    exact ⟨rfl, _, rfl, y, _, _, rfl, nv.same (s1.trans sa), fun m H4 s4 rm => yc (.ref m) H4 s4 (r.step hy s4 ha rm)⟩
  · rw [show xs.length = (xs.map (numOf H)).length by rw [List.length_map], List.take_length] at r
    have r2 := r.same (wo_le (D := D))
    refine ⟨D, acc, _, rfl, ha, r2, by rw [r2.len, List.length_map]; omega, fun a H2 ws s2 na h2 R2 => q a H2 ws ((s1.trans sH).trans s2) ((s1.trans sH).free na) h2 (by rw [eT]; exact R2)⟩
end
end K21

namespace Fp
/-- quotient and rest -/
structure DivR (xs ys qs rs : List Rat) : Prop where
  tq : Told qs
  tr : Told rs
  lr : rs.length < ys.length
  lq : qs.length ≤ xs.length
  eq : ∀ n, co xs n = prodc ys (co qs) n + co rs n
theorem DivR.uniq {xs ys q1 r1 q2 r2 : List Rat} (h : DivR xs ys q1 r1) (g : DivR xs ys q2 r2) (y0 : ys ≠ []) (ty : Told ys) : q1 = q2 ∧ r1 = r2 :=
  div_unique y0 ty h.tq g.tq h.tr g.tr h.lr g.lr fun n => by rw [← h.eq, ← g.eq]
def AllB (n : Nat) (xs : List Rat) : Prop := ∀ x ∈ xs, Bits n x
/-- behind some steps -/
structure QInv (xs ys : List Rat) (c : Nat) (xs' qs : List Rat) (b : Nat) : Prop where
  len : xs'.length + qs.length = xs.length
  eq : ∀ n, co xs n = prodc ys (qf (xs.length - ys.length) qs) n + co xs' n
  bx : AllB b xs'
  bb : (b + 2 * c + 1) * 2 ^ (xs'.length + 1 - ys.length) ≤ 8000
  bq : AllB 8000 qs
  st : (qs = [] ∧ xs' = xs) ∨ (qs ≠ [] ∧ ys.length ≤ xs'.length + 1 ∧ co qs 0 ≠ 0)
theorem pow_pos' (k : Nat) : 1 ≤ 2 ^ k := Nat.one_le_two_pow
theorem QInv.sizes {xs ys xs' qs : List Rat} {b c : Nat} (h : QInv xs ys c xs' qs b) (hl : ys.length ≤ xs'.length) : b + c ≤ 8000 ∧ 2 * b + 2 * c ≤ 8000 := by
  have e := h.bb
  rw [show xs'.length + 1 - ys.length = (xs'.length - ys.length) + 1 by omega, Nat.pow_succ] at e
  have p := pow_pos' (xs'.length - ys.length)
  have : (b + 2 * c + 1) * 2 ≤ (b + 2 * c + 1) * (2 ^ (xs'.length - ys.length) * 2) := Nat.mul_le_mul_left _ (by omega)
  omega
theorem prodc_add' {ys : List Rat} {f g h : Nat → Rat} (e : ∀ i, f i = g i + h i) (n : Nat) : prodc ys f n = prodc ys g n + prodc ys h n := by
  rw [← prodc_add, prodc_congr e]
theorem QInv.start {xs ys : List Rat} {b c : Nat} (bx : AllB b xs) (bb : (b + 2 * c + 1) * 2 ^ (xs.length + 1 - ys.length) ≤ 8000) : QInv xs ys c xs [] b :=
  ⟨by simp, fun n => by
    have : prodc ys (qf (xs.length - ys.length) []) n = 0 := by
      have e : ∀ i, qf (xs.length - ys.length) [] i = single 0 0 i := fun i => by rw [qf_nil]; unfold single; split <;> rfl
      rw [prodc_congr e, prodc_single]; split <;> grind
    rw [this]; grind, bx, bb, fun x h => (by cases h), .inl ⟨rfl, rfl⟩⟩
theorem mem_restOf {c : Rat} {S xs : List Rat} {z : Rat} (h : z ∈ restOf c S xs) : z ∈ xs ∨ ∃ a ∈ xs, ∃ b ∈ S, z = a - c * b := by
  unfold restOf at h
  rcases List.mem_append.mp h with h | h
  · exact .inl (List.mem_of_mem_take h)
  · have h2 := List.dropLast_subset _ h
    obtain ⟨i, hi⟩ := List.getElem?_of_mem h2
    rw [List.getElem?_zipWith] at hi
    cases e1 : (xs.drop (xs.length - S.length))[i]? with
    | none => rw [e1] at hi; simp at hi
    | some a =>
      cases e2 : S[i]? with
      | none => rw [e1, e2] at hi; simp at hi
      | some b =>
        rw [e1, e2] at hi
        simp at hi
        exact .inr ⟨a, List.mem_of_mem_drop (List.mem_of_getElem? e1), b, List.mem_of_getElem? e2, hi.symm⟩
theorem mem_last {xs : List Rat} (h : xs ≠ []) : co xs (xs.length - 1) ∈ xs := by
  have : 0 < xs.length := List.length_pos_iff.mpr h
  rw [co_at (List.getElem?_eq_getElem (show xs.length - 1 < xs.length by omega))]
  exact List.getElem_mem _
theorem Bits.mulA {n m : Nat} {x y : Rat} (h : Bits n x) (g : Bits m y) : Bits (n + m) (x * y) := by
  rw [← divInt_mul]
  exact Bits.divInt (h.1.mul g.1) (h.2.mul g.2) (by have := Int.mul_pos (den_pos x) (den_pos y); omega)
theorem Bits.subA {n m : Nat} {x y : Rat} (h : Bits n x) (g : Bits m y) : Bits (n + m + 1) (x - y) := by
  rw [← divInt_sub]
  refine Bits.divInt ((h.1.mul g.2).sub ?_) ((h.2.mul g.2).mono (by omega)) (by have := Int.mul_pos (den_pos x) (den_pos y); omega)
  have := g.1.mul h.2
  rw [Nat.add_comm m n] at this
  exact this
theorem Bits.overA {n m : Nat} {x y : Rat} (h : Bits n x) (g : Bits m y) (h0 : y ≠ 0) : Bits (n + m) (x / y) := by
  rw [← divInt_over]
  refine Bits.divInt (h.1.mul g.2) (h.2.mul g.1) fun z => ?_
  rcases Int.mul_eq_zero.mp z with e | e
  · have := den_pos x; omega
  · exact num_ne h0 e
theorem QInv.step {xs ys xs' qs : List Rat} {b c : Nat} (h : QInv xs ys c xs' qs b) (hl : ys.length ≤ xs'.length) (y0 : ys ≠ []) (tx : Told xs) (ty : Told ys) (by_ : AllB c ys) :
    QInv xs ys c (restOf (co xs' (xs'.length - 1) / co ys (ys.length - 1)) ys xs') (qs ++ [co xs' (xs'.length - 1) / co ys (ys.length - 1)]) (2 * b + 2 * c + 1) := by
  have ly : 0 < ys.length := List.length_pos_iff.mpr y0
  have t0 := told_top ty y0
  have x0 : xs' ≠ [] := fun z => by rw [z] at hl; exact absurd (Nat.le_zero.mp hl) (by omega)
  have bl := h.bx _ (mem_last x0)
  have bm := by_ _ (mem_last y0)
  have bp := bl.overA bm t0
  have sz := h.sizes hl
  generalize hp : co xs' (xs'.length - 1) / co ys (ys.length - 1) = p at *
  have hc : co xs' (xs'.length - 1) = p * co ys (ys.length - 1) := by rw [← hp, Rat.div_mul_cancel t0]
  have lr := restOf_len (c := p) ly hl
  have ll := h.len
  have lq : qs.length ≤ xs.length - ys.length := by omega
  refine ⟨by rw [lr, List.length_append, List.length_singleton]; omega, fun n => ?_, fun z hz => ?_, ?_, fun z hz => ?_, .inr ⟨by simp, by rw [lr]; omega, ?_⟩⟩
  · have e1 := restOf_co (c := p) ly hl hc n
    have e2 := h.eq n
    have e3 := prodc_add' (ys := ys) (f := qf (xs.length - ys.length) (qs ++ [p])) (g := qf (xs.length - ys.length) qs) (h := single (xs.length - ys.length - qs.length) p) (fun i => qf_snoc lq i) n
    rw [show xs.length - ys.length - qs.length = xs'.length - ys.length by omega] at e3
    rw [e3]
    grind
  · rcases mem_restOf hz with z1 | ⟨a, ha, d, hd, rfl⟩
    · exact (h.bx z z1).mono (by omega)
    · exact ((h.bx a ha).subA (bp.mulA (by_ d hd))).mono (by omega)
  · have e := h.bb
    rw [show xs'.length + 1 - ys.length = (xs'.length - ys.length) + 1 by omega, Nat.pow_succ] at e
    rw [lr, show xs'.length - 1 + 1 - ys.length = xs'.length - ys.length by omega]
    have : (2 * b + 2 * c + 1 + 2 * c + 1) * 2 ^ (xs'.length - ys.length) = (b + 2 * c + 1) * (2 ^ (xs'.length - ys.length) * 2) := by
      rw [show 2 * b + 2 * c + 1 + 2 * c + 1 = (b + 2 * c + 1) * 2 by omega, Nat.mul_assoc, Nat.mul_comm 2 (2 ^ _)]
    omega
  · rcases List.mem_append.mp hz with z1 | z1
    · exact h.bq z z1
    · rw [List.mem_singleton.mp z1]; exact bp.mono (by omega)
  · rcases h.st with ⟨e1, e2⟩ | ⟨e1, _, e3⟩
    · subst e1
      subst e2
      show p ≠ 0
      intro z
      rw [z] at hc
      exact told_top tx x0 (by rw [hc]; grind)
    · have : 0 < qs.length := List.length_pos_iff.mpr e1
      rw [co_append_left this]; exact e3
theorem QInv.done {xs ys xs' qs : List Rat} {b c : Nat} (h : QInv xs ys c xs' qs b) (hl : xs'.length < ys.length) : DivR xs ys qs.reverse (trimQ xs') ∧ AllB 8000 qs.reverse ∧ AllB 8000 (trimQ xs') := by
  have ll := h.len
  refine ⟨⟨?_, trimQ_told _, Nat.lt_of_le_of_lt (trimQ_len _) hl, by rw [List.length_reverse]; omega, fun n => ?_⟩, fun z hz => h.bq z (List.mem_reverse.mp hz), fun z hz => (h.bx z (trimQ_mem hz)).mono ?_⟩
  · rcases h.st with ⟨e1, _⟩ | ⟨e1, _, e3⟩
    · rw [e1]; exact told_nil
    · refine told_of_top fun _ => ?_
      have : 0 < qs.length := List.length_pos_iff.mpr e1
      have e : qs.reverse[qs.reverse.length - 1]? = qs[0]? := by
        rw [List.getElem?_reverse (by rw [List.length_reverse]; omega), List.length_reverse]; congr 1; omega
      unfold co at e3 ⊢
      rw [List.getD_eq_getElem?_getD, e, ← List.getD_eq_getElem?_getD]
      exact e3
  · rw [trimQ_co, h.eq n]
    rcases h.st with ⟨e1, _⟩ | ⟨e1, e2, _⟩
    · rw [e1]
      congr 1
      exact prodc_congr (fun i => by rw [qf_nil]; rfl) n
    · have : 0 < qs.length := List.length_pos_iff.mpr e1
      congr 1
      exact prodc_congr (fun i => qf_rev (by omega) i) n
  · have := h.bb
    have p := pow_pos' (xs'.length + 1 - ys.length)
    have : (b + 2 * c + 1) * 1 ≤ (b + 2 * c + 1) * 2 ^ (xs'.length + 1 - ys.length) := Nat.mul_le_mul_left _ p
    omega
end Fp

namespace Fp
/-! ### (bottom, whole numbers): the law's own polynomials -/
def ratsOf (b : Int) (zs : List Int) : List Rat := zs.map fun z : Int => (z : Rat) / (b : Rat)
theorem ratsOf_len (b : Int) (zs : List Int) : (ratsOf b zs).length = zs.length := List.length_map _
theorem cast_ne {b : Int} (h : b ≠ 0) : (b : Rat) ≠ 0 := fun z => h (by exact_mod_cast z)
theorem co_rats (b : Int) (zs : List Int) (n : Nat) : co (ratsOf b zs) n = ((zs.getD n 0 : Int) : Rat) / (b : Rat) := by
  unfold co ratsOf
  rw [List.getD_eq_getElem?_getD, List.getD_eq_getElem?_getD, List.getElem?_map]
  cases zs[n]? with
  | none => show (0 : Rat) = ((0 : Int) : Rat) / b; rw [Rat.intCast_zero, Rat.div_def, Rat.zero_mul]
  | some z => rfl
def trimI (zs : List Int) : List Int := (zs.reverse.dropWhile fun x => x == 0).reverse
theorem trimI_zero {A : List Int} {x : Int} (h : x = 0) : trimI (A ++ [x]) = trimI A := by
  unfold trimI
  rw [List.reverse_append, List.reverse_singleton, List.singleton_append, List.dropWhile_cons, if_pos (by simp [h])]
theorem trimI_nz {A : List Int} {x : Int} (h : x ≠ 0) : trimI (A ++ [x]) = A ++ [x] := by
  unfold trimI
  rw [List.reverse_append, List.reverse_singleton, List.singleton_append, List.dropWhile_cons, if_neg (by simp [h])]
  simp
theorem trimI_nil : trimI [] = [] := rfl
theorem div_eq_zero {z b : Int} (h : b ≠ 0) : (z : Rat) / (b : Rat) = 0 ↔ z = 0 := by
  constructor
  · intro e
    have : (z : Rat) = 0 := by
      have h2 := Rat.div_mul_cancel (a := (z : Rat)) (cast_ne h)
      rw [e, Rat.zero_mul] at h2
      exact h2.symm
    exact_mod_cast this
  · intro e
    rw [e, Rat.intCast_zero, Rat.div_def, Rat.zero_mul]
theorem ratsOf_trim {b : Int} (h : b ≠ 0) (zs : List Int) : ratsOf b (trimI zs) = trimQ (ratsOf b zs) := by
  induction zs using snoc_ind with
  | h0 => rfl
  | h1 A x ih =>
    have e : ratsOf b (A ++ [x]) = ratsOf b A ++ [(x : Rat) / b] := by unfold ratsOf; rw [List.map_append]; rfl
    rw [e]
    by_cases hx : x = 0
    · rw [trimI_zero hx, ih, trimQ_zero ((div_eq_zero h).mpr hx)]
    · rw [trimI_nz hx, trimQ_nz fun z => hx ((div_eq_zero h).mp z), e]
theorem trimI_len (zs : List Int) : (trimI zs).length ≤ zs.length := by
  unfold trimI
  rw [List.length_reverse]
  have := (List.dropWhile_suffix (fun x : Int => x == 0) (l := zs.reverse)).length_le
  rw [List.length_reverse] at this
  exact this
theorem trimI_mem {zs : List Int} {x : Int} (h : x ∈ trimI zs) : x ∈ zs := by
  unfold trimI at h
  exact List.mem_reverse.mp ((List.dropWhile_sublist _).mem (List.mem_reverse.mp h))
/-- no number of zs is beyond N -/
def BN (N : Nat) (zs : List Int) : Prop := ∀ z ∈ zs, z.natAbs ≤ N
theorem BN.mono {N M : Nat} {zs : List Int} (h : BN N zs) (l : N ≤ M) : BN M zs := fun z hz => Nat.le_trans (h z hz) l
theorem BN.trim {N : Nat} {zs : List Int} (h : BN N zs) : BN N (trimI zs) := fun z hz => h z (trimI_mem hz)
/-- the same polynomial -/
def crossI (b1 : Int) (zs1 : List Int) (b2 : Int) (zs2 : List Int) : Prop := (zs1.map fun z => z * b2) = (zs2.map fun z => z * b1)
theorem frac_eq {x y b1 b2 : Int} (h1 : b1 ≠ 0) (h2 : b2 ≠ 0) : (x : Rat) / b1 = (y : Rat) / b2 ↔ x * b2 = y * b1 := by
  have c1 := cast_ne h1
  have c2 := cast_ne h2
  constructor
  · intro e
    have e1 := Rat.div_mul_cancel (a := (x : Rat)) c1
    have e2 := Rat.div_mul_cancel (a := (y : Rat)) c2
    have : (x : Rat) * b2 = (y : Rat) * b1 := by
      rw [← e1, ← e2, e]; grind
    exact_mod_cast this
  · intro e
    have e3 : (x : Rat) * b2 = (y : Rat) * b1 := by exact_mod_cast e
    have e1 := Rat.div_mul_cancel (a := (x : Rat)) c1
    have e2 := Rat.div_mul_cancel (a := (y : Rat)) c2
    have : ((x : Rat) / b1 - (y : Rat) / b2) * (b1 * b2) = 0 := by
      generalize (x : Rat) / b1 = u at *
      generalize (y : Rat) / b2 = v at *
      grind
    rcases Rat.mul_eq_zero.mp this with z | z
    · grind
    · rcases Rat.mul_eq_zero.mp z with w | w
      · exact absurd w c1
      · exact absurd w c2
theorem cross_iff {b1 b2 : Int} {zs1 zs2 : List Int} (h1 : b1 ≠ 0) (h2 : b2 ≠ 0) : crossI b1 zs1 b2 zs2 ↔ ratsOf b1 zs1 = ratsOf b2 zs2 := by
  unfold crossI ratsOf
  constructor
  · intro e
    have l : zs1.length = zs2.length := by have := congrArg List.length e; simpa using this
    refine List.ext_getElem (by simpa using l) fun i i1 i2 => ?_
    rw [List.getElem_map, List.getElem_map, frac_eq h1 h2]
    have := congrArg (fun l => l[i]?) e
    simp only [List.getElem?_map] at this
    rw [List.getElem?_eq_getElem (by simpa using i1), List.getElem?_eq_getElem (by simpa using i2)] at this
    simpa using this
  · intro e
    have l : zs1.length = zs2.length := by have := congrArg List.length e; simpa using this
    refine List.ext_getElem (by simpa using l) fun i i1 i2 => ?_
    rw [List.getElem_map, List.getElem_map, ← frac_eq h1 h2]
    have := congrArg (fun l => l[i]?) e
    simp only [List.getElem?_map] at this
    rw [List.getElem?_eq_getElem (by simpa using i1), List.getElem?_eq_getElem (by simpa using i2)] at this
    simpa using this
/-! ### products and sums -/
def sumI (f : Nat → Int) : Nat → Int
  | 0 => 0
  | n + 1 => sumI f n + f n
def shI (i : Nat) (ys : List Int) (n : Nat) : Int := if n < i then 0 else ys.getD (n - i) 0
/-- the first k numbers of xs by ys, at n -/
def prodI (xs ys : List Int) (k n : Nat) : Int := sumI (fun i => xs.getD i 0 * shI i ys n) k
theorem sumI_abs {f : Nat → Int} {M : Nat} : ∀ {k : Nat}, (∀ i, i < k → (f i).natAbs ≤ M) → (sumI f k).natAbs ≤ k * M
  | 0, _ => by show (0 : Int).natAbs ≤ _; simp
  | k + 1, h => by
    show (sumI f k + f k).natAbs ≤ _
    have h1 := sumI_abs (f := f) (M := M) (k := k) fun i hi => h i (by omega)
    have h2 := h k (by omega)
    have h3 := Int.natAbs_add_le (sumI f k) (f k)
    rw [Nat.add_mul]
    omega
theorem getD_abs {zs : List Int} {N : Nat} (h : BN N zs) (i : Nat) : (zs.getD i 0).natAbs ≤ N := by
  rw [List.getD_eq_getElem?_getD]
  cases e : zs[i]? with
  | none => show (0 : Int).natAbs ≤ N; simp
  | some z => exact h z (List.mem_of_getElem? e)
theorem shI_abs {ys : List Int} {N : Nat} (h : BN N ys) (i n : Nat) : (shI i ys n).natAbs ≤ N := by
  unfold shI
  split
  · simp
  · exact getD_abs h _
theorem prodI_abs {xs ys : List Int} {N M : Nat} (h : BN N xs) (g : BN M ys) (k n : Nat) : (prodI xs ys k n).natAbs ≤ k * (N * M) :=
  sumI_abs fun i _ => by rw [Int.natAbs_mul]; exact Nat.mul_le_mul (getD_abs h i) (shI_abs g i n)
theorem sumI_cast (f : Nat → Int) : ∀ k, ((sumI f k : Int) : Rat) = sumN (fun i => (f i : Rat)) k
  | 0 => rfl
  | k + 1 => by
    show ((sumI f k + f k : Int) : Rat) = sumN _ k + (f k : Rat)
    rw [Rat.intCast_add, sumI_cast f k]
theorem prodI_rat {b1 b2 : Int} (h1 : b1 ≠ 0) (h2 : b2 ≠ 0) (xs ys : List Int) (n : Nat) : ((prodI xs ys xs.length n : Int) : Rat) / ((b1 * b2 : Int) : Rat) = prodc (ratsOf b1 xs) (co (ratsOf b2 ys)) n := by
  unfold prodI prodc
  rw [sumI_cast, ratsOf_len, Rat.div_def, Rat.mul_comm, ← sumN_mul]
  refine sumN_congr fun i _ => ?_
  rw [co_rats, Rat.intCast_mul, Rat.intCast_mul]
  have c1 := cast_ne h1
  have c2 := cast_ne h2
  have es : sh i (co (ratsOf b2 ys)) n = ((shI i ys n : Int) : Rat) / b2 := by
    unfold sh shI
    split
    · rw [Rat.intCast_zero, Rat.div_def, Rat.zero_mul]
    · rw [co_rats]
  rw [es, Rat.div_def, Rat.div_def, Rat.inv_mul_rev]
  grind
end Fp
namespace Fp
theorem getD_pad (zs : List Int) (k n : Nat) : (zs ++ List.replicate k 0).getD n 0 = zs.getD n 0 := by
  rw [List.getD_eq_getElem?_getD, List.getD_eq_getElem?_getD]
  by_cases h : n < zs.length
  · rw [List.getElem?_append_left h]
  · rw [List.getElem?_append_right (by omega), List.getElem?_eq_none (show zs.length ≤ n by omega), List.getElem?_replicate]
    split <;> rfl
theorem pad_at {zs : List Int} {k i : Nat} (h : i < zs.length + k) : (zs ++ List.replicate k 0)[i]? = some (zs.getD i 0) := by
  have e := getD_pad zs k i
  rw [List.getD_eq_getElem?_getD] at e
  cases q : (zs ++ List.replicate k 0)[i]? with
  | none => rw [List.getElem?_eq_none_iff, List.length_append, List.length_replicate] at q; omega
  | some x => rw [q] at e; rw [← e]; rfl
theorem getD_out {zs : List Int} {n : Nat} (h : zs.length ≤ n) : zs.getD n 0 = 0 := by
  rw [List.getD_eq_getElem?_getD, List.getElem?_eq_none h]; rfl
theorem getD_range {f : Nat → Int} {m n : Nat} : ((List.range m).map f).getD n 0 = if n < m then f n else 0 := by
  rw [List.getD_eq_getElem?_getD, List.getElem?_map]
  by_cases h : n < m
  · rw [List.getElem?_range h, if_pos h]; rfl
  · rw [if_neg h, List.getElem?_eq_none (by rw [List.length_range]; omega)]; rfl
/-- the sum's numbers -/
def plusI (b1 b2 : Int) (xs ys : List Int) : List Int := (List.range (max xs.length ys.length)).map fun n => xs.getD n 0 * b2 + 1 * ys.getD n 0 * b1
theorem plusI_getD (b1 b2 : Int) (xs ys : List Int) (n : Nat) : (plusI b1 b2 xs ys).getD n 0 = xs.getD n 0 * b2 + 1 * ys.getD n 0 * b1 := by
  unfold plusI
  rw [getD_range]
  split
  · rfl
  · rw [getD_out (zs := xs) (by omega), getD_out (zs := ys) (by omega)]; omega
theorem plusI_co {b1 b2 : Int} (h1 : b1 ≠ 0) (h2 : b2 ≠ 0) (xs ys : List Int) (n : Nat) : co (ratsOf (b1 * b2) (trimI (plusI b1 b2 xs ys))) n = co (ratsOf b1 xs) n + co (ratsOf b2 ys) n := by
  have h3 : b1 * b2 ≠ 0 := fun z => by rcases Int.mul_eq_zero.mp z with e | e <;> omega
  rw [ratsOf_trim h3, trimQ_co, co_rats, co_rats, co_rats, plusI_getD]
  have c1 := cast_ne h1
  have c2 := cast_ne h2
  rw [Rat.intCast_add, Rat.intCast_mul, Rat.intCast_mul, Rat.intCast_mul, Rat.intCast_mul, Rat.intCast_one]
  generalize ((xs.getD n 0 : Int) : Rat) = u
  generalize ((ys.getD n 0 : Int) : Rat) = v
  generalize (b1 : Rat) = p at *
  generalize (b2 : Rat) = q at *
  rw [Rat.div_def, Rat.div_def, Rat.div_def, Rat.inv_mul_rev]
  have i1 := Rat.mul_inv_cancel p c1
  have i2 := Rat.mul_inv_cancel q c2
  grind
theorem plusI_BN {b1 b2 : Int} {xs ys : List Int} {N1 N2 : Nat} (h : BN N1 xs) (g : BN N2 ys) : BN (N1 * b2.natAbs + N2 * b1.natAbs) (plusI b1 b2 xs ys) := fun z hz => by
  unfold plusI at hz
  obtain ⟨n, _, rfl⟩ := List.mem_map.mp hz
  refine Nat.le_trans (Int.natAbs_add_le _ _) ?_
  rw [Int.one_mul, Int.natAbs_mul, Int.natAbs_mul]
  exact Nat.add_le_add (Nat.mul_le_mul_right _ (getD_abs h n)) (Nat.mul_le_mul_right _ (getD_abs g n))
theorem plusI_len (b1 b2 : Int) (xs ys : List Int) : (plusI b1 b2 xs ys).length = max xs.length ys.length := by unfold plusI; rw [List.length_map, List.length_range]
/-- the product's numbers -/
def timesI (xs ys : List Int) : List Int := (List.range (xs.length + ys.length - 1)).map fun n => prodI xs ys xs.length n
theorem sumI_zero {f : Nat → Int} : ∀ {n : Nat}, (∀ i, i < n → f i = 0) → sumI f n = 0
  | 0, _ => rfl
  | n + 1, h => by
    show sumI f n + f n = 0
    rw [sumI_zero fun i hi => h i (by omega), h n (by omega)]; rfl
theorem timesI_getD (xs ys : List Int) (n : Nat) : (timesI xs ys).getD n 0 = prodI xs ys xs.length n := by
  unfold timesI
  rw [getD_range]
  split
  · rfl
  · symm
    refine sumI_zero fun i hi => ?_
    unfold shI
    rw [if_neg (by omega)]
    rw [getD_out (zs := ys) (by omega)]; omega
theorem timesI_co {b1 b2 : Int} (h1 : b1 ≠ 0) (h2 : b2 ≠ 0) (xs ys : List Int) (n : Nat) : co (ratsOf (b1 * b2) (trimI (timesI xs ys))) n = prodc (ratsOf b1 xs) (co (ratsOf b2 ys)) n := by
  have h3 : b1 * b2 ≠ 0 := fun z => by rcases Int.mul_eq_zero.mp z with e | e <;> omega
  rw [ratsOf_trim h3, trimQ_co, co_rats, timesI_getD, prodI_rat h1 h2]
theorem timesI_BN {xs ys : List Int} {N1 N2 : Nat} (h : BN N1 xs) (g : BN N2 ys) : BN (xs.length * (N1 * N2)) (timesI xs ys) := fun z hz => by
  unfold timesI at hz
  obtain ⟨n, _, rfl⟩ := List.mem_map.mp hz
  exact prodI_abs h g _ _
theorem timesI_len (xs ys : List Int) : (timesI xs ys).length = xs.length + ys.length - 1 := by unfold timesI; rw [List.length_map, List.length_range]
theorem told_trim {b : Int} (h : b ≠ 0) (zs : List Int) : Told (ratsOf b (trimI zs)) := by rw [ratsOf_trim h]; exact trimQ_told _
/-- in the midst of the inner loop -/
def partI (xs ys : List Int) (i j n : Nat) : Int := prodI xs ys i n + (if i ≤ n ∧ n < i + j then xs.getD i 0 * ys.getD (n - i) 0 else 0)
theorem partI_zero (xs ys : List Int) (i n : Nat) : partI xs ys i 0 n = prodI xs ys i n := by
  unfold partI; rw [if_neg (by omega)]; omega
theorem partI_all (xs ys : List Int) (i n : Nat) : partI xs ys i ys.length n = prodI xs ys (i + 1) n := by
  show _ = prodI xs ys i n + xs.getD i 0 * shI i ys n
  unfold partI shI
  congr 1
  by_cases h : n < i
  · rw [if_neg (by omega), if_pos h]; omega
  · rw [if_neg h]
    by_cases h2 : n < i + ys.length
    · rw [if_pos (by omega)]
    · rw [if_neg (by omega), getD_out (zs := ys) (by omega)]; omega
theorem partI_step {xs ys : List Int} {i j L : Nat} (h : i + j < L) : ((List.range L).map (partI xs ys i j)).set (i + j) (partI xs ys i j (i + j) + xs.getD i 0 * ys.getD j 0) = (List.range L).map (partI xs ys i (j + 1)) := by
  refine List.ext_getElem (by simp) fun n n1 n2 => ?_
  have nL : n < L := by simpa using n2
  rw [List.getElem_set]
  split
  · rename_i e
    subst e
    rw [List.getElem_map, List.getElem_range]
    unfold partI
    rw [if_neg (by omega), if_pos (by omega), show i + j - i = j by omega]; omega
  · rename_i ne
    rw [List.getElem_map, List.getElem_map, List.getElem_range]
    unfold partI
    by_cases h2 : i ≤ n ∧ n < i + j
    · rw [if_pos h2, if_pos (by omega)]
    · rw [if_neg h2, if_neg (by omega)]
end Fp

namespace Fp
/-! ### sums of lists -/
def addQ (xs ys : List Rat) : List Rat := List.zipWith (fun a b => a + b) xs ys ++ xs.drop ys.length ++ ys.drop xs.length
theorem co_drop (xs : List Rat) (k n : Nat) : co (xs.drop k) n = co xs (k + n) := by
  unfold co
  rw [List.getD_eq_getElem?_getD, List.getD_eq_getElem?_getD, List.getElem?_drop]
theorem co_append (xs ys : List Rat) (n : Nat) : co (xs ++ ys) n = if n < xs.length then co xs n else co ys (n - xs.length) := by
  split
  · exact co_append_left ‹_›
  · exact co_append_right (by omega)
theorem co_zipAdd (xs ys : List Rat) (n : Nat) : co (List.zipWith (fun a b => a + b) xs ys) n = if n < min xs.length ys.length then co xs n + co ys n else 0 := by
  split
  · rename_i h
    have h1 : n < xs.length := by omega
    have h2 : n < ys.length := by omega
    rw [co_at (x := xs[n] + ys[n])]
    · rw [co_at (List.getElem?_eq_getElem h1), co_at (List.getElem?_eq_getElem h2)]
    · rw [List.getElem?_zipWith, List.getElem?_eq_getElem h1, List.getElem?_eq_getElem h2]
  · exact co_out (by rw [List.length_zipWith]; omega)
theorem addQ_co (xs ys : List Rat) (n : Nat) : co (addQ xs ys) n = co xs n + co ys n := by
  unfold addQ
  rw [List.append_assoc, co_append, co_zipAdd, List.length_zipWith, co_append, co_drop, co_drop, List.length_drop]
  by_cases h : n < min xs.length ys.length
  · rw [if_pos h, if_pos h]
  · rw [if_neg h]
    by_cases h2 : n - min xs.length ys.length < xs.length - ys.length
    · rw [if_pos h2, co_out (xs := ys) (i := n) (by omega), show ys.length + (n - min xs.length ys.length) = n by omega]; grind
    · rw [if_neg h2]
      by_cases h3 : n < ys.length
      · rw [co_out (xs := xs) (i := n) (by omega), show xs.length + (n - min xs.length ys.length - (xs.length - ys.length)) = n by omega]; grind
      · rw [co_out (xs := ys) (by omega), co_out (xs := ys) (i := n) (by omega), co_out (xs := xs) (by omega)]; grind
theorem addQ_len (xs ys : List Rat) : (addQ xs ys).length = max xs.length ys.length := by
  unfold addQ
  rw [List.length_append, List.length_append, List.length_zipWith, List.length_drop, List.length_drop]; omega
/-! ### worths -/
def hv : List Rat → Rat → Rat
  | [], _ => 0
  | c :: cs, z => hv cs z * z + c
theorem hv_drop {xs : List Rat} {i : Nat} {x : Rat} (h : xs[i]? = some x) (z : Rat) : hv (xs.drop i) z = hv (xs.drop (i + 1)) z * z + x := by
  obtain ⟨l, e⟩ := List.getElem?_eq_some_iff.mp h
  rw [List.drop_eq_getElem_cons l, e]; rfl
theorem sumN_shift (f : Nat → Rat) : ∀ n, sumN f (n + 1) = f 0 + sumN (fun i => f (i + 1)) n
  | 0 => by show (0 : Rat) + f 0 = f 0 + 0; grind
  | n + 1 => by
    show sumN f (n + 1) + f (n + 1) = f 0 + (sumN (fun i => f (i + 1)) n + f (n + 1))
    rw [sumN_shift f n]; grind
theorem co_cons_zero (c : Rat) (cs : List Rat) : co (c :: cs) 0 = c := rfl
theorem co_cons_succ (c : Rat) (cs : List Rat) (n : Nat) : co (c :: cs) (n + 1) = co cs n := rfl
theorem hv_sum : ∀ (xs : List Rat) (z : Rat) (N : Nat), xs.length ≤ N → hv xs z = sumN (fun i => co xs i * z ^ i) N
  | [], z, N, _ => by
    symm
    exact sumN_zero fun i _ => by rw [co_nil]; grind
  | c :: cs, z, 0, h => by simp at h
  | c :: cs, z, N + 1, h => by
    rw [sumN_shift]
    show hv cs z * z + c = co (c :: cs) 0 * z ^ 0 + _
    rw [hv_sum cs z N (by simpa using h), co_cons_zero, Rat.pow_zero]
    have : sumN (fun i => co (c :: cs) (i + 1) * z ^ (i + 1)) N = z * sumN (fun i => co cs i * z ^ i) N := by
      rw [← sumN_mul]
      refine sumN_congr fun i _ => ?_
      rw [co_cons_succ, Rat.pow_succ]; grind
    rw [this]; grind
theorem hv_add {xs ys zs : List Rat} (h : ∀ n, co zs n = co xs n + co ys n) (z : Rat) : hv zs z = hv xs z + hv ys z := by
  let N := max zs.length (max xs.length ys.length)
  rw [hv_sum zs z N (by omega), hv_sum xs z N (by omega), hv_sum ys z N (by omega), ← sumN_add]
  exact sumN_congr fun i _ => by rw [h]; grind
theorem sumN_swap (f : Nat → Nat → Rat) : ∀ n m : Nat, sumN (fun i => sumN (f i) m) n = sumN (fun j => sumN (fun i => f i j) n) m
  | 0, m => by
    symm
    exact sumN_zero fun j _ => rfl
  | n + 1, m => by
    show sumN (fun i => sumN (f i) m) n + sumN (f n) m = sumN (fun j => sumN (fun i => f i j) n + f n j) m
    rw [sumN_swap f n m, sumN_add]
/-- a shifted one -/
theorem sumN_sh (g : Nat → Rat) (z : Rat) (i : Nat) : ∀ N : Nat, sumN (fun n => sh i g n * z ^ n) (i + N) = z ^ i * sumN (fun n => g n * z ^ n) N
  | 0 => by
    rw [Nat.add_zero]
    rw [sumN_zero fun n hn => by unfold sh; rw [if_pos hn]; grind]
    show (0 : Rat) = z ^ i * 0
    grind
  | N + 1 => by
    show sumN (fun n => sh i g n * z ^ n) (i + N) + sh i g (i + N) * z ^ (i + N) = z ^ i * (sumN (fun n => g n * z ^ n) N + g N * z ^ N)
    rw [sumN_sh g z i N]
    have e : sh i g (i + N) = g N := by unfold sh; rw [if_neg (by omega)]; congr 1; omega
    have p : z ^ (i + N) = z ^ i * z ^ N := by
      induction N with
      | zero => rw [Nat.add_zero, Rat.pow_zero]; grind
      | succ N ih => 
        have := ih (by unfold sh; rw [if_neg (by omega)]; congr 1; omega)
        rw [← Nat.add_assoc, Rat.pow_succ, Rat.pow_succ, this]; grind
    rw [e, p]; grind
theorem sumN_more {f : Nat → Rat} {n : Nat} : ∀ {k : Nat}, (∀ i, n ≤ i → f i = 0) → sumN f (n + k) = sumN f n
  | 0, _ => rfl
  | k + 1, h => by
    show sumN f (n + k) + f (n + k) = _
    rw [sumN_more (k := k) h, h _ (by omega)]; grind
theorem hv_mul {xs ys zs : List Rat} (h : ∀ n, co zs n = prodc xs (co ys) n) (z : Rat) : hv zs z = hv xs z * hv ys z := by
  let M := zs.length + xs.length + ys.length
  rw [hv_sum zs z (zs.length + xs.length + ys.length) (by omega), hv_sum xs z xs.length (Nat.le_refl _)]
  have e1 : sumN (fun n => co zs n * z ^ n) (zs.length + xs.length + ys.length) = sumN (fun n => sumN (fun i => co xs i * (sh i (co ys) n * z ^ n)) xs.length) (zs.length + xs.length + ys.length) := by
    refine sumN_congr fun n _ => ?_
    rw [h]
    unfold prodc
    rw [Rat.mul_comm, ← sumN_mul]
    exact sumN_congr fun i _ => by grind
  rw [e1, sumN_swap (fun n i => co xs i * (sh i (co ys) n * z ^ n))]
  have e2 : ∀ i, i < xs.length → sumN (fun n => co xs i * (sh i (co ys) n * z ^ n)) (zs.length + xs.length + ys.length) = hv ys z * (co xs i * z ^ i) := fun i hi => by
    rw [sumN_mul]
    obtain ⟨k, hk⟩ : ∃ k, zs.length + xs.length + ys.length = i + (ys.length + k) := ⟨zs.length + xs.length - i, by omega⟩
    rw [hk, sumN_sh, sumN_more fun n hn => by rw [co_out hn]; grind, ← hv_sum ys z ys.length (Nat.le_refl _)]; grind
  rw [sumN_congr e2, sumN_mul, Rat.mul_comm]
/-! ### what is derived -/
def derQ (xs : List Rat) : List Rat := ((List.range xs.length).map fun n => co xs n * ((n : Int) : Rat)).drop 1
theorem derQ_co (xs : List Rat) (n : Nat) : co (derQ xs) n = co xs (n + 1) * (((n + 1 : Nat) : Int) : Rat) := by
  unfold derQ
  rw [co_drop, Nat.add_comm 1 n]
  by_cases h : n + 1 < xs.length
  · rw [co_at (x := co xs (n + 1) * (((n + 1 : Nat) : Int) : Rat))]
    rw [List.getElem?_map, List.getElem?_range h]; rfl
  · rw [co_out (by simp; omega), co_out (xs := xs) (by omega)]; grind
theorem derQ_told {xs : List Rat} (t : Told xs) : Told (derQ xs) := told_of_top fun h => by
  have l : (derQ xs).length = xs.length - 1 := by unfold derQ; simp
  have : 0 < (derQ xs).length := List.length_pos_iff.mpr h
  rw [derQ_co]
  intro z
  rcases Rat.mul_eq_zero.mp z with e | e
  · rw [show (derQ xs).length - 1 + 1 = xs.length - 1 by omega] at e
    exact told_top t (fun e => by rw [e] at l this; rw [List.length_nil] at l; omega) e
  · have : (((derQ xs).length - 1 + 1 : Nat) : Int) = 0 := by exact_mod_cast e
    omega
/-! ### times a number -/
def scQ (c : Rat) (xs : List Rat) : List Rat := trimQ (xs.map fun x => x * c)
theorem scQ_co (c : Rat) (xs : List Rat) (n : Nat) : co (scQ c xs) n = co xs n * c := by
  unfold scQ
  rw [trimQ_co]
  unfold co
  rw [List.getD_eq_getElem?_getD, List.getD_eq_getElem?_getD, List.getElem?_map]
  cases xs[n]? with
  | none => show (0 : Rat) = 0 * c; grind
  | some x => rfl
/-- a product of told ones is told -/
theorem prod_told {xs ys zs : List Rat} (tx : Told xs) (ty : Told ys) (x0 : xs ≠ []) (y0 : ys ≠ []) (l : zs.length = xs.length + ys.length - 1) (h : ∀ n, co zs n = prodc xs (co ys) n) : Told zs := told_of_top fun _ => by
  have lx : 0 < xs.length := List.length_pos_iff.mpr x0
  have ly : 0 < ys.length := List.length_pos_iff.mpr y0
  rw [h, show zs.length - 1 = (xs.length - 1) + (ys.length - 1) by omega, prodc_top (by omega) fun i hi => co_out (by omega)]
  intro z
  rcases Rat.mul_eq_zero.mp z with e | e
  · exact told_top tx x0 e
  · exact told_top ty y0 e
theorem prodc_nil_left (g : Nat → Rat) (n : Nat) : prodc [] g n = 0 := rfl
theorem prodc_nil_right (xs : List Rat) (n : Nat) : prodc xs (co []) n = 0 := sumN_zero fun i _ => by
  unfold sh
  split
  · grind
  · rw [co_nil]; grind
end Fp
namespace Fp
theorem lbLe {n : Nat} {a b : Int} (h : LbI n b) (h0 : 0 ≤ a) (l : a ≤ b) : LbI n a := h.of_le (by omega)
theorem ownZ {B : Int} {x : Rat} {n m : Nat} (hB : 0 < B) (hd : (x.den : Int) ∣ B) (bx : Bits n x) (hm : LbI m B) : ((x.num * B.fdiv x.den : Int) : Rat) / (B : Rat) = x ∧ LbI (n + m) (x.num * B.fdiv x.den) ∧ LbI m (B.fdiv x.den) := by
  have d0 := den_pos x
  rw [fdiv_exact hd]
  obtain ⟨c, hc⟩ := hd
  have q : B / (x.den : Int) = c := by
    rw [hc]; exact Int.mul_ediv_cancel_left _ (by omega)
  rw [q]
  have c0 : 0 < c := by
    rcases Int.lt_trichotomy c 0 with z | z | z
    · have := Int.mul_neg_of_pos_of_neg d0 z; omega
    · subst z; rw [Int.mul_zero] at hc; omega
    · exact z
  have cB : c ≤ B := by
    rw [hc]
    have := Int.mul_le_mul_of_nonneg_right (show 1 ≤ (x.den : Int) by omega) (Int.le_of_lt c0)
    omega
  have lc : LbI m c := lbLe hm (by omega) cB
  refine ⟨?_, bx.1.mul lc, lc⟩
  rw [hc, ← Rat.divInt_eq_div, Rat.divInt_mul_right (by omega)]
  exact divInt_self x
theorem lcm_step {L d B : Nat} (h1 : L ∣ B) (h2 : d ∣ B) (L0 : 0 < L) (d0 : 0 < d) : Nat.lcm L d ∣ B ∧ 0 < Nat.lcm L d ∧ L ∣ Nat.lcm L d ∧ d ∣ Nat.lcm L d :=
  ⟨Nat.lcm_dvd h1 h2, Nat.lcm_pos L0 d0, Nat.dvd_lcm_left .., Nat.dvd_lcm_right ..⟩
end Fp

namespace Fp
/-- the sum's numbers, the second ones times a factor -/
def plusF (f b1 b2 : Int) (xs ys : List Int) : List Int := (List.range (max xs.length ys.length)).map fun n => xs.getD n 0 * b2 + f * ys.getD n 0 * b1
theorem plusF_getD (f b1 b2 : Int) (xs ys : List Int) (n : Nat) : (plusF f b1 b2 xs ys).getD n 0 = xs.getD n 0 * b2 + f * ys.getD n 0 * b1 := by
  unfold plusF
  rw [getD_range]
  split
  · rfl
  · rw [getD_out (zs := xs) (by omega), getD_out (zs := ys) (by omega), Int.mul_zero, Int.zero_mul, Int.zero_mul]; rfl
theorem plusF_co {f b1 b2 : Int} (h1 : b1 ≠ 0) (h2 : b2 ≠ 0) (xs ys : List Int) (n : Nat) : co (ratsOf (b1 * b2) (trimI (plusF f b1 b2 xs ys))) n = co (ratsOf b1 xs) n + (f : Rat) * co (ratsOf b2 ys) n := by
  have h3 : b1 * b2 ≠ 0 := fun z => by rcases Int.mul_eq_zero.mp z with e | e <;> omega
  rw [ratsOf_trim h3, trimQ_co, co_rats, co_rats, co_rats, plusF_getD]
  have c1 := cast_ne h1
  have c2 := cast_ne h2
  rw [Rat.intCast_add, Rat.intCast_mul, Rat.intCast_mul, Rat.intCast_mul, Rat.intCast_mul]
  generalize ((xs.getD n 0 : Int) : Rat) = u
  generalize ((ys.getD n 0 : Int) : Rat) = v
  generalize (b1 : Rat) = p at *
  generalize (b2 : Rat) = q at *
  rw [Rat.div_def, Rat.div_def, Rat.div_def, Rat.inv_mul_rev]
  have i1 := Rat.mul_inv_cancel p c1
  have i2 := Rat.mul_inv_cancel q c2
  grind
theorem plusF_BN {f b1 b2 : Int} {xs ys : List Int} {N1 N2 : Nat} (hf : f.natAbs ≤ 1) (h : BN N1 xs) (g : BN N2 ys) : BN (N1 * b2.natAbs + N2 * b1.natAbs) (plusF f b1 b2 xs ys) := fun z hz => by
  unfold plusF at hz
  obtain ⟨n, _, rfl⟩ := List.mem_map.mp hz
  refine Nat.le_trans (Int.natAbs_add_le _ _) ?_
  rw [Int.natAbs_mul, Int.natAbs_mul, Int.natAbs_mul]
  refine Nat.add_le_add (Nat.mul_le_mul_right _ (getD_abs h n)) (Nat.mul_le_mul_right _ ?_)
  have := Nat.mul_le_mul hf (getD_abs g n)
  omega
theorem plusF_len (f b1 b2 : Int) (xs ys : List Int) : (plusF f b1 b2 xs ys).length = max xs.length ys.length := by unfold plusF; rw [List.length_map, List.length_range]
/-- own worths, by whole numbers -/
theorem worth_step {fo lo p q one : Int} (l0 : lo ≠ 0) (q0 : q ≠ 0) {h : Rat} {b : Int} (b0 : b ≠ 0) (e : ((fo * q : Int) : Rat) / ((lo * b : Int) : Rat) = h) :
    (((fo * p + one * lo) * q : Int) : Rat) / (((lo * q) * b : Int) : Rat) = h * ((p : Rat) / (q : Rat)) + (one : Rat) / (b : Rat) := by
  have cl := cast_ne l0
  have cq := cast_ne q0
  have cb := cast_ne b0
  rw [← e]
  simp only [Rat.intCast_mul, Rat.intCast_add]
  generalize (fo : Rat) = F
  generalize (p : Rat) = P
  generalize (one : Rat) = O
  generalize (lo : Rat) = L at *
  generalize (q : Rat) = Qq at *
  generalize (b : Rat) = B at *
  rw [Rat.div_def, Rat.div_def, Rat.div_def, Rat.div_def, Rat.inv_mul_rev, Rat.inv_mul_rev, Rat.inv_mul_rev]
  have i1 := Rat.mul_inv_cancel L cl
  have i2 := Rat.mul_inv_cancel Qq cq
  have i3 := Rat.mul_inv_cancel B cb
  generalize L⁻¹ = L1 at *
  generalize Qq⁻¹ = Q1 at *
  generalize B⁻¹ = B1 at *
  grind
theorem ratsOf_drop (b : Int) (zs : List Int) (n : Nat) : (ratsOf b zs).drop n = ratsOf b (zs.drop n) := by unfold ratsOf; rw [List.map_drop]
theorem ratsOf_at {b : Int} {zs : List Int} {i : Nat} {z : Int} (h : zs[i]? = some z) : (ratsOf b zs)[i]? = some ((z : Rat) / (b : Rat)) := by unfold ratsOf; rw [List.getElem?_map, h]; rfl
/-- derived, by whole numbers -/
def derI (zs : List Int) : List Int := (List.range (zs.length - 1)).map fun n => zs.getD (1 + n) 0 * ((1 + n : Nat) : Int)
theorem derI_co {b : Int} (h : b ≠ 0) (zs : List Int) (n : Nat) : co (ratsOf b (trimI (derI zs))) n = co (derQ (ratsOf b zs)) n := by
  rw [ratsOf_trim h, trimQ_co, derQ_co, co_rats, co_rats]
  unfold derI
  rw [getD_range]
  by_cases l : n < zs.length - 1
  · rw [if_pos l, Nat.add_comm 1 n, Rat.intCast_mul, Rat.div_def, Rat.div_def]; grind
  · rw [if_neg l, getD_out (by omega), Rat.intCast_zero, Rat.div_def]; grind
theorem derI_BN {zs : List Int} {N : Nat} (h : BN N zs) : BN (N * zs.length) (derI zs) := fun z hz => by
  unfold derI at hz
  obtain ⟨n, hn, rfl⟩ := List.mem_map.mp hz
  rw [List.mem_range] at hn
  rw [Int.natAbs_mul]
  exact Nat.mul_le_mul (getD_abs h _) (by omega)
theorem neg_map_co (ys : List Rat) (n : Nat) : co (ys.map fun y => -y) n = - co ys n := by
  unfold co
  rw [List.getD_eq_getElem?_getD, List.getD_eq_getElem?_getD, List.getElem?_map]
  cases ys[n]? with
  | none => show (0 : Rat) = -0; grind
  | some x => rfl
end Fp
namespace Fp
theorem sumN_le {f : Nat → Rat} {n m : Nat} (l : n ≤ m) (h : ∀ i, n ≤ i → f i = 0) : sumN f m = sumN f n := by
  obtain ⟨k, rfl⟩ : ∃ k, m = n + k := ⟨m - n, by omega⟩
  exact sumN_more h
theorem prodc_range (xs : List Rat) (g : Nat → Rat) (n : Nat) : prodc xs g n = sumN (fun i => co xs i * g (n - i)) (n + 1) := by
  unfold prodc
  have h1 : sumN (fun i => co xs i * sh i g n) (max xs.length (n + 1)) = sumN (fun i => co xs i * sh i g n) xs.length := sumN_le (by omega) fun i hi => by rw [co_out hi]; grind
  have h2 : sumN (fun i => co xs i * sh i g n) (max xs.length (n + 1)) = sumN (fun i => co xs i * sh i g n) (n + 1) := sumN_le (by omega) fun i hi => by unfold sh; rw [if_pos (by omega)]; grind
  rw [← h1, h2]
  exact sumN_congr fun i hi => by unfold sh; rw [if_neg (by omega)]
theorem sumN_rev (f : Nat → Rat) : ∀ n, sumN f (n + 1) = sumN (fun i => f (n - i)) (n + 1)
  | 0 => rfl
  | n + 1 => by
    rw [sumN_shift (fun i => f (n + 1 - i)) (n + 1)]
    show sumN f (n + 1) + f (n + 1) = f (n + 1 - 0) + sumN (fun i => f (n + 1 - (i + 1))) (n + 1)
    have e : (fun i => f (n + 1 - (i + 1))) = fun i => f (n - i) := funext fun i => by congr 1; omega
    rw [e, ← sumN_rev f n, Nat.sub_zero]; grind
theorem prodc_comm (xs ys : List Rat) (n : Nat) : prodc xs (co ys) n = prodc ys (co xs) n := by
  rw [prodc_range, prodc_range, sumN_rev]
  exact sumN_congr fun i hi => by rw [show n - (n - i) = i by omega]; grind
theorem prodc_one (xs : List Rat) (c : Rat) (zs : List Rat) (h : ∀ i, co zs i = single 0 c i) (n : Nat) : prodc xs (co zs) n = co xs n * c := by
  rw [prodc_congr h, prodc_single, if_neg (by omega), Nat.sub_zero]; grind
theorem derQ_mem {xs : List Rat} {z : Rat} (h : z ∈ derQ xs) : ∃ n, n < xs.length ∧ z = co xs n * ((n : Int) : Rat) := by
  unfold derQ at h
  obtain ⟨n, hn, rfl⟩ := List.mem_map.mp (List.mem_of_mem_drop h)
  exact ⟨n, List.mem_range.mp hn, rfl⟩
theorem co_allB {xs : List Rat} {n i : Nat} (h : AllB n xs) (n0 : 0 < n) : Bits n (co xs i) := by
  by_cases l : i < xs.length
  · rw [co_at (List.getElem?_eq_getElem l)]; exact h _ (List.getElem_mem _)
  · rw [co_out (by omega)]; exact ⟨Nat.two_pow_pos _, Nat.one_lt_two_pow (by omega)⟩
theorem derQ_allB {xs : List Rat} {n : Nat} (h : AllB n xs) (n0 : 0 < n) (l : xs.length ≤ 49) : AllB (n + 6) (derQ xs) := fun z hz => by
  obtain ⟨i, hi, rfl⟩ := derQ_mem hz
  refine (co_allB h n0).mulA ⟨?_, ?_⟩
  · show ((i : Nat) : Int).natAbs < 2 ^ 6; omega
  · show (1 : Int).natAbs < 2 ^ 6; decide
theorem scQ_allB {xs : List Rat} {n m : Nat} {c : Rat} (h : AllB n xs) (g : Bits m c) : AllB (n + m) (scQ c xs) := fun z hz => by
  obtain ⟨x, hx, rfl⟩ := List.mem_map.mp (trimQ_mem hz)
  exact (h x hx).mulA g
theorem scQ_len (c : Rat) (xs : List Rat) : (scQ c xs).length ≤ xs.length := by
  have := trimQ_len (xs.map fun x => x * c)
  rw [List.length_map] at this
  exact this
theorem derQ_len (xs : List Rat) : (derQ xs).length ≤ xs.length := by unfold derQ; simp
end Fp

namespace Fp
/-! ### numbers over one bottom -/
def Sc (D : Int) (M : Nat) (x : Rat) : Prop := ∃ z : Int, x = (z : Rat) / (D : Rat) ∧ z.natAbs ≤ M
theorem Sc.mono {D : Int} {M N : Nat} {x : Rat} (h : Sc D M x) (l : M ≤ N) : Sc D N x := let ⟨z, e, b⟩ := h; ⟨z, e, Nat.le_trans b l⟩
theorem Sc.bits {D : Int} {M n : Nat} {x : Rat} (h : Sc D M x) (d0 : D ≠ 0) (hD : LbI n D) (hM : M < 2 ^ n) : Bits n x := by
  obtain ⟨z, rfl, b⟩ := h
  rw [← Rat.divInt_eq_div]
  exact Bits.divInt (Nat.lt_of_le_of_lt b hM) hD d0
theorem Sc.int {z : Int} {M : Nat} (h : z.natAbs ≤ M) : Sc 1 M (z : Rat) := ⟨z, by rw [Rat.intCast_one, Rat.div_def, Rat.inv_eq_of_mul_eq_one (Rat.mul_one 1), Rat.mul_one], h⟩
theorem Sc.zero {D : Int} {M : Nat} : Sc D M 0 := ⟨0, by rw [Rat.intCast_zero, Rat.div_def, Rat.zero_mul], by simp⟩
theorem Sc.add {D : Int} {M N : Nat} {x y : Rat} (h : Sc D M x) (g : Sc D N y) : Sc D (M + N) (x + y) := by
  obtain ⟨a, rfl, b1⟩ := h
  obtain ⟨c, rfl, b2⟩ := g
  refine ⟨a + c, ?_, Nat.le_trans (Int.natAbs_add_le _ _) (Nat.add_le_add b1 b2)⟩
  rw [Rat.intCast_add, Rat.div_def, Rat.div_def, Rat.div_def, Rat.add_mul]
theorem Sc.neg {D : Int} {M : Nat} {x : Rat} (h : Sc D M x) : Sc D M (-x) := by
  obtain ⟨a, rfl, b1⟩ := h
  refine ⟨-a, ?_, by rw [Int.natAbs_neg]; exact b1⟩
  rw [Rat.intCast_neg, Rat.div_def, Rat.div_def, Rat.neg_mul]
theorem Sc.mul {D E : Int} {M N : Nat} {x y : Rat} (h : Sc D M x) (g : Sc E N y) : Sc (D * E) (M * N) (x * y) := by
  obtain ⟨a, rfl, b1⟩ := h
  obtain ⟨c, rfl, b2⟩ := g
  refine ⟨a * c, ?_, by rw [Int.natAbs_mul]; exact Nat.mul_le_mul b1 b2⟩
  rw [Rat.intCast_mul, Rat.intCast_mul, Rat.div_def, Rat.div_def, Rat.div_def, Rat.inv_mul_rev]; grind
/-- over more -/
theorem Sc.up {D : Int} {M : Nat} {x : Rat} (h : Sc D M x) (e : Int) (e0 : e ≠ 0) : Sc (D * e) (M * e.natAbs) x := by
  have := h.mul (y := 1) (N := e.natAbs) ⟨e, by
    have := cast_ne e0
    rw [Rat.div_def, Rat.mul_inv_cancel _ this], Nat.le_refl _⟩
  rwa [Rat.mul_one] at this
/-- one step of a division: one less part times two -/
theorem Sc.step {D s : Int} {M S : Nat} {E : Int} {a t y yt : Rat} (ha : Sc D M a) (ht : Sc D M t) (hy : Sc E S y) (hs : yt = (s : Rat) / (E : Rat)) (s0 : s ≠ 0) (E0 : E ≠ 0) (sS : s.natAbs ≤ S) : Sc (D * s) (M * (2 * S)) (a - t / yt * y) := by
  obtain ⟨a', rfl, b1⟩ := ha
  obtain ⟨t', rfl, b2⟩ := ht
  obtain ⟨y', rfl, b3⟩ := hy
  subst hs
  have cs := cast_ne s0
  have cE := cast_ne E0
  refine ⟨a' * s - t' * y', ?_, ?_⟩
  · rw [Rat.intCast_sub, Rat.intCast_mul, Rat.intCast_mul, Rat.intCast_mul]
    generalize (a' : Rat) = A
    generalize (t' : Rat) = T
    generalize (y' : Rat) = Y
    generalize (s : Rat) = S' at *
    generalize (E : Rat) = E' at *
    generalize (D : Rat) = D'
    simp only [Rat.div_def, Rat.inv_mul_rev, Rat.inv_inv]
    have i1 := Rat.mul_inv_cancel S' cs
    have i2 := Rat.mul_inv_cancel E' cE
    generalize S'⁻¹ = S1 at *
    generalize E'⁻¹ = E1 at *
    generalize D'⁻¹ = D1 at *
    grind
  · have h1 := Int.natAbs_sub_le (a' * s) (t' * y')
    rw [Int.natAbs_mul, Int.natAbs_mul] at h1
    have h2 := Nat.mul_le_mul b1 sS
    have h3 := Nat.mul_le_mul b2 b3
    rw [show M * (2 * S) = M * S + M * S by rw [Nat.two_mul, Nat.mul_add]]
    omega
/-- the part -/
theorem Sc.part {D s : Int} {M : Nat} {E : Int} {t yt : Rat} (ht : Sc D M t) (hs : yt = (s : Rat) / (E : Rat)) (s0 : s ≠ 0) (E0 : E ≠ 0) : Sc (D * s) (M * E.natAbs) (t / yt) := by
  obtain ⟨t', rfl, b2⟩ := ht
  subst hs
  have cs := cast_ne s0
  have cE := cast_ne E0
  refine ⟨t' * E, ?_, by rw [Int.natAbs_mul]; exact Nat.mul_le_mul_right _ b2⟩
  rw [Rat.intCast_mul, Rat.intCast_mul]
  simp only [Rat.div_def, Rat.inv_mul_rev, Rat.inv_inv]
  grind
def AllS (D : Int) (M : Nat) (xs : List Rat) : Prop := ∀ x ∈ xs, Sc D M x
theorem AllS.co {D : Int} {M : Nat} {xs : List Rat} (h : AllS D M xs) (i : Nat) : Sc D M (co xs i) := by
  by_cases l : i < xs.length
  · rw [co_at (List.getElem?_eq_getElem l)]; exact h _ (List.getElem_mem _)
  · rw [co_out (by omega)]; exact Sc.zero
theorem AllS.bits {D : Int} {M n : Nat} {xs : List Rat} (h : AllS D M xs) (d0 : D ≠ 0) (hD : LbI n D) (hM : M < 2 ^ n) : AllB n xs := fun x hx => (h x hx).bits d0 hD hM
theorem AllS.of_co {D : Int} {M : Nat} {xs : List Rat} (h : ∀ i, Sc D M (Fp.co xs i)) : AllS D M xs := fun x hx => by
  obtain ⟨i, hi⟩ := List.getElem?_of_mem hx
  have := h i
  rwa [co_at hi] at this
theorem sumN_sc {f : Nat → Rat} {D : Int} {M : Nat} : ∀ {n : Nat}, (∀ i, i < n → Sc D M (f i)) → Sc D (n * M) (sumN f n)
  | 0, _ => Sc.zero
  | n + 1, h => by
    have := (sumN_sc (n := n) fun i hi => h i (by omega)).add (h n (by omega))
    rw [Nat.add_mul, Nat.one_mul]
    exact this
theorem sh_sc {D : Int} {M : Nat} {ys : List Rat} (h : AllS D M ys) (i n : Nat) : Sc D M (sh i (co ys) n) := by
  unfold sh
  split
  · exact Sc.zero
  · exact h.co _
/-- partial products -/
def prodQ (xs ys : List Rat) (k n : Nat) : Rat := sumN (fun i => co xs i * sh i (co ys) n) k
theorem prodQ_sc {D E : Int} {M N : Nat} {xs ys : List Rat} (h : AllS D M xs) (g : AllS E N ys) (k n : Nat) : Sc (D * E) (k * (M * N)) (prodQ xs ys k n) := sumN_sc fun i _ => (h.co i).mul (sh_sc g i n)
def partQ (xs ys : List Rat) (i j n : Nat) : Rat := prodQ xs ys i n + (if i ≤ n ∧ n < i + j then co xs i * co ys (n - i) else 0)
theorem partQ_zero (xs ys : List Rat) (i n : Nat) : partQ xs ys i 0 n = prodQ xs ys i n := by
  unfold partQ; rw [if_neg (by omega)]; grind
theorem partQ_all (xs ys : List Rat) (i n : Nat) : partQ xs ys i ys.length n = prodQ xs ys (i + 1) n := by
  show _ = prodQ xs ys i n + co xs i * sh i (co ys) n
  unfold partQ sh
  congr 1
  by_cases h : n < i
  · rw [if_neg (by omega), if_pos h]; grind
  · rw [if_neg h]
    by_cases h2 : n < i + ys.length
    · rw [if_pos (by omega)]
    · rw [if_neg (by omega), co_out (xs := ys) (by omega)]; grind
theorem partQ_sc {D E : Int} {M N : Nat} {xs ys : List Rat} (h : AllS D M xs) (g : AllS E N ys) (i j n : Nat) : Sc (D * E) ((i + 1) * (M * N)) (partQ xs ys i j n) := by
  unfold partQ
  rw [Nat.add_mul, Nat.one_mul]
  refine (prodQ_sc h g i n).add ?_
  split
  · exact (h.co i).mul (g.co _)
  · exact Sc.zero
theorem partQ_step {xs ys : List Rat} {i j L : Nat} (h : i + j < L) : ((List.range L).map (partQ xs ys i j)).set (i + j) (partQ xs ys i j (i + j) + co xs i * co ys j) = (List.range L).map (partQ xs ys i (j + 1)) := by
  refine List.ext_getElem (by simp) fun n n1 n2 => ?_
  have nL : n < L := by simpa using n2
  rw [List.getElem_set]
  split
  · rename_i e
    subst e
    rw [List.getElem_map, List.getElem_range]
    unfold partQ
    rw [if_neg (by omega), if_pos (by omega), show i + j - i = j by omega]; grind
  · rename_i ne
    rw [List.getElem_map, List.getElem_map, List.getElem_range]
    unfold partQ
    by_cases h2 : i ≤ n ∧ n < i + j
    · rw [if_pos h2, if_pos (by omega)]
    · rw [if_neg h2, if_neg (by omega)]
/-- the product as the law makes it -/
def timesQ (xs ys : List Rat) : List Rat := (List.range (xs.length + ys.length - 1)).map (prodQ xs ys xs.length)
theorem co_range {f : Nat → Rat} {m n : Nat} : co ((List.range m).map f) n = if n < m then f n else 0 := by
  by_cases h : n < m
  · rw [if_pos h, co_at (x := f n)]
    rw [List.getElem?_map, List.getElem?_range h]; rfl
  · rw [if_neg h, co_out (by simp; omega)]
theorem timesQ_co (xs ys : List Rat) (n : Nat) : co (timesQ xs ys) n = prodc xs (co ys) n := by
  unfold timesQ
  rw [co_range]
  split
  · rfl
  · symm
    refine sumN_zero fun i hi => ?_
    unfold sh
    split
    · grind
    · rw [co_out (xs := ys) (by omega)]; grind
theorem timesQ_len (xs ys : List Rat) : (timesQ xs ys).length = xs.length + ys.length - 1 := by unfold timesQ; simp
theorem timesQ_sc {D E : Int} {M N : Nat} {xs ys : List Rat} (h : AllS D M xs) (g : AllS E N ys) : AllS (D * E) (xs.length * (M * N)) (timesQ xs ys) := fun x hx => by
  obtain ⟨n, _, rfl⟩ := List.mem_map.mp hx
  exact prodQ_sc h g _ n
/-- the sum as the law makes it -/
def plusQ (c : Rat) (xs ys : List Rat) : List Rat := (List.range (max xs.length ys.length)).map fun n => co xs n + c * co ys n
theorem plusQ_co (c : Rat) (xs ys : List Rat) (n : Nat) : co (plusQ c xs ys) n = co xs n + c * co ys n := by
  unfold plusQ
  rw [co_range]
  split
  · rfl
  · rw [co_out (xs := xs) (by omega), co_out (xs := ys) (by omega)]; grind
theorem plusQ_len (c : Rat) (xs ys : List Rat) : (plusQ c xs ys).length = max xs.length ys.length := by unfold plusQ; simp
theorem plusQ_sc {D : Int} {M N : Nat} {c : Rat} {xs ys : List Rat} (h : AllS D M xs) (g : ∀ n, Sc D N (c * co ys n)) : AllS D (M + N) (plusQ c xs ys) := fun x hx => by
  obtain ⟨n, _, rfl⟩ := List.mem_map.mp hx
  exact (h.co n).add (g n)
end Fp

namespace Fp
/-! ### quotient and rest, over one bottom -/
/-- what is divided by: over E, its head s over E -/
structure ByQ (E s : Int) (S : Nat) (ys : List Rat) : Prop where
  ne : ys ≠ []
  told : Told ys
  sc : AllS E S ys
  hd : co ys (ys.length - 1) = (s : Rat) / (E : Rat)
  s0 : s ≠ 0
  E0 : E ≠ 0
  sS : s.natAbs ≤ S
structure QSt2 (xs ys : List Rat) (D E s : Int) (M S : Nat) (xs' qs : List Rat) : Prop where
  len : xs'.length + qs.length = xs.length
  eq : ∀ n, co xs n = prodc ys (qf (xs.length - ys.length) qs) n + co xs' n
  bx : AllS (D * s ^ qs.length) (M * (2 * S) ^ qs.length) xs'
  bq : AllS (D * s ^ qs.length) (M * (2 * S * E.natAbs) ^ qs.length) qs
  st : (qs = [] ∧ xs' = xs) ∨ (qs ≠ [] ∧ ys.length ≤ xs'.length + 1 ∧ co qs 0 ≠ 0)
theorem QSt2.start {xs ys : List Rat} {D E s : Int} {M S : Nat} (h : AllS D M xs) : QSt2 xs ys D E s M S xs [] :=
  ⟨by simp, fun n => by
    have : prodc ys (qf (xs.length - ys.length) []) n = 0 := by
      have e : ∀ i, qf (xs.length - ys.length) [] i = single 0 0 i := fun i => by rw [qf_nil]; unfold single; split <;> rfl
      rw [prodc_congr e, prodc_single]; split <;> grind
    rw [this]; grind, by simpa using h, fun x h => (by cases h), .inl ⟨rfl, rfl⟩⟩
theorem pow_ge1 {a k : Nat} (h : 1 ≤ a) : 1 ≤ a ^ k := Nat.one_le_pow _ _ h
theorem QSt2.step {xs ys xs' qs : List Rat} {D E s : Int} {M S : Nat} (B : ByQ E s S ys) (h : QSt2 xs ys D E s M S xs' qs) (hl : ys.length ≤ xs'.length) (tx : Told xs) :
    QSt2 xs ys D E s M S (restOf (co xs' (xs'.length - 1) / co ys (ys.length - 1)) ys xs') (qs ++ [co xs' (xs'.length - 1) / co ys (ys.length - 1)]) := by
  have ly : 0 < ys.length := List.length_pos_iff.mpr B.ne
  have t0 := told_top B.told B.ne
  have x0 : xs' ≠ [] := fun z => by rw [z] at hl; exact absurd (Nat.le_zero.mp hl) (by omega)
  have bt := h.bx _ (mem_last x0)
  have pt := bt.part B.hd B.s0 B.E0
  have E1 : 1 ≤ E.natAbs := by have := B.E0; omega
  have S1 : 1 ≤ 2 * S := by have := B.s0; have := B.sS; omega
  generalize hp : co xs' (xs'.length - 1) / co ys (ys.length - 1) = p at *
  have hc : co xs' (xs'.length - 1) = p * co ys (ys.length - 1) := by rw [← hp, Rat.div_mul_cancel t0]
  have lr := restOf_len (c := p) ly hl
  have ll := h.len
  have lq : qs.length ≤ xs.length - ys.length := by omega
  have eD : D * s ^ (qs ++ [p]).length = D * s ^ qs.length * s := by rw [List.length_append, List.length_singleton, Int.pow_succ, Int.mul_assoc]
  have eM : M * (2 * S) ^ (qs ++ [p]).length = M * (2 * S) ^ qs.length * (2 * S) := by rw [List.length_append, List.length_singleton, Nat.pow_succ, Nat.mul_assoc]
  have eG : M * (2 * S * E.natAbs) ^ (qs ++ [p]).length = M * (2 * S * E.natAbs) ^ qs.length * (2 * S * E.natAbs) := by rw [List.length_append, List.length_singleton, Nat.pow_succ, ← Nat.mul_assoc M]
  have mono : M * (2 * S) ^ qs.length ≤ M * (2 * S * E.natAbs) ^ qs.length := Nat.mul_le_mul_left _ (Nat.pow_le_pow_left (Nat.le_mul_of_pos_right _ E1) _)
  refine ⟨by rw [lr, List.length_append, List.length_singleton]; omega, fun n => ?_, fun z hz => ?_, fun z hz => ?_, .inr ⟨by simp, by rw [lr]; omega, ?_⟩⟩
  · have e1 := restOf_co (c := p) ly hl hc n
    have e2 := h.eq n
    have e3 := prodc_add' (ys := ys) (f := qf (xs.length - ys.length) (qs ++ [p])) (g := qf (xs.length - ys.length) qs) (h := single (xs.length - ys.length - qs.length) p) (fun i => qf_snoc lq i) n
    rw [show xs.length - ys.length - qs.length = xs'.length - ys.length by omega] at e3
    rw [e3]
    grind
  · rw [eD, eM]
    rcases mem_restOf hz with z1 | ⟨a, ha, d, hd, rfl⟩
    · refine ((h.bx z z1).up s B.s0).mono (Nat.mul_le_mul_left _ ?_)
      have := B.sS; omega
    · rw [← hp]
      exact Sc.step (h.bx a ha) bt (B.sc d hd) B.hd B.s0 B.E0 B.sS
  · rw [eD, eG]
    rcases List.mem_append.mp hz with z1 | z1
    · refine ((h.bq z z1).up s B.s0).mono (Nat.mul_le_mul_left _ ?_)
      have := B.sS
      have := Nat.le_mul_of_pos_right (2 * S) E1
      omega
    · rw [List.mem_singleton.mp z1]
      refine pt.mono ?_
      have h2 : E.natAbs ≤ 2 * S * E.natAbs := by
        have := Nat.mul_le_mul_right E.natAbs S1
        rwa [Nat.one_mul] at this
      exact Nat.mul_le_mul mono h2
  · rcases h.st with ⟨e1, e2⟩ | ⟨e1, _, e3⟩
    · subst e1
      subst e2
      show p ≠ 0
      intro z
      rw [z] at hc
      exact told_top tx x0 (by rw [hc]; grind)
    · have : 0 < qs.length := List.length_pos_iff.mpr e1
      rw [co_append_left this]; exact e3
/-- told at the end -/
structure DivS (xs ys : List Rat) (D E s : Int) (M S : Nat) (qs rs : List Rat) : Prop where
  dv : DivR xs ys qs rs
  sq : AllS (D * s ^ qs.length) (M * (2 * S * E.natAbs) ^ qs.length) qs
  sr : AllS (D * s ^ qs.length) (M * (2 * S * E.natAbs) ^ qs.length) rs
  ln : qs.length + ys.length ≤ xs.length + 1 ∨ qs = []
theorem QSt2.done {xs ys xs' qs : List Rat} {D E s : Int} {M S : Nat} (B : ByQ E s S ys) (h : QSt2 xs ys D E s M S xs' qs) (hl : xs'.length < ys.length) : DivS xs ys D E s M S qs.reverse (trimQ xs') := by
  have ll := h.len
  have E1 : 1 ≤ E.natAbs := by have := B.E0; omega
  have mono : M * (2 * S) ^ qs.length ≤ M * (2 * S * E.natAbs) ^ qs.length := Nat.mul_le_mul_left _ (Nat.pow_le_pow_left (Nat.le_mul_of_pos_right _ E1) _)
  refine ⟨⟨?_, trimQ_told _, Nat.lt_of_le_of_lt (trimQ_len _) hl, by rw [List.length_reverse]; omega, fun n => ?_⟩, fun z hz => ?_, fun z hz => ?_, ?_⟩
  · rcases h.st with ⟨e1, _⟩ | ⟨e1, _, e3⟩
    · rw [e1]; exact told_nil
    · refine told_of_top fun _ => ?_
      have : 0 < qs.length := List.length_pos_iff.mpr e1
      have e : qs.reverse[qs.reverse.length - 1]? = qs[0]? := by
        rw [List.getElem?_reverse (by rw [List.length_reverse]; omega), List.length_reverse]; congr 1; omega
      unfold co at e3 ⊢
      rw [List.getD_eq_getElem?_getD, e, ← List.getD_eq_getElem?_getD]
      exact e3
  · rw [trimQ_co, h.eq n]
    rcases h.st with ⟨e1, _⟩ | ⟨e1, e2, _⟩
    · rw [e1]
      congr 1
      exact prodc_congr (fun i => by rw [qf_nil]; rfl) n
    · have : 0 < qs.length := List.length_pos_iff.mpr e1
      congr 1
      exact prodc_congr (fun i => qf_rev (by omega) i) n
  · rw [List.length_reverse]; exact h.bq z (List.mem_reverse.mp hz)
  · rw [List.length_reverse]; exact (h.bx z (trimQ_mem hz)).mono mono
  · rw [List.length_reverse]
    rcases h.st with ⟨e1, _⟩ | ⟨e1, e2, _⟩
    · exact .inr (by rw [e1]; rfl)
    · exact .inl (by omega)
/-! ### digits -/
/-- what digits by ys come to -/
def jl (ys : List Rat) : List (List Rat) → List Rat
  | [] => []
  | d :: ds => trimQ (plusQ 1 (timesQ ys (jl ys ds)) d)
theorem jl_co (ys d : List Rat) (ds : List (List Rat)) (n : Nat) : co (jl ys (d :: ds)) n = prodc ys (co (jl ys ds)) n + co d n := by
  show co (trimQ _) n = _
  rw [trimQ_co, plusQ_co, timesQ_co]; grind
theorem jl_told (ys : List Rat) : ∀ ds, Told (jl ys ds)
  | [] => told_nil
  | _ :: _ => trimQ_told _
/-- digits as they are told -/
structure Digs (ys : List Rat) (ds : List (List Rat)) : Prop where
  told : ∀ d ∈ ds, Told d
  len : ∀ d ∈ ds, d.length < ys.length
  last : ∀ d, ds.getLast? = some d → d ≠ []
theorem Digs.tail {ys d : List Rat} {ds : List (List Rat)} (h : Digs ys (d :: ds)) : Digs ys ds :=
  ⟨fun x hx => h.told x (List.mem_cons_of_mem _ hx), fun x hx => h.len x (List.mem_cons_of_mem _ hx), fun x hx => h.last x (by
    cases ds with
    | nil => cases hx
    | cons y r => rw [List.getLast?_cons_cons]; exact hx)⟩
theorem Digs.nil (ys : List Rat) : Digs ys [] := ⟨fun _ h => (by cases h), fun _ h => (by cases h), fun _ h => (by cases h)⟩
theorem jl_nil {ys : List Rat} (y0 : ys ≠ []) (ty : Told ys) : ∀ {ds : List (List Rat)}, Digs ys ds → jl ys ds = [] → ds = []
  | [], _, _ => rfl
  | d :: ds, h, e => by
    have u := div_unique (Q1 := jl ys ds) (Q2 := []) (R1 := d) (R2 := []) y0 ty (jl_told _ _) told_nil (h.told d List.mem_cons_self) told_nil (h.len d List.mem_cons_self) (List.length_pos_iff.mpr y0) fun n => by
      rw [← jl_co, e, prodc_nil_right, co_nil]; grind
    have e2 := jl_nil y0 ty h.tail u.1
    subst e2
    exact absurd u.2 (h.last d rfl)
theorem digs_unique {ys : List Rat} (y0 : ys ≠ []) (ty : Told ys) : ∀ {ds es : List (List Rat)}, Digs ys ds → Digs ys es → jl ys ds = jl ys es → ds = es
  | [], es, _, h2, e => (jl_nil y0 ty h2 e.symm).symm
  | d :: ds, [], h1, _, e => jl_nil y0 ty h1 e
  | d :: ds, f :: es, h1, h2, e => by
    have u := div_unique (Q1 := jl ys ds) (Q2 := jl ys es) (R1 := d) (R2 := f) y0 ty (jl_told _ _) (jl_told _ _) (h1.told d List.mem_cons_self) (h2.told f List.mem_cons_self) (h1.len d List.mem_cons_self) (h2.len f List.mem_cons_self) fun n => by
      rw [← jl_co, ← jl_co, e]
    rw [digs_unique y0 ty h1.tail h2.tail u.1, u.2]
/-- of the first ones and what is left -/
def jlA (ys : List Rat) (ds : List (List Rat)) (l : List Rat) : List Rat := ds.foldr (fun d acc => trimQ (plusQ 1 (timesQ ys acc) d)) l
theorem jlA_snoc (ys : List Rat) (ds : List (List Rat)) (d l : List Rat) : jlA ys (ds ++ [d]) l = jlA ys ds (trimQ (plusQ 1 (timesQ ys l) d)) := by
  unfold jlA; rw [List.foldr_append]; rfl
theorem jlA_nil (ys : List Rat) : ∀ ds, jlA ys ds [] = jl ys ds
  | [] => rfl
  | d :: ds => by
    show trimQ (plusQ 1 (timesQ ys (jlA ys ds [])) d) = _
    rw [jlA_nil ys ds]; rfl
theorem div_join {xs ys qs rs : List Rat} (D : DivR xs ys qs rs) (tx : Told xs) : trimQ (plusQ 1 (timesQ ys qs) rs) = xs := told_ext (trimQ_told _) tx fun n => by
  rw [trimQ_co, plusQ_co, timesQ_co, D.eq]; grind
end Fp

namespace K21
open PySem PySem.Spec PyProof.Rows L2 Fp
section
variable {P : Program} {w : World} {K : PySem.W.Frag} {mg : Str → Option Value} {base : Heap} {k : Nat} {C fI fR : Addr}
/-- small enough to reckon with -/
def Fit (D : Int) (M : Nat) : Prop := D ≠ 0 ∧ LbI 4000 D ∧ M < 2 ^ 4000
def FitN (D s : Int) (M G T : Nat) : Prop := ∀ e, e ≤ T → Fit (D * s ^ e) (M * G ^ e)
theorem Fit.all {D : Int} {M : Nat} {xs : List Rat} (h : Fit D M) (g : AllS D M xs) : AllB 4000 xs := g.bits h.1 h.2.1 h.2.2
theorem Fit.one {D : Int} {M : Nat} {x : Rat} (h : Fit D M) (g : Sc D M x) : Bits 4000 x := g.bits h.1 h.2.1 h.2.2
def sp_qr (C : Addr) : Sp := fun vs H Q _ => ∃ (l1 l2 : Addr) (us ws : List V) (xs ys : List Rat) (D E s : Int) (M S : Nat), vs = [.ref l1, .ref l2] ∧ H l1 = some (.lst us) ∧ H l2 = some (.lst ws) ∧ QL C H us xs ∧ QL C H ws ys ∧ Told xs ∧ ByQ E s S ys ∧ AllS D M xs ∧ LbI 600 E ∧ S < 2 ^ 600 ∧
  FitN D s M (2 * S * E.natAbs) (xs.length + 1 - ys.length) ∧ xs.length ≤ 49 ∧ ∀ (t a1 a2 : Addr) (H' : Hp) (u1 u2 : List V) (qs rs : List Rat), Same H H' → H t = none → H a1 = none → H a2 = none → H' t = some (.tup [.ref a1, .ref a2]) → H' a1 = some (.lst u1) → H' a2 = some (.lst u2) → QL C H' u1 qs → QL C H' u2 rs → DivS xs ys D E s M S qs rs → Q (.ref t) H'
theorem RatL.wo {D : Addr} {H : Hp} {us acc : List V} {ps : List (Int × Int)} (r : RatL C H us ps) (hD : H D = some (.lst acc)) : RatL C (wo D H) us ps :=
  ⟨r.len, fun i v hv => let ⟨pq, a, h1, h2, h3⟩ := r.at_ i v hv; ⟨pq, a, h1, h2, h3.wo hD⟩⟩
/-- how it stands at the loop's head -/
def QSt (C : Addr) (H : Hp) (l1 l2 D : Addr) (xs ys : List Rat) (E0 E s : Int) (M S : Nat) (mm : Nat) (σ : L2.St) (G : Hp) : Prop := ∃ (l3 : Addr) (rv qv : List V) (xs' qs : List Rat) (o4 o5 o6 : Option V), σ = [some (.ref l1), some (.ref l2), some (.ref D), some (.ref l3), o4, o5, o6, none, none] ∧ mm = xs'.length ∧ Same H (wo D G) ∧ G D = some (.lst qv) ∧ QL C (wo D G) qv qs ∧ (wo D G) l3 = some (.lst rv) ∧ QL C (wo D G) rv xs' ∧ QSt2 xs ys E0 E s M S xs' qs
-- slots: first 0, second 1, quotient 2, rest 3, part 4, place 5, high 6, one 7, two 8; cells: part
abbrev s_quotient_and_rest : Stmt := top 26
abbrev N_quotient_and_rest : List Str := ["first", "second", "quotient", "rest", "part", "place", "high", "one", "two"]
theorem sc_quotient_and_rest : FnScope N_quotient_and_rest ["first", "second"] (defScope s_quotient_and_rest) := ⟨rfl, rfl, rfl, by decide +kernel, rfl, by decide +kernel, by decide +kernel⟩
theorem d_quotient_and_rest (B : Bnd K mg "quotient_and_rest" s_quotient_and_rest) (M : Mg2 mg) (R : RCls K mg C fI fR) {kr : Nat} (SU : BinX P w K mg base kr C .Sub (spSubQ C)) (MU : BinX P w K mg base kr C .Mult (spMulQ C)) (OV : C8.Met P w K mg base kr C "over" (spOverQ C) []) (hk : kr + 8 ≤ k) (D_trimmed : Def P w K mg base k "trimmed" s_trimmed ["numbers"] (sp_trimmed C)) : Def P w K mg base (k + 1) "quotient_and_rest" s_quotient_and_rest ["first", "second"] (sp_qr C) := by
  refine def_of B sc_quotient_and_rest (by rintro _ _ _ _ ⟨l1, l2, us, ws, xs, ys, E0, E1, sg, nM, nS, rfl, _⟩; rfl) (fun _ _ _ _ _ _ us hl => match us, hl with | [_, _], _ => rfl) fun f cdv A outer s H vs Q E hr h => ?_
  obtain ⟨l1, l2, us, ws, xs, ys, E0, E1, sg, nM, nS, rfl, h1, h2, R1, R2, tx, B, bx, eL, sL, fit, lx, q⟩ := h
  have hu := hr.units
  refine ⟨_, pss_cons (ps_par (i := 2) (j := 3) rfl sc_quotient_and_rest.nd rfl rfl (by decide) rfl rfl (pa_cons (pe_lst pa_nil) (pa_cons (pv 0) pa_nil)) (by rfl))
    (pss_cons (ps_while PassesOwn.never (pt_cmpR op_ge (pe_callB call_len_seq (by rfl) M.len boot_len (pa_cons (pv 3) pa_nil)) (pe_callB call_len_seq (by rfl) M.len boot_len (pa_cons (pv 1) pa_nil)) (nomark _))
      (pss_cons (ps_set (i := 4) sc_quotient_and_rest.nd rfl (.inr rfl) (C8.pe_mt OV (hr.mono (by omega)) (Nat.le_refl _) (pe_ix (r := rIxL K) ix_list (pv 3) (pe_un un_neg pe_int) (fun _ _ => rfl)) (pa_cons (pe_ix (r := rIxL K) ix_list (pv 1) (pe_un un_neg pe_int) (fun _ _ => rfl)) pa_nil)))
      (pss_cons (ps_set (i := 5) sc_quotient_and_rest.nd rfl (.inl rfl) (pe_op op_sub (pe_callB call_len_seq (by rfl) M.len boot_len (pa_cons (pv 3) pa_nil)) (pe_callB call_len_seq (by rfl) M.len boot_len (pa_cons (pv 1) pa_nil))))
      (pss_cons (ps_setLc (i := 6) (own := [("one", 7), ("two", 8)]) (g := (gTup K 2 (gCons (gName 7) (gCons (gName 8) gNil)))) (tt := tYes) (te := (tOp (rOwn C (spSubQ C)) (tVar 7) (tOp (rOwn C (spMulQ C)) (tVar 4) (tVar 8)))) rfl sc_quotient_and_rest.nd rfl rfl (sw_true rfl rfl rfl (by decide +kernel)) (pi_zipS (by rfl) M.zip (pa_cons (pe_slice (r := rSlL K) sl_list (pv 3) (po_some (pv 5)) po_none) (pa_cons (pv 1) pa_nil))) (blkOk_by (own := [("one", 7), ("two", 8)]) (N := N_quotient_and_rest) (sc := defScope s_quotient_and_rest) (by decide +kernel)) (fun _ _ _ _ _ => pg_tup rfl (pgs_cons (pg_name (i := 7) sc_quotient_and_rest.nd rfl (.inl rfl)) (pgs_cons (pg_name (i := 8) sc_quotient_and_rest.nd rfl (.inl rfl)) pgs_nil))) (fun _ _ _ _ _ => pts_nil) (fun _ _ _ _ _ => pe_op (op_ownX SU (hr.mono (by omega))) (pv 7) (pe_op (op_ownX MU (hr.mono (by omega))) (pv 4) (pv 8))))
      (pss_cons (ps_set (i := 3) sc_quotient_and_rest.nd rfl (.inl rfl) (pe_op op_cat (pe_slice (r := rSlL K) sl_list (pv 3) po_none (po_some (pv 5))) (pe_slice (r := rSlL K) sl_list (pv 6) po_none (po_some (pe_un un_neg pe_int)))))
      (pss_one (ps_expr (pe_bm PySem.F.plainAttrs_list PySem.F.slot_list_append PySem.F.type_list_append mt_append (pv 2) (pa_cons (pv 4) pa_nil)))))))))
    (pss_one (ps_ret (pe_tup (pa_cons (pe_revL (pv 2)) (pa_cons (pe_d D_trimmed hr (by rfl) (pa_cons (pv 3) pa_nil)) pa_nil)))))), ?_⟩
  have y0 := B.ne
  have ty := B.told
  have by_ : AllB 600 ys := B.sc.bits B.E0 eL sL
  refine ⟨Nat.zero_le _, fun D nD => ⟨_, rfl, _, _, rfl, ?_⟩⟩
  refine ⟨QSt C H l1 l2 D xs ys E0 E1 sg nM nS, ⟨xs.length, l1, us, [], xs, [], none, none, none, rfl, rfl, same_wo nD (same_new nD), upd_same, QL.nil, ?_, ?_, QSt2.start bx⟩, ?_⟩
  · exact same_wo nD (same_new nD) _ _ h1
  · exact RatL.same R1 (same_wo nD (same_new nD))
  rintro mm σ G ⟨l3, rv, qv, xs', qs, o4, o5, o6, rfl, rfl, sm, hD, hQ, h3, hR, I⟩
  have g3 : G l3 = some (.lst rv) := wo_le _ _ h3
  have sG : Same H G := sm.trans wo_le
  have g2 := sG _ _ h2
  have l3n := hR.len
  have l2n := R2.len
  have ly : 0 < ys.length := List.length_pos_iff.mpr y0
  have ll := I.len
  refine ⟨_, rfl, l3, rv, rfl, .inl (SqL.of g3), _, rfl, l2, ws, rfl, .inl (SqL.of g2), _, _, rfl, rfl, _, rfl, ite2 (fun z => ?_) (fun z => ?_)⟩
  · have hl : ys.length ≤ xs'.length := by have := of_decide_eq_true z; omega
    have t0 := told_top ty y0
    have x0 : xs' ≠ [] := fun z => by rw [z] at hl; exact absurd (Nat.le_zero.mp hl) (by omega)
    have ep : (rv.length : Int) - (ws.length : Int) = ((xs'.length - ys.length : Nat) : Int) := by omega
    refine ⟨fun σ' G' => ∃ m', m' < xs'.length ∧ QSt C H l1 l2 D xs ys E0 E1 sg nM nS m' σ' G', fun _ _ h => h, ?_⟩
    have a1 : rv[xs'.length - 1]? = some (rv[xs'.length - 1]'(by omega)) := List.getElem?_eq_getElem _
    have a2 : ws[ys.length - 1]? = some (ws[ys.length - 1]'(by omega)) := List.getElem?_eq_getElem _
    have e1 : atI rv (-1) = some (rv[xs'.length - 1]'(by omega)) := by
      obtain ⟨A, v, e⟩ := snoc_of (l := rv) (fun z => by rw [z] at l3n; simp at l3n; omega)
      subst e
      rw [atI_last]
      congr 1
      rw [List.length_append, List.length_singleton] at l3n
      rw [List.getElem_append_right (by omega)]
      simp
    have e2 : atI ws (-1) = some (ws[ys.length - 1]'(by omega)) := by
      obtain ⟨A, v, e⟩ := snoc_of (l := ws) (fun z => by rw [z] at l2n; simp at l2n; omega)
      subst e
      rw [atI_last]
      congr 1
      rw [List.length_append, List.length_singleton] at l2n
      rw [List.getElem_append_right (by omega)]
      simp
    obtain ⟨x, ax, gx, ex, rx⟩ := hR.at a1
    obtain ⟨y, ay, gy, ey, ry⟩ := QL.at (RatL.same R2 sm) a2
    have cx : co xs' (xs'.length - 1) = x := co_at gx
    have cy : co ys (ys.length - 1) = y := co_at gy
    have fq := fit qs.length (by omega)
    have mono : nM * (2 * nS) ^ qs.length ≤ nM * (2 * nS * E1.natAbs) ^ qs.length := Nat.mul_le_mul_left _ (Nat.pow_le_pow_left (Nat.le_mul_of_pos_right _ (by have := B.E0; omega)) _)
    have bA : AllB 4000 xs' := fun z hz => fq.one ((I.bx z hz).mono mono)
    have bX : Bits 4000 x := bA x (List.mem_of_getElem? gx)
    have bY : Bits 600 y := by_ y (List.mem_of_getElem? gy)
    have y00 : y ≠ 0 := by rw [← cy]; exact t0
    rw [ex] at e1
    rw [ey] at e2
    obtain ⟨dx, rx2⟩ := id (rx.same wo_le)
    have IS := I.step B hl tx
    rw [cx, cy] at IS
    have bP : Bits 4000 (x / y) := (fit (qs ++ [x / y]).length (by rw [List.length_append, List.length_singleton]; omega)).one (IS.bq (x / y) (List.mem_append_right _ (List.mem_singleton.mpr rfl)))
    refine ⟨_, rfl, 1, rfl, l3, _, -1, _, rfl, rfl, SqL.of g3, e1, ax, dx, _, rfl, rx2, rfl, _, rfl, 1, rfl, l2, _, -1, _, rfl, rfl, SqL.of g2, e2, ax, _, x, y, 4000, 600, rfl, rx.same wo_le, (ry.same wo_le).nq, bX, bY, by omega, y00, fun p G1 s1 rp => ?_⟩
    refine ⟨_, rfl, l3, rv, rfl, .inl (SqL.of (s1 _ _ g3)), _, rfl, l2, ws, rfl, .inl (SqL.of (s1 _ _ g2)), _, _, rfl, rfl, ?_⟩
    dsimp only
    rw [ep]
    have sm1 := wo_mono (D := D) s1
    refine ⟨_, rfl, _, rfl, _, rfl, l3, rv, rfl, SqL.of (s1 _ _ g3), fun cs nc => ?_⟩
    rw [cut_from]
    have sc := same_new (o := .lst (rv.drop (xs'.length - ys.length))) nc
    have s2 := s1.trans sc
    have hc : (upd G1 cs (.lst (rv.drop (xs'.length - ys.length)))) cs = some (.lst (rv.drop (xs'.length - ys.length))) := upd_same
    generalize upd G1 cs (.lst (rv.drop (xs'.length - ys.length))) = G2 at *
    have hd := QL.drop (RatL.same hR (wo_le.trans s2)) (xs'.length - ys.length)
    have hy := RatL.same R2 (sG.trans s2)
    have rp2 := rp.same sc
    obtain ⟨dp, rp3⟩ := id rp2
    obtain ⟨κ1, k1⟩ := sqk_of (sq_lst (K := K) hc)
    obtain ⟨κ2, k2⟩ := sqk_of (sq_lst (K := K) (s2 _ _ g2))
    have hzl : (List.zipWith (fun a b => a - x / y * b) (xs'.drop (xs'.length - ys.length)) ys).length = ys.length := by rw [List.length_zipWith, List.length_drop]; omega
    refine ⟨_, rfl, cs, l2, _, ws, κ1, κ2, rfl, k1, k2, fun D2 hD2 => ?_⟩
    refine lc_rel (walk_zipS (n := ys.length) (by rw [List.length_drop]; omega)) (fun i acc Hh => QL C Hh acc ((List.zipWith (fun a b => a - x / y * b) (xs'.drop (xs'.length - ys.length)) ys).take i)) hD2 (by rw [sizeLine_eq]; omega) (fun Hh sh => ⟨k1.same sh, k2.same sh⟩) QL.nil (fun i acc A B s r => RatL.same r s) (fun i v acc Ha Hb hi sa ha hr hy2 Yc Nc yc nc => ?_) (fun acc H' sH ha hr => ?_)
    · obtain ⟨Tt, v1, v2, rfl, nT, rfl, hx1, hx2⟩ := hy2
      obtain ⟨x1, c1, q1, rfl, w1⟩ := QL.at hd hx1
      obtain ⟨x2, c2, q2, rfl, w2⟩ := QL.at hy hx2
      have sT := same_new (o := .tup [V.ref c1, V.ref c2]) nT
      have sb := sa.trans sT
      have bx1 : Bits 4000 x1 := bA x1 (List.mem_of_mem_drop (List.mem_of_getElem? q1))
      have bx2 : Bits 600 x2 := by_ x2 (List.mem_of_getElem? q2)
      obtain ⟨d1, w1b⟩ := id (w1.same sb)
      refine ⟨Tt, _, rfl, SqT.of upd_same, rfl, _, _, rfl, _, _, rfl, rfl, rfl, _, rfl, _, rfl, _, rfl, p, dp, _, rfl, sb _ _ rp3, (w2.same sb).nq.own, p, _, x / y, x2, 4000, 600, rfl, rp2.same sb, (w2.same sb).nq, bP, bx2, by omega, fun r1 H4 s4 rr => ⟨⟨r1, rfl⟩, ?_⟩⟩
      refine ⟨c1, d1, _, rfl, s4 _ _ w1b, rr.nq.own, c1, _, x1, x / y * x2, 4000, 4600, rfl, (w1.same sb).same s4, rr.nq, bx1, bP.mul bx2, by omega, fun r2 H5 s5 rr2 => ⟨⟨r2, rfl⟩, yc _ H5 ((sT.trans s4).trans s5) ?_⟩⟩
      have hD5 := ((sT.trans s4).trans s5) _ _ ha
      rw [takeS (show (List.zipWith (fun a b => a - x / y * b) (xs'.drop (xs'.length - ys.length)) ys)[i]? = some (x1 - x / y * x2) by rw [List.getElem?_zipWith, q1, q2])]
      exact QL.snoc (RatL.same hr (wo_mono ((sT.trans s4).trans s5))) (Rat2.wo rr2 hD5)
    · rw [List.take_of_length_le (Nat.le_of_eq hzl)] at hr
      have hr2 := RatL.same hr (wo_le (D := D2))
      have s3 := s2.trans sH
      have ln : acc.length = ys.length := by rw [QL.len hr2, hzl]
      have hcut : cutV acc none (some (-1)) = acc.dropLast := by
        obtain ⟨A, v, e⟩ := snoc_of (l := acc) (fun z => by rw [z] at ln; simp at ln; omega)
        rw [e, cut_last, List.dropLast_concat]
      refine ⟨_, rfl, _, rfl, _, rfl, l3, rv, rfl, SqL.of (s3 _ _ g3), fun c1 n1 => ?_⟩
      rw [cut_to]
      have t1 := same_new (o := .lst (rv.take (xs'.length - ys.length))) n1
      refine ⟨_, rfl, 1, rfl, _, rfl, D2, acc, rfl, SqL.of (t1 _ _ ha), fun c2 n2 => ?_⟩
      rw [hcut]
      have t2 := same_new (o := .lst acc.dropLast) n2
      refine ⟨c1, c2, _, _, rfl, rfl, t2 _ _ upd_same, upd_same, by rw [List.length_take, List.length_dropLast, sizeLine_eq]; omega, fun c3 n3 => ?_⟩
      have t3 := same_new (o := .lst (rv.take (xs'.length - ys.length) ++ acc.dropLast)) n3
      have h3' : (upd (upd (upd H' c1 (.lst (rv.take (xs'.length - ys.length)))) c2 (.lst acc.dropLast)) c3 (.lst (rv.take (xs'.length - ys.length) ++ acc.dropLast))) c3 = some (.lst (rv.take (xs'.length - ys.length) ++ acc.dropLast)) := upd_same
      have sG3 := ((s3.trans t1).trans t2).trans t3
      have sH3 := (t1.trans t2).trans t3
      have nc3 : G c3 = none := ((s3.trans t1).trans t2).free n3
      generalize upd (upd (upd H' c1 (.lst (rv.take (xs'.length - ys.length)))) c2 (.lst acc.dropLast)) c3 (.lst (rv.take (xs'.length - ys.length) ++ acc.dropLast)) = G3 at *
      have hD3 := sG3 _ _ hD
      have n3D : c3 ≠ D := fun z => by rw [z, hD] at nc3; cases nc3
      have ll3 := hQ.len
      refine ⟨_, rfl, Or.inl ⟨rfl, _, SqL.of hD3⟩, _, rfl, D, qv, .ref p, rfl, rfl, hD3, by rw [sizeLine_eq]; omega, ?_⟩
      refine ⟨(restOf (x / y) ys xs').length, by rw [restOf_len ly hl]; omega, c3, rv.take (xs'.length - ys.length) ++ acc.dropLast, qv ++ [.ref p], restOf (x / y) ys xs', qs ++ [x / y], _, _, _, rfl, rfl, ?_, upd_same, ?_, ?_, ?_, IS⟩
      · rw [wo_upd]; exact sm.trans (wo_mono sG3)
      · rw [wo_upd]; exact QL.snoc (RatL.same hQ (wo_mono sG3)) (Rat2.wo (rp2.same (sH.trans sH3)) hD3)
      · rw [wo_upd, wo_ne n3D]; exact h3'
      · rw [wo_upd]
        refine K21.RatL.wo (QL.app (QL.take (RatL.same hR (wo_le.trans sG3)) _) (QL.dropLast (RatL.same hr2 sH3))) hD3
  · have hl : xs'.length < ys.length := by
      by_cases e : xs'.length < ys.length
      · exact e
      · exact absurd (decide_eq_true (by omega)) z
    have dv := I.done B hl
    refine ⟨_, rfl, D, qv, rfl, SqL.of hD, fun c1 n1 => ?_⟩
    have s1 := same_new (o := .lst qv.reverse) n1
    refine ⟨_, rfl, l3, rv, xs'.map nd, rfl, s1 _ _ g3, RatL.same hR (wo_le.trans s1), by omega, fun a2 H2 w2 s2 n2 h2' R2' => ?_⟩
    rw [trimP_nd] at R2'
    refine ⟨by show 2 ≤ sizeLine; decide, fun t nt => ?_⟩
    have s3 := same_new (o := .tup [V.ref c1, V.ref a2]) nt
    have sA := (s1.trans s2).trans s3
    exact q t c1 a2 _ qv.reverse w2 qs.reverse (trimQ xs') (sG.trans sA) ((sG.trans (s1.trans s2)).free nt) (sG.free n1) ((sG.trans s1).free n2) upd_same (s3 _ _ (s2 _ _ upd_same)) (s3 _ _ h2') (RatL.same (QL.rev hQ) (wo_le.trans sA)) (RatL.same R2' s3) dv
end
end K21

namespace Fp
/-! ### digits: sizes and how it goes on -/
theorem AllS.upN {D s : Int} {M G T N : Nat} {xs : List Rat} (h : AllS (D * s ^ T) (M * G ^ T) xs) (l : T ≤ N) (s0 : s ≠ 0) (sG : s.natAbs ≤ G) : AllS (D * s ^ N) (M * G ^ N) xs := fun x hx => by
  obtain ⟨k, rfl⟩ := Nat.exists_eq_add_of_le l
  have := (h x hx).up (s ^ k) (Int.pow_ne_zero s0)
  rw [Int.mul_assoc, ← Int.pow_add] at this
  refine this.mono ?_
  rw [Int.natAbs_pow, Nat.pow_add, ← Nat.mul_assoc]
  exact Nat.mul_le_mul_left _ (Nat.pow_le_pow_left sG _)
theorem sq_step {a b t n : Nat} (h : a + 1 ≤ b) (l : t + b * b ≤ n) : t + a + a * a ≤ n := by
  have := Nat.mul_le_mul h h
  rw [Nat.add_mul, Nat.mul_add] at this
  omega
/-- digits while they are made -/
structure DgSt (xs ys : List Rat) (D s : Int) (M G N : Nat) (ds : List (List Rat)) (l : List Rat) (T : Nat) : Prop where
  tl : Told l
  jn : jlA ys ds l = xs
  told : ∀ d ∈ ds, Told d
  len : ∀ d ∈ ds, d.length < ys.length
  last : l = [] → ∀ d, ds.getLast? = some d → d ≠ []
  sl : AllS (D * s ^ T) (M * G ^ T) l
  sd : ∀ d ∈ ds, AllS (D * s ^ N) (M * G ^ N) d
  sz : T + l.length * l.length ≤ N
  cnt : ds.length + l.length ≤ xs.length
theorem DgSt.start {xs ys : List Rat} {D s : Int} {M G : Nat} (tx : Told xs) (h : AllS D M xs) : DgSt xs ys D s M G (xs.length * xs.length) [] xs 0 :=
  ⟨tx, rfl, fun _ h => (by cases h), fun _ h => (by cases h), fun _ _ h => (by cases h), by simpa using h, fun _ h => (by cases h), by omega, by simp⟩
theorem DgSt.step {xs ys l qs rs : List Rat} {D s E : Int} {M S N T : Nat} {ds : List (List Rat)} (B : ByQ E s S ys) (y2 : 2 ≤ ys.length) (h : DgSt xs ys D s M (2 * S * E.natAbs) N ds l T) (l0 : l ≠ []) (v : DivS l ys (D * s ^ T) E s (M * (2 * S * E.natAbs) ^ T) S qs rs) :
    DgSt xs ys D s M (2 * S * E.natAbs) N (ds ++ [rs]) qs (T + qs.length) ∧ qs.length < l.length := by
  have ll : 0 < l.length := List.length_pos_iff.mpr l0
  have ql : qs.length + 1 ≤ l.length := by
    rcases v.ln with e | e
    · omega
    · rw [e]; exact ll
  have E1 : 1 ≤ E.natAbs := by have := B.E0; omega
  have sG : s.natAbs ≤ 2 * S * E.natAbs := by
    have := B.sS
    have := Nat.le_mul_of_pos_right (2 * S) E1
    omega
  have sq := sq_step ql h.sz
  have e1 : D * s ^ T * s ^ qs.length = D * s ^ (T + qs.length) := by rw [Int.mul_assoc, ← Int.pow_add]
  have e2 : M * (2 * S * E.natAbs) ^ T * (2 * S * E.natAbs) ^ qs.length = M * (2 * S * E.natAbs) ^ (T + qs.length) := by rw [Nat.mul_assoc, ← Nat.pow_add]
  have sq1 := v.sq
  have sr1 := v.sr
  rw [e1, e2] at sq1 sr1
  refine ⟨⟨v.dv.tq, ?_, fun d hd => ?_, fun d hd => ?_, fun q0 d hd => ?_, sq1, fun d hd => ?_, sq, ?_⟩, ql⟩
  · rw [jlA_snoc, div_join v.dv h.tl]; exact h.jn
  · rcases List.mem_append.mp hd with z | z
    · exact h.told d z
    · rw [List.mem_singleton.mp z]; exact v.dv.tr
  · rcases List.mem_append.mp hd with z | z
    · exact h.len d z
    · rw [List.mem_singleton.mp z]; exact v.dv.lr
  · rw [List.getLast?_concat] at hd
    obtain rfl := Option.some.inj hd
    intro r0
    have j := div_join v.dv h.tl
    rw [q0, r0] at j
    refine l0 ?_
    rw [← j]
    refine told_ext (trimQ_told _) told_nil fun n => ?_
    rw [trimQ_co, plusQ_co, timesQ_co, prodc_nil_right, co_nil]; grind
  · rcases List.mem_append.mp hd with z | z
    · exact h.sd d z
    · rw [List.mem_singleton.mp z]
      exact sr1.upN (by omega) B.s0 sG
  · have := h.cnt
    rw [List.length_append, List.length_singleton]; omega
/-- told at the end -/
structure DgEnd (xs ys : List Rat) (D s : Int) (M G : Nat) (ds : List (List Rat)) : Prop where
  dg : Digs ys ds
  jn : jl ys ds = xs
  sd : ∀ d ∈ ds, AllS (D * s ^ (xs.length * xs.length)) (M * G ^ (xs.length * xs.length)) d
  cnt : ds.length ≤ xs.length
theorem DgSt.done {xs ys : List Rat} {D s : Int} {M G T : Nat} {ds : List (List Rat)} (h : DgSt xs ys D s M G (xs.length * xs.length) ds [] T) : DgEnd xs ys D s M G ds :=
  ⟨⟨h.told, h.len, h.last rfl⟩, by rw [← jlA_nil]; exact h.jn, h.sd, by have := h.cnt; simpa using this⟩
end Fp

namespace Fp
/-! ### digits: sizes, with a budget of steps -/
/-- what is spent on a length: no more than what a quotient's length and the rest of the way come to -/
def Wk (wk : Nat → Nat) (m : Nat) : Prop := ∀ L q, q < L → (q + m ≤ L + 1 ∨ q = 0) → q + wk q ≤ wk L
/-- digits while they are made -/
structure DgStW (wk : Nat → Nat) (xs ys : List Rat) (D s : Int) (M G N : Nat) (ds : List (List Rat)) (l : List Rat) (T : Nat) : Prop where
  tl : Told l
  jn : jlA ys ds l = xs
  told : ∀ d ∈ ds, Told d
  len : ∀ d ∈ ds, d.length < ys.length
  last : l = [] → ∀ d, ds.getLast? = some d → d ≠ []
  sl : AllS (D * s ^ T) (M * G ^ T) l
  sd : ∀ d ∈ ds, AllS (D * s ^ N) (M * G ^ N) d
  sz : T + wk l.length ≤ N
  cnt : ds.length + l.length ≤ xs.length
theorem DgStW.start {wk : Nat → Nat} {xs ys : List Rat} {D s : Int} {M G : Nat} (tx : Told xs) (h : AllS D M xs) : DgStW wk xs ys D s M G (wk xs.length) [] xs 0 :=
  ⟨tx, rfl, fun _ h => (by cases h), fun _ h => (by cases h), fun _ _ h => (by cases h), by simpa using h, fun _ h => (by cases h), by omega, by simp⟩
theorem DgStW.step {wk : Nat → Nat} {xs ys l qs rs : List Rat} {D s E : Int} {M S N T : Nat} {ds : List (List Rat)} (B : ByQ E s S ys) (y2 : 2 ≤ ys.length) (hW : Wk wk ys.length) (h : DgStW wk xs ys D s M (2 * S * E.natAbs) N ds l T) (l0 : l ≠ []) (v : DivS l ys (D * s ^ T) E s (M * (2 * S * E.natAbs) ^ T) S qs rs) :
    DgStW wk xs ys D s M (2 * S * E.natAbs) N (ds ++ [rs]) qs (T + qs.length) ∧ qs.length < l.length := by
  have ll : 0 < l.length := List.length_pos_iff.mpr l0
  have ql : qs.length + 1 ≤ l.length := by
    rcases v.ln with e | e
    · omega
    · rw [e]; exact ll
  have E1 : 1 ≤ E.natAbs := by have := B.E0; omega
  have sG : s.natAbs ≤ 2 * S * E.natAbs := by
    have := B.sS
    have := Nat.le_mul_of_pos_right (2 * S) E1
    omega
  have sq : T + qs.length + wk qs.length ≤ N := by
    have := hW l.length qs.length (by omega) (v.ln.imp (by omega) (fun e => by rw [e]; rfl))
    have := h.sz
    omega
  have e1 : D * s ^ T * s ^ qs.length = D * s ^ (T + qs.length) := by rw [Int.mul_assoc, ← Int.pow_add]
  have e2 : M * (2 * S * E.natAbs) ^ T * (2 * S * E.natAbs) ^ qs.length = M * (2 * S * E.natAbs) ^ (T + qs.length) := by rw [Nat.mul_assoc, ← Nat.pow_add]
  have sq1 := v.sq
  have sr1 := v.sr
  rw [e1, e2] at sq1 sr1
  refine ⟨⟨v.dv.tq, ?_, fun d hd => ?_, fun d hd => ?_, fun q0 d hd => ?_, sq1, fun d hd => ?_, sq, ?_⟩, ql⟩
  · rw [jlA_snoc, div_join v.dv h.tl]; exact h.jn
  · rcases List.mem_append.mp hd with z | z
    · exact h.told d z
    · rw [List.mem_singleton.mp z]; exact v.dv.tr
  · rcases List.mem_append.mp hd with z | z
    · exact h.len d z
    · rw [List.mem_singleton.mp z]; exact v.dv.lr
  · rw [List.getLast?_concat] at hd
    obtain rfl := Option.some.inj hd
    intro r0
    have j := div_join v.dv h.tl
    rw [q0, r0] at j
    refine l0 ?_
    rw [← j]
    refine told_ext (trimQ_told _) told_nil fun n => ?_
    rw [trimQ_co, plusQ_co, timesQ_co, prodc_nil_right, co_nil]; grind
  · rcases List.mem_append.mp hd with z | z
    · exact h.sd d z
    · rw [List.mem_singleton.mp z]
      exact sr1.upN (by omega) B.s0 sG
  · have := h.cnt
    rw [List.length_append, List.length_singleton]; omega
/-- told at the end -/
structure DgEndW (wk : Nat → Nat) (xs ys : List Rat) (D s : Int) (M G : Nat) (ds : List (List Rat)) : Prop where
  dg : Digs ys ds
  jn : jl ys ds = xs
  sd : ∀ d ∈ ds, AllS (D * s ^ wk xs.length) (M * G ^ wk xs.length) d
  cnt : ds.length ≤ xs.length
theorem DgStW.done {wk : Nat → Nat} {xs ys : List Rat} {D s : Int} {M G T : Nat} {ds : List (List Rat)} (h : DgStW wk xs ys D s M G (wk xs.length) ds [] T) : DgEndW wk xs ys D s M G ds :=
  ⟨⟨h.told, h.len, h.last rfl⟩, by rw [← jlA_nil]; exact h.jn, h.sd, by have := h.cnt; simpa using this⟩
end Fp

namespace K21
open PySem PySem.Spec PyProof.Rows L2 Fp
section
variable {P : Program} {w : World} {K : PySem.W.Frag} {mg : Str → Option Value} {base : Heap} {k : Nat} {C fI fR : Addr}
/-- a polynomial of any kind that is told as xs -/
def PolyQ (C : Addr) (H : Hp) (x : V) (xs : List Rat) : Prop := Sk C H 1 x ∧ isPolyV H x = true ∧ toldP H x = xs.map nd
theorem PolyQ.same {H H' : Hp} {x : V} {xs : List Rat} (h : PolyQ C H x xs) (e : Same H H') : PolyQ C H' x xs := ⟨h.1.same e, by rw [isPolyV_same h.1 e]; exact h.2.1, by rw [toldP_same h.1 e]; exact h.2.2⟩
/-- a list of lists of numbers -/
def QLL (C : Addr) (H : Hp) (gs : List V) (ds : List (List Rat)) : Prop := gs.length = ds.length ∧ ∀ (i : Nat) (v : V), gs[i]? = some v → ∃ d b us, ds[i]? = some d ∧ v = .ref b ∧ H b = some (.lst us) ∧ QL C H us d
theorem QLL.same {H H' : Hp} {gs : List V} {ds : List (List Rat)} (h : QLL C H gs ds) (e : Same H H') : QLL C H' gs ds := ⟨h.1, fun i v hv => let ⟨d, b, us, h1, h2, h3, h4⟩ := h.2 i v hv; ⟨d, b, us, h1, h2, e _ _ h3, RatL.same h4 e⟩⟩
theorem QLL.nil {H : Hp} : QLL C H [] [] := ⟨rfl, fun i v h => by cases h⟩
theorem QLL.snoc {H : Hp} {gs us : List V} {ds : List (List Rat)} {b : Addr} {d : List Rat} (h : QLL C H gs ds) (hb : H b = some (.lst us)) (r : QL C H us d) : QLL C H (gs ++ [.ref b]) (ds ++ [d]) := by
  refine ⟨by rw [List.length_append, List.length_append, h.1]; rfl, fun i v hv => ?_⟩
  have l := h.1
  rcases Nat.lt_trichotomy i gs.length with z | z | z
  · rw [List.getElem?_append_left z] at hv
    obtain ⟨d1, b1, us1, h1, h2⟩ := h.2 i v hv
    exact ⟨d1, b1, us1, by rw [List.getElem?_append_left (by omega)]; exact h1, h2⟩
  · subst z
    rw [List.getElem?_append_right (Nat.le_refl _), Nat.sub_self] at hv
    obtain rfl := Option.some.inj hv
    exact ⟨d, b, us, by rw [l, List.getElem?_append_right (Nat.le_refl _), Nat.sub_self]; rfl, rfl, hb, r⟩
  · rw [List.getElem?_eq_none (by rw [List.length_append]; simp; omega)] at hv; cases hv
def sp_told_inner (C : Addr) : Sp := fun vs H Q _ => ∃ (x : V) (ys : List Rat), vs = [x] ∧ PolyQ C H x ys ∧ 2 ≤ ys.length ∧ ∀ a H' us, Same H H' → H a = none → H' a = some (.lst us) → QL C H' us ys → Q (.ref a) H'
def sp_digits_by (C : Addr) : Sp := fun vs H Q _ => ∃ (l1 l2 : Addr) (us ws : List V) (xs ys : List Rat) (D E s : Int) (M S : Nat) (wk : Nat → Nat), vs = [.ref l1, .ref l2] ∧ H l1 = some (.lst us) ∧ H l2 = some (.lst ws) ∧ QL C H us xs ∧ QL C H ws ys ∧ Told xs ∧ 2 ≤ ys.length ∧ ByQ E s S ys ∧ AllS D M xs ∧ LbI 600 E ∧ S < 2 ^ 600 ∧
  Wk wk ys.length ∧ FitN D s M (2 * S * E.natAbs) (wk xs.length) ∧ xs.length ≤ 49 ∧ ∀ a H' gs ds, Same H H' → H a = none → H' a = some (.lst gs) → QLL C H' gs ds → DgEndW wk xs ys D s M (2 * S * E.natAbs) ds → Q (.ref a) H'
def sp_digits (C : Addr) : Sp := fun vs H Q _ => ∃ (x y : V) (xs ys : List Rat) (D E s : Int) (M S : Nat) (wk : Nat → Nat), vs = [x, y] ∧ PolyQ C H x xs ∧ PolyQ C H y ys ∧ Told xs ∧ 2 ≤ ys.length ∧ ByQ E s S ys ∧ AllS D M xs ∧ LbI 600 E ∧ S < 2 ^ 600 ∧
  Wk wk ys.length ∧ FitN D s M (2 * S * E.natAbs) (wk xs.length) ∧ xs.length ≤ 49 ∧ ∀ a H' gs ds, Same H H' → H a = none → H' a = some (.lst gs) → QLL C H' gs ds → DgEndW wk xs ys D s M (2 * S * E.natAbs) ds → Q (.ref a) H'
-- slots: inner 0; cells: 
abbrev s_told_inner : Stmt := top 30
abbrev N_told_inner : List Str := ["inner"]
theorem sc_told_inner : FnScope N_told_inner ["inner"] (defScope s_told_inner) := ⟨rfl, rfl, rfl, by decide +kernel, rfl, by decide +kernel, by decide +kernel⟩
theorem d_told_inner (B : Bnd K mg "told_inner" s_told_inner) (M : Mg2 mg) (R : RCls K mg C fI fR) (D_is_poly : Def P w K mg base k "is_poly" s_is_poly ["value"] (spPolyX C)) (D_told : Def P w K mg base k "told" s_told ["poly"] (sp_told C)) : Def P w K mg base (k + 1) "told_inner" s_told_inner ["inner"] (sp_told_inner C) := by
  refine def_of B sc_told_inner (by rintro _ _ _ _ ⟨x, ys, rfl, _⟩; rfl) (fun _ _ _ _ _ _ us hl => match us, hl with | [_], _ => rfl) fun f cdv A outer s H vs Q E hr h => ?_
  obtain ⟨x, ys, rfl, hy, y2, q⟩ := h
  have hu := hr.units
  refine ⟨_, pss_cons (ps_if (PW.pt (pw_or (pt_not (pt_val (pe_d D_is_poly hr (by rfl) (pa_cons (pv 0) pa_nil)))) (pw_or1 (pt_cmpR op_lt (pe_callB call_len_seq (by rfl) M.len boot_len (pa_cons (pe_d D_told hr (by rfl) (pa_cons (pv 0) pa_nil)) pa_nil)) pe_int (nomark _))))) pss_never pss_nil)
    (pss_one (ps_ret (pe_d D_told hr (by rfl) (pa_cons (pv 0) pa_nil)))), ?_⟩
  refine ⟨_, rfl, x, 1, rfl, hy.1, fun H1 s1 => ⟨true, by rw [hy.2.1], iteF ?_⟩⟩
  have hy1 := hy.same s1
  refine ⟨_, rfl, x, 1, rfl, hy1.1, hy1.2.1, fun a2 H2 u2 s2 n2 h2 r2 => ?_⟩
  rw [hy1.2.2] at r2
  have l2 := QL.len r2
  refine ⟨a2, u2, rfl, .inl (SqL.of h2), _, _, rfl, rfl, _, rfl, iteF2 (decide_eq_false (by omega)) ?_⟩
  have hy2 := hy1.same s2
  refine ⟨_, rfl, x, 1, rfl, hy2.1, hy2.2.1, fun a3 H3 u3 s3 n3 h3 r3 => ?_⟩
  rw [hy2.2.2] at r3
  exact q a3 H3 u3 ((s1.trans s2).trans s3) ((s1.trans s2).free n3) h3 r3
-- slots: poly 0, inner 1, found 2, left 3, rest 4; cells: 
abbrev s_digits_by : Stmt := top 31
abbrev N_digits_by : List Str := ["poly", "inner", "found", "left", "rest"]
theorem sc_digits_by : FnScope N_digits_by ["poly", "inner"] (defScope s_digits_by) := ⟨rfl, rfl, rfl, by decide +kernel, rfl, by decide +kernel, by decide +kernel⟩
theorem d_digits_by (B : Bnd K mg "digits_by" s_digits_by) (M : Mg2 mg) (R : RCls K mg C fI fR) (D_quotient_and_rest : Def P w K mg base k "quotient_and_rest" s_quotient_and_rest ["first", "second"] (sp_qr C)) : Def P w K mg base (k + 1) "digits_by" s_digits_by ["poly", "inner"] (sp_digits_by C) := by
  refine def_of B sc_digits_by (by rintro _ _ _ _ ⟨l1, l2, us, ws, xs, ys, d0, e1, sg, nM, nS, wk, rfl, _⟩; rfl) (fun _ _ _ _ _ _ us hl => match us, hl with | [_, _], _ => rfl) fun f cdv A outer s H vs Q E hr h => ?_
  obtain ⟨l1, l2, us, ws, xs, ys, d0, e1, sg, nM, nS, wk, rfl, h1, h2, R1, R2, tx, y2, B, bx, eL, sL, hW, fit, lx, q⟩ := h
  have hu := hr.units
  refine ⟨_, pss_cons (ps_par (i := 2) (j := 3) rfl sc_digits_by.nd rfl rfl (by decide) rfl rfl (pa_cons (pe_lst pa_nil) (pa_cons (pv 0) pa_nil)) (by rfl))
    (pss_cons (ps_while PassesOwn.never (pt_truth (pv 3) (by intro _; rfl))
      (pss_cons (ps_asg (pe_d D_quotient_and_rest hr (by rfl) (pa_cons (pv 3) (pa_cons (pv 1) pa_nil))) (pg_tup rfl (pgs_cons (pg_name (i := 3) sc_digits_by.nd rfl (.inl rfl)) (pgs_cons (pg_name (i := 4) sc_digits_by.nd rfl (.inl rfl)) pgs_nil))))
      (pss_one (ps_expr (pe_bm PySem.F.plainAttrs_list PySem.F.slot_list_append PySem.F.type_list_append mt_append (pv 2) (pa_cons (pv 4) pa_nil))))))
    (pss_one (ps_ret (pv 2)))), ?_⟩
  refine ⟨Nat.zero_le _, fun D nD => ⟨_, rfl, _, _, rfl, ?_⟩⟩
  refine ⟨fun mm σ G => ∃ (l3 : Addr) (rv gv : List V) (xs' : List Rat) (ds : List (List Rat)) (T : Nat) (o : Option V), σ = [some (.ref l1), some (.ref l2), some (.ref D), some (.ref l3), o] ∧ mm = xs'.length ∧ Same H (wo D G) ∧ G D = some (.lst gv) ∧ QLL C (wo D G) gv ds ∧ (wo D G) l3 = some (.lst rv) ∧ QL C (wo D G) rv xs' ∧ DgStW wk xs ys d0 sg nM (2 * nS * e1.natAbs) (wk xs.length) ds xs' T,
    ⟨xs.length, l1, us, [], xs, [], 0, none, rfl, rfl, same_wo nD (same_new nD), upd_same, QLL.nil, same_wo nD (same_new nD) _ _ h1, RatL.same R1 (same_wo nD (same_new nD)), DgStW.start tx bx⟩, ?_⟩
  rintro mm σ G ⟨l3, rv, gv, xs', ds, T, o, rfl, rfl, sm, hD, hQ, h3, hR, I⟩
  have sG : Same H G := sm.trans wo_le
  have l3n := QL.len hR
  have sz := I.sz
  have cn := I.cnt
  have gl := hQ.1
  by_cases x0 : xs' = []
  · subst x0
    refine ⟨_, rfl, false, .inl ⟨rv, SqL.of (wo_le _ _ h3), by rw [List.length_eq_zero_iff.mp l3n]; rfl⟩, ?_⟩
    exact iteF ⟨_, rfl, q D G gv ds sG nD hD (hQ.same wo_le) I.done⟩
  · have lpos : 0 < xs'.length := List.length_pos_iff.mpr x0
    have lsq := Nat.le_mul_of_pos_right xs'.length lpos
    refine ⟨_, rfl, true, .inl ⟨rv, SqL.of (wo_le _ _ h3), by cases rv; simp at l3n; omega; rfl⟩, ?_⟩
    refine iteT ⟨fun σ' G' => ∃ m', m' < xs'.length ∧ _, fun _ _ h => h, ?_⟩
    have fit2 : FitN (d0 * sg ^ T) sg (nM * (2 * nS * e1.natAbs) ^ T) (2 * nS * e1.natAbs) (xs'.length + 1 - ys.length) := fun e he => by
      have hq := hW xs'.length (xs'.length + 1 - ys.length) (by omega) (by omega)
      have := fit (T + e) (by omega)
      rw [Int.pow_add, Nat.pow_add, ← Int.mul_assoc, ← Nat.mul_assoc] at this
      exact this
    refine ⟨_, rfl, _, rfl, l3, l2, rv, ws, xs', ys, _, e1, sg, _, nS, rfl, wo_le _ _ h3, sG _ _ h2, RatL.same hR wo_le, RatL.same R2 sG, I.tl, B, I.sl, eL, sL, fit2, by omega, fun t a1 a2 G2 u1 u2 qs rs s2 nt n1 n2 ht g1 g2 Q1 Q2 v => ?_⟩
    obtain ⟨I2, ml⟩ := I.step B y2 hW x0 v
    have hD2 := s2 _ _ hD
    have d1 : a1 ≠ D := fun z => by rw [z, hD] at n1; cases n1
    have d2 : a2 ≠ D := fun z => by rw [z, hD] at n2; cases n2
    refine ⟨t, _, rfl, SqT.of ht, rfl, _, _, rfl, _, _, rfl, rfl, ?_⟩
    refine ⟨_, rfl, Or.inl ⟨rfl, _, SqL.of hD2⟩, _, rfl, D, gv, .ref a2, rfl, rfl, hD2, by rw [sizeLine_eq]; omega, ?_⟩
    have w1 := K21.RatL.wo Q1 hD2
    have w2 := K21.RatL.wo Q2 hD2
    refine ⟨qs.length, ml, a1, u1, gv ++ [.ref a2], qs, ds ++ [rs], T + qs.length, _, rfl, rfl, ?_, upd_same, ?_, ?_, ?_, I2⟩
    · rw [wo_upd]; exact sm.trans (wo_mono s2)
    · rw [wo_upd]; exact QLL.snoc (hQ.same (wo_mono s2)) (by rw [wo_ne d2]; exact g2) w2
    · rw [wo_upd, wo_ne d1]; exact g1
    · rw [wo_upd]; exact w1
abbrev tTru (K : PySem.W.Frag) (ta : TE) : L2.St → Hp → (Bool → Hp → Prop) → Prop := fun σ H Q => ta σ H fun x H' => ∃ k, TruV K x H' k ∧ Q k H'
/-- what is told of digits: nothing, or their first numbers -/
def OutR (C : Addr) (H H' : Hp) (ds : List (List Rat)) (v : V) : Prop := (v = .non ∧ ∃ d ∈ ds, 1 < d.length) ∨ ∃ a us, v = .ref a ∧ H a = none ∧ H' a = some (.lst us) ∧ QL C H' us (trimQ (ds.map fun d => co d 0)) ∧ ∀ d ∈ ds, d.length ≤ 1
def sp_outer_by (C : Addr) : Sp := fun vs H Q _ => ∃ (l1 l2 : Addr) (us ws : List V) (xs ys : List Rat) (D E s : Int) (M S : Nat) (wk : Nat → Nat), vs = [.ref l1, .ref l2] ∧ H l1 = some (.lst us) ∧ H l2 = some (.lst ws) ∧ QL C H us xs ∧ QL C H ws ys ∧ Told xs ∧ 2 ≤ ys.length ∧ ByQ E s S ys ∧ AllS D M xs ∧ LbI 600 E ∧ S < 2 ^ 600 ∧
  Wk wk ys.length ∧ FitN D s M (2 * S * E.natAbs) (wk xs.length) ∧ xs.length ≤ 49 ∧ ∀ v H' ds, Same H H' → DgEndW wk xs ys D s M (2 * S * E.natAbs) ds → OutR C H H' ds v → Q v H'
def sp_outer (C : Addr) : Sp := fun vs H Q _ => ∃ (x y : V) (xs ys : List Rat) (D E s : Int) (M S : Nat) (wk : Nat → Nat), vs = [x, y] ∧ PolyQ C H x xs ∧ PolyQ C H y ys ∧ Told xs ∧ 2 ≤ ys.length ∧ ByQ E s S ys ∧ AllS D M xs ∧ LbI 600 E ∧ S < 2 ^ 600 ∧
  Wk wk ys.length ∧ FitN D s M (2 * S * E.natAbs) (wk xs.length) ∧ xs.length ≤ 49 ∧ ∀ v H' ds, Same H H' → DgEndW wk xs ys D s M (2 * S * E.natAbs) ds → OutR C H H' ds v → Q v H'
theorem fm_bl2 (ds : List (List Rat)) : (List.range ds.length).filterMap (fun i => (ds[i]?).map fun d => V.bl (decide (1 < d.length))) = (ds.map fun d => decide (1 < d.length)).map V.bl := by
  have e : ∀ n, n ≤ ds.length → (List.range n).filterMap (fun i => (ds[i]?).map fun d => V.bl (decide (1 < d.length))) = ((ds.take n).map fun d => decide (1 < d.length)).map V.bl := fun n => by
    induction n with
    | zero => intro _; simp
    | succ n ih =>
      intro h
      have hn := List.getElem?_eq_getElem (show n < ds.length by omega)
      rw [fm_succ, ih (by omega), takeS hn, List.map_append, List.map_append, hn]; rfl
  rw [e ds.length (Nat.le_refl _), List.take_length]
-- slots: poly 0, inner 1, found 2, one 3; cells: 
abbrev s_outer_by : Stmt := top 32
abbrev N_outer_by : List Str := ["poly", "inner", "found", "one"]
theorem sc_outer_by : FnScope N_outer_by ["poly", "inner"] (defScope s_outer_by) := ⟨rfl, rfl, rfl, by decide +kernel, rfl, by decide +kernel, by decide +kernel⟩
theorem d_outer_by (B : Bnd K mg "outer_by" s_outer_by) (M : Mg2 mg) (R : RCls K mg C fI fR) {kr : Nat} (RD : RDef P w K mg base kr C) (hk : kr + 8 ≤ k) (D_trimmed : Def P w K mg base k "trimmed" s_trimmed ["numbers"] (sp_trimmed C)) (D_digits_by : Def P w K mg base k "digits_by" s_digits_by ["poly", "inner"] (sp_digits_by C)) : Def P w K mg base (k + 1) "outer_by" s_outer_by ["poly", "inner"] (sp_outer_by C) := by
  refine def_of B sc_outer_by (by rintro _ _ _ _ ⟨l1, l2, us, ws, xs, ys, d0, e1, sg, nM, nS, wk, rfl, _⟩; rfl) (fun _ _ _ _ _ _ us hl => match us, hl with | [_, _], _ => rfl) fun f cdv A outer s H vs Q E hr h => ?_
  obtain ⟨l1, l2, us, ws, xs, ys, d0, e1, sg, nM, nS, wk, rfl, h1, h2, R1, R2, tx, y2, B, bx, eL, sL, hW, fit, lx, q⟩ := h
  have hu := hr.units
  refine ⟨_, pss_cons (ps_set (i := 2) sc_outer_by.nd rfl (.inl rfl) (pe_d D_digits_by hr (by rfl) (pa_cons (pv 0) (pa_cons (pv 1) pa_nil))))
    (C8.pss_cut (ps_if (pt_val (pe_callB (cr_any rfl) (by rfl) M.any boot_any (pa_cons (pe_lc (own := [("one", 3)]) (g := (gName 3)) (tt := tYes) (te := (tOp _ (tCB (rLenS K) (tCons (tVar 3) tNil)) (tC (.int 1)))) rfl sc_outer_by.nd (pi_list (pv 2)) (blkOk_by (own := [("one", 3)]) (N := N_outer_by) (sc := defScope s_outer_by) (by decide +kernel)) (fun _ _ _ _ _ => pg_name (i := 3) sc_outer_by.nd rfl (.inl rfl)) (fun _ _ _ _ _ => pts_nil) (fun _ _ _ _ _ => pe_cmpR op_gt (pe_callB (show CallR _ _ (rLenS K) from call_len_seq) (by rfl) M.len boot_len (pa_cons (pv 3) pa_nil)) pe_int (nomark _))) pa_nil)))
      (pss_one (ps_ret pe_non))
      (pss_nil))
    (pss_one (ps_ret (pe_d D_trimmed hr (by rfl) (pa_cons (pe_lc (own := [("one", 3)]) (g := (gName 3)) (tt := tYes) (te := (tIf (tTru K (tVar 3)) (tOp (rIxL K) (tVar 3) (tC (.int 0))) (tRat C (tCons (tC (.int 0)) tNil)))) rfl sc_outer_by.nd (pi_list (pv 2)) (blkOk_by (own := [("one", 3)]) (N := N_outer_by) (sc := defScope s_outer_by) (by decide +kernel)) (fun _ _ _ _ _ => pg_name (i := 3) sc_outer_by.nd rfl (.inl rfl)) (fun _ _ _ _ _ => pts_nil) (fun _ _ _ _ _ => pe_ifExp (pt_truth (pv 3) (by intro _; rfl)) (pe_ix (r := rIxL K) ix_list (pv 3) pe_int (fun _ _ => rfl)) (pe_rat RD (hr.mono (by omega)) (by rfl) (pa_cons pe_int pa_nil)))) pa_nil))))), ?_⟩
  refine ⟨_, rfl, _, rfl, l1, l2, us, ws, xs, ys, d0, e1, sg, nM, nS, wk, rfl, h1, h2, R1, R2, tx, y2, B, bx, eL, sL, hW, fit, lx, fun a H1 gs ds s1 na ha hq D => ?_⟩
  have lq := hq.1
  have gc := D.cnt
  refine ⟨fun σ' G => σ' = [some (.ref l1), some (.ref l2), some (.ref a), none] ∧ Same H1 G ∧ ∀ d ∈ ds, d.length ≤ 1, ?_, ?_⟩
  · refine ⟨_, rfl, a, rfl, ⟨_, SqL.of ha⟩, fun L nL => ?_⟩
    refine lc_l (fun i => (ds[i]?).map fun d => V.bl (decide (1 < d.length))) (SqL.of ha) nL (by rw [sizeLine_eq]; omega) (fun i v H3 hv s3 Y N y nn => ?_) (fun H3 s3 hL => ?_)
    · obtain ⟨d, b5, u5, hd, rfl, h5, q5⟩ := hq.2 i v hv
      have l5 := QL.len q5
      refine ⟨rfl, _, rfl, b5, u5, rfl, .inl (SqL.of (s3 _ _ h5)), _, _, rfl, rfl, y _ _ (Same.refl _) ?_⟩
      show (ds[i]?).map _ = _
      rw [hd, l5]
      show some (V.bl (decide (1 < d.length))) = some (V.bl (decide ((1 : Int) < ((d.length : Nat) : Int))))
      congr 2
      exact decide_eq_decide.mpr (by omega)
    · rw [lq, fm_bl2] at hL
      refine ⟨L, ds.map fun d => decide (1 < d.length), rfl, SqL.of hL, _, rfl, ?_⟩
      cases e : (ds.map fun d => decide (1 < d.length)).any id with
      | true =>
        rw [List.any_map, List.any_eq_true] at e
        obtain ⟨d, hd, hd2⟩ := e
        refine iteT (q .non H3 ds (s1.trans s3) D (.inl ⟨rfl, d, hd, by simpa using hd2⟩))
      | false =>
        rw [List.any_map, List.any_eq_false] at e
        exact iteF ⟨rfl, s3, fun d hd => by have := e d hd; simp at this; omega⟩
  rintro _ G ⟨rfl, g1, one⟩
  have hqG := hq.same g1
  have haG := g1 _ _ ha
  refine ⟨_, rfl, a, rfl, ⟨_, SqL.of haG⟩, fun L nL => ?_⟩
  refine lc_rel (walk_list (K := K) (a := a) (xs := gs)) (fun i acc Hh => QL C Hh acc ((ds.map fun d => co d 0).take i)) nL (by rw [sizeLine_eq]; omega) (fun Hh sh => SqL.of (sh _ _ haG)) QL.nil (fun i acc A B s r => RatL.same r s) (fun i v acc Ha Hb hi sa hA hr hy Yc Nc yc nc => ?_) (fun acc H4 s4 hL hr => ?_)
  · obtain ⟨rfl, hv⟩ := hy
    obtain ⟨d, b5, u5, hd, rfl, h5, q5⟩ := hqG.2 i v hv
    have l5 := QL.len q5
    have h5a := sa _ _ h5
    have tk : (ds.map fun d => co d 0).take (i + 1) = (ds.map fun d => co d 0).take i ++ [co d 0] := takeS (by rw [List.getElem?_map, hd]; rfl)
    by_cases e : d = []
    · have u0 : u5 = [] := by rw [e] at l5; exact List.length_eq_zero_iff.mp l5
      refine ⟨rfl, _, rfl, false, .inl ⟨u5, SqL.of h5a, by rw [u0]; rfl⟩, iteF ⟨0, rfl, fun r H5 nr s5 qr => yc (.ref r) H5 s5 ?_⟩⟩
      have qr : RQ C H5 r 0 := qr
      rw [tk, e]
      exact QL.snoc (RatL.same hr (wo_mono s5)) (Rat2.wo qr (s5 _ _ hA))
    · have u0 : u5 ≠ [] := fun z => e (List.length_eq_zero_iff.mp (by rw [← l5, z]; rfl))
      obtain ⟨w1, hw⟩ : ∃ w, u5[0]? = some w := ⟨_, List.getElem?_eq_getElem (List.length_pos_iff.mpr u0)⟩
      obtain ⟨x, c1, hx, rfl, rx⟩ := QL.at q5 hw
      refine ⟨rfl, _, rfl, true, .inl ⟨u5, SqL.of h5a, by cases u5; exact absurd rfl u0; rfl⟩, iteT ⟨_, rfl, b5, u5, 0, .ref c1, rfl, rfl, SqL.of h5a, at_of (j := 0) rfl hw, yc (.ref c1) _ (Same.refl _) ?_⟩⟩
      rw [tk, co_at hx]
      exact QL.snoc hr (Rat2.wo (RQ.same rx sa) hA)
  · rw [List.take_of_length_le (by rw [List.length_map]; omega)] at hr
    have hr2 := RatL.same hr (wo_le (D := L))
    have la := QL.len hr2
    rw [List.length_map] at la
    refine ⟨L, acc, (ds.map fun d => co d 0).map nd, rfl, hL, hr2, by omega, fun c H5 us5 s5 n5 h5 r5 => ?_⟩
    rw [trimP_nd] at r5
    have sA := (s1.trans g1).trans (s4.trans s5)
    exact q (.ref c) H5 ds sA D (.inr ⟨c, us5, rfl, ((s1.trans g1).trans s4).free n5, h5, r5, one⟩)
-- slots: poly 0, inner 1, first 2; cells: 
abbrev s_outer : Stmt := top 28
abbrev N_outer : List Str := ["poly", "inner", "first"]
theorem sc_outer : FnScope N_outer ["poly", "inner"] (defScope s_outer) := ⟨rfl, rfl, rfl, by decide +kernel, rfl, by decide +kernel, by decide +kernel⟩
theorem d_outer (B : Bnd K mg "outer" s_outer) (M : Mg2 mg) (R : RCls K mg C fI fR) (D_told : Def P w K mg base k "told" s_told ["poly"] (sp_told C)) (D_told_inner : Def P w K mg base k "told_inner" s_told_inner ["inner"] (sp_told_inner C)) (D_outer_by : Def P w K mg base k "outer_by" s_outer_by ["poly", "inner"] (sp_outer_by C)) : Def P w K mg base (k + 1) "outer" s_outer ["poly", "inner"] (sp_outer C) := by
  refine def_of B sc_outer (by rintro _ _ _ _ ⟨x, y, xs, ys, d0, e1, sg, nM, nS, wk, rfl, _⟩; rfl) (fun _ _ _ _ _ _ us hl => match us, hl with | [_, _], _ => rfl) fun f cdv A outer s H vs Q E hr h => ?_
  obtain ⟨x, y, xs, ys, d0, e1, sg, nM, nS, wk, rfl, hx, hy, tx, y2, B, bx, eL, sL, hW, fit, lx, q⟩ := h
  have hu := hr.units
  refine ⟨_, pss_cons (ps_set (i := 2) sc_outer.nd rfl (.inl rfl) (pe_d D_told hr (by rfl) (pa_cons (pv 0) pa_nil)))
    (pss_one (ps_ret (pe_d D_outer_by hr (by rfl) (pa_cons (pv 2) (pa_cons (pe_d D_told_inner hr (by rfl) (pa_cons (pv 1) pa_nil)) pa_nil))))), ?_⟩
  refine ⟨_, rfl, x, 1, rfl, hx.1, hx.2.1, fun a1 H1 u1 s1 n1 h1 r1 => ?_⟩
  rw [hx.2.2] at r1
  refine ⟨_, rfl, _, rfl, y, ys, rfl, hy.same s1, y2, fun a2 H2 u2 s2 n2 h2 r2 => ?_⟩
  refine ⟨a1, a2, u1, u2, xs, ys, d0, e1, sg, nM, nS, wk, rfl, s2 _ _ h1, h2, RatL.same r1 s2, r2, tx, y2, B, bx, eL, sL, hW, fit, lx, fun v H' ds s3 de ho => q v H' ds ((s1.trans s2).trans s3) de ?_⟩
  rcases ho with h | ⟨a, us, e1, e2, e3⟩
  · exact .inl h
  · exact .inr ⟨a, us, e1, (s1.trans s2).free e2, e3⟩
end
end K21

namespace Fp
open PySem PySem.Spec PyProof.Rows L2
def rLcm : List V → Hp → VK → Prop := fun vs H Q => ∃ a b : Int, vs = [.int a, .int b] ∧ a.natAbs < 2 ^ 64 ∧ b.natAbs < 2 ^ 64 ∧ Q (.int ((a.natAbs.lcm b.natAbs : Nat) : Int)) H
theorem cr_lcm {X : Cx} : CallR X (.builtin "math.lcm") rLcm := by
  intro pins s σ H vs us Q I r h
  obtain ⟨a, b, rfl, ha, hb, q⟩ := h
  obtain ⟨t, u, rfl⟩ := Vals.int2 r
  exact PySem.W.mc_lcm ha hb fun _ => ⟨.int _, H, I.tok _, ⟨_, rfl⟩, q⟩
/-! ### - of an own number -/
def rOwn1 (C : Addr) (sp : Sp) : V → Hp → VK → Prop := fun x H Q => ∃ a dx fs, x = .ref a ∧ H a = some (.ins C dx fs) ∧ sp [x] H Q E0
structure UnX (P : Program) (w : World) (K : PySem.W.Frag) (mg : Str → Option Value) (base : Heap) (k : Nat) (C : Addr) (sp : Sp) : Prop where
  ex : ∃ (f : Addr) (fd : FuncData), PySem.W.findIn K (.ref C) "__neg__" = some (some (.ref f)) ∧ PySem.W.isFn K (.ref f) = true ∧ FnOk P w K mg base CX0 k f fd ["self"] sp ∧ Binds K fd ["self"] []
theorem un_ownX {X : Cx} {C : Addr} {k : Nat} {sp : Sp} (D : UnX X.prog X.w X.K X.mg X.base k C sp) (hr : Room k X.A) : UnR X (unaryOp .USub) (rOwn1 C sp) := by
  obtain ⟨f, fd, hs, hf, F, hb⟩ := D.ex
  intro pins s σ H x v Q I rx hq
  obtain ⟨a, dx, fs, rfl, ha, hsp⟩ := hq
  cases rx
  obtain ⟨mA, J, _⟩ := ins_get I.hok ha
  obtain ⟨od, J, _⟩ := J.look
  obtain ⟨m, hF⟩ := I.fr
  refine PySem.W.ksp_neg hF I.ok.mod.kin J hs hf ?_
  have hl := F.len _ _ _ _ hsp
  have r2 : Vals [V.ref a] [Value.ref a] := .cons rfl .nil
  refine wpAny_call (codeAny_mono (F.run X.A X.stack s H ⟨[.ref a], []⟩ [.ref a] [.ref a] _ E0 hr I.env0 (by
    have := hb s [.ref a] I.kIn (by simpa using hl)
    simpa using this) r2 hsp) fun r s' hq => ?_)
  cases r with
  | error e => exact pass0 (X := X) pins σ H s e s' I hq
  | ok fl =>
    cases fl with
    | ret w => exact I.after hq
    | next => exact False.elim hq
    | brk => exact False.elim hq
    | cont => exact False.elim hq
/-- == of two own numbers, the same -/
theorem op_eqR {X : Cx} {C : Addr} {k : Nat} (D : EqX X.prog X.w X.K X.mg X.base k C) (hr : Room k X.A) : OpR X (compareOp .Eq) (rEqG (DIns C (SameR C))) := by
  obtain ⟨f, fd, h1, h2, F, hb⟩ := D.ex
  exact op_eqG (rcG_ins F h1 h2 hb (pass0 (X := X))) hr
def spNegQ (C : Addr) : Sp := fun vs H Q _ => ∃ (a : Addr) (x : Rat) (n : Nat), vs = [.ref a] ∧ RQ C H a x ∧ Bits n x ∧ n ≤ 8900 ∧ ∀ r H', Same H H' → RQ C H' r (-x) → Q (.ref r) H'
theorem Bits.neg {n : Nat} {x : Rat} (h : Bits n x) : Bits n (-x) := ⟨h.1.neg, h.2⟩
theorem divInt_neg (x : Rat) : Rat.divInt (-x.num) x.den = -x := by rw [← Rat.neg_divInt, Rat.num_divInt_den]
end Fp

namespace Fp
open PySem PySem.Spec PyProof.Rows L2
/-! ### an int and an own number: the reflected way -/
section
variable {prog : Program} {w : World} {A : Around} {E : Value → Shared → Prop} {s : Shared}
theorem int_add_ref {i : Int} {t : Tok} {x C dx : Addr} {Q : Value → Shared → Prop} (hx : s.heap.get? x = some (PySem.W.instObj C dx)) (h : Q .notImplemented s) :
    wpAny (model prog w) A (call (.builtin "int.__add__") [.int i t, .ref x]) Q E s := by
  refine wpAny_call_entry F.slot_int_add (typeIs_int s i t) F.entry_int_add ?_ (F.args_int_add_2 _ _)
  obtain ⟨hp, g, d, tk, os⟩ := s
  unfold Builtin.«int.__add__» Builtin.Int.intBinary
  repeat (any_goals (first | assumption | wp_step))
  exact ⟨_, rfl, h⟩
theorem int_mul_ref {i : Int} {t : Tok} {x C dx : Addr} {Q : Value → Shared → Prop} (hx : s.heap.get? x = some (PySem.W.instObj C dx)) (h : Q .notImplemented s) :
    wpAny (model prog w) A (call (.builtin "int.__mul__") [.int i t, .ref x]) Q E s := by
  refine wpAny_call_entry F.slot_int_mul (typeIs_int s i t) F.entry_int_mul ?_ (F.args_int_mul_2 _ _)
  obtain ⟨hp, g, d, tk, os⟩ := s
  unfold Builtin.«int.__mul__» Builtin.Int.intBinary
  repeat (any_goals (first | assumption | wp_step))
  exact ⟨_, rfl, h⟩
end
section
variable {prog : Program} {w : World} {A : Around} {E : Value → Shared → Prop} {s : Shared} {K : PySem.W.Frag} {x C L f f0 : Addr} {h₀ : Heap} {m : Str → Option Value} {ox : Obj} {od : Option Obj}
theorem ksp_rbin {op : Operator} {i : Int} {t : Tok} {Q : Value → Shared → Prop} (F : PyProof.Rows.Fr h₀ L s.heap m) (X₀ : K.In h₀) (I : PySem.W.InstAt s.heap x ox C od) (hc : PySem.W.selfFirst K C = true)
    (hs : PySem.W.findIn K (.ref C) (PySem.dunder op.info.2) = some (some (.ref f0))) (hr : PySem.W.findIn K (.ref C) (PySem.dunderR op.info.2) = some (some (.ref f))) (hf : PySem.W.isFn K (.ref f) = true)
    (hfi : fillsNumberSlot (.type "int") op.info.2 = pure true) (hsub : PySem.W.subIn K (.ref C) (.type "int") = some false)
    (hd : ∀ Q' : Option Value → Shared → Prop, Q' none s → wpAny (model prog w) A (tryMethod (.int i t) (PySem.dunder op.info.2) (.ref x)) Q' E s)
    (h : wpAny (model prog w) A (call (.ref f) [.ref x, .int i t]) (PySem.W.CmpBack Q) E s) : wpAny (model prog w) A (binaryOp op (.int i t) (.ref x)) Q E s := by
  have X := X₀.keeps F.keep
  obtain ⟨cd, rest, hcd, hm⟩ := PySem.W.ksp_first hc
  rcases hi : op.info with ⟨sym, nm'⟩
  rw [hi] at hs hr hfi hd
  dsimp only at hs hr hfi hd
  have one := PySem.W.ksp_try X I hr hf h
  have dec := hd
  obtain ⟨hh, g, d, tt, os⟩ := s
  have L1 : PySem.W.Looks (model prog w) hh (typeOf (.ref x)) (.ref C) := I.type
  have L2 : PySem.W.Looks (model prog w) hh (typeOf (.int i t)) (.type "int") := PySem.W.Looks.of_pure rfl
  have L3 : PySem.W.Looks (model prog w) hh (fillsNumberSlot (.ref C) nm') true := PySem.W.fills_K X hcd hm hs
  have L4 : PySem.W.Looks (model prog w) hh (fillsNumberSlot (.type "int") nm') true := PySem.W.Looks.of_pure hfi
  have L5 : PySem.W.Looks (model prog w) hh (isSubtype (.ref C) (.type "int")) false := PySem.W.looks_subIn X hsub
  have L7 : PySem.W.Looks (model prog w) hh (numberSlotInPython (.type "int") nm') false := PySem.W.Looks.of_pure rfl
  have hne : (Value.type "int" == Value.ref C) = false := Bool.eq_false_iff.mpr fun q => by cases beq_iff_eq.mp q
  simp only [binaryOp, hi]
  refine wpAny_holding (wpAny_bind ?_)
  unfold binaryOp1
  refine wpAny_bind (L2.at (wpAny_bind (L1.at (wpAny_bind (L4.at ?_)))))
  simp only [hne, Bool.false_eq_true, if_false]
  ksp_lk
  refine dec _ ?_
  ksp_lk
  refine wpAny_mono one (fun r s' hr' => ?_) fun _ _ e => e
  obtain ⟨v, rfl, hq⟩ := hr'
  ksp_lk
  exact hq
end
/-! ### + and * of numbers of either kind -/
structure RevF (K : PySem.W.Frag) (C f : Addr) (op : Operator) : Prop where
  sf : PySem.W.selfFirst K C = true
  hs : ∃ g : Addr, PySem.W.findIn K (.ref C) (PySem.dunder op.info.2) = some (some (.ref g))
  hr : PySem.W.findIn K (.ref C) (PySem.dunderR op.info.2) = some (some (.ref f))
  hf : PySem.W.isFn K (.ref f) = true
  hsub : PySem.W.subIn K (.ref C) (.type "int") = some false
structure RevX (P : Program) (w : World) (K : PySem.W.Frag) (mg : Str → Option Value) (base : Heap) (k : Nat) (C : Addr) (op : Operator) (sp : Sp) : Prop where
  ex : ∃ (f : Addr) (fd : FuncData), RevF K C f op ∧ FnOk P w K mg base CX0 k f fd ["self", "other"] sp ∧ Binds K fd ["self", "other"] []
def Refl (op : Operator) : Prop := fillsNumberSlot (.type "int") op.info.2 = pure true ∧ ∀ (prog : Program) (w : World) (A : Around) (E : Value → Shared → Prop) (s : Shared) (i : Int) (t : Tok) (x C dx : Addr) (Q : Option Value → Shared → Prop),
  s.heap.get? x = some (PySem.W.instObj C dx) → Q none s → wpAny (model prog w) A (tryMethod (.int i t) (PySem.dunder op.info.2) (.ref x)) Q E s
theorem refl_add : Refl .Add := ⟨F.fills_int_add, fun prog w A E s i t x C dx Q hx q => wpAny_tryMethod_declines (typeIs_int s i t) F.slot_int_add (int_add_ref hx ⟨rfl, q⟩)⟩
theorem refl_mul : Refl .Mult := ⟨F.fills_int_mul, fun prog w A E s i t x C dx Q hx q => wpAny_tryMethod_declines (typeIs_int s i t) F.slot_int_mul (int_mul_ref hx ⟨rfl, q⟩)⟩
/-- an int by an own number -/
def rRev (C : Addr) (sp : Sp) : R2 := fun x y H Q => ∃ i a dx fs, x = .int i ∧ y = .ref a ∧ H a = some (.ins C dx fs) ∧ sp [y, x] H (fun v H' => (∃ r, v = .ref r) ∧ Q v H') E0
theorem op_rev {X : Cx} {C : Addr} {op : Operator} {n : Nat} {sp : Sp} (rf : Refl op) (D : RevX X.prog X.w X.K X.mg X.base n C op sp) (hr : Room n X.A) : OpR X (binaryOp op) (rRev C sp) := by
  obtain ⟨f, fd, B, F, hb⟩ := D.ex
  intro pins s σ H x y v u Q I rx ry hq
  obtain ⟨i, a, dx, fs, rfl, rfl, ha, hsp⟩ := hq
  obtain ⟨t, rfl⟩ := rx
  cases ry
  obtain ⟨mA, J, _⟩ := ins_get I.hok ha
  have jo := J.obj
  obtain ⟨od, J, _⟩ := J.look
  obtain ⟨m, hF⟩ := I.fr
  obtain ⟨g, hs1⟩ := B.hs
  refine ksp_rbin hF I.ok.mod.kin J B.sf hs1 B.hr B.hf rf.1 B.hsub (fun Q' q => rf.2 _ _ _ _ _ _ _ _ _ _ _ jo q) ?_
  have hl := F.len _ _ _ _ hsp
  have r2 : Vals [V.ref a, V.int i] [Value.ref a, Value.int i t] := .cons rfl (.cons ⟨t, rfl⟩ .nil)
  refine wpAny_call (codeAny_mono (F.run X.A X.stack s H ⟨[.ref a, .int i t], []⟩ [.ref a, .int i t] [.ref a, .int i] _ E0 hr I.env0 (by
    have := hb s [.ref a, .int i t] I.kIn (by simpa using hl)
    simpa using this) r2 hsp) fun r s' hq => ?_)
  cases r with
  | error e => exact pass0 (X := X) pins σ H s e s' I hq
  | ok fl =>
    cases fl with
    | ret w =>
      obtain ⟨z, H', I', rz, ⟨r, ez⟩, q⟩ := I.after hq
      subst ez
      cases rz
      exact ⟨.ref r, H', I', rfl, q⟩
    | next => exact False.elim hq
    | brk => exact False.elim hq
    | cont => exact False.elim hq
/-- the sum or the product of two numbers, of either kind each -/
def rNum (C : Addr) (sp spr : Sp) (g : Int → Int → V) (c : Int → Int → Prop) : R2 := fun x y H Q => (rI c g x y H Q) ∨ (rOwn C sp x y H Q) ∨ (rRev C spr x y H Q)
theorem op_or {X : Cx} {f : Value → Value → Sem Value} {r1 r2 : R2} (h1 : OpR X f r1) (h2 : OpR X f r2) : OpR X f (fun x y H Q => r1 x y H Q ∨ r2 x y H Q) := fun pins s σ H x y v u Q I rx ry h => h.elim (fun h => h1 pins s σ H x y v u Q I rx ry h) (fun h => h2 pins s σ H x y v u Q I rx ry h)
theorem op_numAdd {X : Cx} {C : Addr} {n : Nat} {sp spr : Sp} (A : BinX X.prog X.w X.K X.mg X.base n C .Add sp) (R : RevX X.prog X.w X.K X.mg X.base n C .Add spr) (hr : Room n X.A) : OpR X (binaryOp .Add) (fun x y H Q => (rI0 (fun i j => .int (i + j)) x y H Q) ∨ (rOwn C sp x y H Q) ∨ (rRev C spr x y H Q)) :=
  op_or op_add (op_or (op_ownX A hr) (op_rev refl_add R hr))
theorem op_numMul {X : Cx} {C : Addr} {n : Nat} {sp spr : Sp} (A : BinX X.prog X.w X.K X.mg X.base n C .Mult sp) (R : RevX X.prog X.w X.K X.mg X.base n C .Mult spr) (hr : Room n X.A) : OpR X (binaryOp .Mult) (rNum C sp spr (fun i j => .int (i * j)) CMulW) :=
  op_or op_mulW (op_or (op_ownX A hr) (op_rev refl_mul R hr))
end Fp

namespace Fp
open PySem PySem.Spec PyProof.Rows L2
/-! ### mixed numbers -/
theorem NumQ.int_eq {C : Addr} {H : Hp} {i : Int} {x : Rat} (h : NumQ C H (.int i) x) : x = (i : Rat) := by
  rcases h with ⟨h1, h2⟩ | ⟨a, h1, _⟩
  · injection h1 with h1
    refine Rat.ext (by rw [h1]; rfl) ?_
    have : (x.den : Int) = 1 := h2
    show x.den = 1
    omega
  · cases h1
def rNumA (C : Addr) : R2 := fun x y H Q => ∃ (p q : Rat) (n m : Nat), NumQ C H x p ∧ NumQ C H y q ∧ Bits n p ∧ Bits m q ∧ n + m ≤ 8900 ∧ ∀ v H', Same H H' → NumQ C H' v (p + q) → Q v H'
def rNumM (C : Addr) : R2 := fun x y H Q => ∃ (p q : Rat) (n m : Nat), NumQ C H x p ∧ NumQ C H y q ∧ Bits n p ∧ Bits m q ∧ n + m ≤ 8900 ∧ ∀ v H', Same H H' → NumQ C H' v (p * q) → Q v H'
theorem NumQ.own_eq {C : Addr} {H : Hp} {a : Addr} {x : Rat} (h : NumQ C H (.ref a) x) : RQ C H a x := by
  rcases h with ⟨h1, _⟩ | ⟨b, h1, h2⟩
  · cases h1
  · injection h1 with h1; subst h1; exact h2
theorem NumQ.cases {C : Addr} {H : Hp} {v : V} {x : Rat} (h : NumQ C H v x) : (∃ i : Int, v = .int i ∧ x = (i : Rat)) ∨ ∃ a, v = .ref a ∧ RQ C H a x := by
  rcases id h with ⟨h1, _⟩ | ⟨b, h1, h2⟩
  · subst h1; exact .inl ⟨_, rfl, h.int_eq⟩
  · exact .inr ⟨b, h1, h2⟩
theorem op_numA {X : Cx} {C : Addr} {n : Nat} (A : BinX X.prog X.w X.K X.mg X.base n C .Add (spAddQ C)) (R : RevX X.prog X.w X.K X.mg X.base n C .Add (spAddQ C)) (hr : Room n X.A) : OpR X (binaryOp .Add) (rNumA C) := by
  intro pins s σ H x y v u Q I rx ry h
  obtain ⟨p, q, n1, m1, hx, hy, bx, by_, nm, k⟩ := h
  refine op_numAdd A R hr pins s σ H x y v u Q I rx ry ?_
  rcases hx.cases with ⟨i, rfl, e1⟩ | ⟨a, rfl, r1⟩
  · rcases hy.cases with ⟨j, rfl, e2⟩ | ⟨b, rfl, r2⟩
    · refine .inl ⟨i, j, rfl, rfl, k _ _ (Same.refl _) ?_⟩
      rw [e1, e2, ← Rat.intCast_add]; exact NumQ.int
    · obtain ⟨dy, h2⟩ := id r2
      exact .inr (.inr ⟨i, b, dy, _, rfl, rfl, h2, b, _, q, p, m1, n1, rfl, r2, hx, by_, bx, by omega, fun r H' s' rr => ⟨⟨r, rfl⟩, k _ _ s' (by rw [Rat.add_comm]; exact rr.nq)⟩⟩)
  · obtain ⟨dx, h1⟩ := id r1
    exact .inr (.inl ⟨a, dx, _, rfl, h1, hy.own, a, _, p, q, n1, m1, rfl, r1, hy, bx, by_, nm, fun r H' s' rr => ⟨⟨r, rfl⟩, k _ _ s' rr.nq⟩⟩)
theorem op_numM {X : Cx} {C : Addr} {n : Nat} (A : BinX X.prog X.w X.K X.mg X.base n C .Mult (spMulQ C)) (R : RevX X.prog X.w X.K X.mg X.base n C .Mult (spMulQ C)) (hr : Room n X.A) : OpR X (binaryOp .Mult) (rNumM C) := by
  intro pins s σ H x y v u Q I rx ry h
  obtain ⟨p, q, n1, m1, hx, hy, bx, by_, nm, k⟩ := h
  refine op_numMul A R hr pins s σ H x y v u Q I rx ry ?_
  rcases hx.cases with ⟨i, rfl, e1⟩ | ⟨a, rfl, r1⟩
  · rcases hy.cases with ⟨j, rfl, e2⟩ | ⟨b, rfl, r2⟩
    · subst e1
      subst e2
      refine .inl ⟨i, j, rfl, rfl, LbI.cm (n := n1) (m := m1) bx.1 by_.1 (by omega), k _ _ (Same.refl _) ?_⟩
      rw [← Rat.intCast_mul]; exact NumQ.int
    · obtain ⟨dy, h2⟩ := id r2
      exact .inr (.inr ⟨i, b, dy, _, rfl, rfl, h2, b, _, q, p, m1, n1, rfl, r2, hx, by_, bx, by omega, fun r H' s' rr => ⟨⟨r, rfl⟩, k _ _ s' (by rw [Rat.mul_comm]; exact rr.nq)⟩⟩)
  · obtain ⟨dx, h1⟩ := id r1
    exact .inr (.inl ⟨a, dx, _, rfl, h1, hy.own, a, _, p, q, n1, m1, rfl, r1, hy, bx, by_, nm, fun r H' s' rr => ⟨⟨r, rfl⟩, k _ _ s' rr.nq⟩⟩)
/-- a list of mixed numbers -/
def ML (C : Addr) (H : Hp) (us : List V) (xs : List Rat) : Prop := us.length = xs.length ∧ ∀ (i : Nat) (v : V), us[i]? = some v → ∃ x, xs[i]? = some x ∧ NumQ C H v x
theorem ML.same {C : Addr} {H H' : Hp} {us : List V} {xs : List Rat} (h : ML C H us xs) (e : Same H H') : ML C H' us xs := ⟨h.1, fun i v hv => let ⟨x, h1, h2⟩ := h.2 i v hv; ⟨x, h1, h2.same e⟩⟩
theorem ML.nil {C : Addr} {H : Hp} : ML C H [] [] := ⟨rfl, fun i v h => by cases h⟩
theorem ML.app {C : Addr} {H : Hp} {us ws : List V} {xs ys : List Rat} (h : ML C H us xs) (g : ML C H ws ys) : ML C H (us ++ ws) (xs ++ ys) := by
  have l := h.1
  refine ⟨by rw [List.length_append, List.length_append, h.1, g.1], fun i v hv => ?_⟩
  by_cases z : i < us.length
  · rw [List.getElem?_append_left z] at hv
    rw [List.getElem?_append_left (by omega)]; exact h.2 i v hv
  · rw [List.getElem?_append_right (by omega)] at hv
    rw [List.getElem?_append_right (by omega), ← l]; exact g.2 _ v hv
theorem ML.one {C : Addr} {H : Hp} {v : V} {x : Rat} (h : NumQ C H v x) : ML C H [v] [x] := ⟨rfl, fun i u hu => by
  match i, hu with
  | 0, hu => obtain rfl := Option.some.inj hu; exact ⟨x, rfl, h⟩⟩
theorem ML.snoc {C : Addr} {H : Hp} {us : List V} {xs : List Rat} {v : V} {x : Rat} (h : ML C H us xs) (n : NumQ C H v x) : ML C H (us ++ [v]) (xs ++ [x]) := h.app (ML.one n)
theorem ML.ints {C : Addr} {H : Hp} (zs : List Int) : ML C H (zs.map V.int) (zs.map fun z : Int => (z : Rat)) := ⟨by simp, fun i v hv => by
  rw [List.getElem?_map] at hv ⊢
  cases e : zs[i]? with
  | none => rw [e] at hv; cases hv
  | some z => rw [e] at hv; obtain rfl := Option.some.inj hv; exact ⟨_, rfl, NumQ.int⟩⟩
theorem ML.zeros {C : Addr} {H : Hp} (n : Nat) : ML C H (List.replicate n (.int 0)) (List.replicate n 0) := ⟨by simp, fun i v hv => by
  rw [List.getElem?_replicate] at hv ⊢
  split at hv
  · rename_i h
    obtain rfl := Option.some.inj hv
    exact ⟨0, by rw [if_pos h], by have := NumQ.int (C := C) (H := H) (i := 0); rwa [Rat.intCast_zero] at this⟩
  · cases hv⟩
theorem ML.of_ql {C : Addr} {H : Hp} {us : List V} {xs : List Rat} (h : QL C H us xs) : ML C H us xs := ⟨QL.len h, fun i v hv => let ⟨x, a, h1, h2, h3⟩ := QL.at h hv; ⟨x, h1, by rw [h2]; exact h3.nq⟩⟩
theorem ML.set {C : Addr} {H : Hp} {us : List V} {xs : List Rat} {i : Nat} {v : V} {x : Rat} (h : ML C H us xs) (n : NumQ C H v x) : ML C H (us.set i v) (xs.set i x) := by
  refine ⟨by rw [List.length_set, List.length_set]; exact h.1, fun j u hu => ?_⟩
  rw [List.getElem?_set] at hu ⊢
  have l := h.1
  split at hu
  · rename_i e
    split at hu
    · obtain rfl := Option.some.inj hu
      exact ⟨x, by rw [if_pos e, if_pos (by omega)], n⟩
    · cases hu
  · rename_i e
    obtain ⟨y, h1, h2⟩ := h.2 j u hu
    exact ⟨y, by rw [if_neg e]; exact h1, h2⟩
theorem NumQ.wo {C D : Addr} {H : Hp} {v : V} {x : Rat} {acc : List V} (h : NumQ C H v x) (hD : H D = some (.lst acc)) : NumQ C (wo D H) v x := by
  rcases h with h | ⟨a, e, r⟩
  · exact .inl h
  · exact .inr ⟨a, e, Rat2.wo r hD⟩
theorem ML.wo {C D : Addr} {H : Hp} {us acc : List V} {xs : List Rat} (h : ML C H us xs) (hD : H D = some (.lst acc)) : ML C (Fp.wo D H) us xs := ⟨h.1, fun i v hv => let ⟨x, h1, h2⟩ := h.2 i v hv; ⟨x, h1, h2.wo hD⟩⟩
/-- the item at i of a list that is filled up with noughts -/
theorem ML.pad {C : Addr} {H : Hp} {us : List V} {xs : List Rat} (h : ML C H us xs) {k i : Nat} (l : i < us.length + k) : ∃ v, (us ++ List.replicate k (.int 0))[i]? = some v ∧ NumQ C H v (co xs i) := by
  have := h.app (ML.zeros (C := C) (H := H) k)
  obtain ⟨w, e⟩ : ∃ w, (us ++ List.replicate k (V.int 0))[i]? = some w := ⟨_, List.getElem?_eq_getElem (by rw [List.length_append, List.length_replicate]; exact l)⟩
  obtain ⟨x, h1, h2⟩ := this.2 i _ e
  refine ⟨_, e, ?_⟩
  have ex : x = co xs i := by
    unfold co
    rw [List.getD_eq_getElem?_getD]
    by_cases z : i < xs.length
    · rw [List.getElem?_append_left z] at h1; rw [h1]; rfl
    · rw [List.getElem?_append_right (by omega), List.getElem?_replicate] at h1
      split at h1
      · rw [List.getElem?_eq_none (by omega)]; exact (Option.some.inj h1).symm
      · cases h1
  rw [← ex]; exact h2
end Fp

namespace K21
open PySem PySem.Spec PyProof.Rows L2 Fp
section
variable {P : Program} {w : World} {K : PySem.W.Frag} {mg : Str → Option Value} {base : Heap} {k : Nat} {C fI fR : Addr}
def rListO (K : PySem.W.Frag) : List V → Hp → VK → Prop := fun xs H Q => ∃ p ys, xs = [.ref p] ∧ (SqL K H p ys ∨ SqT K H p ys) ∧ ∀ l : Addr, H l = none → Q (.ref l) (upd H l (.lst ys))
theorem rep0 : ∀ k, (List.replicate k [V.int 0]).flatten = List.replicate k (V.int 0)
  | 0 => rfl
  | k + 1 => by rw [List.replicate_succ, List.flatten_cons, rep0 k]; rfl
theorem ixn {n j : Nat} {z : Int} (e : z = (j : Int)) (h : j < n) : ixN n z = some j := by
  unfold ixN
  rw [if_pos (by omega), if_pos (by omega), e]; simp
/-- the numbers of the slot i's list, filled up with noughts -/
theorem gv_padM {σ : L2.St} {H : Hp} {a : Addr} {us : List V} {i m : Nat} (hv : σ[i]? = some (some (.ref a))) (hm : σ[3]? = some (some (.int (m : Int)))) (ha : Sq K H a us) (h1 : us.length ≤ m) (h2 : m ≤ 800) :
    Gv (tOp rCat (tCB (rListO K) (tCons (tVar i) tNil)) (tOp rRep (tLst (tCons (tC (.int 0)) tNil)) (tOp (rI0 fun i j => V.int (i - j)) (tVar 3) (tCB (rLenS K) (tCons (tVar i) tNil))))) σ H fun v H' => ∃ c, v = .ref c ∧ H c = none ∧ H' c = some (.lst (us ++ List.replicate (m - us.length) (.int 0))) := fun Q q => by
  refine ⟨_, hv, a, us, rfl, ha, fun b nb => ?_⟩
  have sb := same_new (o := .lst us) nb
  refine ⟨by show 1 ≤ sizeLine; decide, fun c nc => ?_⟩
  have sc := same_new (o := .lst [V.int 0]) nc
  refine ⟨_, hm, _, hv, a, us, rfl, (ha.same sb).same sc, _, _, rfl, rfl, ?_⟩
  refine ⟨c, _, [V.int 0], rfl, rfl, upd_same, by omega, by omega, by rw [sizeLine_eq]; simp only [List.length_cons, List.length_nil]; omega, fun d nd => ?_⟩
  rw [rep0, show ((m : Int) - ((us.length : Nat) : Int)).toNat = m - us.length by omega]
  have sd := same_new (o := .lst (List.replicate (m - us.length) (V.int 0))) nd
  refine ⟨b, d, _, _, rfl, rfl, sd _ _ (sc _ _ upd_same), upd_same, by rw [List.length_replicate, sizeLine_eq]; omega, fun g ng => ?_⟩
  have sg := same_new (o := .lst (us ++ List.replicate (m - us.length) (V.int 0))) ng
  exact q _ _ (((sb.trans sc).trans sd).trans sg) ⟨g, rfl, ((sb.trans sc).trans sd).free ng, upd_same⟩
theorem num_one {C : Addr} {H : Hp} : NumQ C H (.int 1) 1 := by have := NumQ.int (C := C) (H := H) (i := 1); rwa [Rat.intCast_one] at this
theorem bits_one : Bits 1 (1 : Rat) := ⟨by show (1 : Int).natAbs < 2 ^ 1; decide, by show (1 : Int).natAbs < 2 ^ 1; decide⟩
/-! ### the law's own reckoning -/
def sp_law_plus (K : PySem.W.Frag) (C : Addr) : Sp := fun vs H Q _ => ∃ (a b : Addr) (us ws : List V) (xs ys : List Rat) (x : V) (c : Rat), vs = [.ref a, .ref b, x] ∧ NumQ C H x c ∧ Bits 40 c ∧ Sq K H a us ∧ Sq K H b ws ∧ ML C H us xs ∧ ML C H ws ys ∧ AllB 4000 xs ∧ AllB 4000 ys ∧ xs.length ≤ 200 ∧ ys.length ≤ 200 ∧
  ∀ d H' zs, Same H H' → H d = none → H' d = some (.lst zs) → ML C H' zs (plusQ c xs ys) → Q (.ref d) H'
def sp_law_times (K : PySem.W.Frag) (C : Addr) : Sp := fun vs H Q _ => ∃ (a b : Addr) (us ws : List V) (xs ys : List Rat) (D E : Int) (M N : Nat), vs = [.ref a, .ref b] ∧ Sq K H a us ∧ Sq K H b ws ∧ ML C H us xs ∧ ML C H ws ys ∧ AllS D M xs ∧ AllS E N ys ∧ Fit D M ∧ Fit E N ∧ Fit (D * E) (xs.length * (M * N)) ∧ xs.length ≤ 100 ∧ ys.length ≤ 100 ∧
  ∀ c H' zs, Same H H' → H c = none → H' c = some (.lst zs) → ML C H' zs (timesQ xs ys) → Q (.ref c) H'
-- slots: one 0, other 1, number 2, many 3, near 4, far 5, at 6; cells: far near number
abbrev s_law_plus : Stmt := top 38
abbrev N_law_plus : List Str := ["one", "other", "number", "many", "near", "far", "at"]
theorem sc_law_plus : FnScope N_law_plus ["one", "other", "number"] (defScope s_law_plus) := ⟨rfl, rfl, rfl, by decide +kernel, rfl, by decide +kernel, by decide +kernel⟩
theorem d_law_plus (B : Bnd K mg "_law_plus" s_law_plus) (M : Mg2 mg) (R : RCls K mg C fI fR) {kr : Nat} (AD : BinX P w K mg base kr C .Add (spAddQ C)) (RA : RevX P w K mg base kr C .Add (spAddQ C)) (MU : BinX P w K mg base kr C .Mult (spMulQ C)) (RM : RevX P w K mg base kr C .Mult (spMulQ C)) (hk : kr + 8 ≤ k)  : Def P w K mg base (k + 1) "_law_plus" s_law_plus ["one", "other", "number"] (sp_law_plus K C) := by
  refine def_of B sc_law_plus (by rintro _ _ _ _ ⟨a, b, us, ws, xs, ys, x, c, rfl, _⟩; rfl) (fun _ _ _ _ _ _ us hl => match us, hl with | [_, _, _], _ => rfl) fun f cdv A outer s H vs Q E hr h => ?_
  obtain ⟨a, b, us, ws, xs, ys, x, c, rfl, hx, bq, ha, hb, R1, R2, b1, b2, l1, l2, q⟩ := h
  have hu := hr.units
  refine ⟨_, pss_cons (ps_set (i := 3) sc_law_plus.nd rfl (.inl rfl) (pe_callB (call_max2 rfl) (by rfl) M.max (by decide +kernel) (pa_cons (pe_callB call_len_seq (by rfl) M.len boot_len (pa_cons (pv 0) pa_nil)) (pa_cons (pe_callB call_len_seq (by rfl) M.len boot_len (pa_cons (pv 1) pa_nil)) pa_nil))))
    (pss_cons (ps_asg (pe_tup (pa_cons (pe_op op_cat (pe_callTy call_list_of (by rfl) M.list (by decide +kernel) (pa_cons (pv 0) pa_nil)) (pe_op op_rep (pe_lst (pa_cons pe_int pa_nil)) (pe_op op_sub (pv 3) (pe_callB call_len_seq (by rfl) M.len boot_len (pa_cons (pv 0) pa_nil))))) (pa_cons (pe_op op_cat (pe_callTy call_list_of (by rfl) M.list (by decide +kernel) (pa_cons (pv 1) pa_nil)) (pe_op op_rep (pe_lst (pa_cons pe_int pa_nil)) (pe_op op_sub (pv 3) (pe_callB call_len_seq (by rfl) M.len boot_len (pa_cons (pv 1) pa_nil))))) pa_nil))) (pg_tup rfl (pgs_cons (pg_name (i := 4) sc_law_plus.nd rfl (.inr rfl)) (pgs_cons (pg_name (i := 5) sc_law_plus.nd rfl (.inr rfl)) pgs_nil))))
    (pss_one (ps_ret (pe_lc (own := [("at", 6)]) (g := (gName 6)) (tt := tYes) (te := (tOp (rNumA C) (tOp (rIxL K) (tVar 4) (tVar 6)) (tOp (rNumM C) (tVar 2) (tOp (rIxL K) (tVar 5) (tVar 6))))) rfl sc_law_plus.nd (pi_range1 (by rfl) M.range (pa_cons (pv 3) pa_nil)) (blkOk_by (own := [("at", 6)]) (N := N_law_plus) (sc := defScope s_law_plus) (by decide +kernel)) (fun _ _ _ _ _ => pg_name (i := 6) sc_law_plus.nd rfl (.inl rfl)) (fun _ _ _ _ _ => pts_nil) (fun _ _ _ _ _ => pe_op (op_numA AD RA (hr.mono (by omega))) (pe_ix (r := rIxL K) ix_list (pv 4) (pv 6) (fun _ _ => rfl)) (pe_op (op_numM MU RM (hr.mono (by omega))) (pv 2) (pe_ix (r := rIxL K) ix_list (pv 5) (pv 6) (fun _ _ => rfl)))))))), ?_⟩
  have e1 := R1.1
  have e2 := R2.1
  refine ⟨_, rfl, a, us, rfl, ha, _, rfl, b, ws, rfl, hb, _, _, rfl, ?_⟩
  have em : (if ((ws.length : Nat) : Int) > ((us.length : Nat) : Int) then ((ws.length : Nat) : Int) else ((us.length : Nat) : Int)) = ((max xs.length ys.length : Nat) : Int) := by split <;> omega
  rw [em]
  refine gv_padM (K := K) (i := 0) (m := max xs.length ys.length) rfl rfl ha (by omega) (by omega) _ fun _ H1 sm1 ⟨a1, ea1, na1, ha1⟩ => ?_
  subst ea1
  refine gv_padM (K := K) (i := 1) (m := max xs.length ys.length) rfl rfl (hb.same sm1) (by omega) (by omega) _ fun _ H2 sm2 ⟨a2, ea2, na2, ha2⟩ => ?_
  subst ea2
  refine ⟨by show 2 ≤ sizeLine; decide, fun T nT => ?_⟩
  have sT := same_new (o := .tup [V.ref a1, V.ref a2]) nT
  have g1 := sT _ _ (sm2 _ _ ha1)
  have g2 := sT _ _ ha2
  have sA := (sm1.trans sm2).trans sT
  have hT : (upd H2 T (.tup [V.ref a1, V.ref a2])) T = some (.tup [V.ref a1, V.ref a2]) := upd_same
  generalize upd H2 T (.tup [V.ref a1, V.ref a2]) = H3 at *
  refine ⟨T, _, rfl, SqT.of hT, rfl, _, _, rfl, _, _, rfl, rfl, ?_⟩
  refine ⟨_, rfl, _, rfl, by omega, by omega, fun D nD => ?_⟩
  refine lc_rel (walk_range (lo := 0) (n := ((max xs.length ys.length : Nat) : Int).toNat)) (fun i acc Hh => ML C Hh acc ((plusQ c xs ys).take i)) nD (by rw [sizeLine_eq]; omega) (fun _ _ => trivial) ML.nil (fun i acc A B s r => r.same s) (fun i v acc Ha Hb hi sa hA hr hy Yc Nc yc nc => ?_) (fun acc H4 s4 hD hr => ?_)
  · obtain ⟨rfl, rfl⟩ := hy
    obtain ⟨w1, i1, n1⟩ := ((R1.same sA).same sa).pad (k := max xs.length ys.length - us.length) (i := i) (by omega)
    obtain ⟨w2, i2, n2⟩ := ((R2.same sA).same sa).pad (k := max xs.length ys.length - ws.length) (i := i) (by omega)
    have c1 := co_allB (i := i) b1 (by decide)
    have c2 := co_allB (i := i) b2 (by decide)
    refine ⟨rfl, _, rfl, _, rfl, a1, _, _, w1, rfl, rfl, SqL.of (sa _ _ g1), at_of (j := i) (by omega) i1, _, rfl, _, rfl, _, rfl, a2, _, _, w2, rfl, rfl, SqL.of (sa _ _ g2), at_of (j := i) (by omega) i2, c, co ys i, 40, 4000, (hx.same sA).same sa, n2, bq, c2, by decide, fun u H5 s5 nu => ?_⟩
    refine ⟨co xs i, c * co ys i, 4000, 4040, n1.same s5, nu, c1, bq.mul c2, by decide, fun z H6 s6 nz => yc z H6 (s5.trans s6) ?_⟩
    rw [takeS (show (plusQ c xs ys)[i]? = some (co xs i + c * co ys i) by unfold plusQ; rw [List.getElem?_map, List.getElem?_range (by omega)]; rfl)]
    have hD6 := (s5.trans s6) _ _ hA
    exact ML.snoc (hr.same (wo_mono (s5.trans s6))) (nz.wo hD6)
  · rw [List.take_of_length_le (by rw [plusQ_len]; omega)] at hr
    exact q D H4 acc (sA.trans s4) (sA.free nD) hD (hr.same wo_le)
-- slots: one 0, other 1, found 2, at 3, near 4, to 5, far 6; cells: 
abbrev s_law_times : Stmt := top 39
abbrev N_law_times : List Str := ["one", "other", "found", "at", "near", "to", "far"]
theorem sc_law_times : FnScope N_law_times ["one", "other"] (defScope s_law_times) := ⟨rfl, rfl, rfl, by decide +kernel, rfl, by decide +kernel, by decide +kernel⟩
theorem d_law_times (B : Bnd K mg "_law_times" s_law_times) (M : Mg2 mg) (R : RCls K mg C fI fR) {kr : Nat} (AD : BinX P w K mg base kr C .Add (spAddQ C)) (RA : RevX P w K mg base kr C .Add (spAddQ C)) (MU : BinX P w K mg base kr C .Mult (spMulQ C)) (RM : RevX P w K mg base kr C .Mult (spMulQ C)) (hk : kr + 8 ≤ k)  : Def P w K mg base (k + 1) "_law_times" s_law_times ["one", "other"] (sp_law_times K C) := by
  refine def_of B sc_law_times (by rintro _ _ _ _ ⟨a, b, us, ws, xs, ys, d0, e0, nM, nN, rfl, _⟩; rfl) (fun _ _ _ _ _ _ us hl => match us, hl with | [_, _], _ => rfl) fun f cdv A outer s H vs Q E hr h => ?_
  obtain ⟨a, b, us, ws, xs, ys, d0, e0, nM, nN, rfl, ha, hb, R1, R2, s1, s2, f1, f2, f3, l1, l2, q⟩ := h
  have hu := hr.units
  refine ⟨_, pss_cons (ps_set (i := 2) sc_law_times.nd rfl (.inl rfl) (pe_op op_rep (pe_lst (pa_cons pe_int pa_nil)) (pe_callB (call_max2 rfl) (by rfl) M.max (by decide +kernel) (pa_cons pe_int (pa_cons (pe_op op_sub (pe_op op_add (pe_callB call_len_seq (by rfl) M.len boot_len (pa_cons (pv 0) pa_nil)) (pe_callB call_len_seq (by rfl) M.len boot_len (pa_cons (pv 1) pa_nil))) pe_int) pa_nil)))))
    (pss_cons (ps_for PassesOwn.never rfl (pi_enumS (by rfl) M.enum (pa_cons (pv 0) pa_nil)) (pg_tup rfl (pgs_cons (pg_name (i := 3) sc_law_times.nd rfl (.inl rfl)) (pgs_cons (pg_name (i := 4) sc_law_times.nd rfl (.inl rfl)) pgs_nil)))
      (pss_one (ps_for PassesOwn.never rfl (pi_enumS (by rfl) M.enum (pa_cons (pv 1) pa_nil)) (pg_tup rfl (pgs_cons (pg_name (i := 5) sc_law_times.nd rfl (.inl rfl)) (pgs_cons (pg_name (i := 6) sc_law_times.nd rfl (.inl rfl)) pgs_nil)))
        (pss_one (ps_asg (pe_op (op_numA AD RA (hr.mono (by omega))) (pe_ix (r := rIxL K) ix_list (pv 2) (pe_op op_add (pv 3) (pv 5)) (fun _ _ => rfl)) (pe_op (op_numM MU RM (hr.mono (by omega))) (pv 4) (pv 6))) (pg_sub (pv 2) (pe_op op_add (pv 3) (pv 5)) set_list))))))
    (pss_one (ps_ret (pv 2)))), ?_⟩
  have e1 := R1.1
  have e2 := R2.1
  refine ⟨by show 1 ≤ sizeLine; decide, fun c0 nc0 => ?_⟩
  have sc := same_new (o := .lst [V.int 0]) nc0
  refine ⟨_, rfl, a, us, rfl, ha.same sc, _, rfl, b, ws, rfl, hb.same sc, _, _, rfl, rfl, _, 1, rfl, rfl, _, _, rfl, ?_⟩
  have em : (if ((us.length : Nat) : Int) + ((ws.length : Nat) : Int) - 1 > 0 then ((us.length : Nat) : Int) + ((ws.length : Nat) : Int) - 1 else 0) = ((xs.length + ys.length - 1 : Nat) : Int) := by split <;> omega
  rw [em]
  refine ⟨c0, _, [V.int 0], rfl, rfl, upd_same, by omega, by omega, by rw [sizeLine_eq]; simp only [List.length_cons, List.length_nil]; omega, fun F nF0 => ?_⟩
  generalize hL : xs.length + ys.length - 1 = L
  rw [rep0, Int.toNat_natCast]
  have nF : H F = none := sc.free nF0
  have sF := sc.trans (same_new (o := .lst (List.replicate L (V.int 0))) nF0)
  have hF : (upd (upd H c0 (.lst [V.int 0])) F (.lst (List.replicate L (V.int 0)))) F = some (.lst (List.replicate L (V.int 0))) := upd_same
  generalize upd (upd H c0 (.lst [V.int 0])) F (.lst (List.replicate L (V.int 0))) = H0 at *
  have m0 : ∀ G : Hp, ML C G (List.replicate L (V.int 0)) ((List.range L).map (prodQ xs ys 0)) := fun G => by
    have e : (List.range L).map (prodQ xs ys 0) = List.replicate L (0 : Rat) := List.ext_getElem (by simp) fun n a b => by
      rw [List.getElem_replicate, List.getElem_map]; rfl
    rw [e]; exact ML.zeros L
  have old : ∀ {G : Hp}, Same H (wo F G) → Same H G := fun s => s.trans wo_le
  obtain ⟨κ1, k1⟩ := sqk_of ha
  obtain ⟨κ2, k2⟩ := sqk_of hb
  have a1 := f1.all s1
  have a2 := f2.all s2
  refine ⟨_, rfl, a, us, κ1, rfl, k1.same sF, ?_⟩
  refine for_it (walk_enumS (K := K) (a := a) (xs := us) (κ := κ1) rfl) (fun i σ G => ∃ (o3 o4 o5 o6 : Option V) (zs : List V), σ = [some (.ref a), some (.ref b), some (.ref F), o3, o4, o5, o6] ∧ Same H (wo F G) ∧ G F = some (.lst zs) ∧ ML C (wo F G) zs ((List.range L).map (prodQ xs ys i)))
    ⟨none, none, none, none, _, rfl, same_wo nF sF, hF, m0 _⟩ (fun i σ G _ ⟨_, _, _, _, _, _, sm, _⟩ => k1.same (old sm)) (fun i v σ G G2 hi ⟨o3, o4, o5, o6, zs, e, sm, hG, hZ⟩ hy => ?_) (fun σ G ⟨o3, o4, o5, o6, zs, e, sm, hG, hZ⟩ => ?_)
  · subst e
    obtain ⟨T, v1, v2, rfl, nT, rfl, hx1, hx2⟩ := hy
    obtain ⟨x, hx, nx⟩ := R1.2 i v2 hx2
    obtain rfl := Option.some.inj hx1
    have sT := same_new (o := .tup [V.int (i : Nat), v2]) nT
    have s3 := sm.trans (wo_mono (D := F) sT)
    have hG3 := sT _ _ hG
    have hZ := hZ.same (wo_mono (D := F) sT)
    have hT : (upd G T (.tup [V.int (i : Nat), v2])) T = some (.tup [V.int (i : Nat), v2]) := upd_same
    generalize upd G T (.tup [V.int (i : Nat), v2]) = G3 at *
    have hi1 : i < xs.length := by omega
    have ex : co xs i = x := co_at hx
    refine ⟨T, _, rfl, SqT.of hT, rfl, _, _, rfl, _, _, rfl, rfl, ?_⟩
    refine ⟨_, rfl, b, ws, κ2, rfl, k2.same (old s3), ?_⟩
    refine for_it (walk_enumS (K := K) (a := b) (xs := ws) (κ := κ2) rfl) (fun j σ G => ∃ (o5 o6 : Option V) (zs : List V), σ = [some (.ref a), some (.ref b), some (.ref F), some (.int (i : Nat)), some v2, o5, o6] ∧ Same H (wo F G) ∧ G F = some (.lst zs) ∧ ML C (wo F G) zs ((List.range L).map (partQ xs ys i j)))
      ⟨_, _, zs, rfl, s3, hG3, ?_⟩ (fun j σ G _ ⟨_, _, _, _, sm, _⟩ => k2.same (old sm)) (fun j v σ G G2 hj ⟨o5, o6, zs, e, sm, hG, hZ⟩ hy => ?_) (fun σ G ⟨o5, o6, zs, e, sm, hG, hZ⟩ => ?_)
    · rw [funext (partQ_zero xs ys i)]; exact hZ
    · subst e
      obtain ⟨T2, v3, v4, rfl, nT2, rfl, hy1, hy2⟩ := hy
      obtain ⟨y, hy, ny⟩ := R2.2 j v4 hy2
      obtain rfl := Option.some.inj hy1
      have sT := same_new (o := .tup [V.int (j : Nat), v4]) nT2
      have s4 := sm.trans (wo_mono (D := F) sT)
      have hG4 := sT _ _ hG
      have hZ := hZ.same (wo_mono (D := F) sT)
      have hT2 : (upd G T2 (.tup [V.int (j : Nat), v4])) T2 = some (.tup [V.int (j : Nat), v4]) := upd_same
      generalize upd G T2 (.tup [V.int (j : Nat), v4]) = G4 at *
      have hj1 : j < ys.length := by omega
      have hij : i + j < L := by omega
      have ey : co ys j = y := co_at hy
      have bx := a1 x (List.mem_of_getElem? hx)
      have by_ := a2 y (List.mem_of_getElem? hy)
      obtain ⟨u, hu⟩ : ∃ u, zs[i + j]? = some u := ⟨_, List.getElem?_eq_getElem (by have := hZ.1; rw [List.length_map, List.length_range] at this; omega)⟩
      obtain ⟨z, hz, nz⟩ := hZ.2 _ _ hu
      have ez : z = partQ xs ys i j (i + j) := by
        rw [List.getElem?_map, List.getElem?_range hij] at hz
        exact (Option.some.inj hz).symm
      have le1 : (i + 1) * (nM * nN) ≤ xs.length * (nM * nN) := Nat.mul_le_mul_right _ hi1
      have le2 : nM * nN ≤ xs.length * (nM * nN) := Nat.le_mul_of_pos_left _ (by omega)
      have bz : Bits 4000 z := by rw [ez]; exact f3.one ((partQ_sc s1 s2 i j _).mono le1)
      have bxy : Bits 4000 (x * y) := f3.one (((s1 x (List.mem_of_getElem? hx)).mul (s2 y (List.mem_of_getElem? hy))).mono le2)
      refine ⟨T2, _, rfl, SqT.of hT2, rfl, _, _, rfl, _, _, rfl, rfl, ?_⟩
      refine ⟨_, rfl, _, rfl, _, rfl, _, _, rfl, rfl, F, zs, _, u, rfl, rfl, SqL.of hG4, at_of (j := i + j) (by omega) hu, _, rfl, _, rfl, x, y, 4000, 4000, nx.same (old s4), ny.same (old s4), bx, by_, by decide, fun v5 G5 s5 n5 => ?_⟩
      refine ⟨z, x * y, 4000, 4000, (nz.same wo_le).same s5, n5, bz, bxy, by decide, fun v6 G6 s6 n6 => ?_⟩
      have hG6 := (s5.trans s6) _ _ hG4
      refine ⟨_, rfl, _, rfl, _, rfl, _, _, rfl, rfl, F, _, _, i + j, rfl, rfl, hG6, ixn (by omega) (by have := (List.getElem?_eq_some_iff.mp hu).1; exact this), ?_⟩
      refine ⟨_, _, _, rfl, ?_, upd_same, ?_⟩
      · rw [wo_upd]; exact s4.trans (wo_mono (s5.trans s6))
      · rw [wo_upd]
        have := partQ_step (xs := xs) (ys := ys) hij
        rw [ex, ey] at this
        rw [← this, ← ez]
        exact (hZ.same (wo_mono (s5.trans s6))).set (n6.wo hG6)
    · subst e
      refine ⟨_, _, _, _, zs, rfl, sm, hG, ?_⟩
      rw [e2, funext (partQ_all xs ys i)] at hZ
      exact hZ
  · subst e
    have s5 := old sm
    refine ⟨_, rfl, q F G zs s5 nF hG ?_⟩
    rw [e1, ← hL] at hZ
    exact hZ.same wo_le
end
end K21

namespace Fp
/-! ### digits put together, as the law does it -/
def jw (ys : List Rat) : List (List Rat) → List Rat
  | [] => []
  | d :: ds => plusQ 1 (timesQ (jw ys ds) ys) d
theorem jw_len {ys : List Rat} (y0 : 0 < ys.length) : ∀ {ds : List (List Rat)}, (∀ d ∈ ds, d.length ≤ ys.length) → (jw ys ds).length ≤ ds.length * ys.length
  | [], _ => Nat.zero_le _
  | d :: ds, h => by
    have ih := jw_len y0 (ds := ds) fun x hx => h x (List.mem_cons_of_mem _ hx)
    have hd := h d List.mem_cons_self
    show (plusQ 1 (timesQ (jw ys ds) ys) d).length ≤ (ds.length + 1) * ys.length
    rw [plusQ_len, timesQ_len, Nat.add_mul, Nat.one_mul]; omega
theorem jw_sc {D : Int} {M N : Nat} {ys : List Rat} (sy : AllS 1 N ys) (y0 : 0 < ys.length) : ∀ {ds : List (List Rat)}, (∀ d ∈ ds, d.length ≤ ys.length) → (∀ d ∈ ds, AllS D M d) → ds.length * ys.length ≤ 99 → AllS D (M * (100 * N + 1) ^ ds.length) (jw ys ds)
  | [], _, _, _ => fun _ h => by cases h
  | d :: ds, h, g, l => by
    have l2 : ds.length * ys.length ≤ 99 := by rw [List.length_cons, Nat.add_mul] at l; omega
    have ih := jw_sc sy y0 (ds := ds) (fun x hx => h x (List.mem_cons_of_mem _ hx)) (fun x hx => g x (List.mem_cons_of_mem _ hx)) l2
    have jl := jw_len y0 (ds := ds) fun x hx => h x (List.mem_cons_of_mem _ hx)
    have t := timesQ_sc ih sy
    rw [Int.mul_one] at t
    have p := plusQ_sc (c := 1) (ys := d) (N := M) t fun n => by rw [Rat.one_mul]; exact (g d List.mem_cons_self).co n
    intro x hx
    refine (p x hx).mono ?_
    have e1 : M ≤ M * (100 * N + 1) ^ ds.length := Nat.le_mul_of_pos_right _ (Nat.pow_pos (by omega))
    have e3 : M * (100 * N + 1) ^ (d :: ds).length = M * (100 * N + 1) ^ ds.length * (100 * N + 1) := by rw [List.length_cons, Nat.pow_succ, Nat.mul_assoc]
    rw [e3]
    generalize M * (100 * N + 1) ^ ds.length = X at *
    have e2 : (jw ys ds).length * (X * N) ≤ 100 * (X * N) := Nat.mul_le_mul_right _ (by omega)
    have e4 : X * (100 * N + 1) = 100 * (X * N) + X := by rw [Nat.mul_add, Nat.mul_one, Nat.mul_left_comm]
    omega
theorem jw_le {M N k n l : Nat} (h : k + 1 ≤ n) (hl : l ≤ 99) : l * (M * (100 * N + 1) ^ k * N) ≤ M * (100 * N + 1) ^ n ∧ M * (100 * N + 1) ^ k ≤ M * (100 * N + 1) ^ n := by
  have e1 : M * (100 * N + 1) ^ (k + 1) ≤ M * (100 * N + 1) ^ n := Nat.mul_le_mul_left _ (Nat.pow_le_pow_right (by omega) h)
  have e3 : M * (100 * N + 1) ^ (k + 1) = M * (100 * N + 1) ^ k * (100 * N + 1) := by rw [Nat.pow_succ, Nat.mul_assoc]
  rw [e3] at e1
  generalize M * (100 * N + 1) ^ k = X at *
  have e2 : l * (X * N) ≤ 100 * (X * N) := Nat.mul_le_mul_right _ (by omega)
  have e4 : X * (100 * N + 1) = 100 * (X * N) + X := by rw [Nat.mul_add, Nat.mul_one, Nat.mul_left_comm]
  omega
theorem jw_co (ys : List Rat) : ∀ (ds : List (List Rat)) (zs : List Rat), (∀ n, co zs n = co ys n) → ∀ n, co (jw ys ds) n = co (jl zs ds) n
  | [], _, _, _ => rfl
  | d :: ds, zs, h, n => by
    rw [jl_co]
    show co (plusQ 1 (timesQ (jw ys ds) ys) d) n = _
    rw [plusQ_co, timesQ_co, prodc_comm, Rat.one_mul]
    congr 1
    have ih := jw_co ys ds zs h
    rw [prodc_congr (fun i => ih i), prodc_comm zs, prodc_comm ys]
    exact prodc_congr (fun i => (h i).symm) n
theorem jw_drop {ys : List Rat} {ds : List (List Rat)} {i : Nat} {d : List Rat} (h : ds[i]? = some d) : jw ys (ds.drop i) = plusQ 1 (timesQ (jw ys (ds.drop (i + 1))) ys) d := by
  have li := (List.getElem?_eq_some_iff.mp h).1
  rw [List.drop_eq_getElem_cons li]
  obtain rfl : ds[i] = d := (List.getElem?_eq_some_iff.mp h).2
  rfl
end Fp

namespace K21
open PySem PySem.Spec PyProof.Rows L2 Fp
section
variable {P : Program} {w : World} {K : PySem.W.Frag} {mg : Str → Option Value} {base : Heap} {k : Nat} {C fI fR : Addr}
theorem pot_ne {H : Hp} {p b : Addr} (h : PotOk H p) (n : H b = none) : b ≠ p := fun z => by
  obtain ⟨u, v, e, _⟩ := h
  rw [z, e] at n; cases n
theorem wos_keep {S : List Addr} {H H' : Hp} {p : Addr} (pS : p ∈ S) (k : Keep p H H') : Same (wos S H) (wos S H') := fun b o e => by
  obtain ⟨h1, h2⟩ := wos_some.mp e
  exact wos_some.mpr ⟨h1, k b o (fun z => h1 (z ▸ pS)) h2⟩
theorem Fit.le {D : Int} {M N : Nat} (h : Fit D N) (l : M ≤ N) : Fit D M := ⟨h.1, h.2.1, Nat.lt_of_le_of_lt l h.2.2⟩
def sp_law_told (K : PySem.W.Frag) (C : Addr) : Sp := fun vs H Q _ => ∃ (a : Addr) (us : List V) (xs : List Rat), vs = [.ref a] ∧ Sq K H a us ∧ ML C H us xs ∧ AllB 4000 xs ∧ xs.length ≤ 200 ∧ ∀ c H' zs, Same H H' → H c = none → H' c = some (.lst zs) → QL C H' zs (trimQ xs) → Q (.ref c) H'
def sp_law_poly (K : PySem.W.Frag) : Sp := fun vs H Q _ => ∃ (p : Addr) (dg : Int), vs = [.ref p, .int dg] ∧ PotOk H p ∧ 0 ≤ dg ∧ dg ≤ 20 ∧ ∀ a H' ns z, PotOk H' p → Keep p H H' → H a = none → H' a = some (.lst (VI (ns ++ [z]))) → (ns.length : Int) = dg → (∀ x ∈ ns ++ [z], -2 ≤ x ∧ x ≤ 2) → z ≠ 0 → Q (.ref a) H'
/-- numbers, each a digit of its own -/
abbrev sing (xs : List Rat) : List (List Rat) := xs.map fun x => [x]
def sp_law_put_in (K : PySem.W.Frag) (C : Addr) : Sp := fun vs H Q _ => ∃ (a b : Addr) (gs ws : List V) (xs ys : List Rat) (D E : Int) (M N : Nat), vs = [.ref a, .ref b] ∧ H a = some (.lst gs) ∧ ML C H gs xs ∧ Sq K H b ws ∧ ML C H ws ys ∧ AllS E N ys ∧ 0 < ys.length ∧ xs.length * ys.length ≤ 99 ∧ Fit E N ∧ AllB 4000 xs ∧
  (∀ n, n ≤ xs.length → Fit (D * E ^ n) (M * (100 * N + E.natAbs) ^ n)) ∧ (∀ n, n ≤ xs.length → AllS (D * E ^ n) (M * (100 * N + E.natAbs) ^ n) (jw ys ((sing xs).drop (xs.length - n)))) ∧ (∀ n, n < xs.length → Fit (D * E ^ n * E) ((jw ys ((sing xs).drop (xs.length - n))).length * (M * (100 * N + E.natAbs) ^ n * N))) ∧
  ∀ c H' zs, Same H H' → H c = none → H' c = some (.lst zs) → ML C H' zs (jw ys (sing xs)) → Q (.ref c) H'
-- slots: poly 0, found 1, number 2; cells: 
abbrev s_law_told : Stmt := top 40
abbrev N_law_told : List Str := ["poly", "found", "number"]
theorem sc_law_told : FnScope N_law_told ["poly"] (defScope s_law_told) := ⟨rfl, rfl, rfl, by decide +kernel, rfl, by decide +kernel, by decide +kernel⟩
theorem d_law_told (B : Bnd K mg "_law_told" s_law_told) (M : Mg2 mg) (R : RCls K mg C fI fR) {kr : Nat} (RD : RDef P w K mg base kr C) (AD : BinX P w K mg base kr C .Add (spAddQ C)) (PT : PropX P w K mg base kr C "top" (spTopR C)) (hk : kr + 8 ≤ k)  : Def P w K mg base (k + 1) "_law_told" s_law_told ["poly"] (sp_law_told K C) := by
  refine def_of B sc_law_told (by rintro _ _ _ _ ⟨a, us, xs, rfl, _⟩; rfl) (fun _ _ _ _ _ _ us hl => match us, hl with | [_], _ => rfl) fun f cdv A outer s H vs Q E hr h => ?_
  obtain ⟨a, us, xs, rfl, ha, hM, bx, lx, q⟩ := h
  have hu := hr.units
  refine ⟨_, pss_cons (ps_setLc (i := 1) (own := [("number", 2)]) (g := (gName 2)) (tt := tYes) (te := (tOp (rOwn C (spAddQ C)) (tRat C (tCons (tC (.int 0)) tNil)) (tVar 2))) rfl sc_law_told.nd rfl rfl (sw_true rfl rfl rfl (by decide +kernel)) (pi_sq (pv 0)) (blkOk_by (own := [("number", 2)]) (N := N_law_told) (sc := defScope s_law_told) (by decide +kernel)) (fun _ _ _ _ _ => pg_name (i := 2) sc_law_told.nd rfl (.inl rfl)) (fun _ _ _ _ _ => pts_nil) (fun _ _ _ _ _ => pe_op (op_ownX AD (hr.mono (by omega))) (pe_rat RD (hr.mono (by omega)) (by rfl) (pa_cons pe_int pa_nil)) (pv 2)))
    (pss_cons (ps_while PassesOwn.never (PW.pt (pw_and (pt_cmpR (op_neNil hu) (pv 1) (pe_lst pa_nil) (nomark _)) (pw_and1 (pt_cmpR op_eq (pe_propX PT (hr.mono (by omega)) R.cl (pe_ix (r := rIxL K) ix_list (pv 1) (pe_un un_neg pe_int) (fun _ _ => rfl)) (by rfl)) pe_int (nomark _)))))
      (pss_one (ps_expr (pe_bm0 PySem.F.plainAttrs_list PySem.F.slot_list_pop PySem.F.type_list_pop mt_pop (pv 1)))))
    (pss_one (ps_ret (pv 1)))), ?_⟩
  have l0 := hM.1
  dsimp only [tSeq, tAsg]
  refine lc_relS (fun i acc Hh => QL C Hh acc (xs.take i)) (fun R r => ⟨_, rfl, r⟩) ha (by rw [sizeLine_eq]; omega) QL.nil (fun i acc A B s r => RatL.same r s) (fun D i y acc Ha hD hy sa hA r Yc Nc yc nc => ?_) (fun D acc H' nD sH hA r => ?_)
  · obtain ⟨x, hx, nx⟩ := hM.2 i y hy
    refine ⟨rfl, 0, rfl, fun m0 H4 n0 s4 r0 => ⟨_, rfl, ?_⟩⟩
    have r0 : RQ C H4 m0 0 := r0
    obtain ⟨dx, hm0⟩ := id r0
    have nv := nx.same (sa.trans s4)
    refine ⟨m0, dx, _, rfl, hm0, nv.own, m0, y, 0, x, 1, 4000, rfl, r0, nv, ⟨Nat.two_pow_pos _, by show (1 : Int).natAbs < 2 ^ 1; decide⟩, bx x (List.mem_of_getElem? hx), by decide, fun m H5 s5 rm => ⟨⟨m, rfl⟩, yc (.ref m) H5 (s4.trans s5) ?_⟩⟩
    rw [Rat.zero_add] at rm
    rw [takeS hx]
    exact QL.snoc (RatL.same r (wo_mono (s4.trans s5))) (Rat2.wo rm ((s4.trans s5) _ _ hA))
  rw [show us.length = xs.length from l0, List.take_length] at r
  have la : acc.length ≤ 200 := by rw [QL.len r]; omega
  refine ⟨fun mm σ G => ∃ (us : List V) (ps : List Rat), σ = [some (.ref a), some (.ref D), none] ∧ mm = us.length ∧ Same H (wo D G) ∧ G D = some (.lst us) ∧ QL C (wo D G) us ps ∧ trimQ ps = trimQ xs ∧ us.length ≤ 200,
    ⟨_, acc, _, rfl, rfl, same_wo nD sH, hA, r, rfl, la⟩, ?_⟩
  rintro mm σ G ⟨us, ps, rfl, rfl, sm, hD, hR, tp, lu⟩
  refine ⟨_, rfl, Nat.zero_le _, fun c nc => ?_⟩
  have sc := same_new (o := .lst []) nc
  have hD2 := sc _ _ hD
  have sm2 := sm.trans (wo_mono (D := D) sc)
  have hR2 := RatL.same hR (wo_mono (D := D) sc)
  have hc2 : (upd G c (.lst [])) c = some (.lst []) := upd_same
  generalize upd G c (.lst []) = G2 at hD2 sm2 hR2 hc2 sc
  have fin : ps = trimQ ps → (tRet (tVar 1)) { nx := fun _ H1 => Q .non H1, rt := Q } [some (.ref a), some (.ref D), none] G2 := fun e => by
    refine ⟨_, rfl, q D G2 us (sm2.trans wo_le) nD hD2 ?_⟩
    rw [← tp, ← e]
    exact RatL.same hR2 wo_le
  refine ⟨D, c, us, rfl, rfl, hD2, hc2, _, rfl, ?_⟩
  by_cases hu2 : us = []
  · subst hu2
    have p0 : ps = [] := List.length_eq_zero_iff.mp (QL.len hR).symm
    subst p0
    exact iteF2 rfl (fin rfl)
  obtain ⟨A, v, rfl⟩ := snoc_of hu2
  have lps : ps ≠ [] := fun z => by have := QL.len hR; rw [z, List.length_append] at this; simp at this
  obtain ⟨B2, pq, rfl⟩ := snoc_of lps
  have lAB : A.length = B2.length := by have := QL.len hR; simpa using this
  refine iteT2 (by simp) ?_
  obtain ⟨pq2, b, h1, rfl, r1⟩ := QL.at hR2 (i := A.length) (v := v) (by rw [List.getElem?_append_right (Nat.le_refl _), Nat.sub_self]; rfl)
  have epq : pq2 = pq := by
    rw [lAB, List.getElem?_append_right (Nat.le_refl _), Nat.sub_self] at h1
    exact (Option.some.inj h1).symm
  subst epq
  have r2 := RQ.same r1 wo_le
  obtain ⟨dx, r3⟩ := id r2
  refine ⟨_, rfl, 1, rfl, D, _, -1, _, rfl, rfl, SqL.of hD2, atI_last _ _, b, dx, _, rfl, r3, b, pq2.num, pq2.den, rfl, r2, rfl, _, rfl, ite2 (fun z3 => ?_) (fun z3 => ?_)⟩
  · have p0 : pq2 = 0 := by
      have := of_decide_eq_true z3
      injection this with this
      exact Rat.num_eq_zero.mp this
    refine ⟨fun σ' G3 => ∃ (us : List V) (ps : List Rat), σ' = [some (.ref a), some (.ref D), none] ∧ us.length = A.length ∧ Same H (wo D G3) ∧ G3 D = some (.lst us) ∧ QL C (wo D G3) us ps ∧ trimQ ps = trimQ xs ∧ us.length ≤ 200, fun σ' G3 ⟨us, ps, h1, h2, h3, h4, h5, h6, h7⟩ => ⟨us.length, by rw [h2, List.length_append]; simp, us, ps, h1, rfl, h3, h4, h5, h6, h7⟩, ?_⟩
    refine ⟨_, rfl, Or.inl ⟨rfl, _, SqL.of hD2⟩, D, _, _, rfl, rfl, hD2, by rw [List.length_append, List.length_singleton, Nat.add_sub_cancel, List.getElem?_append_right (Nat.le_refl _), Nat.sub_self]; rfl, A, B2, rfl, rfl, ?_, ?_, ?_, by rw [← tp, trimQ_zero p0], by rw [List.length_append] at lu; simp at lu; omega⟩
    · rw [wo_upd]; exact sm2
    · rw [upd_same, List.dropLast_concat]
    · rw [wo_upd]
      have := QL.take hR2 A.length
      rw [List.take_left, lAB, List.take_left] at this
      exact this
  · have p0 : pq2 ≠ 0 := fun e => z3 (decide_eq_true (by rw [e]; rfl))
    exact fin (trimQ_nz p0).symm
-- slots: pot 0, degree 1, found 2, at 3; cells: pot
abbrev s_law_poly : Stmt := top 42
abbrev N_law_poly : List Str := ["pot", "degree", "found", "at"]
theorem sc_law_poly : FnScope N_law_poly ["pot", "degree"] (defScope s_law_poly) := ⟨rfl, rfl, rfl, by decide +kernel, rfl, by decide +kernel, by decide +kernel⟩
theorem d_law_poly (B : Bnd K mg "_law_poly" s_law_poly) (M : Mg2 mg)  (D_law_draw : Def P w K mg base k "_law_draw" sDraw ["pot", "many"] spDraw) (D_law_pick : Def P w K mg base k "_law_pick" sPick ["pot", "some"] spPick) : Def P w K mg base (k + 1) "_law_poly" s_law_poly ["pot", "degree"] (sp_law_poly K) := by
  refine def_of B sc_law_poly (by rintro _ _ _ _ ⟨p, dg, rfl, _⟩; rfl) (fun _ _ _ _ _ _ us hl => match us, hl with | [_, _], _ => rfl) fun f cdv A outer s H vs Q E hr h => ?_
  obtain ⟨p, dg, rfl, hp, d0, d1, q⟩ := h
  have hu := hr.units
  refine ⟨_, pss_cons (ps_setLc (i := 2) (own := [("at", 3)]) (g := (gName 3)) (tt := tYes) (te := (tOp _ (tD _ (tCons (tVar 0) (tCons (tC (.int 5)) tNil))) (tC (.int 2)))) rfl sc_law_poly.nd rfl rfl (sw_true rfl rfl rfl (by decide +kernel)) (pi_range1 (by rfl) M.range (pa_cons (pv 1) pa_nil)) (blkOk_by (own := [("at", 3)]) (N := N_law_poly) (sc := defScope s_law_poly) (by decide +kernel)) (fun _ _ _ _ _ => pg_name (i := 3) sc_law_poly.nd rfl (.inl rfl)) (fun _ _ _ _ _ => pts_nil) (fun _ _ _ _ _ => pe_op op_sub (pe_d D_law_draw hr (by rfl) (pa_cons (pv 0) (pa_cons pe_int pa_nil))) pe_int))
    (pss_one (ps_ret (pe_op op_cat (pv 2) (pe_lst (pa_cons (pe_d D_law_pick hr (by rfl) (pa_cons (pv 0) (pa_cons (pe_lst (pa_cons pe_int (pa_cons pe_int (pa_cons pe_int (pa_cons (pe_un un_neg pe_int) pa_nil))))) pa_nil))) pa_nil))))), ?_⟩
  refine ⟨_, rfl, dg, rfl, by omega, by omega, fun D hD => ?_⟩
  have neD : D ≠ p := pot_ne hp hD
  refine lc_it (walk_range (lo := 0) (n := dg.toNat)) (fun i G => ∃ ws, G D = some (.lst (VI ws)) ∧ ws.length = i ∧ (∀ x ∈ ws, -2 ≤ x ∧ x ≤ 2) ∧ PotOk G p ∧ Keep p H G) ⟨[], upd_same, rfl, fun x hx => by (cases hx), hp.same (same_new hD), Keep.of (same_new hD)⟩ (fun _ _ _ _ => True.intro) (fun i x G G' hi pv y => ?_) (fun G pv => ?_)
  · obtain ⟨ws, hw, lw, wb, pG, kG⟩ := pv
    obtain ⟨rfl, rfl⟩ := y
    refine ⟨rfl, _, rfl, p, 5, rfl, pG, by omega, by omega, fun z H2 z0 z1 hp2 k2 => ⟨z, 2, rfl, rfl, VI ws, k2 _ _ neD hw, by rw [vi_len]; exact small (by omega), ws ++ [z - 2], ?_, by rw [List.length_append, lw]; rfl, fun y hy => ?_, ?_, fun b o nb hb => ?_⟩⟩
    · rw [upd_same]; unfold VI; rw [List.map_append]; rfl
    · rcases List.mem_append.mp hy with h | h
      · exact wb y h
      · rw [List.mem_singleton.mp h]; omega
    · obtain ⟨u, v, e, x⟩ := hp2
      exact ⟨u, v, by rw [upd_ne neD.symm]; exact e, x⟩
    · rw [upd_ne (ne_of_none hb hD)]
      exact k2 _ _ nb (kG _ _ nb hb)
  · obtain ⟨ws, hw, lw, wb, pG, kG⟩ := pv
    refine ⟨_, rfl, _, rfl, 1, rfl, (by show 4 ≤ sizeLine; decide), fun b nb => ?_⟩
    have sb := same_new (o := .lst [V.int 1, V.int 1, V.int 2, V.int (-1)]) nb
    refine ⟨p, b, _, rfl, pG.same sb, upd_same, pot_ne pG nb, by decide, by decide, fun x H' hx hp' k' => ⟨by show 1 ≤ sizeLine; decide, fun c nc => ?_⟩⟩
    obtain ⟨z, rfl, zb, z0⟩ : ∃ z : Int, x = .int z ∧ (-2 ≤ z ∧ z ≤ 2) ∧ z ≠ 0 := by
      simp only [List.mem_cons, List.not_mem_nil, or_false] at hx
      rcases hx with e | e | e | e
      · exact ⟨1, e, by omega, by omega⟩
      · exact ⟨1, e, by omega, by omega⟩
      · exact ⟨2, e, by omega, by omega⟩
      · exact ⟨-1, e, by omega, by omega⟩
    have sc := same_new (o := .lst [V.int z]) nc
    have hw2 := sc _ _ (k' _ _ neD (sb _ _ hw))
    refine ⟨D, c, VI ws, [.int z], rfl, rfl, hw2, upd_same, by rw [vi_len, sizeLine_eq]; simp; omega, fun a na => ?_⟩
    have kk : Keep p H (upd (upd H' c (.lst [V.int z])) a (.lst (VI ws ++ [V.int z]))) := kG.trans ((Keep.of sb).trans (k'.trans (Keep.of (sc.trans (same_new na)))))
    have nH : H a = none := by
      cases e : H a with
      | none => rfl
      | some o =>
        have n1 : a ≠ p := pot_ne (hp'.same sc) na
        have := (kG.trans ((Keep.of sb).trans (k'.trans (Keep.of sc)))) a o n1 e
        rw [this] at na; cases na
    refine q a _ ws z ((hp'.same sc).same (same_new na)) kk nH ?_ (by rw [lw]; omega) (fun y hy => ?_) z0
    · rw [upd_same]; unfold VI; rw [List.map_append]; rfl
    · rcases List.mem_append.mp hy with h | h
      · exact wb y h
      · rw [List.mem_singleton.mp h]; exact zb
-- slots: poly 0, inner 1, found 2, number 3; cells: 
abbrev s_law_put_in : Stmt := top 41
abbrev N_law_put_in : List Str := ["poly", "inner", "found", "number"]
theorem sc_law_put_in : FnScope N_law_put_in ["poly", "inner"] (defScope s_law_put_in) := ⟨rfl, rfl, rfl, by decide +kernel, rfl, by decide +kernel, by decide +kernel⟩
theorem d_law_put_in (B : Bnd K mg "_law_put_in" s_law_put_in) (M : Mg2 mg)  (D_law_plus : Def P w K mg base k "_law_plus" s_law_plus ["one", "other", "number"] (sp_law_plus K C)) (D_law_times : Def P w K mg base k "_law_times" s_law_times ["one", "other"] (sp_law_times K C)) : Def P w K mg base (k + 1) "_law_put_in" s_law_put_in ["poly", "inner"] (sp_law_put_in K C) := by
  refine def_of B sc_law_put_in (by rintro _ _ _ _ ⟨a, b, gs, ws, xs, ys, d0, e0, nM, nN, rfl, _⟩; rfl) (fun _ _ _ _ _ _ us hl => match us, hl with | [_, _], _ => rfl) fun f cdv A outer s H vs Q E hr h => ?_
  obtain ⟨a, b, gs, ws, xs, ys, d0, e0, nM, nN, rfl, ha, hQ, hb, hM, sy, y0, lq, f1, bx, f2, js', f3', q⟩ := h
  have hu := hr.units
  refine ⟨_, pss_cons (ps_set (i := 2) sc_law_put_in.nd rfl (.inl rfl) (pe_lst pa_nil))
    (pss_cons (ps_for PassesOwn.never rfl (pi_list (pe_revL (pv 0))) (pg_name (i := 3) sc_law_put_in.nd rfl (.inl rfl))
      (pss_one (ps_set (i := 2) sc_law_put_in.nd rfl (.inl rfl) (pe_d D_law_plus hr (by rfl) (pa_cons (pe_d D_law_times hr (by rfl) (pa_cons (pv 2) (pa_cons (pv 1) pa_nil))) (pa_cons (pe_lst (pa_cons (pv 3) pa_nil)) (pa_cons pe_int pa_nil)))))))
    (pss_one (ps_ret (pv 2)))), ?_⟩
  have lg := hQ.1
  have lw := hM.1
  refine ⟨Nat.zero_le _, fun F0 nF0 => ?_⟩
  have sF := same_new (o := .lst []) nF0
  have hF : (upd H F0 (.lst [])) F0 = some (.lst []) := upd_same
  generalize upd H F0 (.lst []) = H0 at *
  refine ⟨_, rfl, a, gs, rfl, SqL.of (sF _ _ ha), fun c nc => ?_⟩
  have sc := same_new (o := .lst gs.reverse) nc
  have hc : (upd H0 c (.lst gs.reverse)) c = some (.lst gs.reverse) := upd_same
  have hF := sc _ _ hF
  have sA := sF.trans sc
  generalize upd H0 c (.lst gs.reverse) = H1 at *
  have ls : (sing xs).length = xs.length := by simp
  have ld : xs.length ≤ 99 := Nat.le_trans (Nat.le_mul_of_pos_right _ y0) lq
  have ly : xs ≠ [] → ys.length ≤ 99 := fun h => Nat.le_trans (Nat.le_mul_of_pos_left _ (List.length_pos_iff.mpr h)) lq
  have one : ∀ d ∈ sing xs, d.length ≤ ys.length := fun d hd => by
    obtain ⟨x, _, rfl⟩ := List.mem_map.mp hd
    exact y0
  refine ⟨c, rfl, ⟨_, SqL.of hc⟩, ?_⟩
  refine for_list (xs := gs.reverse) (fun i σ G => ∃ (F : Addr) (zs : List V) (o : Option V), σ = [some (.ref a), some (.ref b), some (.ref F), o] ∧ Same H1 G ∧ H F = none ∧ G F = some (.lst zs) ∧ ML C G zs (jw ys ((sing xs).drop (xs.length - i))))
    ⟨F0, [], none, rfl, Same.refl _, nF0, hF, ?_⟩ (fun i σ G _ ⟨_, _, _, _, sm, _⟩ => SqL.of (sm _ _ hc)) (fun i v σ G hv ⟨F, zs, o, e, sm, nF, hG, hZ⟩ => ?_) (fun σ G ⟨F, zs, o, e, sm, nF, hG, hZ⟩ => ?_)
  · rw [Nat.sub_zero, List.drop_of_length_le (by rw [ls]; exact Nat.le_refl _)]; exact ML.nil
  · subst e
    have li := (List.getElem?_eq_some_iff.mp hv).1
    rw [List.length_reverse] at li
    rw [List.getElem?_reverse (by omega)] at hv
    obtain ⟨x, hx, nx⟩ := hQ.2 _ v hv
    have hd : (sing xs)[gs.length - 1 - i]? = some [x] := by rw [List.getElem?_map, hx]; rfl
    have ed := jw_drop (ys := ys) hd
    rw [show gs.length - 1 - i + 1 = xs.length - i by omega, show gs.length - 1 - i = xs.length - (i + 1) by omega] at ed
    have dl : ((sing xs).drop (xs.length - i)).length = i := by rw [List.length_drop, ls]; omega
    have il : i * ys.length ≤ 99 := Nat.le_trans (Nat.mul_le_mul_right _ (by omega)) lq
    have jl' := jw_len y0 (fun d hd => one d (List.mem_of_mem_drop hd) : ∀ d ∈ (sing xs).drop (xs.length - i), d.length ≤ ys.length)
    rw [dl] at jl'
    have js := js' i (by omega)
    have f3 := f3' i (by omega)
    have ly := ly (fun z => by rw [z] at hx; cases hx)
    have sAG := sA.trans sm
    have tS := timesQ_sc js sy
    refine ⟨_, rfl, _, rfl, F, b, zs, ws, _, ys, _, e0, _, nN, rfl, .inl (SqL.of hG), hb.same sAG, hZ, hM.same sAG, js, sy, f2 i (by omega), f1, f3, by omega, by omega, fun t G2 ts s2 nt ht hT => ?_⟩
    refine ⟨_, rfl, by show 1 ≤ sizeLine; decide, fun b5 n5 => ?_⟩
    have s5 := same_new (o := .lst [v]) n5
    refine ⟨t, b5, ts, [v], _, [x], .int 1, 1, rfl, num_one, bits_one.mono (by decide), .inl (SqL.of (s5 _ _ ht)), .inl (SqL.of upd_same), hT.same s5, ML.one (nx.same ((sAG.trans s2).trans s5)), f3.all tS, fun z hz => by rw [List.mem_singleton.mp hz]; exact bx x (List.mem_of_getElem? hx), ?_, ?_, fun t3 G3 ts3 s3 nt3 ht3 hT3 => ?_⟩
    · rw [timesQ_len]; omega
    · show 1 ≤ 200; decide
    · have s25 := s2.trans s5
      refine ⟨t3, ts3, _, rfl, (sm.trans s25).trans s3, (sAG.trans s25).free nt3, ht3, ?_⟩
      rw [ed]; exact hT3
  · subst e
    rw [List.length_reverse, lg, Nat.sub_self, List.drop_zero] at hZ
    exact ⟨_, rfl, q F G zs (sA.trans sm) nF hG hZ⟩
end
end K21

namespace Fp
open PySem PySem.Spec PyProof.Rows L2
/-! ### what a block's names leave -/
theorem wipe_get (σ : L2.St) (i : Nat) : ∀ (vs : List Nat), (wipe σ vs)[i]? = if i ∈ vs then (if i < σ.length then some none else none) else σ[i]?
  | [] => by rw [if_neg (List.not_mem_nil)]; rfl
  | v :: vs => by
    show ((wipe σ vs).set v none)[i]? = _
    rw [List.getElem?_set, wipe_length]
    by_cases e : v = i
    · subst e
      rw [if_pos rfl, if_pos List.mem_cons_self]
    · rw [if_neg e, wipe_get σ i vs]
      by_cases m : i ∈ vs
      · rw [if_pos m, if_pos (List.mem_cons_of_mem _ m)]
      · rw [if_neg m, if_neg (fun z => (List.mem_cons.mp z).elim (fun h => e h.symm) m)]
theorem wipe_set {σ : L2.St} {i : Nat} {x : Option V} {vs : List Nat} (h : i ∈ vs) : wipe (σ.set i x) vs = wipe σ vs := by
  refine List.ext_getElem? fun j => ?_
  rw [wipe_get, wipe_get, List.length_set]
  by_cases m : j ∈ vs
  · rw [if_pos m, if_pos m]
  · rw [if_neg m, if_neg m, List.getElem?_set_ne (fun (e : i = j) => m (by rw [← e]; exact h))]
theorem wipe_idem (σ : L2.St) (vs : List Nat) : wipe (wipe σ vs) vs = wipe σ vs := by
  refine List.ext_getElem? fun j => ?_
  rw [wipe_get, wipe_length]
  by_cases m : j ∈ vs
  · rw [if_pos m, wipe_get, if_pos m]
  · rw [if_neg m]
theorem wp1 {σ : L2.St} {i : Nat} {x : Option V} {vs : List Nat} (h : i ∈ vs := by decide) : wipe ((wipe σ vs).set i x) vs = wipe σ vs := (wipe_set h).trans (wipe_idem _ _)
theorem wp2 {σ : L2.St} {i j : Nat} {x y : Option V} {vs : List Nat} (h : i ∈ vs := by decide) (g : j ∈ vs := by decide) : wipe (((wipe σ vs).set i x).set j y) vs = wipe σ vs := (wipe_set g).trans (wp1 h)
theorem wp3 {σ : L2.St} {i j k : Nat} {x y z : Option V} {vs : List Nat} (h : i ∈ vs := by decide) (g : j ∈ vs := by decide) (f : k ∈ vs := by decide) : wipe ((((wipe σ vs).set i x).set j y).set k z) vs = wipe σ vs := (wipe_set f).trans (wp2 h g)
/-! ### items of one kind, in their sequence -/
def Ea {α : Type} (R : Hp → V → α → Prop) (H : Hp) (us : List V) (xs : List α) : Prop := us.length = xs.length ∧ ∀ (i : Nat) (v : V), us[i]? = some v → ∃ x, xs[i]? = some x ∧ R H v x
def Mo {α : Type} (R : Hp → V → α → Prop) : Prop := ∀ H H' v x, R H v x → Same H H' → R H' v x
section
variable {α : Type} {R : Hp → V → α → Prop} {H H' : Hp} {us ws : List V} {xs ys : List α}
theorem Ea.len (h : Ea R H us xs) : us.length = xs.length := h.1
theorem Ea.same (h : Ea R H us xs) (m : Mo R) (e : Same H H') : Ea R H' us xs := ⟨h.1, fun i v hv => let ⟨x, h1, h2⟩ := h.2 i v hv; ⟨x, h1, m _ _ _ _ h2 e⟩⟩
theorem Ea.nil : Ea R H [] [] := ⟨rfl, fun i v h => by cases h⟩
theorem Ea.app (h : Ea R H us xs) (g : Ea R H ws ys) : Ea R H (us ++ ws) (xs ++ ys) := by
  have l := h.1
  refine ⟨by rw [List.length_append, List.length_append, h.1, g.1], fun i v hv => ?_⟩
  by_cases z : i < us.length
  · rw [List.getElem?_append_left z] at hv
    obtain ⟨x, h1, h2⟩ := h.2 i v hv
    exact ⟨x, by rw [List.getElem?_append_left (by omega)]; exact h1, h2⟩
  · rw [List.getElem?_append_right (by omega)] at hv
    obtain ⟨x, h1, h2⟩ := g.2 _ v hv
    exact ⟨x, by rw [List.getElem?_append_right (by omega), ← l]; exact h1, h2⟩
theorem Ea.one {v : V} {x : α} (h : R H v x) : Ea R H [v] [x] := ⟨rfl, fun i u hu => by
  cases i with
  | zero => obtain rfl := Option.some.inj hu; exact ⟨x, rfl, h⟩
  | succ i => cases hu⟩
theorem Ea.snoc {v : V} {x : α} (h : Ea R H us xs) (g : R H v x) : Ea R H (us ++ [v]) (xs ++ [x]) := h.app (Ea.one g)
theorem Ea.get {x : α} {i : Nat} (h : Ea R H us xs) (hx : xs[i]? = some x) : ∃ v, us[i]? = some v ∧ R H v x := by
  have l := (List.getElem?_eq_some_iff.mp hx).1
  have l2 := h.1
  have hv := List.getElem?_eq_getElem (show i < us.length by omega)
  obtain ⟨y, h1, h2⟩ := h.2 i _ hv
  rw [hx] at h1
  obtain rfl := Option.some.inj h1
  exact ⟨_, hv, h2⟩
theorem Ea.take (h : Ea R H us xs) (n : Nat) : Ea R H (us.take n) (xs.take n) := ⟨by rw [List.length_take, List.length_take, h.1], fun i v hv => by
  rw [List.getElem?_take] at hv ⊢
  split at hv
  · rename_i c; rw [if_pos c]; exact h.2 i v hv
  · cases hv⟩
theorem Ea.drop (h : Ea R H us xs) (n : Nat) : Ea R H (us.drop n) (xs.drop n) := ⟨by rw [List.length_drop, List.length_drop, h.1], fun i v hv => by
  rw [List.getElem?_drop] at hv ⊢
  exact h.2 _ v hv⟩
end
/-- a list of such -/
def Ls {α : Type} (R : Hp → V → α → Prop) (H : Hp) (a : Addr) (xs : List α) : Prop := ∃ us, H a = some (.lst us) ∧ Ea R H us xs
theorem Ls.same {α : Type} {R : Hp → V → α → Prop} {H H' : Hp} {a : Addr} {xs : List α} (h : Ls R H a xs) (m : Mo R) (e : Same H H') : Ls R H' a xs := let ⟨us, h1, h2⟩ := h; ⟨us, e _ _ h1, h2.same m e⟩
end Fp

namespace Fp
open PySem PySem.Spec PyProof.Rows L2
/-- math.lcm of numbers of up to 4000 bits -/
def rLcmB : List V → Hp → VK → Prop := fun vs H Q => ∃ a b : Int, vs = [.int a, .int b] ∧ LbI 4000 a ∧ LbI 4000 b ∧ Q (.int ((a.natAbs.lcm b.natAbs : Nat) : Int)) H
theorem log_le {n m : Nat} (h : n < 2 ^ m) : n.log2 ≤ m := by
  by_cases e : n = 0
  · subst e; exact Nat.zero_le _
  · exact Nat.le_of_lt ((Nat.log2_lt e).mpr h)
theorem cr_lcmB {X : Cx} : CallR X (.builtin "math.lcm") rLcmB := by
  intro pins s σ H vs us Q I r h
  obtain ⟨a, b, rfl, ha, hb, q⟩ := h
  obtain ⟨t, u, rfl⟩ := Vals.int2 r
  have one : Nat.lcm 1 a.natAbs = a.natAbs := Nat.lcm_one_left _
  have ha : a.natAbs < 2 ^ 4000 := ha
  have hb : b.natAbs < 2 ^ 4000 := hb
  have p1 : (1 : Nat) < 2 ^ 4000 := Nat.one_lt_two_pow (by decide)
  have la := log_le (show max 1 a.natAbs < 2 ^ 4000 by omega)
  have lb := log_le (show max a.natAbs b.natAbs < 2 ^ 4000 by omega)
  have ll : a.natAbs.lcm b.natAbs < 2 ^ 8000 := by
    have h1 : a.natAbs.lcm b.natAbs ≤ a.natAbs * b.natAbs := PySem.W.mc_lcm_le _ _
    have h2 : a.natAbs * b.natAbs < 2 ^ 4000 * 2 ^ 4000 := Nat.mul_lt_mul'' ha hb
    rw [← Nat.pow_add] at h2
    exact Nat.lt_of_le_of_lt h1 h2
  have lc := log_le ll
  have bl : 8000 < bitsLine := by decide
  have run := PySem.W.mg_run_lcm a t b u (by omega) (by omega) (by rw [one, Int.natAbs_natCast]; omega)
  rw [one] at run
  exact PySem.call_function_meets PySem.W.MGF.kind_lcm PySem.W.MGF.plain_lcm PySem.W.MGF.entry_lcm (PySem.W.MGF.args_lcm _ _) run.meets ⟨.int _, H, I.tok _, ⟨_, rfl⟩, q⟩
end Fp

namespace Fp
open PySem PySem.Spec PyProof.Rows L2 ClX
/-- cls(t, b), where cls holds the class -/
def tRatQL (C : Addr) (i : Nat) (t : TA) : TE := fun σ H Q => tVar i σ H fun x H1 => x = V.ref C ∧ tRatQ C t σ H1 Q
theorem pe_ratQL {X : Cx} {C : Addr} {k : Nat} (D : RDefQ X.prog X.w X.K X.mg X.base k C) (hr : Room (k + 1) X.A) (i : Nat) {x : Str} {p pos : Pos} {e : Expr} {es : List Expr} {t : TA} (hv : PE X (.Name x p) (tVar i)) (ha : PA X (e :: es) t)
    (he : starEach (e :: es) X.env = (false, eval e X.env) :: starEach es X.env := by rfl) (hpl : (backTo pos (starEach es X.env)).any (·.1) = false := by rfl) : PE X (.Call (.Name x p) (e :: es) [] pos) (tRatQL C i t) := by
  obtain ⟨fI, fR, fdI, R, FI, bI⟩ := D.ex
  refine ⟨fun pins s σ H Q I h => ?_⟩
  refine wpAny_Call_Name_kw (wpAny_mono (hv.run pins s σ H (fun x H1 => x = V.ref C ∧ tRatQ C t σ H1 Q) I h) (fun f s0 hf => ?_) fun _ _ z => z)
  obtain ⟨v, H0, I0, rv, rfl, h⟩ := hf
  cases rv
  refine PySem.W.callWith_K (h₀ := X.base) I0.ok.mod.kin R.make.kp (thn (ha.run pos pins s0 σ H0 _ I0 h) fun us s1 ⟨vs, H1, I1, r, q⟩ => ⟨I1.kIn, ?_⟩) he hpl
  refine run_make (dvs := []) R.make FI hr bI .nil (pass0 (X := X)) I1 r fun x dx nx ndx ne => ?_
  obtain ⟨i, j, rfl, j0, jb, q⟩ := q
  refine ⟨x, dx, i, j, rfl, j0, jb, upd_same, fun H' kp hx => ⟨rfl, q x H' nx (fun b o e => ?_) ⟨dx, hx⟩⟩⟩
  have n1 := ne_of_none e nx
  exact kp b o n1 (by rw [upd_ne n1, upd_ne (ne_of_none e ndx)]; exact e)
/-- a classmethod of an own class, called off the class -/
structure CMt (P : Program) (w : World) (K : PySem.W.Frag) (mg : Str → Option Value) (base : Heap) (k : Nat) (C : Addr) (m : Str) (ps : List Str) (sp : Sp) : Prop where
  ex : ∃ (mc : Value) (p g : Addr) (fd : FuncData), CRead K C mc ∧ CMet K C mc m p g ∧ FnOk P w K mg base CX0 k g fd ps sp ∧ Binds K fd ps []
theorem pe_cmt {X : Cx} {C : Addr} {k : Nat} {ps : List Str} {sp : Sp} (D : CMt X.prog X.w X.K X.mg X.base k C "total" ps sp) (hr : Room k X.A) {p0 apos pos : Pos} {e : Expr} {es : List Expr} {t : TA} {pl : Sem Bool} (hg : Gl X "Ratio") (hm : X.mg "Ratio" = some (.ref C)) (ha : PA X (e :: es) t)
    (he : starEach (e :: es) X.env = (false, eval e X.env) :: starEach es X.env := by rfl) (hpl : (backTo pos (starEach es X.env)).any (·.1) = false := by rfl)
    (ht : (eval (((Expr.Name "Ratio" p0).Attribute "total" apos).Call (e :: es) [] pos) X.env = do
      let ov ← eval (Expr.Name "Ratio" p0) X.env
      standAt apos.atName
      let __x ← holding [ov] (getMethod ov "total" pl)
      match __x with
        | (f, first) => callWith pos f first (backTo pos (starEach (e :: es) X.env)) (backToKw pos (keywordEach [] X.env))) := by rfl) : PE X (.Call (.Attribute (.Name "Ratio" p0) "total" apos) (e :: es) [] pos) (tCMeth C sp E0 (tC (.ref C)) t) := by
  obtain ⟨mc, p, g, fd, r, c, F, b⟩ := D.ex
  have e1 : (fun (vs : List V) H Q E => sp (vs ++ []) H Q E) = sp := funext fun vs => by rw [List.append_nil]
  have R := F.raw b .nil
  rw [e1] at R
  exact pe_cmeth (pe_glob (v := .ref C) hg hm rfl) r c R hr (pass0 (X := X)) ha he hpl ht
end Fp

namespace K21
open PySem PySem.Spec PyProof.Rows L2 Fp
section
variable {P : Program} {w : World} {K : PySem.W.Frag} {mg : Str → Option Value} {base : Heap} {k : Nat} {C fI fR : Addr}
-- slots: cls 0, numbers 1, tops 2, bottom 3
abbrev s_Ratio_total : Stmt := inClass (top 17) 16
abbrev N_Ratio_total : List Str := ["cls", "numbers", "tops", "bottom"]
theorem sc_Ratio_total : FnScope N_Ratio_total ["cls", "numbers"] (defScope s_Ratio_total) := ⟨rfl, rfl, rfl, by decide +kernel, rfl, by decide +kernel, by decide +kernel⟩
theorem nqMo : Mo (NumQ C) := fun H H' v x h s => h.same s
theorem sq_of {H : Hp} {a : Addr} {us : List V} (h : H a = some (.lst us) ∨ H a = some (.tup us)) : Sq K H a us := h.elim sq_lst sq_tup
theorem items_of {H : Hp} {a : Addr} {us : List V} (h : H a = some (.lst us) ∨ H a = some (.tup us)) : itemsOf H (.ref a) = some us := by
  unfold itemsOf
  rcases h with h | h
  · simp only [h]
  · simp only [h]

theorem fm_get {α : Type} (xs : List α) (g : α → V) : (List.range xs.length).filterMap (fun i => (xs[i]?).map g) = xs.map g := by
  have e : ∀ n, n ≤ xs.length → (List.range n).filterMap (fun i => (xs[i]?).map g) = (xs.take n).map g := fun n => by
    induction n with
    | zero => intro _; simp
    | succ n ih =>
      intro h
      have hn := List.getElem?_eq_getElem (show n < xs.length by omega)
      rw [fm_succ, ih (by omega), takeS hn, List.map_append, hn]; rfl
  rw [e xs.length (Nat.le_refl _), List.take_length]
def sp_over_one (C : Addr) : Sp := fun vs H Q _ => ∃ (l : Addr) (us : List V) (xs : List Rat) (n m : Nat) (B : Nat), vs = [.ref l] ∧ (H l = some (.lst us) ∨ H l = some (.tup us)) ∧ Ea (NumQ C) H us xs ∧ xs.length ≤ 60 ∧ AllB n xs ∧ n ≤ 4000 ∧ 0 < B ∧ B < 2 ^ m ∧ m ≤ 2000 ∧ (∀ x ∈ xs, x.den ∣ B) ∧
  ∀ (t a : Addr) (H' : Hp) (bo : Int) (ts : List Int), Same H H' → H' t = some (.tup [.ref a, .int bo]) → H' a = some (.lst (VI ts)) → 0 < bo → LbI m bo → ratsOf bo ts = xs → BN (2 ^ (n + m)) ts → Q (.ref t) H'
-- slots: numbers 0, fractions 1, bottom 2, fraction 3, number 4; cells: bottom
abbrev s_over_one_bottom : Stmt := top 20
abbrev N_over_one_bottom : List Str := ["numbers", "fractions", "bottom", "fraction", "number"]
theorem sc_over_one_bottom : FnScope N_over_one_bottom ["numbers"] (defScope s_over_one_bottom) := ⟨rfl, rfl, rfl, by decide +kernel, rfl, by decide +kernel, by decide +kernel⟩
theorem d_over_one_bottom (B : Bnd K mg "over_one_bottom" s_over_one_bottom) (M : Mg2 mg) (R : RCls K mg C fI fR) {kr : Nat} (PT : PropX P w K mg base kr C "top" (spTopR C)) (PB : PropX P w K mg base kr C "bottom" (spBotR C)) (hk : kr + 8 ≤ k) (D_as_ratio : Def P w K mg base k "as_ratio" s_as_ratio ["number"] (spAs C)) : Def P w K mg base (k + 1) "over_one_bottom" s_over_one_bottom ["numbers"] (sp_over_one C) := by
  refine def_of B sc_over_one_bottom (by rintro _ _ _ _ ⟨l, us, xs, n, m, B, rfl, _⟩; rfl) (fun _ _ _ _ _ _ us hl => match us, hl with | [_], _ => rfl) fun f cdv A outer s H vs Q E hr h => ?_
  obtain ⟨l, us, xs, n, m, B, rfl, hl, hQ, lx, bx, n4, B0, Bm, m3, dv, q⟩ := h
  have hu := hr.units
  refine ⟨_, pss_cons (ps_setLc (i := 1) (own := [("number", 4)]) (g := (gName 4)) (tt := tYes) (te := (tD _ (tCons (tVar 4) tNil))) rfl sc_over_one_bottom.nd rfl rfl (sw_true rfl rfl rfl (by decide +kernel)) (pi_sq (pv 0)) (blkOk_by (own := [("number", 4)]) (N := N_over_one_bottom) (sc := defScope s_over_one_bottom) (by decide +kernel)) (fun _ _ _ _ _ => pg_name (i := 4) sc_over_one_bottom.nd rfl (.inl rfl)) (fun _ _ _ _ _ => pts_nil) (fun _ _ _ _ _ => pe_d D_as_ratio hr (by rfl) (pa_cons (pv 4) pa_nil)))
    (pss_cons (ps_set (i := 2) sc_over_one_bottom.nd rfl (.inr rfl) pe_int)
    (pss_cons (ps_for PassesOwn.never rfl (pi_list (pv 1)) (pg_name (i := 3) sc_over_one_bottom.nd rfl (.inl rfl))
      (pss_one (ps_set (i := 2) sc_over_one_bottom.nd rfl (.inr rfl) (pe_callBfun cr_lcmB (by rfl) M.lcm  (pa_cons (pv 2) (pa_cons (pe_propX PB (hr.mono (by omega)) R.cl (pv 3) (by rfl)) pa_nil))))))
    (pss_one (ps_ret (pe_tup (pa_cons (pe_lc (own := [("fraction", 3)]) (g := (gName 3)) (tt := tYes) (te := (tOp _ (tProp _ _ [] E0 (tVar 3)) (tOp _ (tVar 2) (tProp _ _ [] E0 (tVar 3))))) rfl sc_over_one_bottom.nd (pi_list (pv 1)) (blkOk_by (own := [("fraction", 3)]) (N := N_over_one_bottom) (sc := defScope s_over_one_bottom) (by decide +kernel)) (fun _ _ _ _ _ => pg_name (i := 3) sc_over_one_bottom.nd rfl (.inl rfl)) (fun _ _ _ _ _ => pts_nil) (fun _ _ _ _ _ => pe_op op_mulW (pe_propX PT (hr.mono (by omega)) R.cl (pv 3) (by rfl)) (pe_op op_fdivNW (pv 2) (pe_propX PB (hr.mono (by omega)) R.cl (pv 3) (by rfl))))) (pa_cons (pv 2) pa_nil))))))), ?_⟩
  have lu := hQ.len
  dsimp only [tSeq, tAsg]
  refine lc_relS (fun i acc Hh => QL C Hh acc (xs.take i)) (fun R r => ⟨_, rfl, r⟩) (sq_of hl) (by rw [sizeLine_eq]; omega) QL.nil (fun i acc A B s r => RatL.same r s) (fun D i v acc Ha nD hv sa ha hr Yc Nc yc nc => ?_) (fun D acc H1 nD s1 hD hr => ?_)
  · obtain ⟨x, hx, nx⟩ := hQ.2 i v hv
    refine ⟨rfl, _, rfl, v, _, _, rfl, nx.same sa, fun m' H4 s4 rm => yc _ H4 s4 ?_⟩
    rw [takeS hx]
    exact QL.snoc (RatL.same hr (wo_mono s4)) (Rat2.wo rm (s4 _ _ ha))
  rw [lu, List.take_length] at hr
  have hF := RatL.same hr (wo_le (D := D))
  have la := QL.len hF
  refine ⟨_, rfl, D, rfl, ⟨acc, SqL.of hD⟩, ?_⟩
  refine for_list (xs := acc) (fun i σ G => ∃ (L : Nat) (o3 : Option V), σ = [some (.ref l), some (.ref D), some (.int (L : Nat)), o3, none] ∧ Same H1 G ∧ 0 < L ∧ L ∣ B ∧ ∀ (j : Nat) (x : Rat), j < i → xs[j]? = some x → x.den ∣ L)
    ⟨1, none, rfl, Same.refl _, by decide, Nat.one_dvd _, fun j x h => absurd h (Nat.not_lt_zero _)⟩ (fun i σ G _ ⟨L, o, _, sm, _⟩ => SqL.of (sm _ _ hD)) (fun i v σ G hv ⟨L, o, e, sm, L0, LB, Ld⟩ => ?_) (fun σ G ⟨L, o, e, sm, L0, LB, Ld⟩ => ?_)
  · subst e
    obtain ⟨x, a, hx, rfl, rx⟩ := QL.at hF hv
    have r1 := rx.same sm
    obtain ⟨dx, r2⟩ := id r1
    have dB := dv x (List.mem_of_getElem? hx)
    have lB := Nat.le_of_dvd B0 LB
    have dl := Nat.le_of_dvd B0 dB
    have B63 : B < 2 ^ 4000 := Nat.lt_of_lt_of_le Bm (Nat.pow_le_pow_right (by decide) (by omega))
    obtain ⟨g1, g2, g3, g4⟩ := lcm_step LB dB L0 x.den_pos
    refine ⟨_, rfl, _, rfl, a, dx, _, rfl, r2, a, _, _, rfl, r1, (L : Int), (x.den : Int), rfl, (show (Int.natAbs (L : Int)) < 2 ^ 4000 by rw [Int.natAbs_natCast]; omega), (show (Int.natAbs (x.den : Int)) < 2 ^ 4000 by rw [Int.natAbs_natCast]; omega), ?_⟩
    refine ⟨Nat.lcm L x.den, _, rfl, sm, g2, g1, fun j y hj hy => ?_⟩
    by_cases e : j = i
    · subst e
      rw [hx] at hy
      obtain rfl := Option.some.inj hy
      exact g4
    · exact Nat.dvd_trans (Ld j y (by omega) hy) g3
  · subst e
    have hdv : ∀ (j : Nat) (x : Rat), xs[j]? = some x → (x.den : Int) ∣ (L : Int) := fun j x hx => by
      have := Ld j x (by have := (List.getElem?_eq_some_iff.mp hx).1; omega) hx
      exact Int.natCast_dvd_natCast.mpr this
    have Lm : LbI m (L : Int) := Nat.lt_of_le_of_lt (Nat.le_of_dvd B0 LB) Bm
    have L0' : (0 : Int) < L := by omega
    have hF2 := RatL.same hF sm
    refine ⟨_, rfl, D, rfl, ⟨acc, SqL.of (sm _ _ hD)⟩, fun E nE => ?_⟩
    refine lc_l (fun i => (xs[i]?).map fun x : Rat => V.int (x.num * (L : Int).fdiv x.den)) (SqL.of (sm _ _ hD)) nE (by rw [sizeLine_eq]; omega) (fun i v H2 hv s2 Y N y nn => ?_) (fun H2 s2 hE => ?_)
    · obtain ⟨x, a, hx, rfl, rx⟩ := QL.at hF2 hv
      have r1 := rx.same s2
      obtain ⟨dx, r2⟩ := id r1
      have bX := bx x (List.mem_of_getElem? hx)
      obtain ⟨z1, z2, z3⟩ := ownZ L0' (hdv i x hx) bX Lm
      refine ⟨rfl, _, rfl, a, dx, _, rfl, r2, a, _, _, rfl, r1, _, rfl, _, rfl, a, dx, _, rfl, r2, a, _, _, rfl, r1, (L : Int), x.den, rfl, rfl, (bX.2).div (by omega) (by have := den_pos x; omega), x.num, _, rfl, rfl, bX.1.cm z3 (by omega), ?_⟩
      exact y _ _ (Same.refl _) (by show (xs[i]?).map _ = _; rw [hx]; rfl)
    · have hE : H2 E = some (.lst (VI (xs.map fun x : Rat => x.num * (L : Int).fdiv x.den))) := by
        rw [hE, la, fm_get]; unfold VI; rw [List.map_map]; rfl
      refine ⟨_, rfl, by show 2 ≤ sizeLine; decide, fun t nt => ?_⟩
      have st := same_new (o := .tup [V.ref E, V.int (L : Int)]) nt
      refine q t E _ (L : Int) (xs.map fun x : Rat => x.num * (L : Int).fdiv x.den) (((s1.trans sm).trans s2).trans st) upd_same (st _ _ hE) L0' Lm ?_ fun z hz => ?_
      · unfold ratsOf
        rw [List.map_map]
        conv => rhs; rw [← List.map_id xs]
        refine List.map_congr_left fun x hx => ?_
        obtain ⟨j, hj⟩ := List.getElem?_of_mem hx
        exact (ownZ L0' (hdv j x hj) (bx x hx) Lm).1
      · obtain ⟨x, hx, rfl⟩ := List.mem_map.mp hz
        obtain ⟨j, hj⟩ := List.getElem?_of_mem hx
        exact Nat.le_of_lt (ownZ L0' (hdv j x hj) (bx x hx) Lm).2.1


def sp_count (C : Addr) : Sp := fun vs H Q _ => ∃ i : Int, vs = [.int i] ∧ okS i ∧ ∀ H', Same H H' → Q (.bl (decide (0 ≤ i))) H'
def sp_check_many (C : Addr) : Sp := fun vs H Q _ => ∃ m lo hi : Int, vs = [.int m, .int lo, .int hi] ∧ okS m ∧ 0 ≤ m ∧ lo ≤ m ∧ m ≤ hi ∧ ∀ H', Same H H' → Q .non H'
-- slots: value 0; cells: 
abbrev s_is_count : Stmt := top 13
abbrev N_is_count : List Str := ["value"]
theorem sc_is_count : FnScope N_is_count ["value"] (defScope s_is_count) := ⟨rfl, rfl, rfl, by decide +kernel, rfl, by decide +kernel, by decide +kernel⟩
theorem d_is_count (B : Bnd K mg "is_count" s_is_count) (M : Mg2 mg) (R : RCls K mg C fI fR)  (D_is_integer : Def P w K mg base k "is_integer" sInteger ["value"] (spIntegerX C)) : Def P w K mg base (k + 1) "is_count" s_is_count ["value"] (sp_count C) := by
  refine def_of B sc_is_count (by rintro _ _ _ _ ⟨i, rfl, _⟩; rfl) (fun _ _ _ _ _ _ us hl => match us, hl with | [_], _ => rfl) fun f cdv A outer s H vs Q E hr h => ?_
  obtain ⟨i, rfl, hi, q⟩ := h
  have hu := hr.units
  refine ⟨_, pss_one (ps_ret (pe_and (pe_d D_is_integer hr (by rfl) (pa_cons (pv 0) pa_nil)) (pe_one (pe_cmpR op_ge (pv 0) pe_int (nomark _))))), ?_⟩
  refine ⟨_, rfl, .int i, 0, rfl, Sk.int hi, fun H1 s1 => ⟨_, rfl, iteT2 rfl ⟨_, rfl, i, 0, rfl, rfl, q H1 s1⟩⟩⟩
-- slots: many 0, least 1, most 2; cells: 
abbrev s_check_many : Stmt := top 15
abbrev N_check_many : List Str := ["many", "least", "most"]
theorem sc_check_many : FnScope N_check_many ["many", "least", "most"] (defScope s_check_many) := ⟨rfl, rfl, rfl, by decide +kernel, rfl, by decide +kernel, by decide +kernel⟩
theorem d_check_many (B : Bnd K mg "check_many" s_check_many) (M : Mg2 mg) (R : RCls K mg C fI fR)  (D_is_count : Def P w K mg base k "is_count" s_is_count ["value"] (sp_count C)) : Def P w K mg base (k + 1) "check_many" s_check_many ["many", "least", "most"] (sp_check_many C) := by
  refine def_of B sc_check_many (by rintro _ _ _ _ ⟨m, lo, hi, rfl, _⟩; rfl) (fun _ _ _ _ _ _ us hl => match us, hl with | [_, _, _], _ => rfl) fun f cdv A outer s H vs Q E hr h => ?_
  obtain ⟨m, lo, hi, rfl, hm, m0, h1, h2, q⟩ := h
  have hu := hr.units
  refine ⟨_, pss_one (ps_if (PW.pt (pw_or (pt_not (pt_val (pe_d D_is_count hr (by rfl) (pa_cons (pv 0) pa_nil)))) (pw_or (pt_cmpR op_lt (pv 0) (pv 1) (nomark _)) (pw_or1 (pt_cmpR op_gt (pv 0) (pv 2) (nomark _)))))) pss_never pss_nil), ?_⟩
  refine ⟨_, rfl, m, rfl, hm, fun H1 s1 => ⟨_, rfl, ?_⟩⟩
  rw [decide_eq_true m0]
  refine iteF ⟨_, rfl, _, rfl, m, lo, rfl, rfl, false, by dsimp only; rw [decide_eq_false (by omega)], iteF ⟨_, rfl, _, rfl, m, hi, rfl, rfl, false, by dsimp only; rw [decide_eq_false (by omega)], iteF (q H1 s1)⟩⟩
def spList (K : PySem.W.Frag) : Sp := fun vs H Q _ => ∃ (a : Addr) (xs : List V), vs = [.ref a] ∧ Sq K H a xs ∧ Ret H Q (.bl true)
theorem sc8L : FnScope ["value"] ["value"] (defScope sList) := ⟨rfl, rfl, rfl, by decide +kernel, rfl, by decide +kernel, by decide +kernel⟩
theorem d_list (B : Bnd K mg "is_list" sList) (M : Mg2 mg) : Def P w K mg base (k + 1) "is_list" sList ["value"] (spList K) := by
  refine def_of B sc8L (by rintro _ _ _ _ ⟨a, xs, rfl, _⟩; rfl) (fun _ _ _ _ _ _ us hl => match us, hl with | [_], _ => rfl) fun f cdv A outer s H vs Q E hr h => ?_
  obtain ⟨a, xs, rfl, hS, q⟩ := h
  refine ⟨_, pss_one (ps_ret (pe_callB call_isiT (by rfl) M.isi (by decide +kernel) (pa_cons (pv 0) (pa_cons (pe_tup (pa_cons (pe_bltn (v := .ty "list") (by rfl) M.list (by decide +kernel) rfl) (pa_cons (pe_bltn (v := .ty "tuple") (by rfl) M.tuple (by decide +kernel) rfl) pa_nil))) pa_nil)))), ?_⟩
  exact ⟨_, rfl, (by show 2 ≤ sizeLine; decide), fun p hp => isi_lt (hS.same (same_new hp)) upd_same (q _ (same_new hp))⟩
def sp_total (C : Addr) : Sp := fun vs H Q _ => ∃ (l : Addr) (us : List V) (xs : List Rat) (n m : Nat) (B : Nat), vs = [.ref C, .ref l] ∧ (H l = some (.lst us) ∨ H l = some (.tup us)) ∧ Ea (NumQ C) H us xs ∧ xs.length ≤ 60 ∧ AllB n xs ∧ n ≤ 4000 ∧ 0 < B ∧ B < 2 ^ m ∧ m ≤ 2000 ∧ (∀ x ∈ xs, x.den ∣ B) ∧ ∀ r H', Same H H' → RQ C H' r xs.sum → Q (.ref r) H'
theorem rats_sum (b : Int) : ∀ ts : List Int, (ratsOf b ts).sum = ((ts.sum : Int) : Rat) / (b : Rat)
  | [] => by show (0 : Rat) = ((0 : Int) : Rat) / _; rw [Rat.div_def, show ((0 : Int) : Rat) = 0 from rfl, Rat.zero_mul]
  | t :: ts => by
    have e : ratsOf b (t :: ts) = (t : Rat) / (b : Rat) :: ratsOf b ts := rfl
    rw [e, List.sum_cons, rats_sum b ts, List.sum_cons, Rat.intCast_add, Rat.div_def, Rat.div_def, Rat.div_def, Rat.add_mul]
theorem d_rtotal {f : Addr} {fd : FuncData} (F : Fun K "total" "Ratio.total" s_Ratio_total f fd) (R : RCls K mg C fI fR) (M : Mg2 mg) {kr : Nat} (DQ : RDefQ P w K mg base kr C) (hk : kr + 8 ≤ k)
    (D_is_list : Def P w K mg base k "is_list" sList ["value"] (spList K)) (D_over_one_bottom : Def P w K mg base k "over_one_bottom" s_over_one_bottom ["numbers"] (sp_over_one C)) : FnOk P w K mg base CX0 (k + 1) f fd ["cls", "numbers"] (sp_total C) := by
  refine F.ok sc_Ratio_total (by rintro _ _ _ _ ⟨l, us, xs, n, m, B, rfl, _⟩; rfl) fun cdv A outer s H vs Q E hr h => ?_
  obtain ⟨l, us, xs, n, m, B, rfl, hl, hq, l60, bx, n4, B0, Bm, m2, dv, q⟩ := h
  refine ⟨_, pss_cons (ps_if (pt_not (pt_val (pe_d D_is_list hr (by rfl) (pa_cons (pv 1) pa_nil)))) pss_never pss_nil)
    (pss_cons (ps_asg (pe_d D_over_one_bottom hr (by rfl) (pa_cons (pv 1) pa_nil)) (pg_tup rfl (pgs_cons (pg_name (i := 2) sc_Ratio_total.nd rfl (.inl rfl)) (pgs_cons (pg_name (i := 3) sc_Ratio_total.nd rfl (.inl rfl)) pgs_nil))))
    (pss_one (ps_ret (pe_ratQL DQ (hr.mono (by omega)) 0 (pv 0) (pa_cons (pe_callB (cr_sum rfl) (by rfl) M.sum boot_sum (pa_cons (pv 2) pa_nil)) (pa_cons (pv 3) pa_nil)))))), ?_⟩
  refine ⟨_, rfl, l, us, rfl, sq_of hl, fun H1 s1 => ⟨_, rfl, ?_⟩⟩
  refine iteF ?_
  refine ⟨_, rfl, l, us, xs, n, m, B, rfl, hl.imp (s1 _ _) (s1 _ _), hq.same nqMo s1, l60, bx, n4, B0, Bm, m2, dv, fun t c H2 bo ts s2 ht hc bo0 lbo er btn => ?_⟩
  refine ⟨t, _, rfl, SqT.of ht, rfl, _, _, rfl, _, _, rfl, rfl, ?_⟩
  refine ⟨_, rfl, rfl, _, rfl, c, ts, rfl, SqL.of hc, _, rfl, ts.sum, bo, rfl, by omega, lbo.mono (by omega), fun r H3 nr s3 rq => q r H3 ((s1.trans s2).trans s3) ?_⟩
  rw [Rat.divInt_eq_div, ← rats_sum, er] at rq
  exact rq
end
end K21

namespace K21
open PySem PySem.Spec PyProof.Rows L2 Fp
section
variable {P : Program} {w : World} {K : PySem.W.Frag} {mg : Str → Option Value} {base : Heap} {k : Nat} {C fI fR : Addr}
/-- what is summed for the next number of a root -/
def rtP (a : List Rat) (sh : Rat) (f : List Rat) (n : Nat) : List Rat := (List.range (n + 1)).map fun j => co a (j + 1) * co f (n - j) * (sh * ((j + 1 : Nat) : Rat) - ((n - j : Nat) : Rat))
/-- a root by falling powers, number by number -/
def rt (a : List Rat) (sh : Rat) : Nat → List Rat
  | 0 => [1]
  | n + 1 => rt a sh n ++ [(rtP a sh (rt a sh n) n).sum / ((n + 1 : Nat) : Rat)]
theorem rt_len (a : List Rat) (sh : Rat) : ∀ n, (rt a sh n).length = n + 1
  | 0 => rfl
  | n + 1 => by show (rt a sh n ++ [_]).length = _; rw [List.length_append, rt_len]; rfl
theorem natR (n : Nat) : ((n : Int) : Rat) = ((n : Nat) : Rat) := Rat.intCast_natCast n
theorem bits_nat {n : Nat} (h : n ≤ 100) : Bits 8 ((n : Nat) : Rat) := by
  rw [← natR]
  exact ⟨by show ((n : Int)).natAbs < 2 ^ 8; omega, by show (((1 : Nat)) : Int).natAbs < 2 ^ 8; decide⟩
/-- sizes on the way -/
structure RtOk (a : List Rat) (sh : Rat) (many : Nat) : Prop where
  ba : AllB 600 a
  bs : Bits 100 sh
  bf : ∀ n, n < many → AllB 600 (rt a sh n)
  bB : ∀ n, n + 1 < many → ∃ B : Nat, 0 < B ∧ B < 2 ^ 2000 ∧ ∀ x ∈ rtP a sh (rt a sh n) n, x.den ∣ B
theorem RtOk.bP {a : List Rat} {sh : Rat} {many n : Nat} (h : RtOk a sh many) (hn : n < many) (l : n ≤ 90) : AllB 1325 (rtP a sh (rt a sh n) n) := fun x hx => by
  obtain ⟨j, hj, rfl⟩ := List.mem_map.mp hx
  have hj := List.mem_range.mp hj
  exact (((co_allB (i := j + 1) h.ba (by decide)).mul (co_allB (i := n - j) (h.bf n hn) (by decide))).mul ((h.bs.mul (bits_nat (show j + 1 ≤ 100 by omega))).sub (bits_nat (show n - j ≤ 100 by omega)))).mono (by decide)
def overH (xs : List Rat) (many : Nat) : List Rat := (xs.reverse.take many).map fun x => x / co xs (xs.length - 1)
def shQ (xs : List Rat) (many : Nat) : Rat := ((many : Nat) : Rat) / ((xs.length - 1 : Nat) : Rat)
def rootL (xs : List Rat) (many : Nat) : List Rat := 0 :: (rt (overH xs many) (shQ xs many) (many - 1)).reverse
def sp_root_like (C : Addr) : Sp := fun vs H Q _ => ∃ (l : Addr) (us : List V) (xs : List Rat) (many : Nat), vs = [.ref l, .int (many : Nat)] ∧ H l = some (.lst us) ∧ QL C H us xs ∧ Told xs ∧ AllB 600 xs ∧ 1 ≤ many ∧ many + 1 ≤ xs.length ∧ xs.length ≤ 49 ∧ RtOk (overH xs many) (shQ xs many) many ∧ ∀ a H' ws, Same H H' → H a = none → H' a = some (.lst ws) → QL C H' ws (rootL xs many) → Q (.ref a) H'
-- slots: poly 0, many 1, top 2, over_head 3, share 4, found 5, at 6, parts 7, number 8, back 9; cells: at found over_head poly share top
abbrev s_root_like : Stmt := top 33
abbrev N_root_like : List Str := ["poly", "many", "top", "over_head", "share", "found", "at", "parts", "number", "back"]
theorem sc_root_like : FnScope N_root_like ["poly", "many"] (defScope s_root_like) := ⟨rfl, rfl, rfl, by decide +kernel, rfl, by decide +kernel, by decide +kernel⟩
theorem d_root_like (B : Bnd K mg "root_like" s_root_like) (M : Mg2 mg) (R : RCls K mg C fI fR) {kr : Nat} (RD : RDef P w K mg base kr C) (DQ : RDefQ P w K mg base kr C) (TO : CMt P w K mg base kr C "total" ["cls", "numbers"] (sp_total C)) (MU : BinX P w K mg base kr C .Mult (spMulQ C)) (SU : BinX P w K mg base kr C .Sub (spSubQ C)) (OV : C8.Met P w K mg base kr C "over" (spOverQ C) []) (hk : kr + 8 ≤ k)  : Def P w K mg base (k + 1) "root_like" s_root_like ["poly", "many"] (sp_root_like C) := by
  refine def_of B sc_root_like (by rintro _ _ _ _ ⟨l, us, xs, many, rfl, _⟩; rfl) (fun _ _ _ _ _ _ us hl => match us, hl with | [_, _], _ => rfl) fun f cdv A outer s H vs Q E hr h => ?_
  obtain ⟨l, us, xs, many, rfl, hl, hq, tx, bx, m1, mx, l49, ok, q⟩ := h
  have hu := hr.units
  refine ⟨_, pss_cons (ps_set (i := 2) sc_root_like.nd rfl (.inr rfl) (pe_op op_sub (pe_callB call_len_seq (by rfl) M.len boot_len (pa_cons (pv 0) pa_nil)) pe_int))
    (pss_cons (ps_set (i := 3) sc_root_like.nd rfl (.inr rfl) (pe_lc (own := [("number", 8)]) (g := (gName 8)) (tt := tYes) (te := (tMeth C "over" (spOverQ C) [] E0 (tVar 8) (tCons (tOp (rIxL K) (tVar 0) (tVar 2)) tNil))) rfl sc_root_like.nd (pi_list (pe_slice (r := rSlL K) sl_list (pe_revL (pv 0)) po_none (po_some (pv 1)))) (blkOk_by (own := [("number", 8)]) (N := N_root_like) (sc := defScope s_root_like) (by decide +kernel)) (fun _ _ _ _ _ => pg_name (i := 8) sc_root_like.nd rfl (.inl rfl)) (fun _ _ _ _ _ => pts_nil) (fun _ _ _ _ _ => C8.pe_mt OV (hr.mono (by omega)) (Nat.le_refl _) (pv 8) (pa_cons (pe_ix (r := rIxL K) ix_list (pv 0) (pv 2) (fun _ _ => rfl)) pa_nil))))
    (pss_cons (ps_set (i := 4) sc_root_like.nd rfl (.inr rfl) (pe_ratQ DQ (hr.mono (by omega)) (by rfl) (pa_cons (pv 1) (pa_cons (pv 2) pa_nil))))
    (pss_cons (ps_set (i := 5) sc_root_like.nd rfl (.inr rfl) (pe_lst (pa_cons (pe_rat RD (hr.mono (by omega)) (by rfl) (pa_cons pe_int pa_nil)) pa_nil)))
    (pss_cons (ps_for PassesOwn.never rfl (pi_range2 (by rfl) M.range (pa_cons pe_int (pa_cons (pv 1) pa_nil))) (pg_name (i := 6) sc_root_like.nd rfl (.inr rfl))
      (pss_cons (ps_setLc (i := 7) (own := [("back", 9)]) (g := (gName 9)) (tt := tYes) (te := (tOp (rOwn C (spMulQ C)) (tOp (rOwn C (spMulQ C)) (tOp (rIxL K) (tVar 3) (tVar 9)) (tOp (rIxL K) (tVar 5) (tOp _ (tVar 6) (tVar 9)))) (tOp (rOwn C (spSubQ C)) (tOp (rOwn C (spMulQ C)) (tVar 4) (tVar 9)) (tOp _ (tVar 6) (tVar 9))))) rfl sc_root_like.nd rfl rfl (sw_true rfl rfl rfl (by decide +kernel)) (pi_range2 (by rfl) M.range (pa_cons pe_int (pa_cons (pe_op op_add (pv 6) pe_int) pa_nil))) (blkOk_by (own := [("back", 9)]) (N := N_root_like) (sc := defScope s_root_like) (by decide +kernel)) (fun _ _ _ _ _ => pg_name (i := 9) sc_root_like.nd rfl (.inl rfl)) (fun _ _ _ _ _ => pts_nil) (fun _ _ _ _ _ => pe_op (op_ownX MU (hr.mono (by omega))) (pe_op (op_ownX MU (hr.mono (by omega))) (pe_ix (r := rIxL K) ix_list (pv 3) (pv 9) (fun _ _ => rfl)) (pe_ix (r := rIxL K) ix_list (pv 5) (pe_op op_sub (pv 6) (pv 9)) (fun _ _ => rfl))) (pe_op (op_ownX SU (hr.mono (by omega))) (pe_op (op_ownX MU (hr.mono (by omega))) (pv 4) (pv 9)) (pe_op op_sub (pv 6) (pv 9)))))
      (pss_one (ps_expr (pe_bm PySem.F.plainAttrs_list PySem.F.slot_list_append PySem.F.type_list_append mt_append (pv 5) (pa_cons (C8.pe_mt OV (hr.mono (by omega)) (Nat.le_refl _) (pe_cmt TO (hr.mono (by omega)) (by rfl) R.mgC (pa_cons (pv 7) pa_nil)) (pa_cons (pv 6) pa_nil)) pa_nil))))))
    (pss_one (ps_ret (pe_lst (pa_cons (pe_rat RD (hr.mono (by omega)) (by rfl) (pa_cons pe_int pa_nil)) (StX.pa_star (pe_revL (pv 5)) pa_nil))))))))), ?_⟩
  have lu := QL.len hq
  have x0 : xs ≠ [] := fun e => by rw [e] at mx; simp at mx
  have t0 := told_top tx x0
  obtain ⟨top, ht⟩ : ∃ top, xs.length = top + 1 := ⟨xs.length - 1, by omega⟩
  have et : ((us.length : Nat) : Int) - 1 = (top : Int) := by omega
  have bl : co xs top ∈ xs := by have := mem_last x0; rwa [show xs.length - 1 = top by omega] at this
  obtain ⟨cl, hcl, rcl⟩ : ∃ c, us[top]? = some (.ref c) ∧ RQ C H c (co xs top) := by
    have h1 : us[top]? = some (us[top]'(by omega)) := List.getElem?_eq_getElem (by omega)
    obtain ⟨x, c, hx, e, r⟩ := QL.at hq h1
    rw [e] at h1
    exact ⟨c, h1, by rw [co_at hx]; exact r⟩
  refine ⟨_, rfl, l, us, rfl, .inl (SqL.of hl), _, _, rfl, rfl, ?_⟩
  dsimp only [gName]
  rw [et]
  refine ⟨_, rfl, l, us, rfl, SqL.of hl, fun p np => ⟨_, rfl, many, rfl, p, us.reverse, rfl, SqL.of upd_same, fun p2 np2 => ⟨p2, rfl, ⟨_, SqL.of upd_same⟩, fun D nD => ?_⟩⟩⟩
  have sp1 := same_new (o := .lst us.reverse) np
  have sp2 := same_new (o := .lst (cutV us.reverse none (some (many : Int)))) np2
  have s02 := sp1.trans sp2
  have eC : cutV us.reverse none (some (many : Int)) = us.reverse.take many := cut_to many
  have hqr := QL.take (QL.rev hq) many
  have lr := QL.len hqr
  have lr2 : (xs.reverse.take many).length = many := by rw [List.length_take, List.length_reverse]; omega
  have bl6 := bx _ bl
  rw [eC] at sp2 s02 nD ⊢
  have h2 : (upd (upd H p (.lst us.reverse)) p2 (.lst (us.reverse.take many))) p2 = some (.lst (us.reverse.take many)) := upd_same
  generalize upd (upd H p (.lst us.reverse)) p2 (.lst (us.reverse.take many)) = H2 at *
  have eo : overH xs many = (xs.reverse.take many).map fun x => x / co xs top := by unfold overH; rw [show xs.length - 1 = top by omega]
  have lo : (overH xs many).length = many := by rw [eo, List.length_map]; exact lr2
  refine lc_rel (walk_list (K := K) (a := p2) (xs := us.reverse.take many)) (fun i acc Hh => QL C Hh acc ((overH xs many).take i)) nD (by rw [sizeLine_eq]; omega) (fun Hh sh => SqL.of (sh _ _ h2)) QL.nil (fun i acc A B s r => RatL.same r s) (fun i v acc Ha Hb hi sa hA hr hv Yc Nc yc nc => ?_) (fun acc H3 s3 hD hr => ?_)
  · obtain ⟨rfl, hv⟩ := hv
    obtain ⟨z, a, hz, rfl, rz⟩ := QL.at hqr hv
    have sB := s02.trans sa
    have rz1 := RQ.same rz sB
    obtain ⟨dz, rz2⟩ := id rz1
    have rc1 := RQ.same rcl sB
    have bz := bx z (List.mem_reverse.mp (List.mem_of_mem_take (List.mem_of_getElem? hz)))
    refine ⟨rfl, _, rfl, a, dz, _, rfl, rz2, rfl, _, rfl, _, rfl, l, us, (top : Int), .ref cl, rfl, rfl, SqL.of (sB _ _ hl), at_of (j := top) (by omega) hcl, a, .ref cl, z, co xs top, 600, 600, rfl, rz1, rc1.nq, bz, bl6, by decide, by have := t0; rwa [show xs.length - 1 = top by omega] at this, fun b H4 s4 rr => yc _ H4 s4 ?_⟩
    rw [takeS (show (overH xs many)[i]? = some (z / co xs top) by rw [eo, List.getElem?_map, hz]; rfl)]
    exact QL.snoc (RatL.same hr (wo_mono s4)) (Rat2.wo rr (s4 _ _ hA))
  rw [lr, lr2, List.take_of_length_le (by rw [lo]; exact Nat.le_refl _)] at hr
  have hA := RatL.same hr (wo_le (D := D))
  have s03 := s02.trans s3
  have bt : LbI 8990 ((top : Nat) : Int) := Nat.lt_of_le_of_lt (show (top : Int).natAbs ≤ 49 by omega) (Nat.lt_of_lt_of_le (show 49 < 2 ^ 6 by decide) (Nat.pow_le_pow_right (by decide) (by decide)))
  refine ⟨_, rfl, _, rfl, (many : Int), (top : Int), rfl, by omega, bt, fun sa H4 nsa s4 rs => ?_⟩
  have esh : Rat.divInt (many : Int) (top : Int) = shQ xs many := by rw [Rat.divInt_eq_div, shQ, show xs.length - 1 = top by omega]; rfl
  rw [esh] at rs
  refine ⟨1, rfl, fun o1 H5 no1 s5 r1 => ⟨by show 1 ≤ sizeLine; decide, fun F nF => ?_⟩⟩
  have r1 : RQ C H5 o1 ((1 : Int) : Rat) := r1
  have s6 := same_new (o := .lst [V.ref o1]) nF
  have s06 := s03.trans (s4.trans (s5.trans s6))
  refine ⟨_, rfl, 1, (many : Int), rfl, ⟨by omega, by omega, by omega, by omega⟩, ?_⟩
  refine for_range (lo := 1) (n := ((many : Int) - 1).toNat) (fun i σ G => ∃ (o6 o7 : Option V) (ws : List V), σ = [some (.ref l), some (.int (many : Int)), some (.int (top : Int)), some (.ref D), some (.ref sa), some (.ref F), o6, o7, none, none] ∧ Same H5 (wo F G) ∧ G F = some (.lst ws) ∧ QL C (wo F G) ws (rt (overH xs many) (shQ xs many) i))
    ⟨none, none, [.ref o1], rfl, ?_, upd_same, ?_⟩ (fun i σ' G hi ⟨o6, o7, ws, e, s5G, hF, qF⟩ => ?_) (fun σ' G ⟨o6, o7, ws, e, s5G, hF, qF⟩ => ?_)
  · exact same_wo nF s6
  · exact QL.snoc QL.nil (by
      have r2 := Rat2.wo (RQ.same r1 s6) (show (upd H5 F (.lst [V.ref o1])) F = some (.lst [V.ref o1]) from upd_same)
      exact r2)
  · subst e
    have s05 := s03.trans (s4.trans s5)
    have hD5 := (s4.trans s5) _ _ hD
    have hDG := s5G _ _ hD5
    have qD := RatL.same hA ((s4.trans s5).trans s5G)
    have lA := QL.len qD
    have rsG := RQ.same rs (s5.trans s5G)
    have lF := QL.len qF
    rw [rt_len] at lF
    have im : i + 1 < many := by omega
    have bf := ok.bf i (by omega)
    refine ⟨_, rfl, 1 + (i : Int), 1, rfl, rfl, 1, 1 + (i : Int) + 1, rfl, ⟨by omega, by omega, by omega, by omega⟩, fun E' nE => ?_⟩
    have lP : (rtP (overH xs many) (shQ xs many) (rt (overH xs many) (shQ xs many) i) i).length = i + 1 := by unfold rtP; rw [List.length_map, List.length_range]
    refine lc_rel (walk_range (lo := 1) (n := (1 + (i : Int) + 1 - 1).toNat)) (fun j acc Hh => QL C Hh acc ((rtP (overH xs many) (shQ xs many) (rt (overH xs many) (shQ xs many) i) i).take j)) nE (by rw [sizeLine_eq]; omega) (fun _ _ => trivial) QL.nil (fun j acc A B s r => RatL.same r s) (fun j v acc' Ha Hb hj sa' hA' hr' hy Yc Nc yc nc => ?_) (fun acc' H7 s7 hE hr' => ?_)
    · obtain ⟨rfl, rfl⟩ := hy
      have jl : j < i + 1 := by omega
      have hDa := sa' _ _ (wo_le _ _ hDG)
      have hFa := sa' _ _ hF
      obtain ⟨u1, hu1⟩ : ∃ u, acc[j + 1]? = some u := ⟨_, List.getElem?_eq_getElem (by omega)⟩
      obtain ⟨x1, c1, hx1, rfl, r1'⟩ := QL.at qD hu1
      obtain ⟨u2, hu2⟩ : ∃ u, ws[i - j]? = some u := ⟨_, List.getElem?_eq_getElem (by omega)⟩
      obtain ⟨x2, c2, hx2, rfl, r2'⟩ := QL.at qF hu2
      have g1 := RQ.same (RQ.same r1' wo_le) sa'
      have g2 := RQ.same (RQ.same r2' wo_le) sa'
      have g3 := RQ.same (RQ.same rsG wo_le) sa'
      obtain ⟨d1, k1⟩ := id g1
      obtain ⟨d3, k3⟩ := id g3
      have bi : ∀ n : Nat, n ≤ 100 → Bits 8 ((n : Int) : Rat) := fun n h => ⟨by show ((n : Int)).natAbs < 2 ^ 8; omega, by show (((1 : Nat)) : Int).natAbs < 2 ^ 8; decide⟩
      refine ⟨rfl, _, rfl, _, rfl, D, acc, 1 + (j : Int), .ref c1, rfl, rfl, SqL.of hDa, at_of (j := j + 1) (by omega) hu1, _, rfl, _, rfl, _, rfl, 1 + (i : Int), 1 + (j : Int), rfl, rfl, F, ws, 1 + (i : Int) - (1 + (j : Int)), .ref c2, rfl, rfl, SqL.of hFa, at_of (j := i - j) (by omega) hu2, ?_⟩
      refine ⟨c1, d1, _, rfl, k1, g2.nq.own, c1, .ref c2, x1, x2, 600, 600, rfl, g1, g2.nq, ok.ba x1 (List.mem_of_getElem? hx1), bf x2 (List.mem_of_getElem? hx2), by decide, fun r4 G4 t4 q4 => ⟨⟨r4, rfl⟩, ?_⟩⟩
      have e1 : (1 + (j : Int) : Int) = ((j + 1 : Nat) : Int) := by omega
      have e2 : (1 + (i : Int) - (1 + (j : Int)) : Int) = ((i - j : Nat) : Int) := by omega
      have b4 := (ok.ba x1 (List.mem_of_getElem? hx1)).mul (bf x2 (List.mem_of_getElem? hx2))
      have b5 : Bits 8 (((1 + (j : Int) : Int)) : Rat) := by rw [e1, natR]; exact bits_nat (by omega)
      have b6 : Bits 8 (((1 + (i : Int) - (1 + (j : Int)) : Int)) : Rat) := by rw [e2, natR]; exact bits_nat (by omega)
      refine ⟨_, rfl, _, rfl, sa, d3, _, rfl, t4 _ _ k3, (NumQ.int (C := C) (H := G4) (i := 1 + (j : Int))).own, sa, .int (1 + (j : Int)), shQ xs many, _, 100, 8, rfl, RQ.same g3 t4, NumQ.int, ok.bs, b5, by decide, fun r5 G5 t5 q5 => ⟨⟨r5, rfl⟩, _, rfl, _, rfl, 1 + (i : Int), 1 + (j : Int), rfl, rfl, ?_⟩⟩
      obtain ⟨d5, k5⟩ := id q5
      refine ⟨r5, d5, _, rfl, k5, (NumQ.int (C := C) (H := G5) (i := 1 + (i : Int) - (1 + (j : Int)))).own, r5, .int (1 + (i : Int) - (1 + (j : Int))), _, _, 108, 8, rfl, q5, NumQ.int, ok.bs.mul b5, b6, by decide, fun r6 G6 t6 q6 => ⟨⟨r6, rfl⟩, ?_⟩⟩
      have q46 := RQ.same q4 (t5.trans t6)
      obtain ⟨d4, k4⟩ := id q46
      refine ⟨r4, d4, _, rfl, k4, q6.nq.own, r4, .ref r6, _, _, 1200, 117, rfl, q46, q6.nq, b4, (ok.bs.mul b5).sub b6, by decide, fun r7 G7 t7 q7 => ⟨⟨r7, rfl⟩, yc _ G7 (t4.trans (t5.trans (t6.trans t7))) ?_⟩⟩
      have ej : (rtP (overH xs many) (shQ xs many) (rt (overH xs many) (shQ xs many) i) i)[j]? = some (x1 * x2 * (shQ xs many * ((1 + (j : Int) : Int) : Rat) - ((1 + (i : Int) - (1 + (j : Int)) : Int) : Rat))) := by
        unfold rtP
        rw [List.getElem?_map, List.getElem?_range jl, e2, e1, natR, natR]
        show some (co _ (j + 1) * co _ (i - j) * _) = _
        rw [co_at hx1, co_at hx2]
      rw [takeS ej]
      exact QL.snoc (RatL.same hr' (wo_mono (t4.trans (t5.trans (t6.trans t7))))) (Rat2.wo q7 ((t4.trans (t5.trans (t6.trans t7))) _ _ hA'))
    · rw [show (1 + (i : Int) + 1 - 1).toNat = i + 1 by omega, List.take_of_length_le (by omega)] at hr'
      have hP := RatL.same hr' (wo_le (D := E'))
      have lw := QL.len hP
      have hF7 := s7 _ _ hF
      obtain ⟨B0, p0, pB, dB⟩ := ok.bB i im
      have n1 : (1 + (i : Int) : Int) = ((i + 1 : Nat) : Int) := by omega
      have nz : ((1 + (i : Int) : Int) : Rat) ≠ 0 := by
        have := Fp.cast_ne (show (1 + (i : Int) : Int) ≠ 0 by omega)
        exact this
      have bn : Bits 8 (((1 + (i : Int) : Int)) : Rat) := by rw [n1, natR]; exact bits_nat (by omega)
      have bs : Bits 608 (rtP (overH xs many) (shQ xs many) (rt (overH xs many) (shQ xs many) i) i).sum := by
        have bl := ok.bf (i + 1) im _ (List.mem_append_right _ (List.mem_singleton.mpr rfl))
        have := bl.mul bn
        rwa [n1, natR, Rat.div_mul_cancel (by rw [← natR, ← n1]; exact nz)] at this
      refine ⟨_, rfl, Or.inl ⟨rfl, _, SqL.of hF7⟩, rfl, _, rfl, E', acc', _, 1325, 2000, B0, rfl, .inl hE, ⟨lw, fun q v hv => ?_⟩, by omega, ok.bP (by omega) (by omega), by decide, p0, pB, by decide, dB, fun r8 G8 t8 q8 => ?_⟩
      · obtain ⟨x, c, h1, rfl, r⟩ := QL.at hP hv
        exact ⟨x, h1, r.nq⟩
      obtain ⟨d8, k8⟩ := id q8
      refine ⟨r8, d8, _, rfl, k8, rfl, _, rfl, r8, .int (1 + (i : Int)), _, _, 608, 8, rfl, q8, NumQ.int, bs, bn, by decide, nz, fun r9 G9 t9 q9 => ?_⟩
      have hF9 := (t8.trans t9) _ _ hF7
      have sG9 := s7.trans (t8.trans t9)
      refine ⟨F, ws, .ref r9, rfl, rfl, hF9, small (by omega), _, _, ws ++ [.ref r9], rfl, ?_, upd_same, ?_⟩
      · rw [wo_upd]; exact s5G.trans (wo_mono sG9)
      · rw [wo_upd]
        have e : rt (overH xs many) (shQ xs many) (i + 1) = rt (overH xs many) (shQ xs many) i ++ [(rtP (overH xs many) (shQ xs many) (rt (overH xs many) (shQ xs many) i) i).sum / ((1 + (i : Int) : Int) : Rat)] := by rw [n1, natR]; rfl
        rw [e]
        exact QL.snoc (RatL.same qF (wo_mono sG9)) (Rat2.wo q9 hF9)
  · subst e
    have s05 := s03.trans (s4.trans s5)
    have lF := QL.len qF
    rw [rt_len] at lF
    refine ⟨0, rfl, fun o2 H8 no2 s8 r2 => ?_⟩
    have r2 : RQ C H8 o2 ((0 : Int) : Rat) := r2
    refine ⟨_, rfl, F, ws, rfl, SqL.of (s8 _ _ hF), fun p3 np3 => ⟨p3, ws.reverse, rfl, .inr (SqL.of upd_same), ?_⟩⟩
    have s9 := same_new (o := .lst ws.reverse) np3
    refine ⟨by rw [sizeLine_eq]; simp; omega, fun a na => ?_⟩
    have s10 := same_new (o := .lst (V.ref o2 :: (ws.reverse ++ []))) na
    have sA := s05.trans ((s5G.trans wo_le).trans (s8.trans s9))
    refine q a _ (V.ref o2 :: (ws.reverse ++ [])) (sA.trans s10) (sA.free na) upd_same ?_
    have e : rootL xs many = [0] ++ ((rt (overH xs many) (shQ xs many) ((many : Int) - 1).toNat).reverse ++ []) := by unfold rootL; rw [show ((many : Int) - 1).toNat = many - 1 by omega, List.append_nil]; rfl
    rw [e]
    have z1 : QL C _ [V.ref o2] [0] := QL.snoc QL.nil (RQ.same r2 (s9.trans s10))
    exact QL.app z1 (QL.app (RatL.same (QL.rev qF) (wo_le.trans (s8.trans (s9.trans s10)))) QL.nil)
def sp_root_part (C : Addr) : Sp := fun vs H Q _ => ∃ (x : V) (xs : List Rat) (many : Nat), vs = [x, .int (many : Nat)] ∧ PolyQ C H x xs ∧ Told xs ∧ 2 ≤ xs.length ∧ xs.length ≤ 49 ∧ AllB 600 xs ∧ 1 ≤ many ∧ many ≤ 48 ∧
  (((xs.length - 1) % many ≠ 0 ∧ ∀ H', Same H H' → Q .non H') ∨ ((xs.length - 1) % many = 0 ∧ RtOk (overH xs many) (shQ xs many) many ∧ ∃ (D E s : Int) (M S : Nat) (wk : Nat → Nat), ByQ E s S (rootL xs many) ∧ AllS D M xs ∧ LbI 600 E ∧ S < 2 ^ 600 ∧ Wk wk (many + 1) ∧ FitN D s M (2 * S * E.natAbs) (wk xs.length) ∧
    ∀ v H' ds, Same H H' → Digs (rootL xs many) ds → jl (rootL xs many) ds = xs → ((v = .non ∧ ∃ d ∈ ds, 1 < d.length) ∨ ((∃ a us, v = .ref a ∧ H a = none ∧ H' a = some (.lst us) ∧ QL C H' us (rootL xs many)) ∧ ∀ d ∈ ds, d.length ≤ 1)) → Q v H'))
theorem rootL_len {xs : List Rat} {many : Nat} (m1 : 1 ≤ many) : (rootL xs many).length = many + 1 := by
  unfold rootL
  rw [List.length_cons, List.length_reverse, rt_len]; omega
-- slots: poly 0, many 1, first 2, found 3; cells: 
abbrev s_root_part : Stmt := top 29
abbrev N_root_part : List Str := ["poly", "many", "first", "found"]
theorem sc_root_part : FnScope N_root_part ["poly", "many"] (defScope s_root_part) := ⟨rfl, rfl, rfl, by decide +kernel, rfl, by decide +kernel, by decide +kernel⟩
theorem d_root_part (B : Bnd K mg "root_part" s_root_part) (M : Mg2 mg) (R : RCls K mg C fI fR)  (D_check_many : Def P w K mg base k "check_many" s_check_many ["many", "least", "most"] (sp_check_many C)) (D_told : Def P w K mg base k "told" s_told ["poly"] (sp_told C)) (D_outer_by : Def P w K mg base k "outer_by" s_outer_by ["poly", "inner"] (sp_outer_by C)) (D_root_like : Def P w K mg base k "root_like" s_root_like ["poly", "many"] (sp_root_like C)) : Def P w K mg base (k + 1) "root_part" s_root_part ["poly", "many"] (sp_root_part C) := by
  refine def_of B sc_root_part (by rintro _ _ _ _ ⟨x, xs, many, rfl, _⟩; rfl) (fun _ _ _ _ _ _ us hl => match us, hl with | [_, _], _ => rfl) fun f cdv A outer s H vs Q E hr h => ?_
  obtain ⟨x, xs, many, rfl, hx, tx, x2, l49, bx, m1, m48, h⟩ := h
  have hu := hr.units
  obtain ⟨t_MOST_DEGREE, m_MOST_DEGREE⟩ := M.MOST_DEGREE
  refine ⟨_, pss_cons (ps_set (i := 2) sc_root_part.nd rfl (.inl rfl) (pe_d D_told hr (by rfl) (pa_cons (pv 0) pa_nil)))
    (pss_cons (ps_expr (pe_d D_check_many hr (by rfl) (pa_cons (pv 1) (pa_cons pe_int (pa_cons (pe_glob (v := .int 48) (by rfl) m_MOST_DEGREE ⟨_, rfl⟩) pa_nil)))))
    (pss_cons (ps_if (pt_cmpR op_lt (pe_callB call_len_seq (by rfl) M.len boot_len (pa_cons (pv 2) pa_nil)) pe_int (nomark _)) pss_never pss_nil)
    (C8.pss_cut (ps_if (pt_cmpR op_ne (pe_op op_mod (pe_op op_sub (pe_callB call_len_seq (by rfl) M.len boot_len (pa_cons (pv 2) pa_nil)) pe_int) (pv 1)) pe_int (nomark _))
      (pss_one (ps_ret pe_non))
      (pss_nil))
    (pss_cons (ps_set (i := 3) sc_root_part.nd rfl (.inl rfl) (pe_d D_root_like hr (by rfl) (pa_cons (pv 2) (pa_cons (pv 1) pa_nil))))
    (pss_one (ps_ret (pe_ifExp (pt_cmpR op_notN (pe_d D_outer_by hr (by rfl) (pa_cons (pv 2) (pa_cons (pv 3) pa_nil))) pe_non (nomark _)) (pv 3) pe_non))))))), ?_⟩
  refine ⟨_, rfl, x, 1, rfl, hx.1, hx.2.1, fun a1 H1 u1 s1 n1 h1 r1 => ?_⟩
  rw [hx.2.2] at r1
  have lu := QL.len r1
  refine ⟨_, rfl, (many : Int), 1, 48, rfl, (show ((many : Int)).natAbs < 10 ^ 50 by omega), by omega, by omega, by omega, fun H2 s2 => ?_⟩
  have h2 := s2 _ _ h1
  have q2 := RatL.same r1 s2
  have s02 := s1.trans s2
  refine ⟨_, rfl, a1, u1, rfl, .inl (SqL.of h2), _, _, rfl, rfl, _, rfl, iteF2 (decide_eq_false (by omega)) ?_⟩
  refine ⟨fun σ' G => σ' = [some x, some (.int (many : Int)), some (.ref a1), none] ∧ Same H2 G ∧ (xs.length - 1) % many = 0, ?_, ?_⟩
  · refine ⟨_, rfl, a1, u1, rfl, .inl (SqL.of h2), _, _, rfl, rfl, _, rfl, ?_⟩
    have em : ((u1.length : Nat) : Int) - 1 = ((xs.length - 1 : Nat) : Int) := by omega
    refine ⟨_, _, rfl, rfl, by omega, ?_⟩
    dsimp only
    rw [em, ← Int.natCast_emod]
    by_cases z : (xs.length - 1) % many = 0
    · rw [z]
      exact ⟨rfl, _, rfl, ⟨rfl, Same.refl _, rfl⟩⟩
    · rcases h with ⟨_, q⟩ | ⟨z2, _⟩
      · refine ⟨rfl, _, rfl, ?_⟩
        have ne : (V.int (((xs.length - 1) % many : Nat) : Int)) ≠ V.int 0 := fun e => z (by have := V.int.inj e; omega)
        exact ite2 (fun _ => q H2 s02) fun e => absurd (by simpa using ne) e
      · exact absurd z2 z
  rintro _ G ⟨rfl, sG, dv⟩
  rcases h with ⟨h, _⟩ | ⟨_, ok, D, E1, sg, M', S', wk, B, bS, eL, sL, hW, fit, q⟩
  · exact absurd dv h
  have s0G := s02.trans sG
  have mx : many + 1 ≤ xs.length := by
    have := Nat.le_of_dvd (by omega) (Nat.dvd_of_mod_eq_zero dv)
    omega
  refine ⟨_, rfl, _, rfl, a1, u1, xs, many, rfl, sG _ _ h2, RatL.same q2 sG, tx, bx, m1, mx, l49, ok, fun a3 H3 w3 s3 n3 h3 q3 => ?_⟩
  have sA := s0G.trans s3
  refine ⟨_, rfl, _, rfl, a1, a3, u1, w3, xs, rootL xs many, D, E1, sg, M', S', wk, rfl, (sG.trans s3) _ _ h2, h3, RatL.same q2 (sG.trans s3), q3, tx, by rw [rootL_len m1]; omega, B, bS, eL, sL, by rw [rootL_len m1]; exact hW, fit, l49, fun v H4 ds s4 de ho => ⟨rfl, _, rfl, ?_⟩⟩
  rcases ho with ⟨rfl, d, hd, dl⟩ | ⟨a4, w4, rfl, _, _, _, one⟩
  · exact iteF (q .non H4 ds (sA.trans s4) de.dg de.jn (.inl ⟨rfl, d, hd, dl⟩))
  · exact iteT ⟨_, rfl, q (.ref a3) H4 ds (sA.trans s4) de.dg de.jn (.inr ⟨⟨a3, w3, rfl, s0G.free n3, s4 _ _ h3, RatL.same q3 s4⟩, one⟩)⟩
end
end K21

namespace K21
open PySem PySem.Spec PyProof.Rows L2 Fp
section
variable {P : Program} {w : World} {K : PySem.W.Frag} {mg : Str → Option Value} {base : Heap} {k : Nat} {C fI fR : Addr}
def sp_law_timesI (K : PySem.W.Frag) : Sp := fun vs H Q _ => ∃ (l1 l2 : Addr) (zs1 zs2 : List Int) (n m : Nat), vs = [.ref l1, .ref l2] ∧ H l1 = some (.lst (VI zs1)) ∧ H l2 = some (.lst (VI zs2)) ∧ (∀ x ∈ zs1, LbI n x) ∧ (∀ x ∈ zs2, LbI m x) ∧ n + m ≤ 400000 ∧ zs1.length ≤ 100 ∧ zs2.length ≤ 100 ∧ ∀ c H', Same H H' → H c = none → H' c = some (.lst (VI (timesI zs1 zs2))) → Q (.ref c) H'
namespace IntT
-- slots: one 0, other 1, found 2, at 3, near 4, to 5, far 6; cells: 
abbrev s_law_times : Stmt := top 39
abbrev N_law_times : List Str := ["one", "other", "found", "at", "near", "to", "far"]
theorem sc_law_times : FnScope N_law_times ["one", "other"] (defScope s_law_times) := ⟨rfl, rfl, rfl, by decide +kernel, rfl, by decide +kernel, by decide +kernel⟩
theorem d_law_times (B : Bnd K mg "_law_times" s_law_times) (M : Mg2 mg)   : Def P w K mg base (k + 1) "_law_times" s_law_times ["one", "other"] (sp_law_timesI K) := by
  refine def_of B sc_law_times (by rintro _ _ _ _ ⟨l1, l2, zs1, zs2, n, m, rfl, _⟩; rfl) (fun _ _ _ _ _ _ us hl => match us, hl with | [_, _], _ => rfl) fun f cdv A outer s H vs Q E hr h => ?_
  obtain ⟨l1, l2, zs1, zs2, n, m, rfl, hl1, hl2, n1, n2, sk, e1, e2, q⟩ := h
  have hu := hr.units
  refine ⟨_, pss_cons (ps_set (i := 2) sc_law_times.nd rfl (.inl rfl) (pe_op op_rep (pe_lst (pa_cons pe_int pa_nil)) (pe_callB (call_max2 rfl) (by rfl) M.max (by decide +kernel) (pa_cons pe_int (pa_cons (pe_op op_sub (pe_op op_add (pe_callB call_len_seq (by rfl) M.len boot_len (pa_cons (pv 0) pa_nil)) (pe_callB call_len_seq (by rfl) M.len boot_len (pa_cons (pv 1) pa_nil))) pe_int) pa_nil)))))
    (pss_cons (ps_for PassesOwn.never rfl (pi_enum (by rfl) M.enum (pa_cons (pv 0) pa_nil)) (pg_tup rfl (pgs_cons (pg_name (i := 3) sc_law_times.nd rfl (.inl rfl)) (pgs_cons (pg_name (i := 4) sc_law_times.nd rfl (.inl rfl)) pgs_nil)))
      (pss_one (ps_for PassesOwn.never rfl (pi_enum (by rfl) M.enum (pa_cons (pv 1) pa_nil)) (pg_tup rfl (pgs_cons (pg_name (i := 5) sc_law_times.nd rfl (.inl rfl)) (pgs_cons (pg_name (i := 6) sc_law_times.nd rfl (.inl rfl)) pgs_nil)))
        (pss_one (ps_asg (pe_op op_add (pe_ix (r := rIxL K) ix_list (pv 2) (pe_op op_add (pv 3) (pv 5)) (fun _ _ => rfl)) (pe_op op_mulW (pv 4) (pv 6))) (pg_sub (pv 2) (pe_op op_add (pv 3) (pv 5)) set_list))))))
    (pss_one (ps_ret (pv 2)))), ?_⟩
  have lv1 := vi_len zs1
  have lv2 := vi_len zs2
  refine ⟨by show 1 ≤ sizeLine; decide, fun c0 nc0 => ?_⟩
  have sc := same_new (o := .lst [V.int 0]) nc0
  refine ⟨_, rfl, l1, _, rfl, .inl (SqL.of (sc _ _ hl1)), _, rfl, l2, _, rfl, .inl (SqL.of (sc _ _ hl2)), _, _, rfl, rfl, _, 1, rfl, rfl, _, _, rfl, ?_⟩
  have em : (if (((VI zs1).length : Nat) : Int) + (((VI zs2).length : Nat) : Int) - 1 > 0 then (((VI zs1).length : Nat) : Int) + (((VI zs2).length : Nat) : Int) - 1 else 0) = ((zs1.length + zs2.length - 1 : Nat) : Int) := by split <;> omega
  rw [em]
  refine ⟨c0, _, [V.int 0], rfl, rfl, upd_same, by omega, by omega, by rw [sizeLine_eq]; simp only [List.length_cons, List.length_nil]; omega, fun F nF0 => ?_⟩
  generalize hL : zs1.length + zs2.length - 1 = L
  have e0 : (List.replicate ((L : Nat) : Int).toNat [V.int 0]).flatten = VI ((List.range L).map (prodI zs1 zs2 0)) := by
    rw [Int.toNat_natCast]
    clear em hL nF0
    have : ∀ k, (List.replicate k [V.int 0]).flatten = VI (List.replicate k 0) := fun k => by
      induction k with
      | zero => rfl
      | succ k ih => rw [List.replicate_succ, List.flatten_cons, ih]; rfl
    rw [this]
    congr 1
    refine List.ext_getElem (by simp) fun n a b => ?_
    rw [List.getElem_replicate, List.getElem_map]; rfl
  rw [e0]
  have nF : H F = none := sc.free nF0
  have sF := sc.trans (same_new (o := .lst (VI ((List.range L).map (prodI zs1 zs2 0)))) nF0)
  have hF : (upd (upd H c0 (.lst [V.int 0])) F (.lst (VI ((List.range L).map (prodI zs1 zs2 0))))) F = some (.lst (VI ((List.range L).map (prodI zs1 zs2 0)))) := upd_same
  generalize upd (upd H c0 (.lst [V.int 0])) F (.lst (VI ((List.range L).map (prodI zs1 zs2 0)))) = H0 at *
  have old : ∀ {G : Hp}, Same H (wo F G) → Same H G := fun s => s.trans wo_le
  refine ⟨_, rfl, l1, _, rfl, SqL.of (sF _ _ hl1), ?_⟩
  refine for_it (walk_enum (K := K) (a := l1) (xs := VI zs1)) (fun i σ G => ∃ (o3 o4 o5 o6 : Option V), σ = [some (.ref l1), some (.ref l2), some (.ref F), o3, o4, o5, o6] ∧ Same H (wo F G) ∧ G F = some (.lst (VI ((List.range L).map (prodI zs1 zs2 i)))))
    ⟨none, none, none, none, rfl, same_wo nF sF, hF⟩ (fun i σ G _ ⟨_, _, _, _, _, sm, _⟩ => SqL.of (old sm _ _ hl1)) (fun i v σ G G2 hi ⟨o3, o4, o5, o6, e, sm, hG⟩ hy => ?_) (fun σ G ⟨o3, o4, o5, o6, e, sm, hG⟩ => ?_)
  · subst e
    obtain ⟨T, v1, v2, rfl, nT, rfl, hx1, hx2⟩ := hy
    obtain ⟨x, hx, rfl⟩ := vi_at hx2
    obtain rfl := Option.some.inj hx1
    have sT := same_new (o := .tup [V.int (i : Nat), V.int x]) nT
    have s3 := sm.trans (wo_mono (D := F) sT)
    have hG3 := sT _ _ hG
    have hT : (upd G T (.tup [V.int (i : Nat), V.int x])) T = some (.tup [V.int (i : Nat), V.int x]) := upd_same
    generalize upd G T (.tup [V.int (i : Nat), V.int x]) = G3 at *
    have hi1 : i < zs1.length := by omega
    have ex : zs1.getD i 0 = x := by rw [List.getD_eq_getElem?_getD, hx]; rfl
    refine ⟨T, _, rfl, SqT.of hT, rfl, _, _, rfl, _, _, rfl, rfl, ?_⟩
    refine ⟨_, rfl, l2, _, rfl, SqL.of (old s3 _ _ hl2), ?_⟩
    refine for_it (walk_enum (K := K) (a := l2) (xs := VI zs2)) (fun j σ G => ∃ (o5 o6 : Option V), σ = [some (.ref l1), some (.ref l2), some (.ref F), some (.int (i : Nat)), some (.int x), o5, o6] ∧ Same H (wo F G) ∧ G F = some (.lst (VI ((List.range L).map (partI zs1 zs2 i j)))))
      ⟨_, _, rfl, s3, ?_⟩ (fun j σ G _ ⟨_, _, _, sm, _⟩ => SqL.of (old sm _ _ hl2)) (fun j v σ G G2 hj ⟨o5, o6, e, sm, hG⟩ hy => ?_) (fun σ G ⟨o5, o6, e, sm, hG⟩ => ?_)
    · rw [hG3, funext (partI_zero zs1 zs2 i)]
    · subst e
      obtain ⟨T2, v1, v2, rfl, nT2, rfl, hy1, hy2⟩ := hy
      obtain ⟨y, hy, rfl⟩ := vi_at hy2
      obtain rfl := Option.some.inj hy1
      have sT := same_new (o := .tup [V.int (j : Nat), V.int y]) nT2
      have s4 := sm.trans (wo_mono (D := F) sT)
      have hG4 := sT _ _ hG
      have hT2 : (upd G T2 (.tup [V.int (j : Nat), V.int y])) T2 = some (.tup [V.int (j : Nat), V.int y]) := upd_same
      generalize upd G T2 (.tup [V.int (j : Nat), V.int y]) = G4 at *
      have hj1 : j < zs2.length := by omega
      have hij : i + j < L := by omega
      have ey : zs2.getD j 0 = y := by rw [List.getD_eq_getElem?_getD, hy]; rfl
      have hx' := n1 x (List.mem_of_getElem? hx)
      have hy' := n2 y (List.mem_of_getElem? hy)
      have hat : (VI ((List.range L).map (partI zs1 zs2 i j)))[i + j]? = some (.int (partI zs1 zs2 i j (i + j))) := by
        unfold VI
        rw [List.getElem?_map, List.getElem?_map, List.getElem?_range hij]; rfl
      refine ⟨T2, _, rfl, SqT.of hT2, rfl, _, _, rfl, _, _, rfl, rfl, ?_⟩
      refine ⟨_, rfl, _, rfl, _, rfl, _, _, rfl, rfl, F, _, _, _, rfl, rfl, SqL.of hG4, at_of (j := i + j) (by omega) hat, _, rfl, _, rfl, x, y, rfl, rfl, hx'.cm hy' (by omega), _, _, rfl, rfl, ?_⟩
      refine ⟨_, rfl, _, rfl, _, rfl, _, _, rfl, rfl, F, _, _, i + j, rfl, rfl, hG4, ixn (by omega) (by rw [vi_len, List.length_map, List.length_range]; exact hij), ?_⟩
      refine ⟨_, _, rfl, ?_, ?_⟩
      · rw [wo_upd]; exact s4
      · rw [upd_same]
        have := partI_step (xs := zs1) (ys := zs2) hij
        rw [ex, ey] at this
        rw [← this]
        unfold VI
        rw [List.map_set]
    · subst e
      refine ⟨_, _, _, _, rfl, sm, ?_⟩
      rw [hG]
      have : (VI zs2).length = zs2.length := lv2
      rw [this, funext (partI_all zs1 zs2 i)]
  · subst e
    have s5 := old sm
    have hG' : G F = some (.lst (VI (timesI zs1 zs2))) := by
      rw [hG, lv1, ← hL]; rfl
    exact ⟨_, rfl, q F G s5 nF hG'⟩
end IntT
end
end K21

namespace K21
open PySem PySem.Spec PyProof.Rows L2 Fp
section
variable {P : Program} {w : World} {K : PySem.W.Frag} {mg : Str → Option Value} {base : Heap} {k : Nat} {C fI fR : Addr}
def shr (zs : List Int) : Nat := zs.foldl (fun g x => Nat.gcd x.natAbs g) 0
theorem shr_snoc (zs : List Int) (x : Int) : shr (zs ++ [x]) = Nat.gcd x.natAbs (shr zs) := by unfold shr; rw [List.foldl_append]; rfl
theorem shr_dvd {zs : List Int} : ∀ {x : Int}, x ∈ zs → ((shr zs : Nat) : Int) ∣ x := by
  intro x hx
  have : ∀ (n : Nat), n ≤ zs.length → ∀ y ∈ zs.take n, ((shr (zs.take n) : Nat) : Int) ∣ y := fun n => by
    induction n with
    | zero => intro _ y hy; rw [List.take_zero] at hy; cases hy
    | succ n ih =>
      intro hn y hy
      rw [takeS (List.getElem?_eq_getElem (show n < zs.length by omega))] at hy ⊢
      rw [shr_snoc]
      rcases List.mem_append.mp hy with h | h
      · exact Int.dvd_trans (Int.natCast_dvd_natCast.mpr (Nat.gcd_dvd_right _ _)) (ih (by omega) y h)
      · rw [List.mem_singleton.mp h]
        exact Int.dvd_trans (Int.natCast_dvd_natCast.mpr (Nat.gcd_dvd_left _ _)) (Int.natAbs_dvd.mpr (Int.dvd_refl _))
  have h := this zs.length (Nat.le_refl _) x
  rw [List.take_length] at h
  exact h hx
theorem shr_great {zs : List Int} {d : Nat} (h : ∀ x ∈ zs, (d : Int) ∣ x) : d ∣ shr zs := by
  have : ∀ (n : Nat), n ≤ zs.length → d ∣ shr (zs.take n) := fun n => by
    induction n with
    | zero => intro _; rw [List.take_zero]; exact Nat.dvd_zero _
    | succ n ih =>
      intro hn
      rw [takeS (List.getElem?_eq_getElem (show n < zs.length by omega)), shr_snoc]
      exact Nat.dvd_gcd ((Int.natCast_dvd_natCast.mp (Int.dvd_natAbs.mpr (h _ (List.getElem_mem _))))) (ih (by omega))
  have h := this zs.length (Nat.le_refl _)
  rwa [List.take_length] at h
theorem modg {x y : Int} (hx : 0 ≤ x) (hy : 0 < y) : Int.gcd y (x % y) = Int.gcd x y := by
  obtain ⟨n, rfl⟩ := Int.eq_ofNat_of_zero_le hx
  obtain ⟨m, rfl⟩ := Int.eq_ofNat_of_zero_le (Int.le_of_lt hy)
  show Nat.gcd m (n % m) = Nat.gcd n m
  rw [Nat.gcd_comm m, ← Nat.gcd_rec, Nat.gcd_comm]
def sp_law_share (K : PySem.W.Frag) : Sp := fun vs H Q _ => ∃ (l : Addr) (zs : List Int), vs = [.ref l] ∧ H l = some (.lst (VI zs)) ∧ ∀ H', Same H H' → Q (.int (shr zs : Nat)) H'
-- slots: numbers 0, found 1, number 2, one 3, other 4; cells: 
abbrev s_law_share : Stmt := top 44
abbrev N_law_share : List Str := ["numbers", "found", "number", "one", "other"]
theorem sc_law_share : FnScope N_law_share ["numbers"] (defScope s_law_share) := ⟨rfl, rfl, rfl, by decide +kernel, rfl, by decide +kernel, by decide +kernel⟩
theorem d_law_share (B : Bnd K mg "_law_share" s_law_share) (M : Mg2 mg)   : Def P w K mg base (k + 1) "_law_share" s_law_share ["numbers"] (sp_law_share K) := by
  refine def_of B sc_law_share (by rintro _ _ _ _ ⟨l, zs, rfl, _⟩; rfl) (fun _ _ _ _ _ _ us hl => match us, hl with | [_], _ => rfl) fun f cdv A outer s H vs Q E hr h => ?_
  obtain ⟨l, zs, rfl, hl, q⟩ := h
  have hu := hr.units
  refine ⟨_, pss_cons (ps_set (i := 1) sc_law_share.nd rfl (.inl rfl) pe_int)
    (pss_cons (ps_for PassesOwn.never rfl (pi_list (pv 0)) (pg_name (i := 2) sc_law_share.nd rfl (.inl rfl))
      (pss_cons (ps_par (i := 3) (j := 4) rfl sc_law_share.nd rfl rfl (by decide) rfl rfl (pa_cons (pe_callB call_abs (by rfl) M.abs (by decide +kernel) (pa_cons (pv 2) pa_nil)) (pa_cons (pv 1) pa_nil)) (by rfl))
      (pss_cons (ps_while PassesOwn.never (pt_cmpR op_gt (pv 4) pe_int (nomark _))
        (pss_one (ps_par (i := 3) (j := 4) rfl sc_law_share.nd rfl rfl (by decide) rfl rfl (pa_cons (pv 4) (pa_cons (pe_op op_mod (pe_callTy call_int1 (by rfl) M.int (by decide +kernel) (pa_cons (pv 3) pa_nil)) (pv 4)) pa_nil)) (by rfl))))
      (pss_one (ps_set (i := 1) sc_law_share.nd rfl (.inl rfl) (pv 3))))))
    (pss_one (ps_ret (pv 1)))), ?_⟩
  have lv := vi_len zs
  refine ⟨_, rfl, l, rfl, ⟨_, SqL.of hl⟩, ?_⟩
  refine for_list (xs := VI zs) (fun i σ G => ∃ (o2 o3 o4 : Option V), σ = [some (.ref l), some (.int (shr (zs.take i) : Nat)), o2, o3, o4] ∧ Same H G)
    ⟨none, none, none, rfl, Same.refl _⟩ (fun i σ G _ ⟨_, _, _, e, sm⟩ => SqL.of (sm _ _ hl)) (fun i v σ G hv ⟨o2, o3, o4, e, sm⟩ => ?_) (fun σ G ⟨o2, o3, o4, e, sm⟩ => ?_)
  · subst e
    obtain ⟨x, hx, rfl⟩ := vi_at hv
    refine ⟨_, rfl, _, rfl, _, rfl, _, _, rfl, ?_⟩
    refine ⟨fun mm σ G' => ∃ a b : Int, σ = [some (.ref l), some (.int (shr (zs.take i) : Nat)), some (.int x), some (.int a), some (.int b)] ∧ mm = b.toNat ∧ G' = G ∧ 0 ≤ a ∧ 0 ≤ b ∧ Int.gcd a b = Nat.gcd x.natAbs (shr (zs.take i)), ⟨_, _, _, rfl, rfl, rfl, ?_, by omega, ?_⟩, ?_⟩
    · split <;> omega
    · have e1 : (if x < 0 then -x else x) = (x.natAbs : Int) := by split <;> omega
      rw [e1]; rfl
    rintro mm σ G' ⟨a, b, rfl, rfl, rfl, a0, b0, e⟩
    refine ⟨_, rfl, b, 0, rfl, rfl, _, rfl, ite2 (fun z => ?_) (fun z => ?_)⟩
    · have b1 : 0 < b := of_decide_eq_true z
      refine ⟨fun σ' G'' => ∃ a' b' : Int, σ' = [some (.ref l), some (.int (shr (zs.take i) : Nat)), some (.int x), some (.int a'), some (.int b')] ∧ b'.toNat < b.toNat ∧ G'' = G' ∧ 0 ≤ a' ∧ 0 ≤ b' ∧ Int.gcd a' b' = Nat.gcd x.natAbs (shr (zs.take i)), fun σ' G'' ⟨x', y', h1, h2, h3, h4, h5, h6⟩ => ⟨y'.toNat, h2, x', y', h1, rfl, h3, h4, h5, h6⟩, ?_⟩
      have r0 := Int.emod_nonneg a (show b ≠ 0 by omega)
      have r1 := Int.emod_lt_of_pos a b1
      exact ⟨_, rfl, _, rfl, .inl ⟨a, rfl, _, rfl, a, b, rfl, rfl, b1, _, _, rfl, b, a % b, rfl, by omega, rfl, by omega, r0, by rw [modg a0 b1, e]⟩⟩
    · have b1 : b = 0 := by
        by_cases h : 0 < b
        · exact absurd (decide_eq_true h) z
        · omega
      subst b1
      have ex : a = ((shr (zs.take (i + 1)) : Nat) : Int) := by
        rw [takeS hx, shr_snoc, ← e, Int.gcd_zero_right]; omega
      subst ex
      exact ⟨_, rfl, some (.int x), some (.int ((shr (zs.take (i + 1)) : Nat) : Int)), some (.int 0), rfl, sm⟩
  · subst e
    rw [lv, List.take_length]
    exact ⟨_, rfl, q G sm⟩
def sp_law_low (K : PySem.W.Frag) : Sp := fun vs H Q _ => ∃ (l : Addr) (zs : List Int) (b : Int) (n : Nat), vs = [.ref l, .int b] ∧ H l = some (.lst (VI zs)) ∧ b ≠ 0 ∧ (∀ z ∈ zs, LbI n z) ∧ LbI n b ∧ n ≤ 8900 ∧ zs.length ≤ 100 ∧
  ∀ (t c : Addr) H' (g : Nat) zs' b', Same H H' → H c = none → H' t = some (.tup [.ref c, .int b']) → H' c = some (.lst (VI zs')) → 0 < g → zs'.map (· * (g : Int)) = zs → b' * g = b → (∀ d : Nat, (∀ z ∈ zs', (d : Int) ∣ z) → (d : Int) ∣ b' → d = 1) → Q (.ref t) H'
-- slots: tops 0, bottom 1, share 2, number 3; cells: share
abbrev s_law_low : Stmt := top 45
abbrev N_law_low : List Str := ["tops", "bottom", "share", "number"]
theorem sc_law_low : FnScope N_law_low ["tops", "bottom"] (defScope s_law_low) := ⟨rfl, rfl, rfl, by decide +kernel, rfl, by decide +kernel, by decide +kernel⟩
theorem d_law_low (B : Bnd K mg "_law_low" s_law_low) (M : Mg2 mg)  (D_law_share : Def P w K mg base k "_law_share" s_law_share ["numbers"] (sp_law_share K)) : Def P w K mg base (k + 1) "_law_low" s_law_low ["tops", "bottom"] (sp_law_low K) := by
  refine def_of B sc_law_low (by rintro _ _ _ _ ⟨l, zs, b, n, rfl, _⟩; rfl) (fun _ _ _ _ _ _ us hl => match us, hl with | [_, _], _ => rfl) fun f cdv A outer s H vs Q E hr h => ?_
  obtain ⟨l, zs, b, n, rfl, hl, b0, bz, bb, n8, l100, q⟩ := h
  have hu := hr.units
  refine ⟨_, pss_cons (ps_set (i := 2) sc_law_low.nd rfl (.inr rfl) (pe_d D_law_share hr (by rfl) (pa_cons (pe_op op_cat (pv 0) (pe_lst (pa_cons (pv 1) pa_nil))) pa_nil)))
    (pss_one (ps_ret (pe_tup (pa_cons (pe_lc (own := [("number", 3)]) (g := (gName 3)) (tt := tYes) (te := (tOp _ (tVar 3) (tVar 2))) rfl sc_law_low.nd (pi_list (pv 0)) (blkOk_by (own := [("number", 3)]) (N := N_law_low) (sc := defScope s_law_low) (by decide +kernel)) (fun _ _ _ _ _ => pg_name (i := 3) sc_law_low.nd rfl (.inl rfl)) (fun _ _ _ _ _ => pts_nil) (fun _ _ _ _ _ => pe_op op_fdivNW (pv 3) (pv 2))) (pa_cons (pe_op op_fdivNW (pv 1) (pv 2)) pa_nil))))), ?_⟩
  have lv := vi_len zs
  refine ⟨_, rfl, _, rfl, by show 1 ≤ sizeLine; decide, fun c nc => ?_⟩
  have s1 := same_new (o := .lst [V.int b]) nc
  refine ⟨l, c, _, _, rfl, rfl, s1 _ _ hl, upd_same, by rw [lv, sizeLine_eq]; simp; omega, fun d nd => ?_⟩
  have s2 := same_new (o := .lst (VI zs ++ [V.int b])) nd
  have s02 := s1.trans s2
  refine ⟨d, zs ++ [b], rfl, by rw [upd_same]; unfold VI; rw [List.map_append]; rfl, fun H3 s3 => ?_⟩
  have s03 := s02.trans s3
  generalize hg : shr (zs ++ [b]) = g
  have gb : ((g : Nat) : Int) ∣ b := by rw [← hg]; exact shr_dvd (List.mem_append_right _ (List.mem_singleton.mpr rfl))
  have gz : ∀ z ∈ zs, ((g : Nat) : Int) ∣ z := fun z hz => by rw [← hg]; exact shr_dvd (List.mem_append_left _ hz)
  have g0 : 0 < g := Nat.pos_of_ne_zero fun e => b0 (by rw [e] at gb; exact Int.zero_dvd.mp gb)
  have gB : LbI 8900 ((g : Nat) : Int) := LbI.mono (Nat.lt_of_le_of_lt (Nat.le_of_dvd (by omega) (Int.natAbs_dvd_natAbs.mpr gb)) bb) n8
  have dv : ∀ {z : Int}, ((g : Nat) : Int) ∣ z → z.fdiv (g : Int) * (g : Int) = z := fun {z} h => by
    rw [Int.fdiv_eq_ediv_of_nonneg _ (by omega), Int.ediv_mul_cancel h]
  refine ⟨_, rfl, l, rfl, ⟨_, SqL.of (s03 _ _ hl)⟩, fun D nD => ?_⟩
  refine lc_l (fun i => (zs[i]?).map fun z => V.int (z.fdiv (g : Int))) (SqL.of (s03 _ _ hl)) nD (by rw [lv, sizeLine_eq]; omega) (fun i v H4 hv s4 Y N y nn => ?_) (fun H4 s4 hE => ?_)
  · obtain ⟨z, hz, rfl⟩ := vi_at hv
    refine ⟨rfl, _, rfl, _, rfl, z, (g : Int), rfl, rfl, gB.div (by omega) (by omega), y _ _ (Same.refl _) ?_⟩
    show (zs[i]?).map _ = _
    rw [hz]; rfl
  · have hE : H4 D = some (.lst (VI (zs.map fun z => z.fdiv (g : Int)))) := by
      rw [hE, lv, fm_get]; unfold VI; rw [List.map_map]; rfl
    refine ⟨_, rfl, _, rfl, b, (g : Int), rfl, rfl, gB.div (by omega) (by omega), by show 2 ≤ sizeLine; decide, fun t nt => ?_⟩
    have st := same_new (o := .tup [V.ref D, V.int (b.fdiv (g : Int))]) nt
    refine q t D _ g _ _ ((s03.trans s4).trans st) (s03.free nD) upd_same (st _ _ hE) g0 ?_ (dv gb) fun dd h1 h2 => ?_
    · rw [List.map_map]
      conv => rhs; rw [← List.map_id zs]
      exact List.map_congr_left fun z hz => dv (gz z hz)
    · have : dd * g ∣ g := by
        conv => rhs; rw [← hg]
        refine shr_great fun x hx => ?_
        rw [Int.natCast_mul]
        rcases List.mem_append.mp hx with h | h
        · rw [← dv (gz x h)]
          exact Int.mul_dvd_mul_right _ (h1 _ (List.mem_map_of_mem h))
        · rw [List.mem_singleton.mp h, ← dv gb]
          exact Int.mul_dvd_mul_right _ h2
      obtain ⟨c2, hc2⟩ := this
      have : g * (dd * c2) = g * 1 := by rw [Nat.mul_one]; conv => rhs; rw [hc2]
                                         rw [Nat.mul_comm dd g, Nat.mul_assoc]
      exact Nat.eq_one_of_mul_eq_one_right (Nat.eq_of_mul_eq_mul_left g0 this)
/-- powers of whole numbers' lists -/
def powI (zs : List Int) : Nat → List Int
  | 0 => [1]
  | n + 1 => timesI (powI zs n) zs
def sp_law_power (K : PySem.W.Frag) : Sp := fun vs H Q _ => ∃ (l : Addr) (zs : List Int) (m n : Nat), vs = [.ref l, .int (m : Nat)] ∧ H l = some (.lst (VI zs)) ∧ zs.length ≤ 50 ∧ m ≤ 50 ∧ (∀ i, i ≤ m → (powI zs i).length ≤ 100 ∧ ∀ x ∈ powI zs i, LbI 100000 x) ∧ (∀ x ∈ zs, LbI 100000 x) ∧ ∀ c H' , Same H H' → H c = none → H' c = some (.lst (VI (powI zs m))) → Q (.ref c) H'
-- slots: tops 0, many 1, found 2, turn 3; cells: 
abbrev s_law_power : Stmt := top 47
abbrev N_law_power : List Str := ["tops", "many", "found", "turn"]
theorem sc_law_power : FnScope N_law_power ["tops", "many"] (defScope s_law_power) := ⟨rfl, rfl, rfl, by decide +kernel, rfl, by decide +kernel, by decide +kernel⟩
theorem d_law_power (B : Bnd K mg "_law_power" s_law_power) (M : Mg2 mg)  (D_law_times : Def P w K mg base k "_law_times" s_law_times ["one", "other"] (sp_law_timesI K)) : Def P w K mg base (k + 1) "_law_power" s_law_power ["tops", "many"] (sp_law_power K) := by
  refine def_of B sc_law_power (by rintro _ _ _ _ ⟨l, zs, m, n, rfl, _⟩; rfl) (fun _ _ _ _ _ _ us hl => match us, hl with | [_, _], _ => rfl) fun f cdv A outer s H vs Q E hr h => ?_
  obtain ⟨l, zs, m, n, rfl, hl, l50, m50, bp, bz, q⟩ := h
  have hu := hr.units
  refine ⟨_, pss_cons (ps_set (i := 2) sc_law_power.nd rfl (.inl rfl) (pe_lst (pa_cons pe_int pa_nil)))
    (pss_cons (ps_for PassesOwn.never rfl (pi_range1 (by rfl) M.range (pa_cons (pv 1) pa_nil)) (pg_name (i := 3) sc_law_power.nd rfl (.inl rfl))
      (pss_one (ps_set (i := 2) sc_law_power.nd rfl (.inl rfl) (pe_d D_law_times hr (by rfl) (pa_cons (pv 2) (pa_cons (pv 0) pa_nil))))))
    (pss_one (ps_ret (pv 2)))), ?_⟩
  refine ⟨by show 1 ≤ sizeLine; decide, fun c nc => ?_⟩
  have s1 := same_new (o := .lst [V.int 1]) nc
  refine ⟨_, rfl, (m : Int), rfl, by omega, by omega, ?_⟩
  refine for_range (lo := 0) (n := ((m : Nat) : Int).toNat) (fun i σ G => ∃ (a : Addr) (o : Option V), σ = [some (.ref l), some (.int (m : Int)), some (.ref a), o] ∧ Same H G ∧ H a = none ∧ G a = some (.lst (VI (powI zs i))))
    ⟨c, none, rfl, s1, nc, upd_same⟩ (fun i σ' G hi ⟨a, o, e, sm, na, hG⟩ => ?_) (fun σ' G ⟨a, o, e, sm, na, hG⟩ => ?_)
  · subst e
    obtain ⟨b1, b2⟩ := bp i (by omega)
    exact ⟨_, rfl, _, rfl, a, l, powI zs i, zs, 100000, 100000, rfl, hG, sm _ _ hl, b2, bz, by decide, b1, by omega, fun c2 H2 s2 n2 h2 => ⟨c2, _, rfl, sm.trans s2, sm.free n2, h2⟩⟩
  · subst e
    rw [Int.toNat_natCast] at hG
    exact ⟨_, rfl, q a G sm na hG⟩
end
end K21

namespace K21
open PySem PySem.Spec PyProof.Rows L2 Fp
section
variable {P : Program} {w : World} {K : PySem.W.Frag} {mg : Str → Option Value} {base : Heap} {k : Nat} {C fI fR : Addr}
def bprod (xs : List Rat) : Int := xs.foldl (fun b x => b * (x.den : Int)) 1
theorem bprod_snoc (xs : List Rat) (x : Rat) : bprod (xs ++ [x]) = bprod xs * (x.den : Int) := by unfold bprod; rw [List.foldl_append]; rfl
theorem bprod_pos : ∀ (n : Nat) (xs : List Rat), xs.length = n → 0 < bprod xs
  | 0, xs, h => by rw [List.length_eq_zero_iff.mp h]; decide
  | n + 1, xs, h => by
    obtain ⟨A, x, rfl⟩ := snoc_of (show xs ≠ [] from fun e => by rw [e] at h; simp at h)
    rw [bprod_snoc]
    exact Int.mul_pos (bprod_pos n A (by simpa using h)) (den_pos x)
theorem bprod_dvd : ∀ (n : Nat) (xs : List Rat), xs.length = n → ∀ x ∈ xs, (x.den : Int) ∣ bprod xs
  | 0, xs, h, x, hx => by rw [List.length_eq_zero_iff.mp h] at hx; cases hx
  | n + 1, xs, h, x, hx => by
    obtain ⟨A, y, rfl⟩ := snoc_of (show xs ≠ [] from fun e => by rw [e] at h; simp at h)
    rw [bprod_snoc]
    rcases List.mem_append.mp hx with h2 | h2
    · exact Int.dvd_mul_of_dvd_left (bprod_dvd n A (by simpa using h) x h2)
    · rw [List.mem_singleton.mp h2]; exact Int.dvd_mul_left _ _
theorem bprod_lb {b : Nat} : ∀ (n : Nat) (xs : List Rat), xs.length = n → AllB b xs → LbI (1 + n * b) (bprod xs)
  | 0, xs, h, _ => by rw [List.length_eq_zero_iff.mp h]; show (1 : Int).natAbs < 2 ^ (1 + 0 * b); rw [Nat.zero_mul]; decide
  | n + 1, xs, h, g => by
    obtain ⟨A, y, rfl⟩ := snoc_of (show xs ≠ [] from fun e => by rw [e] at h; simp at h)
    rw [bprod_snoc]
    have h1 := bprod_lb n A (by simpa using h) fun x hx => g x (List.mem_append_left _ hx)
    have h2 := (g y (List.mem_append_right _ (List.mem_singleton.mpr rfl))).2
    exact (h1.mul h2).mono (by rw [Nat.add_mul]; omega)
def sp_law_whole (C : Addr) : Sp := fun vs H Q _ => ∃ (l : Addr) (us : List V) (xs : List Rat), vs = [.ref l] ∧ (H l = some (.lst us) ∨ H l = some (.tup us)) ∧ ML C H us xs ∧ AllB 40 xs ∧ xs.length ≤ 20 ∧
  ∀ c H' zs b, Same H H' → H c = none → H' c = some (.lst (VI zs)) → 0 < b → ratsOf b zs = trimQ xs → (∀ d : Nat, (∀ z ∈ zs, (d : Int) ∣ z) → (d : Int) ∣ b → d = 1) → Q (.ref c) H'
-- slots: poly 0, some 1, bottom 2, number 3; cells: bottom
abbrev s_law_whole : Stmt := top 46
abbrev N_law_whole : List Str := ["poly", "some", "bottom", "number"]
theorem sc_law_whole : FnScope N_law_whole ["poly"] (defScope s_law_whole) := ⟨rfl, rfl, rfl, by decide +kernel, rfl, by decide +kernel, by decide +kernel⟩
theorem d_law_whole (B : Bnd K mg "_law_whole" s_law_whole) (M : Mg2 mg) (R : RCls K mg C fI fR) {kr : Nat} (PT : PropX P w K mg base kr C "top" (spTopR C)) (PB : PropX P w K mg base kr C "bottom" (spBotR C)) (hk : kr + 8 ≤ k) (D_law_told : Def P w K mg base k "_law_told" s_law_told ["poly"] (sp_law_told K C)) (D_law_low : Def P w K mg base k "_law_low" s_law_low ["tops", "bottom"] (sp_law_low K)) : Def P w K mg base (k + 1) "_law_whole" s_law_whole ["poly"] (sp_law_whole C) := by
  refine def_of B sc_law_whole (by rintro _ _ _ _ ⟨l, us, xs, rfl, _⟩; rfl) (fun _ _ _ _ _ _ us hl => match us, hl with | [_], _ => rfl) fun f cdv A outer s H vs Q E hr h => ?_
  obtain ⟨l, us, xs, rfl, hl, hM, bx, lx, q⟩ := h
  have hu := hr.units
  refine ⟨_, pss_cons (ps_asg (pe_tup (pa_cons (pe_d D_law_told hr (by rfl) (pa_cons (pv 0) pa_nil)) (pa_cons pe_int pa_nil))) (pg_tup rfl (pgs_cons (pg_name (i := 1) sc_law_whole.nd rfl (.inl rfl)) (pgs_cons (pg_name (i := 2) sc_law_whole.nd rfl (.inr rfl)) pgs_nil))))
    (pss_cons (ps_for PassesOwn.never rfl (pi_list (pv 1)) (pg_name (i := 3) sc_law_whole.nd rfl (.inl rfl))
      (pss_one (ps_set (i := 2) sc_law_whole.nd rfl (.inr rfl) (pe_op op_mulW (pv 2) (pe_propX PB (hr.mono (by omega)) R.cl (pv 3) (by rfl))))))
    (pss_one (ps_ret (pe_ix (r := rIxT K) ix_tup (pe_d D_law_low hr (by rfl) (pa_cons (pe_lc (own := [("number", 3)]) (g := (gName 3)) (tt := tYes) (te := (tOp _ (tProp _ _ [] E0 (tVar 3)) (tOp _ (tVar 2) (tProp _ _ [] E0 (tVar 3))))) rfl sc_law_whole.nd (pi_list (pv 1)) (blkOk_by (own := [("number", 3)]) (N := N_law_whole) (sc := defScope s_law_whole) (by decide +kernel)) (fun _ _ _ _ _ => pg_name (i := 3) sc_law_whole.nd rfl (.inl rfl)) (fun _ _ _ _ _ => pts_nil) (fun _ _ _ _ _ => pe_op op_mulW (pe_propX PT (hr.mono (by omega)) R.cl (pv 3) (by rfl)) (pe_op op_fdivNW (pv 2) (pe_propX PB (hr.mono (by omega)) R.cl (pv 3) (by rfl))))) (pa_cons (pv 2) pa_nil))) pe_int (fun _ _ => rfl))))), ?_⟩
  have t40 : AllB 40 (trimQ xs) := fun x hx => bx x (trimQ_mem hx)
  have lt := trimQ_len xs
  refine ⟨_, rfl, l, us, xs, rfl, sq_of hl, hM, fun x hx => (bx x hx).mono (by decide), by omega, fun c H1 ws s1 nc hc hq => ?_⟩
  refine ⟨by show 2 ≤ sizeLine; decide, fun t nt => ⟨t, _, rfl, SqT.of upd_same, rfl, _, _, rfl, _, _, rfl, rfl, ?_⟩⟩
  have s2 := same_new (o := .tup [V.ref c, V.int 1]) nt
  have hc2 := s2 _ _ hc
  have hq2 := RatL.same hq s2
  have lw := QL.len hq2
  generalize upd H1 t (.tup [V.ref c, V.int 1]) = H2 at *
  have s02 := s1.trans s2
  generalize trimQ xs = ts at *
  refine ⟨_, rfl, c, rfl, ⟨_, SqL.of hc2⟩, ?_⟩
  refine for_list (xs := ws) (fun i σ G => ∃ (o3 : Option V), σ = [some (.ref l), some (.ref c), some (.int (bprod (ts.take i))), o3] ∧ Same H2 G)
    ⟨none, rfl, Same.refl _⟩ (fun i σ G _ ⟨_, e, sm⟩ => SqL.of (sm _ _ hc2)) (fun i v σ G hv ⟨o3, e, sm⟩ => ?_) (fun σ G ⟨o3, e, sm⟩ => ?_)
  · subst e
    obtain ⟨x, a, hx, rfl, rx⟩ := QL.at hq2 hv
    have r1 := RQ.same rx sm
    obtain ⟨dx, r2⟩ := id r1
    have hi := (List.getElem?_eq_some_iff.mp hx).1
    have lb := bprod_lb i (ts.take i) (by rw [List.length_take]; omega) fun x hx => t40 x (List.mem_of_mem_take hx)
    refine ⟨_, rfl, _, rfl, a, dx, _, rfl, r2, a, _, _, rfl, r1, _, _, rfl, rfl, lb.cm (t40 x (List.mem_of_getElem? hx)).2 (by have : i * 40 ≤ 20 * 40 := Nat.mul_le_mul_right _ (by omega); omega), ?_⟩
    exact ⟨_, by rw [takeS hx, bprod_snoc]; rfl, sm⟩
  · subst e
    rw [lw, List.take_length]
    have hcG := sm _ _ hc2
    have hqG := RatL.same hq2 sm
    have B0 := bprod_pos _ ts rfl
    have Bl : LbI 801 (bprod ts) := (bprod_lb _ ts rfl t40).mono (by have : ts.length * 40 ≤ 20 * 40 := Nat.mul_le_mul_right _ (by omega); omega)
    refine ⟨_, rfl, c, rfl, ⟨_, SqL.of hcG⟩, fun D nD => ?_⟩
    refine lc_l (fun i => (ts[i]?).map fun x : Rat => V.int (x.num * (bprod ts).fdiv x.den)) (SqL.of hcG) nD (by rw [sizeLine_eq]; omega) (fun i v H4 hv s4 Y N y nn => ?_) (fun H4 s4 hE => ?_)
    · obtain ⟨x, a, hx, rfl, rx⟩ := QL.at hqG hv
      have r1 := RQ.same rx s4
      obtain ⟨dx, r2⟩ := id r1
      have bX := t40 x (List.mem_of_getElem? hx)
      obtain ⟨z1, z2, z3⟩ := ownZ B0 (bprod_dvd _ ts rfl x (List.mem_of_getElem? hx)) bX Bl
      refine ⟨rfl, _, rfl, a, dx, _, rfl, r2, a, _, _, rfl, r1, _, rfl, _, rfl, a, dx, _, rfl, r2, a, _, _, rfl, r1, bprod ts, x.den, rfl, rfl, (bX.2).div (by omega) (by have := den_pos x; omega), x.num, _, rfl, rfl, bX.1.cm z3 (by omega), ?_⟩
      exact y _ _ (Same.refl _) (by show (ts[i]?).map _ = _; rw [hx]; rfl)
    · have hE : H4 D = some (.lst (VI (ts.map fun x : Rat => x.num * (bprod ts).fdiv x.den))) := by
        rw [hE, lw, fm_get]; unfold VI; rw [List.map_map]; rfl
      refine ⟨_, rfl, D, _, bprod ts, 841, rfl, hE, by omega, fun z hz => ?_, Bl.mono (by decide), by decide, by rw [List.length_map]; omega, fun t2 c2 H5 g zs' b' s5 nc2 ht2 hc5 g0 ez eb pr => ?_⟩
      · obtain ⟨x, hx, rfl⟩ := List.mem_map.mp hz
        exact (ownZ B0 (bprod_dvd _ ts rfl x hx) (t40 x hx) Bl).2.1
      · have b0 : 0 < b' := Classical.byContradiction fun c => by
          have : b' * (g : Int) ≤ 0 := Int.mul_nonpos_of_nonpos_of_nonneg (by omega) (by omega)
          omega
        have gq := Fp.cast_ne (show (g : Int) ≠ 0 by omega)
        have bq := Fp.cast_ne (show b' ≠ 0 by omega)
        have Bq := Fp.cast_ne (show bprod ts ≠ 0 by omega)
        refine ⟨t2, _, 0, .ref c2, rfl, rfl, SqT.of ht2, rfl, q c2 H5 zs' b' (s02.trans (sm.trans (s4.trans s5))) ((s02.trans (sm.trans s4)).free nc2) hc5 b0 ?_ pr⟩
        have lz : zs'.length = ts.length := by have := congrArg List.length ez; rwa [List.length_map, List.length_map] at this
        refine List.ext_getElem (by rw [ratsOf_len]; exact lz) fun i h1 h2 => ?_
        have e1 := congrArg (fun L => L[i]?) ez
        simp only [List.getElem?_map] at e1
        rw [List.getElem?_eq_getElem h2, List.getElem?_eq_getElem (show i < zs'.length by omega)] at e1
        have e1 : zs'[i] * (g : Int) = (ts[i]).num * (bprod ts).fdiv (ts[i]).den := Option.some.inj e1
        have e2 := (ownZ B0 (bprod_dvd _ ts rfl ts[i] (List.getElem_mem _)) (t40 ts[i] (List.getElem_mem _)) Bl).1
        rw [← e1, ← eb, Rat.intCast_mul, Rat.intCast_mul] at e2
        have e3 : (ratsOf b' zs')[i]? = some (((zs'[i] : Int) : Rat) / (b' : Rat)) := by
          unfold ratsOf
          rw [List.getElem?_map, List.getElem?_eq_getElem (show i < zs'.length by omega)]; rfl
        rw [List.getElem?_eq_getElem h1] at e3
        rw [Option.some.inj e3, ← e2]
        grind
end
end K21

namespace K21
open PySem PySem.Spec PyProof.Rows L2 Fp
section
variable {P : Program} {w : World} {K : PySem.W.Frag} {mg : Str → Option Value} {base : Heap} {k : Nat} {C fI fR : Addr}
/-- its head made 1, its number left out -/
def bareQ (xs : List Rat) : List Rat := trimQ (0 :: (xs.drop 1).map fun x => x / co xs (xs.length - 1))
def sp_law_bare (C : Addr) : Sp := fun vs H Q _ => ∃ (l : Addr) (us : List V) (xs : List Rat), vs = [.ref l] ∧ H l = some (.lst us) ∧ ML C H us xs ∧ AllB 600 xs ∧ xs ≠ [] ∧ co xs (xs.length - 1) ≠ 0 ∧ xs.length ≤ 49 ∧ ∀ c H' ws, Same H H' → H c = none → H' c = some (.lst ws) → QL C H' ws (bareQ xs) → Q (.ref c) H'
-- slots: poly 0, number 1; cells: poly
abbrev s_law_bare : Stmt := top 43
abbrev N_law_bare : List Str := ["poly", "number"]
theorem sc_law_bare : FnScope N_law_bare ["poly"] (defScope s_law_bare) := ⟨rfl, rfl, rfl, by decide +kernel, rfl, by decide +kernel, by decide +kernel⟩
theorem d_law_bare (B : Bnd K mg "_law_bare" s_law_bare) (M : Mg2 mg) (R : RCls K mg C fI fR) {kr : Nat} (RD : RDef P w K mg base kr C) (AD : BinX P w K mg base kr C .Add (spAddQ C)) (OV : C8.Met P w K mg base kr C "over" (spOverQ C) []) (hk : kr + 8 ≤ k) (D_law_told : Def P w K mg base k "_law_told" s_law_told ["poly"] (sp_law_told K C)) : Def P w K mg base (k + 1) "_law_bare" s_law_bare ["poly"] (sp_law_bare C) := by
  refine def_of B sc_law_bare (by rintro _ _ _ _ ⟨l, us, xs, rfl, _⟩; rfl) (fun _ _ _ _ _ _ us hl => match us, hl with | [_], _ => rfl) fun f cdv A outer s H vs Q E hr h => ?_
  obtain ⟨l, us, xs, rfl, hl, hM, bx, x0, t0, l49, q⟩ := h
  have hu := hr.units
  refine ⟨_, pss_one (ps_ret (pe_d D_law_told hr (by rfl) (pa_cons (pe_op op_cat (pe_lst (pa_cons pe_int pa_nil)) (pe_lc (own := [("number", 1)]) (g := (gName 1)) (tt := tYes) (te := (tMeth C "over" (spOverQ C) [] E0 (tOp (rOwn C (spAddQ C)) (tRat C (tCons (tC (.int 0)) tNil)) (tVar 1)) (tCons (tOp (rIxL K) (tVar 0) (tUn _ (tC (.int 1)))) tNil))) rfl sc_law_bare.nd (pi_list (pe_slice (r := rSlL K) sl_list (pv 0) (po_some pe_int) po_none)) (blkOk_by (own := [("number", 1)]) (N := N_law_bare) (sc := defScope s_law_bare) (by decide +kernel)) (fun _ _ _ _ _ => pg_name (i := 1) sc_law_bare.nd rfl (.inl rfl)) (fun _ _ _ _ _ => pts_nil) (fun _ _ _ _ _ => C8.pe_mt OV (hr.mono (by omega)) (Nat.le_refl _) (pe_op (op_ownX AD (hr.mono (by omega))) (pe_rat RD (hr.mono (by omega)) (by rfl) (pa_cons pe_int pa_nil)) (pv 1)) (pa_cons (pe_ix (r := rIxL K) ix_list (pv 0) (pe_un un_neg pe_int) (fun _ _ => rfl)) pa_nil)))) pa_nil))), ?_⟩
  have lM := hM.1
  have lp := List.length_pos_iff.mpr x0
  obtain ⟨vl, hvl, nl⟩ : ∃ v, us[xs.length - 1]? = some v ∧ NumQ C H v (co xs (xs.length - 1)) := by
    have h1 : us[xs.length - 1]? = some (us[xs.length - 1]'(by omega)) := List.getElem?_eq_getElem (by omega)
    obtain ⟨x, hx, n⟩ := hM.2 _ _ h1
    exact ⟨_, h1, by rw [co_at hx]; exact n⟩
  have bl := co_allB (i := xs.length - 1) bx (by decide)
  refine ⟨by show 1 ≤ sizeLine; decide, fun c nc => ?_⟩
  have s1 := same_new (o := .lst [V.int 0]) nc
  have hc1 : (upd H c (.lst [V.int 0])) c = some (.lst [V.int 0]) := upd_same
  generalize upd H c (.lst [V.int 0]) = H1 at *
  refine ⟨_, rfl, 1, rfl, l, us, rfl, SqL.of (s1 _ _ hl), fun p np => ?_⟩
  have s2 := same_new (o := .lst (cutV us (some 1) none)) np
  have s02 := s1.trans s2
  have hc2 := s2 _ _ hc1
  have eC : cutV us (some 1) none = us.drop 1 := cut_from 1
  rw [eC] at s2 s02 hc2 ⊢
  have h2 : (upd H1 p (.lst (us.drop 1))) p = some (.lst (us.drop 1)) := upd_same
  generalize upd H1 p (.lst (us.drop 1)) = H2 at *
  have ld : (us.drop 1).length = (xs.drop 1).length := by rw [List.length_drop, List.length_drop, lM]
  refine ⟨p, rfl, ⟨_, SqL.of h2⟩, fun D nD => ?_⟩
  refine lc_rel (walk_list (K := K) (a := p) (xs := us.drop 1)) (fun i acc Hh => QL C Hh acc (((xs.drop 1).map fun x => x / co xs (xs.length - 1)).take i)) nD (by rw [sizeLine_eq, List.length_drop]; omega) (fun Hh sh => SqL.of (sh _ _ h2)) QL.nil (fun i acc A B s r => RatL.same r s) (fun i v acc Ha Hb hi sa hA hr hv Yc Nc yc nc' => ?_) (fun acc H3 s3 hD hr => ?_)
  · obtain ⟨rfl, hv⟩ := hv
    have hv1 : us[i + 1]? = some v := by rw [List.getElem?_drop, Nat.add_comm] at hv; exact hv
    obtain ⟨x, hx, nx⟩ := hM.2 _ _ hv1
    have sB := s02.trans sa
    have hx2 : (xs.drop 1)[i]? = some x := by rw [List.getElem?_drop, Nat.add_comm]; exact hx
    have b1 := bx x (List.mem_of_getElem? hx)
    refine ⟨rfl, 0, rfl, fun m0 H4 n0 s4 r0 => ⟨_, rfl, ?_⟩⟩
    have r0 : RQ C H4 m0 0 := r0
    obtain ⟨d0, hm0⟩ := id r0
    have nv := nx.same (sB.trans s4)
    refine ⟨m0, d0, _, rfl, hm0, nv.own, m0, v, 0, x, 1, 600, rfl, r0, nv, ⟨Nat.two_pow_pos _, by show (1 : Int).natAbs < 2 ^ 1; decide⟩, b1, by decide, fun m1 H5 s5 r1 => ⟨⟨m1, rfl⟩, ?_⟩⟩
    rw [Rat.zero_add] at r1
    obtain ⟨d1, hm1⟩ := id r1
    have sC := sB.trans (s4.trans s5)
    refine ⟨m1, d1, _, rfl, hm1, rfl, _, rfl, 1, rfl, l, us, -1, vl, rfl, rfl, SqL.of (sC _ _ hl), ?_, m1, vl, x, _, 600, 600, rfl, r1, nl.same sC, b1, bl, by decide, t0, fun r H6 s6 rr => yc _ H6 (s4.trans (s5.trans s6)) ?_⟩
    · obtain ⟨A, u, rfl⟩ := snoc_of (show us ≠ [] from fun e => by rw [e] at lM; simp at lM; omega)
      rw [List.length_append, List.length_singleton] at lM
      rw [show xs.length - 1 = A.length by omega, List.getElem?_append_right (Nat.le_refl _), Nat.sub_self] at hvl
      obtain rfl := Option.some.inj hvl
      exact atI_last _ _
    · rw [takeS (show ((xs.drop 1).map fun x => x / co xs (xs.length - 1))[i]? = some (x / co xs (xs.length - 1)) by rw [List.getElem?_map, hx2]; rfl)]
      exact QL.snoc (RatL.same hr (wo_mono (s4.trans (s5.trans s6)))) (Rat2.wo rr ((s4.trans (s5.trans s6)) _ _ hA))
  rw [ld, List.take_of_length_le (by rw [List.length_map]; exact Nat.le_refl _)] at hr
  have hQ := RatL.same hr (wo_le (D := D))
  have hc3 := s3 _ _ hc2
  have la := QL.len hQ
  rw [List.length_map, List.length_drop] at la
  refine ⟨c, D, _, _, rfl, rfl, hc3, hD, by rw [sizeLine_eq]; simp; omega, fun e ne => ?_⟩
  have s4 := same_new (o := .lst ([V.int 0] ++ acc)) ne
  have s04 := s02.trans (s3.trans s4)
  refine ⟨e, [V.int 0] ++ acc, 0 :: (xs.drop 1).map fun x => x / co xs (xs.length - 1), rfl, sq_of (.inl upd_same), ?_, fun x hx => ?_, by simp; omega, fun f H5 ws s5 nf hf hq => q f H5 ws (s04.trans s5) (s04.free nf) hf hq⟩
  · exact ML.app (ML.one (NumQ.int (i := 0))) (ML.of_ql (RatL.same hQ s4))
  · rcases List.mem_cons.mp hx with e2 | e2
    · rw [e2]; exact ⟨by show (0 : Int).natAbs < 2 ^ 4000; exact Nat.two_pow_pos _, by show (1 : Int).natAbs < 2 ^ 4000; decide +kernel⟩
    · obtain ⟨y, hy, rfl⟩ := List.mem_map.mp e2
      exact ((bx y (List.mem_of_mem_drop hy)).over bl t0).mono (by decide)
end
end K21

namespace Fp
abbrev intQ (zs : List Int) : List Rat := zs.map fun z : Int => (z : Rat)
theorem ints_sc {zs : List Int} {M : Nat} (h : ∀ z ∈ zs, z.natAbs ≤ M) : AllS 1 M (intQ zs) := fun x hx => by
  obtain ⟨z, hz, rfl⟩ := List.mem_map.mp hx
  exact Sc.int (h z hz)
theorem trim_sc {D : Int} {M : Nat} {xs : List Rat} (h : AllS D M xs) : AllS D M (trimQ xs) := fun x hx => h x (trimQ_mem hx)
theorem cast_div_one (s : Int) : (s : Rat) = (s : Rat) / ((1 : Int) : Rat) := by rw [Rat.intCast_one, Rat.div_def, Rat.inv_eq_of_mul_eq_one (Rat.mul_one 1), Rat.mul_one]
theorem byq_of {zs : List Int} {S : Nat} (h : ∀ z ∈ zs, z.natAbs ≤ S) (n : trimQ (intQ zs) ≠ []) : ∃ s : Int, ByQ 1 s S (trimQ (intQ zs)) := by
  obtain ⟨z, hz, e⟩ := List.mem_map.mp (trimQ_mem (mem_last n))
  have t := told_top (trimQ_told (intQ zs)) n
  refine ⟨z, n, trimQ_told _, trim_sc (ints_sc h), by rw [← e]; exact cast_div_one z, fun z0 => t ?_, by decide, h z hz⟩
  rw [← e, z0]; rfl
theorem shift_digs {X Y xs ys : List Rat} {ds es : List (List Rat)} (y0 : Y ≠ []) (ty : Told Y) (d1 : Digs Y ds) (j1 : jl Y ds = X) (d2 : Digs Y es) (j2 : jl Y es = trimQ (timesQ xs ys)) (hx : ∀ n, co X n = co xs n) (hy : ∀ n, co Y n = co ys n) :
    es = if ds = [] then [] else [] :: ds := by
  have e : ∀ n, co (trimQ (timesQ xs ys)) n = prodc Y (co X) n := fun n => by
    rw [trimQ_co, timesQ_co, prodc_congr (fun i => (hy i).symm), prodc_comm, prodc_congr (fun i => (hx i).symm)]
  split
  · rename_i z
    refine jl_nil y0 ty d2 ?_
    rw [j2]
    refine told_ext (trimQ_told _) told_nil fun n => ?_
    rw [e, ← j1, z]
    show prodc Y (co []) n = 0
    rw [prodc_nil_right]
  · rename_i z
    refine digs_unique y0 ty d2 ⟨fun d hd => ?_, fun d hd => ?_, fun d hd => ?_⟩ ?_
    · rcases List.mem_cons.mp hd with q | q
      · rw [q]; exact told_nil
      · exact d1.told d q
    · rcases List.mem_cons.mp hd with q | q
      · rw [q]; exact List.length_pos_iff.mpr y0
      · exact d1.len d q
    · cases ds with
      | nil => exact absurd rfl z
      | cons q r => rw [List.getLast?_cons_cons] at hd; exact d1.last d hd
    · rw [j2]
      refine told_ext (trimQ_told _) (jl_told _ _) fun n => ?_
      rw [e, jl_co, j1, co_nil]; grind
theorem jw_eq {X Y ys : List Rat} {ds : List (List Rat)} (tx : Told X) (j : jl Y ds = X) (hy : ∀ n, co Y n = co ys n) : trimQ (jw ys ds) = X := told_ext (trimQ_told _) tx fun n => by
  rw [trimQ_co, jw_co ys ds Y hy, j]
end Fp

namespace Fp
/-! ### digits added, empty ones taken off -/
def dueL (m : Nat) (ds es : List (List Rat)) : List (List Rat) := (List.range m).map fun i => trimQ (plusQ 1 (ds.getD i []) (es.getD i []))
theorem dueL_succ (m : Nat) (ds es : List (List Rat)) : dueL (m + 1) ds es = trimQ (plusQ 1 (ds.getD 0 []) (es.getD 0 [])) :: dueL m (ds.drop 1) (es.drop 1) := by
  unfold dueL
  rw [List.range_succ_eq_map, List.map_cons, List.map_map]
  congr 1
  refine List.map_congr_left fun i _ => ?_
  show trimQ (plusQ 1 (ds.getD (i + 1) []) (es.getD (i + 1) [])) = trimQ (plusQ 1 ((ds.drop 1).getD i []) ((es.drop 1).getD i []))
  rw [List.getD_eq_getElem?_getD, List.getD_eq_getElem?_getD, List.getD_eq_getElem?_getD, List.getD_eq_getElem?_getD, List.getElem?_drop, List.getElem?_drop, Nat.add_comm 1 i]
theorem jl_head (Y : List Rat) (ds : List (List Rat)) (n : Nat) : co (jl Y ds) n = prodc Y (co (jl Y (ds.drop 1))) n + co (ds.getD 0 []) n := by
  cases ds with
  | nil =>
    show co [] n = prodc Y (co []) n + co [] n
    rw [prodc_nil_right]; grind
  | cons d r => exact jl_co Y d r n
theorem jl_sum (Y : List Rat) : ∀ (m : Nat) (ds es : List (List Rat)), ds.length ≤ m → es.length ≤ m → ∀ n, co (jl Y (dueL m ds es)) n = co (jl Y ds) n + co (jl Y es) n
  | 0, ds, es, h1, h2, n => by
    obtain rfl := List.length_eq_zero_iff.mp (Nat.le_zero.mp h1)
    obtain rfl := List.length_eq_zero_iff.mp (Nat.le_zero.mp h2)
    show co [] n = co [] n + co [] n
    rw [co_nil]; grind
  | m + 1, ds, es, h1, h2, n => by
    have ih := jl_sum Y m (ds.drop 1) (es.drop 1) (by rw [List.length_drop]; omega) (by rw [List.length_drop]; omega)
    rw [dueL_succ, jl_co, prodc_congr ih, prodc_add, trimQ_co, plusQ_co, jl_head Y ds, jl_head Y es]
    grind
theorem jl_take (Y : List Rat) : ∀ (n : Nat) (ds : List (List Rat)), (∀ (j : Nat) d, n ≤ j → ds[j]? = some d → d = []) → ∀ m, co (jl Y (ds.take n)) m = co (jl Y ds) m
  | 0, [], _, m => rfl
  | 0, d :: ds, h, m => by
    have ih := jl_take Y 0 ds (fun j e _ he => h (j + 1) e (Nat.zero_le _) he)
    rw [List.take_zero] at ih ⊢
    rw [jl_co, prodc_congr (fun i => (ih i).symm), h 0 d (Nat.le_refl _) rfl]
    show co [] m = prodc Y (co []) m + co [] m
    rw [prodc_nil_right]; grind
  | n + 1, [], _, m => rfl
  | n + 1, d :: ds, h, m => by
    have ih := jl_take Y n ds (fun j e hj he => h (j + 1) e (by omega) he)
    rw [List.take_succ_cons, jl_co, jl_co, prodc_congr ih]
theorem jl_one {Y d : List Rat} (td : Told d) : jl Y [d] = d := told_ext (jl_told _ _) td fun n => by
  rw [jl_co]
  show prodc Y (co []) n + co d n = co d n
  rw [prodc_nil_right]; grind
end Fp

namespace Fp
/-! ### one polynomial put into another: sizes over any bottoms -/
theorem AllS.lift {D E : Int} {M n : Nat} {xs : List Rat} (h : AllS D M xs) (E0 : E ≠ 0) : AllS (D * E ^ n) (M * E.natAbs ^ n) xs := fun x hx => by
  have := (h x hx).up (E ^ n) (Int.pow_ne_zero E0)
  rw [Int.natAbs_pow] at this
  exact this
theorem jw_scE {D E : Int} {M N : Nat} {ys : List Rat} (sy : AllS E N ys) (E0 : E ≠ 0) (y0 : 0 < ys.length) : ∀ {ds : List (List Rat)}, (∀ d ∈ ds, d.length ≤ ys.length) → (∀ d ∈ ds, AllS D M d) → ds.length * ys.length ≤ 99 → AllS (D * E ^ ds.length) (M * (100 * N + E.natAbs) ^ ds.length) (jw ys ds)
  | [], _, _, _ => fun _ h => by cases h
  | d :: ds, h, g, l => by
    have l2 : ds.length * ys.length ≤ 99 := by rw [List.length_cons, Nat.add_mul] at l; omega
    have ih := jw_scE sy E0 y0 (ds := ds) (fun x hx => h x (List.mem_cons_of_mem _ hx)) (fun x hx => g x (List.mem_cons_of_mem _ hx)) l2
    have jl := jw_len y0 (ds := ds) fun x hx => h x (List.mem_cons_of_mem _ hx)
    have t := timesQ_sc ih sy
    have gd : AllS (D * E ^ (ds.length + 1)) (M * E.natAbs ^ (ds.length + 1)) d := (g d List.mem_cons_self).lift E0
    have eE : D * E ^ ds.length * E = D * E ^ (ds.length + 1) := by rw [Int.pow_succ, Int.mul_assoc]
    rw [eE] at t
    have p := plusQ_sc (c := 1) (ys := d) (N := M * E.natAbs ^ (ds.length + 1)) t fun n => by rw [Rat.one_mul]; exact gd.co n
    intro x hx
    refine (p x hx).mono ?_
    have e1 : M * E.natAbs ^ ds.length ≤ M * (100 * N + E.natAbs) ^ ds.length := Nat.mul_le_mul_left _ (Nat.pow_le_pow_left (by omega) _)
    have e2 := Nat.mul_le_mul_right E.natAbs e1
    have e3 : M * (100 * N + E.natAbs) ^ (d :: ds).length = M * (100 * N + E.natAbs) ^ ds.length * (100 * N + E.natAbs) := by rw [List.length_cons, Nat.pow_succ, Nat.mul_assoc]
    have e5 : M * E.natAbs ^ (ds.length + 1) = M * E.natAbs ^ ds.length * E.natAbs := by rw [Nat.pow_succ, Nat.mul_assoc]
    rw [e3, e5]
    generalize M * (100 * N + E.natAbs) ^ ds.length = X at *
    have e6 : (jw ys ds).length * (X * N) ≤ 100 * (X * N) := Nat.mul_le_mul_right _ (by omega)
    have e4 : X * (100 * N + E.natAbs) = 100 * (X * N) + X * E.natAbs := by rw [Nat.mul_add, Nat.mul_left_comm]
    omega
/-- composition, as numbers: what is put in is told by its digits -/
theorem jl_sing_len {ys : List Rat} {xs : List Rat} (y2 : 2 ≤ ys.length) (tx : Told xs) : Digs ys (xs.map fun x => trimQ [x]) := by
  refine ⟨fun d hd => ?_, fun d hd => ?_, fun d hd => ?_⟩
  · obtain ⟨x, _, rfl⟩ := List.mem_map.mp hd
    exact trimQ_told _
  · obtain ⟨x, _, rfl⟩ := List.mem_map.mp hd
    have := trimQ_len [x]
    rw [List.length_singleton] at this
    omega
  · rw [List.getLast?_map] at hd
    cases e : xs.getLast? with
    | none => rw [e] at hd; cases hd
    | some x =>
      rw [e] at hd
      obtain rfl := Option.some.inj hd
      have x0 : x ≠ 0 := tx x e
      show trimQ [x] ≠ []
      rw [show trimQ [x] = [x] from trimQ_nz (A := []) x0]
      exact List.cons_ne_nil _ _
end Fp

namespace Fp
/-! ### one polynomial put into another: what outer ones are -/
abbrev tsing (xs : List Rat) : List (List Rat) := xs.map fun x => trimQ [x]
abbrev osing (xs : List Rat) : List (List Rat) := xs.map fun x => [x]
theorem jl_cong {Y : List Rat} : ∀ {ds es : List (List Rat)}, ds.length = es.length → (∀ (i : Nat) n, co (ds.getD i []) n = co (es.getD i []) n) → ∀ n, co (jl Y ds) n = co (jl Y es) n
  | [], [], _, _, _ => rfl
  | [], _ :: _, h, _, _ => by simp at h
  | _ :: _, [], h, _, _ => by simp at h
  | d :: ds, e :: es, h, g, n => by
    rw [jl_co, jl_co, prodc_congr (jl_cong (by simpa using h) fun i n => g (i + 1) n), show co d n = co e n from g 0 n]
theorem jl_ts (Y xs : List Rat) (n : Nat) : co (jl Y (tsing xs)) n = co (jl Y (osing xs)) n := by
  refine jl_cong (by simp) (fun i n => ?_) n
  rw [List.getD_eq_getElem?_getD, List.getD_eq_getElem?_getD, List.getElem?_map, List.getElem?_map]
  cases xs[i]? with
  | none => rfl
  | some x => exact trimQ_co [x] n
/-- the head of what is put together of numbers -/
theorem jo_head (Y xs : List Rat) (n : Nat) : co (jl Y (osing xs)) n = prodc Y (co (jl Y (osing (xs.drop 1)))) n + single 0 (co xs 0) n := by
  rw [jl_head]
  congr 1
  · rw [← List.map_drop]
  · cases xs with
    | nil => show co [] n = single 0 (co [] 0) n; unfold single; split <;> rfl
    | cons x r =>
      show co [x] n = single 0 x n
      unfold single
      cases n with
      | zero => rfl
      | succ n => rw [if_neg (by omega), co_out (by simp)]
theorem co_drop1 (xs : List Rat) (n : Nat) : co (xs.drop 1) n = co xs (n + 1) := by rw [co_drop, Nat.add_comm]
theorem prodc_mul (xs : List Rat) (c : Rat) (g : Nat → Rat) (n : Nat) : prodc xs (fun i => c * g i) n = c * prodc xs g n := by
  unfold prodc
  rw [← sumN_mul]
  refine sumN_congr fun i _ => ?_
  unfold sh
  split <;> grind
theorem jo_lin (Y : List Rat) (c : Rat) : ∀ (m : Nat) (xs ys zs : List Rat), xs.length ≤ m → ys.length ≤ m → zs.length ≤ m → (∀ i, co zs i = co xs i + c * co ys i) → ∀ n, co (jl Y (osing zs)) n = co (jl Y (osing xs)) n + c * co (jl Y (osing ys)) n
  | 0, xs, ys, zs, h1, h2, h3, _, n => by
    obtain rfl := List.length_eq_zero_iff.mp (Nat.le_zero.mp h1)
    obtain rfl := List.length_eq_zero_iff.mp (Nat.le_zero.mp h2)
    obtain rfl := List.length_eq_zero_iff.mp (Nat.le_zero.mp h3)
    show co [] n = co [] n + c * co [] n
    rw [co_nil]; grind
  | m + 1, xs, ys, zs, h1, h2, h3, h, n => by
    have ih := jo_lin Y c m (xs.drop 1) (ys.drop 1) (zs.drop 1) (by rw [List.length_drop]; omega) (by rw [List.length_drop]; omega) (by rw [List.length_drop]; omega) (fun i => by rw [co_drop1, co_drop1, co_drop1]; exact h (i + 1))
    have e : ∀ i, co (jl Y (osing (zs.drop 1))) i = (fun i => co (jl Y (osing (xs.drop 1))) i + (fun i => c * co (jl Y (osing (ys.drop 1))) i) i) i := fun i => ih i
    rw [jo_head Y zs, jo_head Y xs, jo_head Y ys, prodc_congr e, prodc_add, prodc_mul, h 0]
    unfold single
    split <;> grind
theorem jo_congr (Y : List Rat) {xs ys : List Rat} (h : ∀ i, co xs i = co ys i) (n : Nat) : co (jl Y (osing xs)) n = co (jl Y (osing ys)) n := by
  have := jo_lin Y 0 (max xs.length ys.length) xs [] ys (by omega) (by simp) (by omega) (fun i => by rw [h i, co_nil]; grind) n
  rw [this]; grind
theorem jo_trim (Y xs : List Rat) (n : Nat) : co (jl Y (osing (trimQ xs))) n = co (jl Y (osing xs)) n := jo_congr Y (trimQ_co xs) n
/-- how long it is -/
theorem jo_len {Y : List Rat} (y2 : 2 ≤ Y.length) (ty : Told Y) : ∀ (xs : List Rat), Told xs → xs ≠ [] → (jl Y (osing xs)).length = (xs.length - 1) * (Y.length - 1) + 1
  | [], _, h => absurd rfl h
  | [x], t, _ => by
    have e : jl Y (osing [x]) = [x] := jl_one (show Told [x] from t)
    rw [e]; simp
  | x :: y :: r, t, _ => by
    have t2 : Told (y :: r) := fun z hz => t z (by rw [List.getLast?_cons_cons]; exact hz)
    have ih := jo_len y2 ty (y :: r) t2 (List.cons_ne_nil _ _)
    generalize hZ : jl Y (osing (y :: r)) = Z at ih
    have tZ : Told Z := by rw [← hZ]; exact jl_told _ _
    have z0 : Z ≠ [] := fun e => by rw [e] at ih; simp at ih
    have zl : 0 < Z.length := List.length_pos_iff.mpr z0
    have tl := timesQ_len Y Z
    have tt : Told (timesQ Y Z) := prod_told ty tZ (fun e => by rw [e] at y2; simp at y2) z0 tl (timesQ_co Y Z)
    have w : Told (plusQ 1 (timesQ Y Z) [x]) := told_of_top fun _ => by
      rw [plusQ_len, List.length_singleton, plusQ_co, co_out (xs := [x]) (by rw [List.length_singleton]; omega)]
      have := told_top tt (fun e => by rw [e] at tl; simp at tl; omega)
      rw [show max (timesQ Y Z).length 1 - 1 = (timesQ Y Z).length - 1 by omega]
      intro e
      exact this (by grind)
    show (trimQ (plusQ 1 (timesQ Y (jl Y (osing (y :: r)))) [x])).length = _
    rw [hZ, trimQ_id w, plusQ_len, tl, List.length_singleton, ih]
    simp only [List.length_cons, Nat.add_sub_cancel]
    rw [Nat.add_mul]
    generalize r.length * (Y.length - 1) = q
    omega
/-- digits that are numbers -/
theorem sing_of {Y : List Rat} {ds : List (List Rat)} (d : Digs Y ds) (one : ∀ x ∈ ds, x.length ≤ 1) : ds = tsing (ds.map fun x => co x 0) ∧ Told (ds.map fun x => co x 0) := by
  refine ⟨?_, fun z hz => ?_⟩
  · unfold tsing
    rw [List.map_map]
    refine (List.map_id ds).symm.trans (List.map_congr_left fun x hx => ?_)
    show x = trimQ [co x 0]
    have l := one x hx
    match x, l, d.told x hx with
    | [], _, _ => exact (trimQ_zero (A := []) rfl).symm
    | [a], _, t => exact (trimQ_nz (A := []) (t a rfl)).symm
  · rw [List.getLast?_map] at hz
    cases e : ds.getLast? with
    | none => rw [e] at hz; cases hz
    | some x =>
      rw [e] at hz
      obtain rfl := Option.some.inj hz
      have n := d.last x e
      have mx := List.mem_of_getLast? e
      match x, one x mx, d.told x mx, n with
      | [], _, _, n => exact absurd rfl n
      | [a], _, t, _ => exact t a rfl
theorem ts_one (zs : List Rat) : ∀ x ∈ tsing zs, x.length ≤ 1 := fun x hx => by
  obtain ⟨z, _, rfl⟩ := List.mem_map.mp hx
  have := trimQ_len [z]
  simpa using this
theorem ts_co (zs : List Rat) : (tsing zs).map (fun x => co x 0) = zs := by
  rw [List.map_map]
  refine (List.map_congr_left fun x _ => ?_).trans (List.map_id zs)
  show co (trimQ [x]) 0 = x
  rw [trimQ_co]; rfl
/-- what was put together of numbers is told back -/
theorem outer_back {Y zs : List Rat} {ds : List (List Rat)} (y0 : Y ≠ []) (y2 : 2 ≤ Y.length) (ty : Told Y) (tz : Told zs) (d : Digs Y ds) (e : ∀ n, co (jl Y ds) n = co (jl Y (osing zs)) n) : ds = tsing zs :=
  digs_unique y0 ty d (jl_sing_len y2 tz) (told_ext (jl_told _ _) (jl_told _ _) fun n => by rw [e n, jl_ts])
/-- a power more that is no multiple -/
theorem no_outer {Y zs : List Rat} {ds : List (List Rat)} {c : Rat} {m : Nat} (y2 : 2 ≤ Y.length) (ty : Told Y) (c0 : c ≠ 0) (d : Digs Y ds) (e : ∀ n, co (jl Y ds) n = co (jl Y (osing zs)) n + single m c n) (one : ∀ x ∈ ds, x.length ≤ 1) : m % (Y.length - 1) = 0 := by
  obtain ⟨ed, tw⟩ := sing_of d one
  generalize ds.map (fun x => co x 0) = ws at *
  subst ed
  have lin := jo_lin Y (-1) (max ws.length zs.length) ws zs (plusQ (-1) ws zs) (by omega) (by omega) (by rw [plusQ_len]; omega) (plusQ_co (-1) ws zs)
  have eU : ∀ n, co (jl Y (osing (trimQ (plusQ (-1) ws zs)))) n = single m c n := fun n => by
    have := e n
    rw [jl_ts] at this
    rw [jo_trim, lin n, this]; grind
  generalize hU : trimQ (plusQ (-1) ws zs) = us at *
  have tu : Told us := by rw [← hU]; exact trimQ_told _
  by_cases u0 : us = []
  · have := eU m
    rw [u0] at this
    exact absurd (by unfold single at this; rw [if_pos rfl] at this; exact this.symm) c0
  have len := jo_len y2 ty us tu u0
  have tj := jl_told Y (osing us)
  have top := told_top tj (fun z => by rw [z] at len; simp at len)
  rw [eU, len, Nat.add_sub_cancel] at top
  unfold single at top
  by_cases h : (us.length - 1) * (Y.length - 1) = m
  · rw [← h]; exact Nat.mul_mod_left _ _
  · rw [if_neg h] at top; exact absurd rfl top
theorem prodc_id (n : Nat) (g : Nat → Rat) : prodc [0, 1] g n = if n = 0 then 0 else g (n - 1) := by
  show (0 + (0 : Rat) * sh 0 g n) + 1 * sh 1 g n = _
  unfold sh
  by_cases h : n = 0
  · subst h; simp; grind
  · rw [if_neg (by omega), if_neg (by omega), if_neg h]; grind
/-- by t -/
theorem jo_id : ∀ (xs : List Rat) (n : Nat), co (jl [0, 1] (osing xs)) n = co xs n
  | [], n => rfl
  | x :: xs, n => by
    rw [jo_head, prodc_id]
    unfold single
    show (if n = 0 then 0 else co (jl [0, 1] (osing xs)) (n - 1)) + (if n = 0 then x else 0) = _
    rw [jo_id xs]
    cases n with
    | zero => show (0 : Rat) + x = x; grind
    | succ n => show co xs n + 0 = co xs n; grind
/-- by itself -/
theorem jo_self (Y : List Rat) (n : Nat) : co (jl Y (osing [0, 1])) n = co Y n := by
  rw [jo_head]
  show prodc Y (co (jl Y [[1]])) n + single 0 0 n = co Y n
  rw [jl_one (show Told [1] from fun z hz => by obtain rfl := Option.some.inj hz; decide), prodc_one Y 1 [1] fun i => by
    unfold single
    cases i with
    | zero => rfl
    | succ i => rw [if_neg (by omega), co_out (by simp)]]
  unfold single
  split <;> grind
theorem told_id : Told [0, 1] := fun z hz => by obtain rfl := Option.some.inj hz; decide
/-- t, by a line, and back -/
theorem jo_line {b0 b1 : Rat} (h : b1 ≠ 0) (n : Nat) : co (jl [b0, b1] (osing [-b0 / b1, 1 / b1])) n = co [0, 1] n := by
  have e1 : b1 * (1 / b1) = 1 := by rw [Rat.div_def, Rat.one_mul, Rat.mul_inv_cancel _ h]
  have e2 : -b0 / b1 = -b0 * (1 / b1) := by rw [Rat.div_def, Rat.div_def, Rat.one_mul]
  rw [jo_head]
  show prodc [b0, b1] (co (jl [b0, b1] [[1 / b1]])) n + single 0 (-b0 / b1) n = _
  have t1 : Told [1 / b1] := fun z hz => by
    have hz : 1 / b1 = z := Option.some.inj hz
    intro w
    rw [hz, w] at e1; grind
  rw [jl_one t1, e2]
  generalize 1 / b1 = q at *
  show ((0 + b0 * sh 0 (co [q]) n) + b1 * sh 1 (co [q]) n) + single 0 (-b0 * q) n = _
  unfold sh single
  match n with
  | 0 => show ((0 + b0 * q) + b1 * 0) + -b0 * q = 0; grind
  | 1 => show ((0 + b0 * 0) + b1 * q) + 0 = 1; grind
  | n + 2 =>
    rw [if_neg (by omega), if_neg (by omega), if_neg (by omega), co_out (by simp), co_out (by simp), co_out (by simp)]; grind
theorem jo_back {b0 b1 : Rat} (h : b1 ≠ 0) (n : Nat) : co (jl [-b0 / b1, 1 / b1] (osing [b0, b1])) n = co [0, 1] n := by
  have e1 : b1 * (1 / b1) = 1 := by rw [Rat.div_def, Rat.one_mul, Rat.mul_inv_cancel _ h]
  have e2 : -b0 / b1 = -b0 * (1 / b1) := by rw [Rat.div_def, Rat.div_def, Rat.one_mul]
  rw [jo_head, e2]
  generalize 1 / b1 = q at *
  show prodc [-b0 * q, q] (co (jl [-b0 * q, q] [[b1]])) n + single 0 b0 n = _
  rw [jl_one (show Told [b1] from fun z hz => by obtain rfl := Option.some.inj hz; exact h)]
  show ((0 + -b0 * q * sh 0 (co [b1]) n) + q * sh 1 (co [b1]) n) + single 0 b0 n = _
  unfold sh single
  match n with
  | 0 => show ((0 + -b0 * q * b1) + q * 0) + b0 = 0; grind
  | 1 => show ((0 + -b0 * q * 0) + q * b1) + 0 = 1; grind
  | n + 2 =>
    rw [if_neg (by omega), if_neg (by omega), if_neg (by omega), co_out (by simp), co_out (by simp), co_out (by simp)]; grind
/-- as the law puts it together -/
theorem jw_jo {ys Y : List Rat} (h : ∀ n, co Y n = co ys n) (xs : List Rat) (n : Nat) : co (jw ys (osing xs)) n = co (jl Y (osing xs)) n := jw_co ys _ Y h n
theorem jw_scL {D E : Int} {M N L : Nat} {ys : List Rat} (sy : AllS E N ys) (E0 : E ≠ 0) (y0 : 0 < ys.length) : ∀ {ds : List (List Rat)}, (∀ d ∈ ds, d.length ≤ ys.length) → (∀ d ∈ ds, AllS D M d) → ds.length * ys.length ≤ L → AllS (D * E ^ ds.length) (M * (L * N + E.natAbs) ^ ds.length) (jw ys ds)
  | [], _, _, _ => fun _ h => by cases h
  | d :: ds, h, g, l => by
    have l2 : ds.length * ys.length ≤ L := by rw [List.length_cons, Nat.add_mul] at l; omega
    have ih := jw_scL sy E0 y0 (ds := ds) (fun x hx => h x (List.mem_cons_of_mem _ hx)) (fun x hx => g x (List.mem_cons_of_mem _ hx)) l2
    have jl := jw_len y0 (ds := ds) fun x hx => h x (List.mem_cons_of_mem _ hx)
    have t := timesQ_sc ih sy
    have gd : AllS (D * E ^ (ds.length + 1)) (M * E.natAbs ^ (ds.length + 1)) d := (g d List.mem_cons_self).lift E0
    have eE : D * E ^ ds.length * E = D * E ^ (ds.length + 1) := by rw [Int.pow_succ, Int.mul_assoc]
    rw [eE] at t
    have p := plusQ_sc (c := 1) (ys := d) (N := M * E.natAbs ^ (ds.length + 1)) t fun n => by rw [Rat.one_mul]; exact gd.co n
    intro x hx
    refine (p x hx).mono ?_
    have e1 : M * E.natAbs ^ ds.length ≤ M * (L * N + E.natAbs) ^ ds.length := Nat.mul_le_mul_left _ (Nat.pow_le_pow_left (by omega) _)
    have e2 := Nat.mul_le_mul_right E.natAbs e1
    have e3 : M * (L * N + E.natAbs) ^ (d :: ds).length = M * (L * N + E.natAbs) ^ ds.length * (L * N + E.natAbs) := by rw [List.length_cons, Nat.pow_succ, Nat.mul_assoc]
    have e5 : M * E.natAbs ^ (ds.length + 1) = M * E.natAbs ^ ds.length * E.natAbs := by rw [Nat.pow_succ, Nat.mul_assoc]
    rw [e3, e5]
    generalize M * (L * N + E.natAbs) ^ ds.length = X at *
    have e6 : (jw ys ds).length * (X * N) ≤ L * (X * N) := Nat.mul_le_mul_right _ (by omega)
    have e4 : X * (L * N + E.natAbs) = L * (X * N) + X * E.natAbs := by rw [Nat.mul_add, Nat.mul_left_comm]
    omega
theorem osing_sc {D : Int} {M : Nat} {xs : List Rat} (h : AllS D M xs) : ∀ d ∈ osing xs, AllS D M d := fun d hd z hz => by
  obtain ⟨x, hx, rfl⟩ := List.mem_map.mp hd
  rw [List.mem_singleton.mp hz]; exact h x hx
theorem osing_one {xs ys : List Rat} (y0 : 0 < ys.length) : ∀ d ∈ osing xs, d.length ≤ ys.length := fun d hd => by
  obtain ⟨x, _, rfl⟩ := List.mem_map.mp hd
  exact y0
theorem AllS.conv {D E : Int} {M N : Nat} {xs : List Rat} (h : AllS D M xs) (e : E = D) (l : M ≤ N) : AllS E N xs := fun x hx => by rw [e]; exact (h x hx).mono l
theorem pow_mono {a b m n : Nat} (h : m ≤ n) (l : a ≤ b) (b1 : 1 ≤ b) : a ^ m ≤ b ^ n := Nat.le_trans (Nat.pow_le_pow_left l m) (Nat.pow_le_pow_right b1 h)
/-- put in, small: over one bottom that does not hang on the length -/
theorem jw_small {D E F : Int} {M N L n B : Nat} {xs ys : List Rat} (sx : AllS D M xs) (sy : AllS E N ys) (E0 : E ≠ 0) (y0 : 0 < ys.length) (l : xs.length * ys.length ≤ L) (ln : xs.length ≤ n) (eF : F = D * E ^ n) (hB : M * (L * N + E.natAbs) ^ n ≤ B) : AllS F B (jw ys (osing xs)) := by
  have lo : (osing xs).length = xs.length := by simp
  have h := jw_scL sy E0 y0 (ds := osing xs) (osing_one y0) (osing_sc sx) (by rw [lo]; exact l)
  rw [lo] at h
  obtain ⟨k, rfl⟩ := Nat.exists_eq_add_of_le ln
  have h2 : AllS (D * E ^ xs.length * E ^ k) (M * (L * N + E.natAbs) ^ xs.length * E.natAbs ^ k) (jw ys (osing xs)) := h.lift E0
  refine h2.conv (by rw [eF, Int.pow_add, Int.mul_assoc]) (Nat.le_trans ?_ hB)
  rw [Nat.pow_add, ← Nat.mul_assoc]
  exact Nat.mul_le_mul_left _ (Nat.pow_le_pow_left (by omega) _)
end Fp

namespace Fp
/-! ### numbers packed into one -/
def pk (w : Nat) : List Int → Int
  | [] => 0
  | x :: r => x + 2 ^ w * pk w r
theorem p2pos (n : Nat) : (0 : Int) < 2 ^ n := Int.pow_pos (by decide)
theorem p2add (a b : Nat) : (2 : Int) ^ (a + b) = 2 ^ a * 2 ^ b := Int.pow_add 2 a b
theorem pk_app (w : Nat) : ∀ (xs ys : List Int), pk w (xs ++ ys) = pk w xs + 2 ^ (w * xs.length) * pk w ys
  | [], ys => by show pk w ys = 0 + 2 ^ (w * 0) * pk w ys; simp
  | x :: xs, ys => by
    show x + 2 ^ w * pk w (xs ++ ys) = x + 2 ^ w * pk w xs + 2 ^ (w * (xs.length + 1)) * pk w ys
    rw [pk_app w xs ys, Nat.mul_add, Nat.mul_one, p2add, Int.mul_add]
    generalize (2 : Int) ^ w = a
    generalize (2 : Int) ^ (w * xs.length) = b
    grind
/-- two by two -/
def pairs (w : Nat) : List Int → List Int
  | [] => []
  | [a] => [a + 0 * 2 ^ w]
  | a :: b :: r => (a + b * 2 ^ w) :: pairs w r
theorem pairs_pk (w : Nat) : ∀ xs : List Int, pk (2 * w) (pairs w xs) = pk w xs
  | [] => rfl
  | [a] => by show a + 0 * 2 ^ w + 2 ^ (2 * w) * 0 = a + 2 ^ w * 0; grind
  | a :: b :: r => by
    show a + b * 2 ^ w + 2 ^ (2 * w) * pk (2 * w) (pairs w r) = a + 2 ^ w * (b + 2 ^ w * pk w r)
    rw [pairs_pk w r, Nat.two_mul, p2add]; grind
theorem pairs_len (w : Nat) : ∀ xs : List Int, (pairs w xs).length = (xs.length + 1) / 2
  | [] => by simp [pairs]
  | [_] => by simp [pairs]
  | _ :: _ :: r => by
    show (pairs w r).length + 1 = (r.length + 2 + 1) / 2
    rw [pairs_len w r]; omega
theorem pairs_at (w : Nat) : ∀ (xs : List Int) (i : Nat), (pairs w xs)[i]? = (xs[2 * i]?).map fun a => a + (xs[2 * i + 1]?).getD 0 * 2 ^ w
  | [], i => by simp [pairs]
  | [a], 0 => rfl
  | [a], i + 1 => by show ([] : List Int)[i]? = (([] : List Int)[2 * i + 1]?).map _; simp
  | a :: b :: r, 0 => rfl
  | a :: b :: r, i + 1 => pairs_at w r i
/-- how large the parts are -/
def PkB (b w : Nat) (xs : List Int) : Prop := ∀ x ∈ xs, x.natAbs ≤ 2 ^ b * (2 ^ w - 1)
theorem PkB.pairs {b w : Nat} : ∀ {xs : List Int}, PkB b w xs → PkB b (2 * w) (pairs w xs)
  | [], _ => fun x h => by cases h
  | [a], h => fun x hx => by
    rw [show x = a + 0 * 2 ^ w from List.mem_singleton.mp hx, Int.zero_mul, Int.add_zero]
    refine Nat.le_trans (h a (List.mem_singleton.mpr rfl)) (Nat.mul_le_mul_left _ ?_)
    have := Nat.pow_le_pow_right (show 0 < 2 by decide) (show w ≤ 2 * w by omega)
    omega
  | a :: b' :: r, h => fun x hx => by
    rcases List.mem_cons.mp hx with e | e
    · have h1 := h a List.mem_cons_self
      have h2 := h b' (List.mem_cons_of_mem _ List.mem_cons_self)
      rw [e]
      have h3 := Int.natAbs_add_le a (b' * 2 ^ w)
      rw [Int.natAbs_mul, Int.natAbs_pow] at h3
      have h4 := Nat.mul_le_mul_right (2 ^ w) h2
      have e5 : 2 ^ b * (2 ^ (2 * w) - 1) = 2 ^ b * (2 ^ w - 1) + 2 ^ b * (2 ^ w - 1) * 2 ^ w := by
        have p := Nat.two_pow_pos w
        obtain ⟨q, hq⟩ : ∃ q, 2 ^ w = q + 1 := ⟨2 ^ w - 1, by omega⟩
        rw [Nat.two_mul, Nat.pow_add, hq]
        have : (q + 1) * (q + 1) - 1 = q + q * (q + 1) := by grind
        rw [this]
        grind
      rw [e5]
      have e6 : (2 : Int).natAbs ^ w = 2 ^ w := rfl
      rw [e6] at h3
      omega
    · exact PkB.pairs (xs := r) (fun y hy => h y (List.mem_cons_of_mem _ (List.mem_cons_of_mem _ hy))) x e
theorem PkB.start {b w : Nat} {xs : List Int} (h : ∀ x ∈ xs, x.natAbs ≤ 2 ^ b) (w1 : 1 ≤ w) : PkB b w xs := fun x hx => by
  refine Nat.le_trans (h x hx) (Nat.le_mul_of_pos_right _ ?_)
  have := Nat.pow_le_pow_right (show 0 < 2 by decide) w1
  omega
theorem PkB.bits {b w : Nat} {xs : List Int} (h : PkB b w xs) {x : Int} (hx : x ∈ xs) : x.natAbs < 2 ^ (b + w) := by
  have := h x hx
  rw [Nat.pow_add]
  refine Nat.lt_of_le_of_lt this ?_
  have p1 := Nat.two_pow_pos b
  have p2 := Nat.two_pow_pos w
  exact Nat.mul_lt_mul_of_pos_left (by omega) p1
/-! ### and back -/
/-- rests of a slot each -/
def InS (w : Nat) (ds : List Int) : Prop := ∀ d ∈ ds, 0 ≤ d ∧ d < 2 ^ w
theorem pk_in {w : Nat} : ∀ {ds : List Int}, InS w ds → 0 ≤ pk w ds ∧ pk w ds < 2 ^ (w * ds.length)
  | [], _ => ⟨Int.le_refl _, by show (0 : Int) < 2 ^ (w * 0); simp⟩
  | d :: r, h => by
    obtain ⟨a, b⟩ := pk_in (ds := r) fun x hx => h x (List.mem_cons_of_mem _ hx)
    obtain ⟨d0, d1⟩ := h d List.mem_cons_self
    have p := p2pos w
    refine ⟨?_, ?_⟩
    · have := Int.mul_nonneg (Int.le_of_lt p) a
      show 0 ≤ d + 2 ^ w * pk w r
      omega
    · show d + 2 ^ w * pk w r < 2 ^ (w * (r.length + 1))
      rw [Nat.mul_add, Nat.mul_one, p2add, Int.mul_comm (2 ^ (w * r.length))]
      have : 2 ^ w * (pk w r + 1) ≤ 2 ^ w * 2 ^ (w * r.length) := Int.mul_le_mul_of_nonneg_left (by omega) (Int.le_of_lt p)
      rw [Int.mul_add, Int.mul_one] at this
      omega
/-- parted in the middle -/
theorem pk_low {w : Nat} {as bs : List Int} (h : InS w as) : pk w (as ++ bs) % 2 ^ (w * as.length) = pk w as := by
  obtain ⟨a, b⟩ := pk_in h
  rw [pk_app, Int.add_mul_emod_self_left, Int.emod_eq_of_lt a b]
theorem pk_high {w : Nat} {as bs : List Int} (h : InS w as) : pk w (as ++ bs) / 2 ^ (w * as.length) = pk w bs := by
  obtain ⟨a, b⟩ := pk_in h
  rw [pk_app, Int.add_mul_ediv_left _ _ (Int.ne_of_gt (p2pos _)), Int.ediv_eq_zero_of_lt a b, Int.zero_add]
/-- each one parted -/
def split2 (w : Nat) (xs : List Int) : List Int := (xs.map fun x => [x % 2 ^ w, x / 2 ^ w]).flatten
/-- the packed pieces of k numbers each -/
def pieces (w k : Nat) : Nat → List Int → List Int
  | 0, _ => []
  | n + 1, ds => pk w (ds.take k) :: pieces w k n (ds.drop k)
theorem pieces_split {w k : Nat} : ∀ (n : Nat) {ds : List Int}, InS w ds → ds.length = n * (2 * k) → split2 (w * k) (pieces w (2 * k) n ds) = pieces w k (2 * n) ds
  | 0, _, _, _ => rfl
  | n + 1, ds, h, l => by
    have e : ds.take (2 * k) = ds.take k ++ (ds.drop k).take k := by rw [Nat.two_mul, List.take_add]
    have l1 : (ds.take k).length = k := by rw [List.length_take]; rw [Nat.add_mul] at l; omega
    have hi : InS w (ds.take k) := fun d hd => h d (List.mem_of_mem_take hd)
    have ih := pieces_split (w := w) (k := k) n (ds := ds.drop (2 * k)) (fun d hd => h d (List.mem_of_mem_drop hd)) (by rw [List.length_drop, l, Nat.add_mul]; omega)
    show [pk w (ds.take (2 * k)) % 2 ^ (w * k), pk w (ds.take (2 * k)) / 2 ^ (w * k)] ++ split2 (w * k) (pieces w (2 * k) n (ds.drop (2 * k))) = _
    have lo := pk_low (w := w) (bs := (ds.drop k).take k) hi
    have hh := pk_high (w := w) (bs := (ds.drop k).take k) hi
    rw [l1] at lo hh
    rw [ih, e, lo, hh, show 2 * (n + 1) = 2 * n + 1 + 1 by omega]
    show _ = pk w (ds.take k) :: pk w ((ds.drop k).take k) :: pieces w k (2 * n) ((ds.drop k).drop k)
    rw [List.drop_drop, ← Nat.two_mul]; rfl
theorem pieces_one {w : Nat} : ∀ (n : Nat) {ds : List Int}, ds.length = n → pieces w 1 n ds = ds
  | 0, ds, l => (List.length_eq_zero_iff.mp l).symm
  | n + 1, [], l => by simp at l
  | n + 1, d :: r, l => by
    show pk w [d] :: pieces w 1 n r = d :: r
    rw [pieces_one n (by simpa using l)]
    congr 1
    show d + 2 ^ w * 0 = d
    omega
theorem pieces_len (w k : Nat) : ∀ (n : Nat) (ds : List Int), (pieces w k n ds).length = n
  | 0, _ => rfl
  | n + 1, ds => by show (pieces w k n (ds.drop k)).length + 1 = n + 1; rw [pieces_len w k n]
/-- all halves -/
def halves (w : Nat) : Nat → Int
  | 0 => 2 ^ (w - 1)
  | j + 1 => halves w j + halves w j * 2 ^ (w * 2 ^ j)
theorem halves_pk (w : Nat) : ∀ j, halves w j = pk w (List.replicate (2 ^ j) (2 ^ (w - 1)))
  | 0 => by show _ = (2 : Int) ^ (w - 1) + 2 ^ w * 0; show (2 : Int) ^ (w - 1) = _; omega
  | j + 1 => by
    show halves w j + halves w j * 2 ^ (w * 2 ^ j) = _
    rw [Nat.pow_succ, Nat.mul_two, ← List.replicate_append_replicate, pk_app, List.length_replicate, ← halves_pk w j, Int.mul_comm]
theorem halves_bits {w : Nat} (w1 : 1 ≤ w) (j : Nat) : (halves w j).natAbs < 2 ^ (w * 2 ^ j) := by
  have h : InS w (List.replicate (2 ^ j) ((2 : Int) ^ (w - 1))) := fun d hd => by
    rw [(List.mem_replicate.mp hd).2]
    have e : (2 : Int) ^ w = 2 ^ (w - 1) + 2 ^ (w - 1) := by
      have := p2add (w - 1) 1
      rw [show w - 1 + 1 = w by omega] at this
      rw [this]; omega
    have p := p2pos (w - 1)
    omega
  obtain ⟨a, b⟩ := pk_in h
  rw [← halves_pk, List.length_replicate] at b
  rw [← halves_pk] at a
  have b2 : ((halves w j).natAbs : Int) < ((2 ^ (w * 2 ^ j) : Nat) : Int) := by
    rw [Int.natAbs_of_nonneg a]
    exact_mod_cast b
  exact_mod_cast b2
theorem split2_snoc (w : Nat) (xs : List Int) (x : Int) : split2 w (xs ++ [x]) = split2 w xs ++ [x % 2 ^ w, x / 2 ^ w] := by
  unfold split2; rw [List.map_append, List.flatten_append]; simp
theorem split2_len (w : Nat) (xs : List Int) : (split2 w xs).length = 2 * xs.length := by
  induction xs with
  | nil => rfl
  | cons x r ih =>
    show ([x % 2 ^ w, x / 2 ^ w] ++ split2 w r).length = 2 * (r.length + 1)
    rw [List.length_append, ih]; show 2 + _ = _; omega
theorem pk_add (w : Nat) : ∀ (xs ys : List Int), xs.length = ys.length → pk w xs + pk w ys = pk w (List.zipWith (· + ·) xs ys)
  | [], [], _ => rfl
  | [], _ :: _, h => by simp at h
  | _ :: _, [], h => by simp at h
  | x :: xs, y :: ys, h => by
    have := pk_add w xs ys (by simpa using h)
    show x + 2 ^ w * pk w xs + (y + 2 ^ w * pk w ys) = x + y + 2 ^ w * pk w (List.zipWith (· + ·) xs ys)
    rw [← this]; grind
theorem pk_zeros (w : Nat) : ∀ n, pk w (List.replicate n 0) = 0
  | 0 => rfl
  | n + 1 => by show 0 + 2 ^ w * pk w (List.replicate n 0) = 0; rw [pk_zeros w n]; simp
/-- the whole way back -/
theorem unpack {w j : Nat} {cs : List Int} (w1 : 1 ≤ w) (l : cs.length ≤ 2 ^ j) (h : ∀ c ∈ cs, c.natAbs < 2 ^ (w - 1)) :
    ∃ ds : List Int, InS w ds ∧ ds.length = 2 ^ j ∧ pk w cs + halves w j = pk w ds ∧ ds.map (fun d => d - 2 ^ (w - 1)) = cs ++ List.replicate (2 ^ j - cs.length) 0 := by
  refine ⟨(cs ++ List.replicate (2 ^ j - cs.length) 0).map fun c => c + 2 ^ (w - 1), ?_, ?_, ?_, ?_⟩
  · intro d hd
    obtain ⟨c, hc, rfl⟩ := List.mem_map.mp hd
    have e : (2 : Int) ^ w = 2 ^ (w - 1) + 2 ^ (w - 1) := by
      have := p2add (w - 1) 1
      rw [show w - 1 + 1 = w by omega] at this
      rw [this]; omega
    have p := p2pos (w - 1)
    have b : c.natAbs < 2 ^ (w - 1) := by
      rcases List.mem_append.mp hc with z | z
      · exact h c z
      · rw [(List.mem_replicate.mp z).2]; exact Nat.two_pow_pos _
    have b2 : ((c.natAbs : Nat) : Int) < 2 ^ (w - 1) := by exact_mod_cast b
    rw [e]
    omega
  · rw [List.length_map, List.length_append, List.length_replicate]; omega
  · have e1 : pk w cs = pk w (cs ++ List.replicate (2 ^ j - cs.length) 0) := by rw [pk_app, pk_zeros]; simp
    rw [halves_pk, e1, pk_add w _ _ (by rw [List.length_append, List.length_replicate, List.length_replicate]; omega)]
    congr 1
    refine List.ext_getElem (by simp; omega) fun i h1 h2 => by
      rw [List.getElem_zipWith, List.getElem_replicate, List.getElem_map]
  · rw [List.map_map]
    refine (List.map_congr_left fun c _ => ?_).trans (List.map_id _)
    show c + 2 ^ (w - 1) - 2 ^ (w - 1) = c
    omega
end Fp

namespace Fp
/-! ### sums of products of whole polynomials -/
def addL : List Int → List Int → List Int
  | [], ys => ys
  | x :: xs, [] => x :: xs
  | x :: xs, y :: ys => (x + y) :: addL xs ys
def smL (n : Int) (xs : List Int) : List Int := xs.map fun x => n * x
def mulL : List Int → List Int → List Int
  | [], _ => []
  | x :: xs, ys => addL (smL x ys) (0 :: mulL xs ys)
theorem addL_at : ∀ (xs ys : List Int) (i : Nat), (addL xs ys).getD i 0 = xs.getD i 0 + ys.getD i 0
  | [], ys, i => by show ys.getD i 0 = 0 + ys.getD i 0; omega
  | x :: xs, [], i => by show (x :: xs).getD i 0 = (x :: xs).getD i 0 + 0; omega
  | x :: xs, y :: ys, 0 => rfl
  | x :: xs, y :: ys, i + 1 => addL_at xs ys i
theorem smL_at (n : Int) (xs : List Int) (i : Nat) : (smL n xs).getD i 0 = n * xs.getD i 0 := by
  unfold smL
  rw [List.getD_eq_getElem?_getD, List.getD_eq_getElem?_getD, List.getElem?_map]
  cases xs[i]? with
  | none => show (0 : Int) = n * 0; omega
  | some x => rfl
theorem addL_len : ∀ xs ys : List Int, (addL xs ys).length = max xs.length ys.length
  | [], ys => by show ys.length = max 0 ys.length; omega
  | x :: xs, [] => by show xs.length + 1 = max (xs.length + 1) 0; omega
  | x :: xs, y :: ys => by
    show (addL xs ys).length + 1 = max (xs.length + 1) (ys.length + 1)
    rw [addL_len xs ys]; omega
theorem smL_len (n : Int) (xs : List Int) : (smL n xs).length = xs.length := List.length_map _
theorem mulL_len : ∀ (xs ys : List Int), xs ≠ [] → ys ≠ [] → (mulL xs ys).length = xs.length + ys.length - 1
  | [], _, h, _ => absurd rfl h
  | [x], ys, _, h => by
    show (addL (smL x ys) [0]).length = _
    have := List.length_pos_iff.mpr h
    rw [addL_len, smL_len]; simp; omega
  | x :: y :: r, ys, _, h => by
    have ih := mulL_len (y :: r) ys (List.cons_ne_nil _ _) h
    have := List.length_pos_iff.mpr h
    show (addL (smL x ys) (0 :: mulL (y :: r) ys)).length = _
    rw [addL_len, smL_len, List.length_cons, ih]; simp only [List.length_cons]; omega
theorem pk_addL (w : Nat) : ∀ xs ys : List Int, pk w (addL xs ys) = pk w xs + pk w ys
  | [], ys => by show pk w ys = 0 + pk w ys; omega
  | x :: xs, [] => by show pk w (x :: xs) = pk w (x :: xs) + 0; omega
  | x :: xs, y :: ys => by
    show x + y + 2 ^ w * pk w (addL xs ys) = x + 2 ^ w * pk w xs + (y + 2 ^ w * pk w ys)
    rw [pk_addL w xs ys]; grind
theorem pk_smL (w : Nat) (n : Int) : ∀ xs : List Int, pk w (smL n xs) = n * pk w xs
  | [] => by show (0 : Int) = n * 0; omega
  | x :: xs => by
    show n * x + 2 ^ w * pk w (smL n xs) = n * (x + 2 ^ w * pk w xs)
    rw [pk_smL w n xs]; grind
theorem pk_mulL (w : Nat) : ∀ xs ys : List Int, pk w (mulL xs ys) = pk w xs * pk w ys
  | [], ys => by show (0 : Int) = 0 * pk w ys; omega
  | x :: xs, ys => by
    show pk w (addL (smL x ys) (0 :: mulL xs ys)) = (x + 2 ^ w * pk w xs) * pk w ys
    rw [pk_addL, pk_smL]
    show x * pk w ys + (0 + 2 ^ w * pk w (mulL xs ys)) = _
    rw [pk_mulL w xs ys]; grind
theorem BN.addL {N M : Nat} : ∀ {xs ys : List Int}, BN N xs → BN M ys → BN (N + M) (addL xs ys)
  | [], ys, _, h => h.mono (by omega)
  | x :: xs, [], h, _ => h.mono (by omega)
  | x :: xs, y :: ys, h, g => fun z hz => by
    rcases List.mem_cons.mp hz with e | e
    · rw [e]
      have a := h x List.mem_cons_self
      have b := g y List.mem_cons_self
      have := Int.natAbs_add_le x y
      omega
    · exact BN.addL (xs := xs) (ys := ys) (fun z hz => h z (List.mem_cons_of_mem _ hz)) (fun z hz => g z (List.mem_cons_of_mem _ hz)) z e
theorem BN.smL {N A : Nat} {n : Int} {xs : List Int} (h : BN N xs) (hn : n.natAbs ≤ A) : BN (A * N) (smL n xs) := fun z hz => by
  obtain ⟨x, hx, rfl⟩ := List.mem_map.mp hz
  rw [Int.natAbs_mul]; exact Nat.mul_le_mul hn (h x hx)
theorem BN.mulL {N M : Nat} : ∀ {xs ys : List Int}, BN N xs → BN M ys → BN (xs.length * (N * M)) (mulL xs ys)
  | [], _, _, _ => fun z h => by cases h
  | x :: xs, ys, h, g => by
    have ih := BN.mulL (xs := xs) (ys := ys) (fun z hz => h z (List.mem_cons_of_mem _ hz)) g
    have z : BN (xs.length * (N * M)) (0 :: Fp.mulL xs ys) := fun z hz => by
      rcases List.mem_cons.mp hz with e | e
      · rw [e]; exact Nat.zero_le _
      · exact ih z e
    have := BN.addL (g.smL (h x List.mem_cons_self)) z
    refine this.mono ?_
    rw [List.length_cons, Nat.add_mul, Nat.one_mul]; omega
/-- a line's parts: first, second, number -/
abbrev Part := Nat × Nat × Int
def linL (P : Nat → List Int) (ps : List Part) : List Int := ps.foldl (fun acc p => addL acc (smL p.2.2 (mulL (P p.1) (P p.2.1)))) []
theorem linL_snoc (P : Nat → List Int) (ps : List Part) (p : Part) : linL P (ps ++ [p]) = addL (linL P ps) (smL p.2.2 (mulL (P p.1) (P p.2.1))) := by unfold linL; rw [List.foldl_append]; rfl
theorem linL_len {P : Nat → List Int} {L : Nat} : ∀ ps : List Part, (∀ p ∈ ps, P p.1 ≠ [] ∧ P p.2.1 ≠ [] ∧ (P p.1).length ≤ L ∧ (P p.2.1).length ≤ L) → (linL P ps).length ≤ 2 * L :=
  snoc_ind (fun _ => Nat.zero_le _) fun A p ih h => by
    have h1 := ih fun q hq => h q (List.mem_append_left _ hq)
    obtain ⟨a, b, c, d⟩ := h p (List.mem_append_right _ (List.mem_singleton.mpr rfl))
    rw [linL_snoc, addL_len, smL_len, mulL_len _ _ a b]; omega
theorem linL_BN {P : Nat → List Int} {L W : Nat} : ∀ ps : List Part, (∀ p ∈ ps, (P p.1).length ≤ L ∧ ∃ a b c, BN (2 ^ a) (P p.1) ∧ BN (2 ^ b) (P p.2.1) ∧ p.2.2.natAbs ≤ 2 ^ c ∧ a + b + c ≤ W) → BN (ps.length * (L * 2 ^ W)) (linL P ps) :=
  snoc_ind (fun _ => fun z h => by cases h) fun A p ih h => by
    have h1 := ih fun q hq => h q (List.mem_append_left _ hq)
    obtain ⟨l, a, b, c, ha, hb, hc, hw⟩ := h p (List.mem_append_right _ (List.mem_singleton.mpr rfl))
    rw [linL_snoc]
    refine (h1.addL ((ha.mulL hb).smL hc)).mono ?_
    rw [List.length_append, List.length_singleton, Nat.add_mul, Nat.one_mul]
    refine Nat.add_le_add_left ?_ _
    have e : 2 ^ c * ((P p.1).length * (2 ^ a * 2 ^ b)) = (P p.1).length * 2 ^ (a + b + c) := by
      rw [← Nat.pow_add, Nat.mul_left_comm, ← Nat.pow_add, Nat.add_comm c]
    rw [e]
    exact Nat.mul_le_mul l (Nat.pow_le_pow_right (by decide) hw)
theorem pk_linL (w : Nat) (P : Nat → List Int) (ps : List Part) (p : Part) : pk w (linL P (ps ++ [p])) = pk w (linL P ps) + p.2.2 * (pk w (P p.1) * pk w (P p.2.1)) := by
  rw [linL_snoc, pk_addL, pk_smL, pk_mulL]
/-! ### the same over bottoms -/
theorem prodc_cons (x : Rat) (xs : List Rat) (g : Nat → Rat) (n : Nat) : prodc (x :: xs) g n = x * g n + (if n = 0 then 0 else prodc xs g (n - 1)) := by
  unfold prodc
  rw [List.length_cons, sumN_shift]
  congr 1
  by_cases h : n = 0
  · subst h
    rw [if_pos rfl]
    refine sumN_zero fun i _ => ?_
    unfold sh; rw [if_pos (by omega)]; grind
  · rw [if_neg h]
    refine sumN_congr fun i _ => ?_
    show co xs i * sh (i + 1) g n = co xs i * sh i g (n - 1)
    congr 1
    unfold sh
    by_cases z : n < i + 1
    · rw [if_pos z, if_pos (by omega)]
    · rw [if_neg z, if_neg (by omega), show n - (i + 1) = n - 1 - i by omega]
theorem mulL_co {b1 b2 : Int} (h1 : b1 ≠ 0) (h2 : b2 ≠ 0) : ∀ (xs ys : List Int) (n : Nat), (((mulL xs ys).getD n 0 : Int) : Rat) / ((b1 * b2 : Int) : Rat) = prodc (ratsOf b1 xs) (co (ratsOf b2 ys)) n
  | [], ys, n => by
    show ((0 : Int) : Rat) / _ = prodc [] _ n
    rw [prodc_nil_left, Rat.intCast_zero, Rat.div_def, Rat.zero_mul]
  | x :: xs, ys, n => by
    have ih := mulL_co h1 h2 xs ys
    show (((addL (smL x ys) (0 :: mulL xs ys)).getD n 0 : Int) : Rat) / _ = prodc ((x : Rat) / (b1 : Rat) :: ratsOf b1 xs) _ n
    rw [prodc_cons, addL_at, smL_at, co_rats, Rat.intCast_add, Rat.intCast_mul, Rat.intCast_mul]
    have e1 : (x : Rat) * ((ys.getD n 0 : Int) : Rat) / ((b1 : Rat) * (b2 : Rat)) = (x : Rat) / (b1 : Rat) * (((ys.getD n 0 : Int) : Rat) / (b2 : Rat)) := by
      simp only [Rat.div_def, Rat.inv_mul_rev]; grind
    cases n with
    | zero =>
      rw [if_pos rfl, ← e1]
      show (_ + ((0 : Int) : Rat)) / _ = _
      rw [Rat.intCast_zero]; grind
    | succ n =>
      rw [if_neg (by omega), ← e1, show n + 1 - 1 = n by omega, ← ih n, Rat.intCast_mul]
      show ((x : Rat) * _ + (((mulL xs ys).getD n 0 : Int) : Rat)) / _ = _
      simp only [Rat.div_def]; grind
end Fp

namespace Fp
/-! ### products: by coefficients alone, linear, associative -/
theorem prodc_left {xs ys : List Rat} (e : ∀ i, co xs i = co ys i) (g : Nat → Rat) (n : Nat) : prodc xs g n = prodc ys g n := by
  rw [prodc_range, prodc_range]; exact sumN_congr fun i _ => by rw [e i]
theorem prodc_lin {xs ys zs : List Rat} {c : Rat} (e : ∀ i, co zs i = co xs i + c * co ys i) (g : Nat → Rat) (n : Nat) : prodc zs g n = prodc xs g n + c * prodc ys g n := by
  rw [prodc_range, prodc_range, prodc_range, ← sumN_mul, ← sumN_add]
  exact sumN_congr fun i _ => by rw [e i]; grind
theorem prodc_shift (ws : List Rat) (g : Nat → Rat) (n : Nat) : prodc (0 :: ws) g n = if n = 0 then 0 else prodc ws g (n - 1) := by
  rw [prodc_cons]; split <;> grind
theorem co_shift (ws : List Rat) (n : Nat) : co (0 :: ws) n = if n = 0 then 0 else co ws (n - 1) := by
  cases n with
  | zero => rfl
  | succ n => rw [if_neg (by omega)]; rfl
theorem prod_split {x : Rat} {xs ys zs ws : List Rat} (e : ∀ i, co zs i = prodc (x :: xs) (co ys) i) (f : ∀ i, co ws i = prodc xs (co ys) i) (i : Nat) : co zs i = co (0 :: ws) i + x * co ys i := by
  rw [e, prodc_cons, co_shift]
  split
  · grind
  · rw [f]; grind
theorem prodc_assoc : ∀ (xs ys zs : List Rat), (∀ i, co zs i = prodc xs (co ys) i) → ∀ (g : Nat → Rat) (n : Nat), prodc zs g n = prodc xs (fun i => prodc ys g i) n
  | [], ys, zs, e, g, n => by
    rw [prodc_left (ys := []) (fun i => by rw [e i]; rfl)]; rfl
  | x :: xs, ys, zs, e, g, n => by
    have f := timesQ_co xs ys
    rw [prodc_lin (prod_split e f), prodc_shift, prodc_cons]
    split
    · grind
    · rw [prodc_assoc xs ys _ f g (n - 1)]; grind
/-! ### one put into a product -/
theorem jo_mul (Y : List Rat) : ∀ (xs ys zs : List Rat), (∀ i, co zs i = prodc xs (co ys) i) → ∀ n, co (jl Y (osing zs)) n = prodc (jl Y (osing xs)) (co (jl Y (osing ys))) n
  | [], ys, zs, e, n => by
    rw [jo_congr Y (ys := []) (fun i => by rw [e i]; rfl)]; rfl
  | x :: xs, ys, zs, e, n => by
    have f := timesQ_co xs ys
    have ih := jo_mul Y xs ys (timesQ xs ys) f
    rw [jo_lin Y x (max (0 :: timesQ xs ys).length (max ys.length zs.length)) (0 :: timesQ xs ys) ys zs (by omega) (by omega) (by omega) (prod_split e f) n]
    have h1 : ∀ i, co (jl Y (osing (0 :: timesQ xs ys))) i = prodc Y (fun i => prodc (jl Y (osing xs)) (co (jl Y (osing ys))) i) i := fun i => by
      rw [jo_head]
      show prodc Y (co (jl Y (osing (timesQ xs ys)))) i + single 0 0 i = _
      rw [prodc_congr ih]
      unfold single; split <;> grind
    have h2 : ∀ i, co (jl Y (osing (x :: xs))) i = co (timesQ Y (jl Y (osing xs))) i + x * co [1] i := fun i => by
      rw [jo_head, timesQ_co]
      show prodc Y (co (jl Y (osing xs))) i + single 0 x i = _
      congr 1
      unfold single
      cases i with
      | zero => show x = x * 1; grind
      | succ i => rw [if_neg (by omega), co_out (by simp)]; grind
    have h3 : ∀ g : Nat → Rat, prodc [1] g n = g n := fun g => by
      rw [prodc_cons]
      show 1 * g n + (if n = 0 then 0 else 0) = g n
      split <;> grind
    rw [prodc_lin h2, h3, h1, prodc_assoc Y (jl Y (osing xs)) _ (timesQ_co _ _)]
/-! ### what is derived of a product -/
theorem der_cons (x : Rat) (xs : List Rat) (n : Nat) : co (derQ (x :: xs)) n = co xs n + 1 * co (0 :: derQ xs) n := by
  rw [derQ_co, co_shift, co_cons_succ]
  by_cases h : n = 0
  · subst h; rw [if_pos rfl, show (((0 + 1 : Nat) : Int) : Rat) = 1 from by decide]; grind
  · rw [if_neg h, derQ_co, show n - 1 + 1 = n by omega]
    have : (((n + 1 : Nat) : Int) : Rat) = ((n : Int) : Rat) + 1 := by
      rw [Int.natCast_add, Rat.intCast_add]; rfl
    rw [this]; grind
theorem der_mul : ∀ (xs ys zs : List Rat), (∀ i, co zs i = prodc xs (co ys) i) → ∀ n, co (derQ zs) n = prodc (derQ xs) (co ys) n + prodc xs (co (derQ ys)) n
  | [], ys, zs, e, n => by
    rw [derQ_co, e]
    show (0 : Rat) * _ = 0 + 0
    grind
  | x :: xs, ys, zs, e, n => by
    have f := timesQ_co xs ys
    have ih := der_mul xs ys (timesQ xs ys) f
    have hz := prod_split e f (n + 1)
    rw [derQ_co, hz, prodc_lin (der_cons x xs), prodc_shift, prodc_cons, derQ_co ys, co_cons_succ, f]
    by_cases h : n = 0
    · subst h; rw [if_pos rfl, if_pos rfl, show (((0 + 1 : Nat) : Int) : Rat) = 1 from by decide]; grind
    · rw [if_neg h, if_neg h]
      have i1 := ih (n - 1)
      rw [derQ_co, f, show n - 1 + 1 = n by omega] at i1
      have : (((n + 1 : Nat) : Int) : Rat) = ((n : Int) : Rat) + 1 := by
        rw [Int.natCast_add, Rat.intCast_add]; rfl
      rw [this]; grind
theorem der_lin {xs ys zs : List Rat} {c : Rat} (e : ∀ i, co zs i = co xs i + c * co ys i) (n : Nat) : co (derQ zs) n = co (derQ xs) n + c * co (derQ ys) n := by
  rw [derQ_co, derQ_co, derQ_co, e]; grind
theorem der_congr {xs ys : List Rat} (e : ∀ i, co xs i = co ys i) (n : Nat) : co (derQ xs) n = co (derQ ys) n := by rw [derQ_co, derQ_co, e]
end Fp

namespace K21
open PySem PySem.Spec PyProof.Rows L2 Fp
section
/-! ### roots of power series -/
/-- powers of lists -/
def powQ (u : List Rat) : Nat → List Rat
  | 0 => [1]
  | k + 1 => timesQ (powQ u k) u
theorem prodc_oneL (g : Nat → Rat) (n : Nat) : prodc [1] g n = g n := by
  rw [prodc_range, sumN_one (m := 0) (by omega) fun j hj ne => by rw [co_out (by simp; omega), Rat.zero_mul]]
  show co [1] 0 * g (n - 0) = _
  rw [Nat.sub_zero]; show (1 : Rat) * _ = _; grind
/-- the derived of a power -/
theorem pow_der (u : List Rat) : ∀ (k n : Nat), prodc (derQ (powQ u k)) (co u) n = (k : Rat) * prodc (powQ u k) (co (derQ u)) n
  | 0, n => by
    show prodc (derQ [1]) (co u) n = ((0 : Nat) : Rat) * _
    rw [prodc_left (ys := []) (fun i => by rw [derQ_co, co_out (by simp), co_nil]; grind), prodc_nil_left]
    show (0 : Rat) = 0 * _; grind
  | k + 1, n => by
    have ih := pow_der u k
    have e : ∀ i, co (powQ u (k + 1)) i = prodc (powQ u k) (co u) i := timesQ_co _ _
    have d := der_mul (powQ u k) u (powQ u (k + 1)) e
    -- left: (D p * u + p * D u) * u
    have h1 : prodc (derQ (powQ u (k + 1))) (co u) n = prodc (timesQ (derQ (powQ u k)) u) (co u) n + 1 * prodc (timesQ (powQ u k) (derQ u)) (co u) n :=
      prodc_lin (fun i => by rw [d, timesQ_co, timesQ_co]; grind) (co u) n
    have h2 : prodc (timesQ (derQ (powQ u k)) u) (co u) n = (k : Rat) * prodc (timesQ (powQ u k) (derQ u)) (co u) n := by
      have := prodc_lin (xs := []) (ys := timesQ (powQ u k) (derQ u)) (zs := timesQ (derQ (powQ u k)) u) (c := (k : Rat)) (fun i => by rw [timesQ_co, timesQ_co, ih, co_nil]; grind) (co u) n
      rw [this, prodc_nil_left]; grind
    have h3 : prodc (powQ u (k + 1)) (co (derQ u)) n = prodc (timesQ (powQ u k) (derQ u)) (co u) n := by
      rw [prodc_assoc (powQ u k) u (powQ u (k + 1)) e, prodc_assoc (powQ u k) (derQ u) _ (timesQ_co _ _), prodc_congr (prodc_comm u (derQ u))]
    rw [h1, h2, h3, show ((k + 1 : Nat) : Rat) = (k : Rat) + 1 from by rw [← natR, ← natR]; show (((k : Int) + 1 : Int) : Rat) = _; rw [Rat.intCast_add]; rfl]
    grind
theorem sum_range (F : Nat → Rat) : ∀ n, ((List.range n).map F).sum = sumN F n
  | 0 => rfl
  | n + 1 => by rw [List.range_succ, List.map_append, List.sum_append, sum_range F n]; show _ + (F n + 0) = sumN F n + F n; grind
theorem pow_len (u : List Rat) (h : u ≠ []) : ∀ k, (powQ u k).length = k * (u.length - 1) + 1
  | 0 => by rw [Nat.zero_mul]; rfl
  | k + 1 => by
    have := List.length_pos_iff.mpr h
    show (timesQ (powQ u k) u).length = _
    rw [timesQ_len, pow_len u h k, Nat.add_mul]; omega
/-- powers agree with the powers' first numbers -/
theorem pow_first {u v : List Rat} {n : Nat} (h : ∀ j, j < n → co u j = co v j) (u0 : co u 0 = 1) (v0 : co v 0 = 1) (n1 : 1 ≤ n) : ∀ k, (∀ j, j < n → co (powQ u k) j = co (powQ v k) j) ∧ co (powQ u k) 0 = 1 ∧ co (powQ u k) n - co (powQ v k) n = (k : Rat) * (co u n - co v n)
  | 0 => ⟨fun j _ => rfl, rfl, by show co [1] n - co [1] n = ((0 : Nat) : Rat) * _; show _ = (0 : Rat) * _; grind⟩
  | k + 1 => by
    obtain ⟨a, b, c⟩ := pow_first h u0 v0 n1 k
    have b2 : co (powQ v k) 0 = 1 := by rw [← a 0 (by omega)]; exact b
    have e : ∀ (w : List Rat) j, co (powQ w (k + 1)) j = sumN (fun i => co (powQ w k) i * co w (j - i)) (j + 1) := fun w j => by
      show co (timesQ _ _) j = _
      rw [timesQ_co, prodc_range]
    refine ⟨fun j hj => ?_, ?_, ?_⟩
    · rw [e, e]
      exact sumN_congr fun i hi => by rw [a i (by omega), h (j - i) (by omega)]
    · rw [e]
      show 0 + co (powQ u k) 0 * co u 0 = 1
      rw [b, u0]; grind
    · obtain ⟨m, rfl⟩ : ∃ m, n = m + 1 := ⟨n - 1, by omega⟩
      have last : ∀ w, sumN (fun i => co (powQ w k) i * co w (m + 1 - i)) (m + 1 + 1) = sumN (fun i => co (powQ w k) i * co w (m + 1 - i)) (m + 1) + co (powQ w k) (m + 1) * co w 0 := fun w => by
        show _ + co (powQ w k) (m + 1) * co w (m + 1 - (m + 1)) = _
        rw [Nat.sub_self]
      have mid : sumN (fun i => co (powQ u k) i * co u (m + 1 - i)) (m + 1) - sumN (fun i => co (powQ v k) i * co v (m + 1 - i)) (m + 1) = co u (m + 1) - co v (m + 1) := by
        rw [sumN_shift (fun i => co (powQ u k) i * co u (m + 1 - i)) m, sumN_shift (fun i => co (powQ v k) i * co v (m + 1 - i)) m,
          sumN_congr (n := m) (g := fun i => co (powQ v k) (i + 1) * co v (m + 1 - (i + 1))) fun i hi => by rw [a (i + 1) (by omega), h (m + 1 - (i + 1)) (by omega)]]
        rw [Nat.sub_zero, b, b2]; grind
      rw [e, e, last, last, u0, v0, show ((k + 1 : Nat) : Rat) = (k : Rat) + 1 from by rw [← natR, ← natR]; show (((k : Int) + 1 : Int) : Rat) = _; rw [Rat.intCast_add]; rfl]
      grind
/-- roots are one only -/
theorem root_one {u v : List Rat} {m k : Nat} (k1 : 1 ≤ k) (u0 : co u 0 = 1) (v0 : co v 0 = 1) (h : ∀ i, i < m → co (powQ u k) i = co (powQ v k) i) : ∀ n, n < m → co u n = co v n := fun n => by
  induction n using Nat.strongRecOn with
  | ind n ih =>
    intro hn
    by_cases z : n = 0
    · rw [z, u0, v0]
    · have := (pow_first (fun j hj => ih j hj (by omega)) u0 v0 (by omega) k).2.2
      rw [h n hn] at this
      have k0 : (k : Rat) ≠ 0 := by rw [← natR]; exact cast_ne (by omega)
      grind
end
end K21

namespace K21
open PySem PySem.Spec PyProof.Rows L2 Fp
section
theorem natS (n : Nat) : ((n + 1 : Nat) : Rat) = (n : Rat) + 1 := by
  rw [← natR, ← natR]; show (((n : Int) + 1 : Int) : Rat) = _; rw [Rat.intCast_add]; rfl
theorem rt_pre (a : List Rat) (sh : Rat) (n : Nat) : ∀ d j, j ≤ n → co (rt a sh (n + d)) j = co (rt a sh n) j
  | 0, j, h => rfl
  | d + 1, j, h => by
    have := rt_len a sh (n + d)
    show co (rt a sh (n + d) ++ [_]) j = _
    rw [co_append_left (by omega), rt_pre a sh n d j h]
theorem rt_at (a : List Rat) (sh : Rat) {n N : Nat} (h : n ≤ N) {j : Nat} (hj : j ≤ n) : co (rt a sh N) j = co (rt a sh n) j := by
  obtain ⟨d, rfl⟩ := Nat.exists_eq_add_of_le h
  exact rt_pre a sh n d j hj
theorem rt_next (a : List Rat) (sh : Rat) {n N : Nat} (h : n + 1 ≤ N) : co (rt a sh N) (n + 1) * ((n + 1 : Nat) : Rat) = sumN (fun j => co a (j + 1) * co (rt a sh N) (n - j) * (sh * ((j + 1 : Nat) : Rat) - ((n - j : Nat) : Rat))) (n + 1) := by
  have n0 : ((n + 1 : Nat) : Rat) ≠ 0 := by rw [← natR]; exact Fp.cast_ne (by omega)
  have l := rt_len a sh n
  rw [rt_at a sh h (Nat.le_refl _)]
  show co (rt a sh n ++ [_]) (n + 1) * _ = _
  have e : co (rt a sh n ++ [(rtP a sh (rt a sh n) n).sum / ((n + 1 : Nat) : Rat)]) (n + 1) = (rtP a sh (rt a sh n) n).sum / ((n + 1 : Nat) : Rat) := by
    unfold co
    rw [List.getD_eq_getElem?_getD, List.getElem?_append_right (by omega), l, Nat.sub_self]; rfl
  rw [e, Rat.div_mul_cancel n0]
  unfold rtP
  rw [sum_range]
  exact sumN_congr fun j hj => by rw [rt_at a sh (N := N) (n := n) (by omega) (j := n - j) (by omega)]
theorem rt_zero (a : List Rat) (sh : Rat) (N : Nat) : co (rt a sh N) 0 = 1 := by rw [rt_at a sh (Nat.zero_le N) (Nat.le_refl 0)]; rfl
/-- the recursion is the derived of what is to be: k a D u = u D a -/
theorem rt_der {a : List Rat} {sh : Rat} {k N n : Nat} (k0 : (k : Rat) ≠ 0) (hs : sh = 1 / (k : Rat)) (a0 : co a 0 = 1) (h : n + 1 ≤ N) : prodc (derQ a) (co (rt a sh N)) n = (k : Rat) * prodc a (co (derQ (rt a sh N))) n := by
  have r := rt_next a sh h
  generalize rt a sh N = u at *
  rw [prodc_range, prodc_range, sumN_shift (fun i => co a i * co (derQ u) (n - i)) n, a0, Nat.sub_zero, derQ_co, natR, r]
  have e1 : sumN (fun j => co a (j + 1) * co u (n - j) * (sh * ((j + 1 : Nat) : Rat) - ((n - j : Nat) : Rat))) (n + 1) = sh * sumN (fun i => co (derQ a) i * co u (n - i)) (n + 1) + (-1) * sumN (fun j => co a (j + 1) * co u (n - j) * ((n - j : Nat) : Rat)) (n + 1) := by
    rw [← sumN_mul, ← sumN_mul, ← sumN_add]
    exact sumN_congr fun j hj => by rw [derQ_co, natR]; grind
  have e2 : sumN (fun j => co a (j + 1) * co u (n - j) * ((n - j : Nat) : Rat)) (n + 1) = sumN (fun i => co a (i + 1) * co (derQ u) (n - (i + 1))) n := by
    show sumN _ n + co a (n + 1) * co u (n - n) * ((n - n : Nat) : Rat) = _
    rw [Nat.sub_self, show ((0 : Nat) : Rat) = 0 from rfl, Rat.mul_zero, Rat.add_zero]
    exact sumN_congr fun j hj => by rw [derQ_co, natR, show n - (j + 1) + 1 = n - j by omega]; grind
  rw [e1, e2, hs]
  generalize sumN (fun i => co (derQ a) i * co u (n - i)) (n + 1) = A
  generalize sumN (fun i => co a (i + 1) * co (derQ u) (n - (i + 1))) n = B
  grind
/-- the root's power begins as it should -/
theorem rt_pow {a : List Rat} {sh : Rat} {k N : Nat} (k0 : (k : Rat) ≠ 0) (hs : sh = 1 / (k : Rat)) (a0 : co a 0 = 1) : ∀ i, i ≤ N → co (powQ (rt a sh N) k) i = co a i := fun i => by
  have u0 := rt_zero a sh N
  have p0 := (pow_first (u := rt a sh N) (v := rt a sh N) (n := 1) (fun j _ => rfl) u0 u0 (by decide) k).2.1
  induction i using Nat.strongRecOn with
  | ind i ih =>
    intro hi
    by_cases z : i = 0
    · rw [z, a0]; exact p0
    · obtain ⟨n, rfl⟩ : ∃ n, i = n + 1 := ⟨i - 1, by omega⟩
      have e1 := rt_der (N := N) (n := n) k0 hs a0 hi
      have e2 := pow_der (rt a sh N) k n
      generalize rt a sh N = u at *
      generalize powQ u k = p at *
      have s1 : prodc a (co (derQ u)) n = prodc p (co (derQ u)) n := by
        rw [prodc_range, prodc_range]
        exact sumN_congr fun j hj => by rw [ih j (by omega) (by omega)]
      rw [s1, ← e2, prodc_range, prodc_range] at e1
      have s2 : ∀ q : List Rat, sumN (fun i => co (derQ q) i * co u (n - i)) (n + 1) = sumN (fun i => co (derQ q) i * co u (n - i)) n + co (derQ q) n * co u 0 := fun q => by
        show _ + co (derQ q) n * co u (n - n) = _
        rw [Nat.sub_self]
      have s3 : sumN (fun i => co (derQ a) i * co u (n - i)) n = sumN (fun i => co (derQ p) i * co u (n - i)) n := sumN_congr fun j hj => by rw [derQ_co, derQ_co, ih (j + 1) (by omega) (by omega)]
      rw [s2, s2, s3, u0, derQ_co, derQ_co, natR] at e1
      have n0 : ((n + 1 : Nat) : Rat) ≠ 0 := by rw [← natR]; exact Fp.cast_ne (by omega)
      have : co a (n + 1) * ((n + 1 : Nat) : Rat) = co p (n + 1) * ((n + 1 : Nat) : Rat) := by grind
      grind
/-! turned about -/
theorem rev_co (q : List Rat) (i : Nat) : co q.reverse i = if i < q.length then co q (q.length - 1 - i) else 0 := by
  split
  · rename_i h
    unfold co
    rw [List.getD_eq_getElem?_getD, List.getElem?_reverse h, List.getD_eq_getElem?_getD]
  · exact co_out (by rw [List.length_reverse]; omega)
theorem rev_times {p q : List Rat} (p0 : p ≠ []) (q0 : q ≠ []) : (timesQ p q).reverse = timesQ p.reverse q.reverse := by
  have lp := List.length_pos_iff.mpr p0
  have lq := List.length_pos_iff.mpr q0
  have l1 := timesQ_len p q
  have l2 := timesQ_len p.reverse q.reverse
  rw [List.length_reverse, List.length_reverse] at l2
  have key : ∀ i, i < p.length + q.length - 1 → co (timesQ p q).reverse i = co (timesQ p.reverse q.reverse) i := fun i hi => by
    rw [rev_co, if_pos (by omega), timesQ_co, timesQ_co, l1]
    unfold prodc
    rw [List.length_reverse]
    obtain ⟨N, hN⟩ : ∃ N, p.length = N + 1 := ⟨p.length - 1, by omega⟩
    rw [hN, sumN_rev]
    refine sumN_congr fun j hj => ?_
    rw [rev_co, if_pos (by omega), hN, show N + 1 - 1 - j = N - j by omega]
    congr 1
    unfold sh
    rw [rev_co]
    by_cases c : i < j
    · rw [if_pos c]
      split
      · rfl
      · exact co_out (by omega)
    · rw [if_neg c]
      by_cases d : i - j < q.length
      · rw [if_pos d, if_neg (by omega)]
        congr 1
        omega
      · rw [if_neg d, if_pos (by omega)]
  refine List.ext_getElem (by rw [List.length_reverse, l1, l2]) fun i h1 h2 => ?_
  have := key i (by rw [List.length_reverse] at h1; omega)
  rwa [co_at (List.getElem?_eq_getElem h1), co_at (List.getElem?_eq_getElem h2)] at this
theorem pow_ne (u : List Rat) (h : u ≠ []) (k : Nat) : powQ u k ≠ [] := fun e => by
  have := pow_len u h k
  rw [e] at this; simp at this
theorem rev_pow {h : List Rat} (h0 : h ≠ []) : ∀ k, (powQ h k).reverse = powQ h.reverse k
  | 0 => rfl
  | k + 1 => by
    show (timesQ (powQ h k) h).reverse = timesQ (powQ h.reverse k) h.reverse
    rw [rev_times (pow_ne h h0 k) h0, rev_pow h0 k]
theorem pow_co {u v : List Rat} (h : ∀ i, co u i = co v i) : ∀ k i, co (powQ u k) i = co (powQ v k) i
  | 0, i => rfl
  | k + 1, i => by
    show co (timesQ _ _) i = co (timesQ _ _) i
    rw [timesQ_co, timesQ_co, prodc_left (pow_co h k), prodc_congr h]
/-- one of a degree, head 1, no number: by the highest numbers of its power -/
theorem root_unique {g h : List Rat} {m k : Nat} (m1 : 1 ≤ m) (k1 : 1 ≤ k) (lg : g.length = m + 1) (lh : h.length = m + 1) (tg : co g m = 1) (th : co h m = 1) (g0 : co g 0 = 0) (h0 : co h 0 = 0) (e : ∀ i, i < m → co (powQ g k) (k * m - i) = co (powQ h k) (k * m - i)) : g = h := by
  have ng : g ≠ [] := fun z => by rw [z] at lg; simp at lg
  have nh : h ≠ [] := fun z => by rw [z] at lh; simp at lh
  have pg := pow_len g ng k
  have ph := pow_len h nh k
  rw [lg, Nat.add_sub_cancel] at pg
  rw [lh, Nat.add_sub_cancel] at ph
  have mk : m ≤ k * m := Nat.le_mul_of_pos_left m k1
  have r := root_one (u := g.reverse) (v := h.reverse) (m := m) k1 (by rw [rev_co, if_pos (by omega), lg]; exact tg) (by rw [rev_co, if_pos (by omega), lh]; exact th) fun i hi => by
    rw [← rev_pow ng, ← rev_pow nh, rev_co, rev_co, if_pos (by omega), if_pos (by omega), pg, ph, show k * m + 1 - 1 - i = k * m - i by omega]
    exact e i hi
  refine List.ext_getElem (by omega) fun i h1 h2 => ?_
  have a : co g i = co h i := by
    by_cases z : i = 0
    · rw [z, g0, h0]
    · have := r (m - i) (by omega)
      rw [rev_co, rev_co, if_pos (by omega), if_pos (by omega), lg, lh, show m + 1 - 1 - (m - i) = i by omega] at this
      exact this
  rwa [co_at (List.getElem?_eq_getElem h1), co_at (List.getElem?_eq_getElem h2)] at a
/-- the highest numbers of one that is made of another one -/
theorem jl_top {g : List Rat} {m : Nat} (lg : g.length = m + 1) (m1 : 1 ≤ m) : ∀ (F : List Rat) (k : Nat), F.length = k + 1 → ∀ j, k * m < j + m → co (jl g (osing F)) j = co F k * co (powQ g k) j
  | [], k, l, j, hj => by simp at l
  | x :: F, 0, l, j, hj => by
    have : F = [] := List.length_eq_zero_iff.mp (by simpa using l)
    subst this
    show co (jl g [[x]]) j = co [x] 0 * co [1] j
    rw [jl_co]
    show prodc g (co []) j + co [x] j = x * co [1] j
    rw [prodc_nil_right]
    cases j with
    | zero => show (0 : Rat) + x = x * 1; grind
    | succ j => rw [co_out (by simp), co_out (xs := [1]) (by simp)]; grind
  | x :: F, k + 1, l, j, hj => by
    have lF : F.length = k + 1 := by simpa using l
    have j1 : 1 ≤ j := by rw [Nat.add_mul] at hj; omega
    show co (jl g ([x] :: osing F)) j = co F k * co (timesQ (powQ g k) g) j
    rw [jl_co, co_out (xs := [x]) (by simp; omega), timesQ_co, prodc_comm (powQ g k) g, Rat.add_zero]
    unfold prodc
    rw [← sumN_mul]
    refine sumN_congr fun i hi => ?_
    unfold sh
    by_cases c : j < i
    · rw [if_pos c, if_pos c]; grind
    · rw [if_neg c, if_neg c, jl_top lg m1 F k lF (j - i) (by rw [Nat.add_mul] at hj; omega)]; grind
end
end K21

namespace K21
open PySem PySem.Spec PyProof.Rows L2 Fp
section
/-! ### what a root part is, and sizes -/
theorem over_co {f : List Rat} {m n i : Nat} (l : f.length = n + 1) (hi : i < m) (mn : m ≤ n) : co (overH f m) i = co f (n - i) / co f n := by
  have e : (f.reverse.take m)[i]? = some (co f (n - i)) := by
    rw [List.getElem?_take, if_pos hi]
    have h2 : i < f.reverse.length := by rw [List.length_reverse]; omega
    rw [List.getElem?_eq_getElem h2, ← co_at (List.getElem?_eq_getElem h2), rev_co, if_pos (by omega), l, Nat.add_sub_cancel]
  unfold overH
  rw [co_at (x := co f (n - i) / co f (f.length - 1)) (by rw [List.getElem?_map, e]; rfl), l, Nat.add_sub_cancel]
theorem rootL_co {f : List Rat} {m : Nat} (m1 : 1 ≤ m) : (rootL f m).length = m + 1 ∧ co (rootL f m) m = 1 ∧ co (rootL f m) 0 = 0 ∧ ∀ i, i < m → co (rootL f m) (m - i) = co (rt (overH f m) (shQ f m) (m - 1)) i := by
  have l := rootL_len (xs := f) m1
  have lr := rt_len (overH f m) (shQ f m) (m - 1)
  have key : ∀ i, i < m → co (rootL f m) (m - i) = co (rt (overH f m) (shQ f m) (m - 1)) i := fun i hi => by
    unfold rootL
    generalize rt (overH f m) (shQ f m) (m - 1) = u at *
    have : m - i = (m - i - 1) + 1 := by omega
    rw [this]
    show co u.reverse (m - i - 1) = co u i
    rw [rev_co, if_pos (by omega)]
    congr 1
    omega
  refine ⟨l, ?_, rfl, key⟩
  have := key 0 (by omega)
  rw [Nat.sub_zero] at this
  rw [this]; exact rt_zero _ _ _
theorem told_len {h : List Rat} {m : Nat} (l : h.length = m + 1) (t : co h m ≠ 0) : Told h := told_of_top fun _ => by rw [l, Nat.add_sub_cancel]; exact t
/-- its power begins as the polynomial over its head -/
theorem rootL_pow {f : List Rat} {m n k : Nat} (m1 : 1 ≤ m) (k1 : 1 ≤ k) (en : n = k * m) (l : f.length = n + 1) (t : co f n ≠ 0) : ∀ i, i < m → co (powQ (rootL f m) k) (k * m - i) = co f (k * m - i) / co f n := fun i hi => by
  obtain ⟨lh, th, h0, hc⟩ := rootL_co (f := f) m1
  have nh : rootL f m ≠ [] := fun z => by rw [z] at lh; simp at lh
  have ph := pow_len (rootL f m) nh k
  rw [lh, Nat.add_sub_cancel] at ph
  have mk : m ≤ k * m := Nat.le_mul_of_pos_left m k1
  have k0 : (k : Rat) ≠ 0 := by rw [← natR]; exact Fp.cast_ne (by omega)
  have mq : (m : Rat) ≠ 0 := by rw [← natR]; exact Fp.cast_ne (by omega)
  have hs : shQ f m = 1 / (k : Rat) := by
    unfold shQ
    rw [l, Nat.add_sub_cancel, en, show ((k * m : Nat) : Rat) = (k : Rat) * (m : Rat) by rw [← natR, Int.natCast_mul, Rat.intCast_mul, natR, natR]]
    grind
  have a0 : co (overH f m) 0 = 1 := by
    rw [over_co l (by omega) (by omega), Nat.sub_zero, Rat.div_def, Rat.mul_inv_cancel _ t]
  have r := rt_pow (N := m - 1) k0 hs a0 i (by omega)
  rw [over_co l hi (by omega), en] at r
  rw [en]
  rw [← r]
  have e : ∀ j, co (rootL f m).reverse j = co (rt (overH f m) (shQ f m) (m - 1)) j := fun j => by
    rw [rev_co, lh]
    by_cases c : j < m
    · rw [if_pos (by omega), show m + 1 - 1 - j = m - j by omega, hc j c]
    · have lr := rt_len (overH f m) (shQ f m) (m - 1)
      rw [co_out (xs := rt _ _ _) (by omega)]
      split
      · rw [show m + 1 - 1 - j = 0 by omega]; exact h0
      · rfl
  have := pow_co e k i
  rw [← this, ← rev_pow nh, rev_co, if_pos (by omega), ph]
  congr 1
/-- with these highest numbers it is this one -/
theorem rootL_is {f g : List Rat} {m n k : Nat} {c : Rat} (m1 : 1 ≤ m) (k1 : 1 ≤ k) (en : n = k * m) (l : f.length = n + 1) (t : co f n ≠ 0) (lg : g.length = m + 1) (tg : co g m = 1) (g0 : co g 0 = 0) (e : ∀ i, i < m → co f (k * m - i) = c * co (powQ g k) (k * m - i)) : rootL f m = g := by
  obtain ⟨lh, th, h0, hc⟩ := rootL_co (f := f) m1
  have ng : g ≠ [] := fun z => by rw [z] at lg; simp at lg
  have pg := pow_len g ng k
  rw [lg, Nat.add_sub_cancel] at pg
  have u0 : co g.reverse 0 = 1 := by rw [rev_co, if_pos (by omega), lg]; exact tg
  have top : co (powQ g k) (k * m) = 1 := by
    have := (pow_first (u := g.reverse) (v := g.reverse) (n := 1) (fun j _ => rfl) u0 u0 (by decide) k).2.1
    rw [← rev_pow ng, rev_co, if_pos (by omega), pg] at this
    rw [← this]; congr 1
  have e0 := e 0 (by omega)
  rw [Nat.sub_zero, top] at e0
  refine root_unique m1 k1 lh lg th tg h0 g0 fun i hi => ?_
  rw [rootL_pow m1 k1 en l t i hi, e i hi, en, e0]
  have c0 : c ≠ 0 := fun z => t (by rw [en, e0, z]; grind)
  grind
theorem rootL_made {f g F : List Rat} {m n k : Nat} (m1 : 1 ≤ m) (k1 : 1 ≤ k) (en : n = k * m) (l : f.length = n + 1) (t : co f n ≠ 0) (lg : g.length = m + 1) (tg : co g m = 1) (g0 : co g 0 = 0) (lF : F.length = k + 1) (e : ∀ j, co f j = co (jl g (osing F)) j) : rootL f m = g :=
  rootL_is m1 k1 en l t lg tg g0 fun i hi => by rw [e, jl_top lg m1 F k lF _ (by have := Nat.le_mul_of_pos_left m k1; omega)]
theorem bareQ_co {f : List Rat} {n : Nat} (n1 : 1 ≤ n) (l : f.length = n + 1) (t : co f n ≠ 0) : (bareQ f).length = n + 1 ∧ co (bareQ f) n = 1 ∧ co (bareQ f) 0 = 0 ∧ ∀ j, 1 ≤ j → co (bareQ f) j = co f j / co f n := by
  have lb : (0 :: (f.drop 1).map fun x => x / co f (f.length - 1)).length = n + 1 := by rw [List.length_cons, List.length_map, List.length_drop]; omega
  have cb : ∀ j, 1 ≤ j → co (0 :: (f.drop 1).map fun x => x / co f (f.length - 1)) j = co f j / co f n := fun j hj => by
    obtain ⟨i, rfl⟩ : ∃ i, j = i + 1 := ⟨j - 1, by omega⟩
    show co ((f.drop 1).map fun x => x / co f (f.length - 1)) i = _
    rw [l, Nat.add_sub_cancel]
    generalize co f n = d
    by_cases h : i + 1 < f.length
    · have e1 : ((f.drop 1).map fun x => x / d)[i]? = some (f[i + 1] / d) := by
        rw [List.getElem?_map, List.getElem?_drop, Nat.add_comm 1 i, List.getElem?_eq_getElem h]; rfl
      rw [co_at e1, co_at (List.getElem?_eq_getElem h)]
    · rw [co_out (by rw [List.length_map, List.length_drop]; omega), co_out (by omega)]; grind
  have top : co (0 :: (f.drop 1).map fun x => x / co f (f.length - 1)) n = 1 := by rw [cb n n1, Rat.div_def, Rat.mul_inv_cancel _ t]
  have e : bareQ f = 0 :: (f.drop 1).map fun x => x / co f (f.length - 1) := trimQ_id (told_len lb (by rw [top]; decide))
  rw [e]
  exact ⟨lb, top, rfl, cb⟩
/-- of the whole degree -/
theorem rootL_whole {f : List Rat} {n : Nat} (n1 : 1 ≤ n) (l : f.length = n + 1) (t : co f n ≠ 0) : rootL f n = bareQ f := by
  obtain ⟨lb, tb, b0, bc⟩ := bareQ_co n1 l t
  refine rootL_is (k := 1) (c := co f n) n1 (Nat.le_refl 1) (by omega) l t lb tb b0 fun i hi => ?_
  show _ = _ * co (timesQ [1] (bareQ f)) _
  rw [timesQ_co, prodc_oneL, bc _ (by omega)]
  grind
end
end K21

namespace K21
open PySem PySem.Spec PyProof.Rows L2 Fp
section
def eN (q : Nat) : Nat → Nat
  | 0 => 1
  | n + 1 => eN q n * ((n + 1) * q)
theorem eN_pos {q : Nat} (h : 0 < q) : ∀ n, 0 < eN q n
  | 0 => Nat.one_pos
  | n + 1 => Nat.mul_pos (eN_pos h n) (Nat.mul_pos (by omega) h)
theorem eN_le {q : Nat} (h : 11 * q ≤ 2 ^ 23) : ∀ n, n ≤ 11 → eN q n ≤ 2 ^ (23 * n)
  | 0, _ => Nat.le_refl 1
  | n + 1, l => by
    show eN q n * ((n + 1) * q) ≤ _
    rw [show 23 * (n + 1) = 23 * n + 23 by omega, Nat.pow_add]
    exact Nat.mul_le_mul (eN_le h n (by omega)) (Nat.le_trans (Nat.mul_le_mul_right q l) h)
theorem sc_sum {D : Int} {M : Nat} : ∀ L : List Rat, AllS D M L → Sc D (L.length * M) L.sum
  | [], _ => Fp.Sc.zero
  | x :: L, h => by
    have := Fp.Sc.add (h x List.mem_cons_self) (sc_sum L fun y hy => h y (List.mem_cons_of_mem _ hy))
    rw [List.sum_cons, List.length_cons, Nat.succ_mul, Nat.add_comm]; exact this
theorem sc_part {D M n : Nat} {x : Rat} (h : Sc (D : Int) M x) (n0 : 0 < n) : Sc ((D * n : Nat) : Int) M (x / (n : Rat)) := by
  obtain ⟨z, rfl, b⟩ := h
  have nq : (n : Rat) ≠ 0 := by rw [← natR]; exact Fp.cast_ne (by omega)
  exact ⟨z, by rw [Int.natCast_mul, Rat.intCast_mul, natR, natR]; grind, b⟩
theorem sc_upN {D M e : Nat} {x : Rat} (h : Sc (D : Int) M x) (e0 : 0 < e) : Sc ((D * e : Nat) : Int) (M * e) x := by
  have := Fp.Sc.up h (e : Int) (by omega)
  rwa [Int.natAbs_natCast, ← Int.natCast_mul] at this
theorem sc_mulN {D E M N : Nat} {x y : Rat} (h : Sc (D : Int) M x) (g : Sc (E : Int) N y) : Sc ((D * E : Nat) : Int) (M * N) (x * y) := by
  rw [Int.natCast_mul]; exact Fp.Sc.mul h g
theorem sc_turn {k i j : Nat} {sh : Rat} (k1 : 1 ≤ k) (k12 : k ≤ 12) (hs : sh = 1 / (k : Rat)) (hi : i ≤ 13) (hj : j ≤ 13) : Sc ((k : Nat) : Int) 169 (sh * (i : Rat) - (j : Rat)) := by
  have kq : (k : Rat) ≠ 0 := by rw [← natR]; exact Fp.cast_ne (by omega)
  refine ⟨(i : Int) - (k : Int) * (j : Int), ?_, ?_⟩
  · rw [Rat.intCast_sub, Rat.intCast_mul, natR, natR, natR, hs]; grind
  · have : k * j ≤ 12 * 13 := Nat.mul_le_mul k12 hj
    have e : (k : Int) * (j : Int) = ((k * j : Nat) : Int) := (Int.natCast_mul k j).symm
    rw [e]; omega
theorem rtP_sc {a f : List Rat} {sh : Rat} {k d Z E Cc n : Nat} (ha : AllS (d : Int) Z a) (hf : AllS (E : Int) Cc f) (k1 : 1 ≤ k) (k12 : k ≤ 12) (hs : sh = 1 / (k : Rat)) (n12 : n ≤ 12) : AllS ((d * E * k : Nat) : Int) (Z * Cc * 169) (rtP a sh f n) := fun x hx => by
  obtain ⟨j, hj, rfl⟩ := List.mem_map.mp hx
  have hj := List.mem_range.mp hj
  exact sc_mulN (sc_mulN (ha.co (j + 1)) (hf.co (n - j))) (sc_turn k1 k12 hs (by omega) (by omega))
theorem rt_sc {a : List Rat} {sh : Rat} {k d Z : Nat} (ha : AllS (d : Int) Z a) (d0 : 0 < d) (k1 : 1 ≤ k) (k12 : k ≤ 12) (hs : sh = 1 / (k : Rat)) (db : d ≤ 2 ^ 15) (Zb : Z ≤ 2 ^ 15) : ∀ n, n ≤ 11 → AllS ((eN (k * d) n : Nat) : Int) (2 ^ (26 * n)) (rt a sh n)
  | 0, _ => fun x hx => by
    rw [List.mem_singleton.mp hx]
    exact ⟨1, by show (1 : Rat) = ((1 : Int) : Rat) / (((1 : Nat) : Int) : Rat); decide +kernel, by decide⟩
  | n + 1, l => fun x hx => by
    have ih := rt_sc ha d0 k1 k12 hs db Zb n (by omega)
    have q0 : 0 < k * d := Nat.mul_pos (by omega) d0
    have qb : k * d ≤ 12 * 2 ^ 15 := Nat.mul_le_mul k12 db
    rcases List.mem_append.mp hx with h | h
    · have := sc_upN (ih x h) (e := (n + 1) * (k * d)) (Nat.mul_pos (by omega) q0)
      refine this.mono ?_
      rw [show 26 * (n + 1) = 26 * n + 26 by omega, Nat.pow_add]
      refine Nat.mul_le_mul_left _ ?_
      have : (n + 1) * (k * d) ≤ 11 * (12 * 2 ^ 15) := Nat.mul_le_mul l qb
      omega
    · rw [List.mem_singleton.mp h]
      have s := sc_part (sc_sum _ (rtP_sc (n := n) ha ih k1 k12 hs (by omega))) (n := n + 1) (by omega)
      have lP : (rtP a sh (rt a sh n) n).length = n + 1 := by unfold rtP; rw [List.length_map, List.length_range]
      have eD : d * eN (k * d) n * k * (n + 1) = eN (k * d) (n + 1) := by show _ = eN (k * d) n * ((n + 1) * (k * d)); grind
      rw [eD, lP] at s
      refine s.mono ?_
      rw [show 26 * (n + 1) = 26 * n + 26 by omega, Nat.pow_add]
      have h1 : Z * 2 ^ (26 * n) * 169 ≤ 2 ^ 15 * 2 ^ (26 * n) * 169 := Nat.mul_le_mul_right _ (Nat.mul_le_mul_right _ Zb)
      have h2 : (n + 1) * (Z * 2 ^ (26 * n) * 169) ≤ 11 * (2 ^ 15 * 2 ^ (26 * n) * 169) := Nat.mul_le_mul l h1
      generalize 2 ^ (26 * n) = P at *
      omega
theorem sc_denN {D M : Nat} {x : Rat} (h : Sc (D : Int) M x) (d0 : 0 < D) : x.den ∣ D := by
  obtain ⟨z, rfl, _⟩ := h
  rw [← Rat.divInt_eq_div, Rat.den_divInt, if_neg (by omega)]
  exact Nat.div_dvd_of_dvd (Nat.gcd_dvd_left D z.natAbs)
theorem sc_bitsN {D M n : Nat} {x : Rat} (h : Sc (D : Int) M x) (d0 : 0 < D) (dl : D < 2 ^ n) (ml : M < 2 ^ n) : Bits n x := Fp.Sc.bits h (by omega) (by show ((D : Nat) : Int).natAbs < _; rw [Int.natAbs_natCast]; exact dl) ml
/-- sizes on the way, out of bottoms in common -/
theorem rtOk_of {a : List Rat} {sh : Rat} {k d Z m : Nat} {E Cc : Nat → Nat} (ha : AllS (d : Int) Z a) (d0 : 0 < d) (db : d < 2 ^ 300) (Zb : Z < 2 ^ 300) (k1 : 1 ≤ k) (k12 : k ≤ 12) (hs : sh = 1 / (k : Rat)) (m13 : m ≤ 13) (hf : ∀ n, n < m → AllS ((E n : Nat) : Int) (Cc n) (rt a sh n) ∧ 0 < E n ∧ E n < 2 ^ 600 ∧ Cc n < 2 ^ 600) : RtOk a sh m where
  ba := fun x hx => sc_bitsN (ha x hx) d0 (Nat.lt_trans db (Nat.pow_lt_pow_right (by decide) (by decide))) (Nat.lt_trans Zb (Nat.pow_lt_pow_right (by decide) (by decide)))
  bs := by
    have : Sc ((k : Nat) : Int) 1 sh := ⟨1, by rw [hs, natR]; rfl, by decide⟩
    exact sc_bitsN this (by omega) (Nat.lt_of_le_of_lt k12 (by decide)) (by decide)
  bf := fun n hn x hx => let ⟨h, h0, h1, h2⟩ := hf n hn; sc_bitsN (h x hx) h0 h1 h2
  bB := fun n hn => by
    obtain ⟨h, h0, h1, h2⟩ := hf n (by omega)
    refine ⟨d * E n * k, Nat.mul_pos (Nat.mul_pos d0 h0) (by omega), ?_, fun x hx => ?_⟩
    · have : d * E n * k ≤ 2 ^ 300 * 2 ^ 600 * 12 := Nat.mul_le_mul (Nat.mul_le_mul (Nat.le_of_lt db) (Nat.le_of_lt h1)) k12
      exact Nat.lt_of_le_of_lt this (by decide +kernel)
    · exact sc_denN (rtP_sc (n := n) ha h k1 k12 hs (by omega) x hx) (Nat.mul_pos (Nat.mul_pos d0 h0) k1)
/-- what is spent on the way by one of degree m -/
def wkt (m : Nat) : Nat → Nat → Nat
  | 0, _ => 0
  | f + 1, L => if L ≤ m then 0 else (L - m) + wkt m f (L - m)
def wkm (m L : Nat) : Nat := if L ≤ 13 then wkt m 13 L else L * L
theorem wkm_ok {m : Nat} (m1 : 1 ≤ m) (m12 : m ≤ 12) : Wk (wkm m) (m + 1) := by
  have t1 : ∀ m, m < 12 → ∀ L, L < 14 → ∀ q, q < 14 → (q < L ∧ (q + (m + 2) ≤ L + 1 ∨ q = 0)) → q + wkt (m + 1) 13 q ≤ wkt (m + 1) 13 L := by decide +kernel
  have t2 : ∀ m, m < 12 → ∀ q, q < 14 → wkt (m + 1) 13 q ≤ q * q := by decide +kernel
  obtain ⟨m, rfl⟩ : ∃ j, m = j + 1 := ⟨m - 1, by omega⟩
  intro L q hq hc
  unfold wkm
  by_cases c : L ≤ 13
  · rw [if_pos c, if_pos (by omega)]
    exact t1 m (by omega) L (by omega) q (by omega) ⟨hq, hc⟩
  · rw [if_neg c]
    have h := Nat.mul_le_mul (show q + 1 ≤ L from hq) (show q + 1 ≤ L from hq)
    have e : (q + 1) * (q + 1) = q * q + 2 * q + 1 := by grind
    split
    · have := t2 m (by omega) q (by omega)
      omega
    · omega
theorem fitP {D s : Int} {M G T a b c d : Nat} (D0 : D ≠ 0) (s0 : s ≠ 0) (hD : D.natAbs < 2 ^ a) (hs : s.natAbs ≤ 2 ^ b) (hM : M < 2 ^ c) (hG : G ≤ 2 ^ d) (h1 : a + b * T ≤ 4000) (h2 : c + d * T ≤ 4000) : FitN D s M G T := fun e he => by
  have p : ∀ {x y z : Nat}, x ≤ 2 ^ y → x ^ e ≤ 2 ^ (y * e) := fun {x y z} h => by rw [Nat.pow_mul]; exact Nat.pow_le_pow_left h e
  have q : ∀ {u v y a : Nat}, u < 2 ^ a → v ≤ 2 ^ (y * e) → a + y * T ≤ 4000 → u * v < 2 ^ 4000 := fun {u v y a} h1 h2 h3 => by
    have h4 : y * e ≤ y * T := Nat.mul_le_mul_left _ he
    have h5 : u * v ≤ u * 2 ^ (y * e) := Nat.mul_le_mul_left _ h2
    have h6 : u * 2 ^ (y * e) < 2 ^ a * 2 ^ (y * e) := Nat.mul_lt_mul_of_pos_right h1 (Nat.two_pow_pos _)
    rw [← Nat.pow_add] at h6
    exact Nat.lt_of_le_of_lt h5 (Nat.lt_of_lt_of_le h6 (Nat.pow_le_pow_right (by decide) (by omega)))
  refine ⟨fun z => ?_, ?_, q hM (p (z := 0) hG) h2⟩
  · rcases Int.mul_eq_zero.mp z with h | h
    · exact D0 h
    · exact absurd h (Int.pow_ne_zero s0)
  · show (D * s ^ e).natAbs < 2 ^ 4000
    rw [Int.natAbs_mul, Int.natAbs_pow]
    exact q hD (p (z := 0) hs) h1
end
end K21

namespace K21
open PySem PySem.Spec PyProof.Rows L2 Fp
section
variable {C : Addr}
/-! ### root parts that the law asks for -/
/-- a polynomial of the law: over 6, not too great -/
structure Lw (f : List Rat) (n : Nat) : Prop where
  t : Told f
  s : AllS 6 (2 ^ 15) f
  l : f.length = n + 1
  n1 : 1 ≤ n
  n12 : n ≤ 12
theorem Lw.top {f : List Rat} {n : Nat} (h : Lw f n) : co f n ≠ 0 := by
  have := told_top h.t (fun e => by have := h.l; rw [e] at this; simp at this)
  rwa [h.l, Nat.add_sub_cancel] at this
theorem mkn {k m n : Nat} (en : n = k * m) (m1 : 1 ≤ m) (n12 : n ≤ 12) (n1 : 1 ≤ n) : 1 ≤ k ∧ k ≤ 12 ∧ m ≤ 12 := by
  have k0 : k ≠ 0 := fun z => by rw [z, Nat.zero_mul] at en; omega
  have h1 := Nat.le_mul_of_pos_right k m1
  have h2 := Nat.le_mul_of_pos_left m (show 0 < k by omega)
  omega
/-- over its head -/
theorem over_sc {f : List Rat} {n m : Nat} (h : Lw f n) (mn : m ≤ n) : ∃ d : Nat, 0 < d ∧ d ≤ 2 ^ 15 ∧ AllS (d : Int) (2 ^ 15) (overH f m) := by
  obtain ⟨z, hz, bz⟩ := h.s.co n
  have t := h.top
  have z0 : z ≠ 0 := fun e => t (by rw [hz, e]; decide +kernel)
  have zq := Fp.cast_ne z0
  refine ⟨z.natAbs, by omega, bz, AllS.of_co fun i => ?_⟩
  by_cases c : i < m
  · rw [over_co h.l c mn]
    obtain ⟨y, hy, by_⟩ := h.s.co (n - i)
    rw [hy, hz]
    have s6 : ((6 : Int) : Rat) ≠ 0 := Fp.cast_ne (by decide)
    by_cases s : 0 < z
    · exact ⟨y, by rw [show ((z.natAbs : Nat) : Int) = z by omega]; grind, by_⟩
    · exact ⟨-y, by rw [show ((z.natAbs : Nat) : Int) = -z by omega, Rat.intCast_neg, Rat.intCast_neg]; grind, by omega⟩
  · have l : (overH f m).length ≤ m := by unfold overH; rw [List.length_map, List.length_take]; omega
    rw [co_out (by omega)]; exact Fp.Sc.zero
theorem sh_of {f : List Rat} {k m n : Nat} (m1 : 1 ≤ m) (k1 : 1 ≤ k) (en : n = k * m) (l : f.length = n + 1) : shQ f m = 1 / (k : Rat) := by
  have k0 : (k : Rat) ≠ 0 := by rw [← natR]; exact Fp.cast_ne (by omega)
  have mq : (m : Rat) ≠ 0 := by rw [← natR]; exact Fp.cast_ne (by omega)
  unfold shQ
  rw [l, Nat.add_sub_cancel, en, show ((k * m : Nat) : Rat) = (k : Rat) * (m : Rat) by rw [← natR, Int.natCast_mul, Rat.intCast_mul, natR, natR]]
  grind
/-- the root's numbers over one bottom -/
structure RtS (h : List Rat) (m E Cc : Nat) : Prop where
  E0 : 0 < E
  El : E ≤ 2 ^ (23 * (m - 1))
  Cl : Cc = 2 ^ (26 * (m - 1))
  s : AllS (E : Int) Cc h
theorem Lw.rt {f : List Rat} {k m n : Nat} (h : Lw f n) (m1 : 1 ≤ m) (en : n = k * m) : RtOk (overH f m) (shQ f m) m ∧ ∃ E Cc, RtS (rootL f m) m E Cc := by
  obtain ⟨k1, k12, m12⟩ := mkn en m1 h.n12 h.n1
  have mn : m ≤ n := by rw [en]; exact Nat.le_mul_of_pos_left m k1
  obtain ⟨d, d0, db, ha⟩ := over_sc h mn
  have hs := sh_of m1 k1 en h.l
  have q0 : 0 < k * d := Nat.mul_pos k1 d0
  have qb : 11 * (k * d) ≤ 2 ^ 23 := by
    have : k * d ≤ 12 * 2 ^ 15 := Nat.mul_le_mul k12 db
    omega
  have sz := rt_sc ha d0 k1 k12 hs db (Nat.le_refl _)
  refine ⟨rtOk_of (E := eN (k * d)) (Cc := fun n => 2 ^ (26 * n)) ha d0 (Nat.lt_of_le_of_lt db (by decide)) (by decide) k1 k12 hs (by omega) fun j hj => ⟨sz j (by omega), eN_pos q0 j, Nat.lt_of_le_of_lt (eN_le qb j (by omega)) (Nat.pow_lt_pow_right (by decide) (by omega)), Nat.pow_lt_pow_right (by decide) (by omega)⟩, eN (k * d) (m - 1), _, eN_pos q0 _, eN_le qb _ (by omega), rfl, fun x hx => ?_⟩
  unfold rootL at hx
  rcases List.mem_cons.mp hx with e | e
  · rw [e]; exact Fp.Sc.zero
  · exact sz (m - 1) (by omega) x (List.mem_reverse.mp e)
/-- what it takes to divide by a root part -/
theorem RtS.by_ {h : List Rat} {m E Cc : Nat} (r : RtS h m E Cc) (l : h.length = m + 1) (t : co h m = 1) (m12 : m ≤ 12) : ByQ (E : Int) (E : Int) Cc h ∧ LbI 600 (E : Int) ∧ Cc < 2 ^ 600 := by
  have E0 := r.E0
  have El := r.El
  have q := Fp.cast_ne (show (E : Int) ≠ 0 by omega)
  have h1 : 2 ^ (23 * (m - 1)) ≤ 2 ^ (26 * (m - 1)) := Nat.pow_le_pow_right (by decide) (by omega)
  have h2 : 2 ^ (23 * (m - 1)) < 2 ^ 600 := Nat.pow_lt_pow_right (by decide) (by omega)
  refine ⟨⟨fun e => by rw [e] at l; simp at l, told_len l (by rw [t]; decide), r.s, by rw [l, Nat.add_sub_cancel, t, Rat.div_def, Rat.mul_inv_cancel _ q], by omega, by omega, ?_⟩, ?_, ?_⟩
  · rw [Int.natAbs_natCast, r.Cl]; omega
  · show ((E : Nat) : Int).natAbs < 2 ^ 600
    rw [Int.natAbs_natCast]; omega
  · rw [r.Cl]; exact Nat.pow_lt_pow_right (by decide) (by omega)
theorem way_tab : ∀ m, m < 12 → ∀ k, k < 12 → ((k + 1) * (m + 1) ≤ 12) → 20 + (1 + 49 * m) * wkt (m + 1) 13 ((k + 1) * (m + 1) + 1) ≤ 4000 := by decide +kernel
theorem RtS.fit {h : List Rat} {k m n E Cc : Nat} (r : RtS h m E Cc) (m1 : 1 ≤ m) (en : n = k * m) (n12 : n ≤ 12) (n1 : 1 ≤ n) {D : Int} {M a : Nat} (D0 : D ≠ 0) (hD : D.natAbs < 2 ^ a) (hM : M < 2 ^ a) (a20 : a ≤ 20) : FitN D (E : Int) M (2 * Cc * (E : Int).natAbs) (wkm m (n + 1)) := by
  obtain ⟨k1, k12, m12⟩ := mkn en m1 n12 n1
  have E0 := r.E0
  have tb := way_tab (m - 1) (by omega) (k - 1) (by omega) (by rw [show k - 1 + 1 = k by omega, show m - 1 + 1 = m by omega]; omega)
  rw [show k - 1 + 1 = k by omega, show m - 1 + 1 = m by omega, ← en] at tb
  have ew : wkm m (n + 1) = wkt m 13 (n + 1) := if_pos (by omega)
  rw [ew]
  generalize wkt m 13 (n + 1) = T at *
  have t1 : 23 * (m - 1) * T ≤ (1 + 49 * (m - 1)) * T := Nat.mul_le_mul_right _ (by omega)
  refine fitP (a := a) (b := 23 * (m - 1)) (c := a) (d := 1 + 49 * (m - 1)) D0 (by omega) hD (by rw [Int.natAbs_natCast]; exact r.El) hM ?_ (by omega) (by omega)
  rw [Int.natAbs_natCast, r.Cl]
  have := Nat.mul_le_mul_left (2 * 2 ^ (26 * (m - 1))) r.El
  refine Nat.le_trans this ?_
  rw [show 1 + 49 * (m - 1) = 1 + (26 * (m - 1) + 23 * (m - 1)) by omega, Nat.pow_add, Nat.pow_add, Nat.pow_one, Nat.mul_assoc]
  exact Nat.le_refl _
end
end K21

namespace K21
open PySem PySem.Spec PyProof.Rows L2 Fp
section
variable {C : Addr}
/-- a polynomial of another one -/
def Of (f h : List Rat) : Prop := ∃ F, Told F ∧ ∀ j, co f j = co (jl h (osing F)) j
theorem digs_no {f h : List Rat} {ds : List (List Rat)} (h2 : 2 ≤ h.length) (th : Told h) (dg : Digs h ds) (jn : jl h ds = f) (l : ∃ d ∈ ds, 1 < d.length) : ¬ Of f h := fun ⟨F, tF, e⟩ => by
  have ed := outer_back (fun z => by rw [z] at h2; simp at h2) h2 th tF dg fun n => by rw [jn]; exact e n
  obtain ⟨d, hd, l⟩ := l
  rw [ed] at hd
  have := ts_one F d hd
  omega
theorem digs_yes {f h : List Rat} {ds : List (List Rat)} (dg : Digs h ds) (jn : jl h ds = f) (l : ∀ d ∈ ds, d.length ≤ 1) : Of f h := by
  obtain ⟨e, t⟩ := sing_of dg l
  refine ⟨_, t, fun j => ?_⟩
  rw [← jl_ts, ← e, jn]
/-- what the package tells of a root part -/
def RpR (C : Addr) (H H' : Hp) (f h : List Rat) (v : V) : Prop := (v = .non ∧ ¬ Of f h) ∨ ((∃ a us, v = .ref a ∧ H a = none ∧ H' a = some (.lst us) ∧ QL C H' us h) ∧ Of f h)
theorem root_call {H : Hp} {Q : VK} {Ex : L2.XK} {x : V} {f : List Rat} {n m k E Cc : Nat} {D : Int} {M : Nat} (hx : PolyQ C H x f) (t : Told f) (l : f.length = n + 1) (n1 : 1 ≤ n) (n12 : n ≤ 12) (m1 : 1 ≤ m) (en : n = k * m) (bf : AllB 600 f) (ok : RtOk (overH f m) (shQ f m) m) (r : RtS (rootL f m) m E Cc) (fs : AllS D M f) (fit : FitN D (E : Int) M (2 * Cc * (E : Int).natAbs) (wkm m (n + 1)))
    (q : ∀ v H', Same H H' → RpR C H H' f (rootL f m) v → Q v H') : sp_root_part C [x, .int (m : Nat)] H Q Ex := by
  obtain ⟨k1, k12, m12⟩ := mkn en m1 n12 n1
  obtain ⟨lh, th, h0, _⟩ := rootL_co (f := f) m1
  obtain ⟨B, bE, bS⟩ := r.by_ lh th m12
  refine ⟨x, f, m, rfl, hx, t, by omega, by omega, bf, m1, by omega, .inr ⟨by rw [l, Nat.add_sub_cancel, en]; exact Nat.mul_mod_left _ _, ok, D, (E : Int), (E : Int), M, Cc, wkm m, B, fs, bE, bS, wkm_ok m1 m12, by rw [l]; exact fit, fun v H' ds s dg jn o => q v H' s ?_⟩⟩
  rcases o with ⟨e, hd⟩ | ⟨hv, one⟩
  · exact .inl ⟨e, digs_no (by omega) B.told dg jn hd⟩
  · exact .inr ⟨hv, digs_yes dg jn one⟩
theorem Lw.bits {f : List Rat} {n : Nat} (h : Lw f n) : AllB 600 f := h.s.bits (by decide) (show (6 : Int).natAbs < 2 ^ 600 by exact Nat.lt_of_lt_of_le (show 6 < 2 ^ 3 by decide) (Nat.pow_le_pow_right (by decide) (by decide))) (Nat.pow_lt_pow_right (by decide) (by decide))
/-- of the law's polynomials -/
theorem root_ok {H : Hp} {Q : VK} {Ex : L2.XK} {x : V} {f : List Rat} {n m k : Nat} (hx : PolyQ C H x f) (h : Lw f n) (m1 : 1 ≤ m) (en : n = k * m) (q : ∀ v H', Same H H' → RpR C H H' f (rootL f m) v → Q v H') : sp_root_part C [x, .int (m : Nat)] H Q Ex := by
  obtain ⟨ok, E, Cc, r⟩ := h.rt m1 en
  exact root_call hx h.t h.l h.n1 h.n12 m1 en h.bits ok r h.s (r.fit m1 en h.n12 h.n1 (a := 20) (by decide) (by decide) (by decide) (by decide)) q
theorem root_none {H : Hp} {Q : VK} {Ex : L2.XK} {x : V} {f : List Rat} {n m : Nat} (hx : PolyQ C H x f) (h : Lw f n) (m1 : 1 ≤ m) (m48 : m ≤ 48) (en : n % m ≠ 0) (q : ∀ H', Same H H' → Q .non H') : sp_root_part C [x, .int (m : Nat)] H Q Ex :=
  ⟨x, f, m, rfl, hx, h.t, by have := h.l; have := h.n1; omega, by have := h.l; have := h.n12; omega, h.bits, m1, m48, .inl ⟨by rw [h.l, Nat.add_sub_cancel]; exact en, q⟩⟩
/-- a root part is one of itself, and its own root part -/
theorem of_self (h : List Rat) : Of h h := ⟨[0, 1], told_id, fun j => (jo_self h j).symm⟩
theorem root_self {h : List Rat} {m : Nat} (m1 : 1 ≤ m) (l : h.length = m + 1) (t : co h m = 1) (h0 : co h 0 = 0) : rootL h m = h := by
  have t0 : co h m ≠ 0 := by rw [t]; decide
  rw [rootL_whole m1 l t0]
  obtain ⟨lb, tb, b0, bc⟩ := bareQ_co m1 l t0
  refine told_ext (told_len lb (by rw [tb]; decide)) (told_len l t0) fun j => ?_
  by_cases z : j = 0
  · rw [z, b0, h0]
  · rw [bc j (by omega), t]; grind
theorem root_selfOk {h : List Rat} {m E Cc : Nat} (m1 : 1 ≤ m) (m12 : m ≤ 12) (l : h.length = m + 1) (t : co h m = 1) (h0 : co h 0 = 0) (r : RtS h m E Cc) : RtOk (overH h m) (shQ h m) m := by
  have rs := root_self m1 l t h0
  obtain ⟨_, _, _, hc⟩ := rootL_co (f := h) m1
  rw [rs] at hc
  have El : E < 2 ^ 300 := Nat.lt_of_le_of_lt r.El (Nat.pow_lt_pow_right (by decide) (by omega))
  have Cl : Cc < 2 ^ 300 := by rw [r.Cl]; exact Nat.pow_lt_pow_right (by decide) (by omega)
  have p6 : 2 ^ 300 < 2 ^ 600 := Nat.pow_lt_pow_right (by decide) (by decide)
  refine rtOk_of (k := 1) (E := fun _ => E) (Cc := fun _ => Cc) (d := E) (Z := Cc) (AllS.of_co fun i => ?_) r.E0 El Cl (Nat.le_refl 1) (by decide) (sh_of m1 (Nat.le_refl 1) (by omega) l) (by omega) fun n hn => ⟨AllS.of_co fun j => ?_, r.E0, Nat.lt_trans El p6, Nat.lt_trans Cl p6⟩
  · by_cases c : i < m
    · rw [over_co l c (Nat.le_refl m), t]
      have := r.s.co (m - i)
      rwa [show co h (m - i) / 1 = co h (m - i) by grind]
    · have l2 : (overH h m).length ≤ m := by unfold overH; rw [List.length_map, List.length_take]; omega
      rw [co_out (by omega)]; exact Fp.Sc.zero
  · by_cases c : j ≤ n
    · rw [← rt_at _ _ (show n ≤ m - 1 by omega) c, ← hc j (by omega)]
      exact r.s.co _
    · rw [co_out (by rw [rt_len]; omega)]; exact Fp.Sc.zero
theorem self_call {H : Hp} {Q : VK} {Ex : L2.XK} {x : V} {h : List Rat} {m E Cc : Nat} (hx : PolyQ C H x h) (m1 : 1 ≤ m) (m12 : m ≤ 12) (l : h.length = m + 1) (t : co h m = 1) (h0 : co h 0 = 0) (r : RtS h m E Cc) (q : ∀ a us H', Same H H' → H a = none → H' a = some (.lst us) → QL C H' us h → Q (.ref a) H') : sp_root_part C [x, .int (m : Nat)] H Q Ex := by
  have rs := root_self m1 l t h0
  have E0 := r.E0
  have El : E < 2 ^ 600 := Nat.lt_of_le_of_lt r.El (Nat.pow_lt_pow_right (by decide) (by omega))
  have Cl : Cc < 2 ^ 600 := by rw [r.Cl]; exact Nat.pow_lt_pow_right (by decide) (by omega)
  have w1 : wkm m (m + 1) = 1 := by
    have : ∀ m, m < 13 → 1 ≤ m → wkt m 13 (m + 1) = 1 := by decide +kernel
    unfold wkm
    rw [if_pos (by omega)]; exact this m (by omega) m1
  refine root_call (k := 1) (D := (E : Int)) (M := Cc) (E := E) (Cc := Cc) hx (told_len l (by rw [t]; decide)) l m1 m12 m1 (by omega) (fun y hy => sc_bitsN (r.s y hy) E0 El Cl) (root_selfOk m1 m12 l t h0 r) (by rw [rs]; exact r) r.s ?_ fun v H' s o => ?_
  · rw [w1]
    refine fitP (a := 600) (b := 600) (c := 600) (d := 1201) (by omega) (by omega) (by rw [Int.natAbs_natCast]; exact El) (by rw [Int.natAbs_natCast]; exact Nat.le_of_lt El) Cl ?_ (by decide) (by decide)
    rw [Int.natAbs_natCast]
    have := Nat.mul_le_mul (Nat.mul_le_mul_left 2 (Nat.le_of_lt Cl)) (Nat.le_of_lt El)
    exact Nat.le_trans this (by decide +kernel)
  · rw [rs] at o
    rcases o with ⟨_, no⟩ | ⟨⟨a, us, rfl, na, ha, hq⟩, _⟩
    · exact absurd (of_self h) no
    · exact q a us H' s na ha hq
end
end K21

namespace K21
open PySem PySem.Spec PyProof.Rows L2 Fp
section
/-! ### powers of whole numbers' lists, what is of a root part, the law's own root part -/
theorem powI_len {zs : List Int} (h : zs ≠ []) : ∀ k, (powI zs k).length = k * (zs.length - 1) + 1
  | 0 => by rw [Nat.zero_mul]; rfl
  | k + 1 => by
    have := List.length_pos_iff.mpr h
    show (timesI (powI zs k) zs).length = _
    rw [timesI_len, powI_len h k, Nat.add_mul]; omega
theorem powI_co {b : Int} (b0 : b ≠ 0) (zs : List Int) : ∀ k j, co (ratsOf (b ^ k) (powI zs k)) j = co (powQ (ratsOf b zs) k) j
  | 0, j => by
    show co (ratsOf (b ^ 0) [1]) j = co [1] j
    rw [Int.pow_zero, show ratsOf 1 [1] = [1] by show [((1 : Int) : Rat) / ((1 : Int) : Rat)] = [1]; decide +kernel]
  | k + 1, j => by
    have h1 : b ^ k ≠ 0 := Int.pow_ne_zero b0
    have := timesI_co h1 b0 (powI zs k) zs j
    rw [ratsOf_trim (Int.mul_ne_zero h1 b0), trimQ_co] at this
    show co (ratsOf (b ^ (k + 1)) (timesI (powI zs k) zs)) j = co (timesQ (powQ (ratsOf b zs) k) (ratsOf b zs)) j
    rw [Int.pow_succ, this, timesQ_co, prodc_left (powI_co b0 zs k)]
theorem powI_at {b : Int} (b0 : b ≠ 0) (zs : List Int) (k j : Nat) : (((powI zs k).getD j 0 : Int) : Rat) = (b : Rat) ^ k * co (powQ (ratsOf b zs) k) j := by
  have h1 : ((b ^ k : Int) : Rat) ≠ 0 := Fp.cast_ne (Int.pow_ne_zero b0)
  have := powI_co b0 zs k j
  rw [co_rats] at this
  rw [← this, ← Rat.intCast_pow]
  generalize ((b ^ k : Int) : Rat) = q at *
  grind
theorem powI_bits {zs : List Int} {n : Nat} (z0 : zs ≠ []) (h : BN (2 ^ n) zs) : ∀ k, k * (zs.length - 1) ≤ 12 → BN (2 ^ (k * (n + 4))) (powI zs k)
  | 0, _ => fun z hz => by rw [List.mem_singleton.mp hz]; show 1 ≤ _; exact Nat.one_le_two_pow
  | k + 1, l => by
    have l2 : k * (zs.length - 1) ≤ 12 := Nat.le_trans (Nat.mul_le_mul_right _ (Nat.le_succ k)) l
    have ih := powI_bits z0 h k l2
    have := timesI_BN ih h
    intro z hz
    refine Nat.le_trans (this z hz) ?_
    rw [powI_len z0 k]
    have h16 : k * (zs.length - 1) + 1 ≤ 2 ^ 4 := by omega
    refine Nat.le_trans (Nat.mul_le_mul_right _ h16) ?_
    rw [← Nat.pow_add, ← Nat.pow_add]
    refine Nat.pow_le_pow_right (by decide) ?_
    rw [Nat.add_mul]; omega
def monoQ (i : Nat) : List Rat := List.replicate i 0 ++ [1]
theorem mono_co (i j : Nat) : co (monoQ i) j = if j = i then 1 else 0 := by
  unfold monoQ co
  rw [List.getD_eq_getElem?_getD]
  by_cases h : j < i
  · rw [List.getElem?_append_left (by simpa using h), List.getElem?_replicate, if_pos h, if_neg (by omega)]; rfl
  · rw [List.getElem?_append_right (by simpa using h), List.length_replicate]
    by_cases e : j = i
    · rw [if_pos e, e, Nat.sub_self]; rfl
    · rw [if_neg e, List.getElem?_eq_none (by simp; omega)]; rfl
theorem jl_mono (Y : List Rat) : ∀ i n, co (jl Y (osing (monoQ i))) n = co (powQ Y i) n
  | 0, n => by
    rw [jo_head]
    show prodc Y (co []) n + single 0 1 n = co [1] n
    rw [prodc_nil_right]
    unfold single
    cases n with
    | zero => rw [if_pos rfl]; show (0 : Rat) + 1 = 1; grind
    | succ n => rw [if_neg (by omega), co_out (by simp)]; grind
  | i + 1, n => by
    rw [jo_head, show (monoQ (i + 1)).drop 1 = monoQ i from rfl, prodc_congr (jl_mono Y i)]
    show _ + single 0 0 n = co (timesQ (powQ Y i) Y) n
    rw [timesQ_co, prodc_comm (powQ Y i) Y]
    unfold single
    split <;> grind
/-- p times a polynomial, and a more of a power -/
theorem jl_more (Y F : List Rat) (p a : Rat) (i : Nat) : ∃ F', (∀ j, co F' j = p * co F j + if j = i then a else 0) ∧ ∀ n, co (jl Y (osing F')) n = p * co (jl Y (osing F)) n + a * co (powQ Y i) n := by
  let G := F.map (p * ·)
  have cG : ∀ j, co G j = co [] j + p * co F j := fun j => by
    rw [co_nil]
    by_cases h : j < F.length
    · have e : G[j]? = some (p * F[j]) := by show (F.map _)[j]? = _; rw [List.getElem?_map, List.getElem?_eq_getElem h]; rfl
      rw [co_at e, co_at (List.getElem?_eq_getElem h)]; grind
    · rw [co_out (by show (F.map _).length ≤ j; rw [List.length_map]; omega), co_out (xs := F) (by omega)]; grind
  have h1 := jo_lin Y p F.length [] F G (Nat.zero_le _) (Nat.le_refl _) (by show (F.map _).length ≤ _; rw [List.length_map]; exact Nat.le_refl _) cG
  let L := (List.range (max F.length (i + 1))).map fun j => co G j + a * co (monoQ i) j
  have cL : ∀ j, co L j = co G j + a * co (monoQ i) j := fun j => by
    by_cases h : j < max F.length (i + 1)
    · exact co_at (by show (List.map _ _)[j]? = _; rw [List.getElem?_map, List.getElem?_range h]; rfl)
    · rw [co_out (by show (List.map _ _).length ≤ j; rw [List.length_map, List.length_range]; omega), co_out (xs := G) (by show (F.map _).length ≤ j; rw [List.length_map]; omega), mono_co, if_neg (by omega)]; grind
  have lm : (monoQ i).length = i + 1 := by unfold monoQ; simp
  have h2 := jo_lin Y a (max F.length (i + 1)) G (monoQ i) L (by show (F.map _).length ≤ _; rw [List.length_map]; omega) (by omega) (by show (List.map _ _).length ≤ _; rw [List.length_map, List.length_range]; exact Nat.le_refl _) cL
  refine ⟨L, fun j => ?_, fun n => ?_⟩
  · rw [cL, cG, mono_co, co_nil]; split <;> grind
  · rw [h2 n, h1 n, jl_mono, show co (jl Y (osing [])) n = 0 from rfl]; grind
theorem pow_top {g : List Rat} {m : Nat} (m1 : 1 ≤ m) (lg : g.length = m + 1) (tg : co g m = 1) (k : Nat) : co (powQ g k) (k * m) = 1 := by
  have ng : g ≠ [] := fun z => by rw [z] at lg; simp at lg
  have pg := pow_len g ng k
  rw [lg, Nat.add_sub_cancel] at pg
  have u0 : co g.reverse 0 = 1 := by rw [rev_co, if_pos (by omega), lg]; exact tg
  have := (pow_first (u := g.reverse) (v := g.reverse) (n := 1) (fun j _ => rfl) u0 u0 (by decide) k).2.1
  rw [← rev_pow ng, rev_co, if_pos (by omega), pg] at this
  rw [← this]; congr 1
/-- what the law's search has left -/
def numQ (ls : List Int) (j : Nat) : Rat := ((ls.getD j 0 : Int) : Rat)
structure OfI (f h : List Rat) (r : Nat) (ls : List Int) : Prop where
  one : ∃ (s : Rat) (F : List Rat), s ≠ 0 ∧ ∀ j, numQ ls j = s * co f j - co (jl h (osing F)) j
  two : Of f h → ∃ F, (∀ i, r ≤ i → co F i = 0) ∧ ∀ j, numQ ls j = co (jl h (osing F)) j
theorem OfI.start {f h : List Rat} {ts : List Int} {b : Int} {n m K : Nat} (b0 : b ≠ 0) (e : ∀ j, co (ratsOf b ts) j = co f j) (tf : Told f) (lf : f.length = n + 1) (en : n = K * m) (m1 : 1 ≤ m) (lh : h.length = m + 1) (th : Told h) : OfI f h (K + 1) ts := by
  have q := Fp.cast_ne b0
  have v : ∀ j, numQ ts j = (b : Rat) * co f j := fun j => by
    unfold numQ
    rw [← e, co_rats]
    generalize (b : Rat) = q at *
    grind
  refine ⟨⟨b, [], q, fun j => by rw [v, show co (jl h (osing [])) j = 0 from rfl]; grind⟩, fun ⟨F, tF, eF⟩ => ?_⟩
  obtain ⟨F', c, d⟩ := jl_more h F b 0 0
  refine ⟨F', fun i hi => ?_, fun j => by rw [v, d, eF]; grind⟩
  have ef : f = jl h (osing F) := told_ext tf (jl_told _ _) eF
  have F0 : F ≠ [] := fun z => by rw [ef, z] at lf; simp [osing, jl] at lf
  have l := jo_len (Y := h) (by omega) th F tF F0
  rw [← ef, lf, lh, en, Nat.add_sub_cancel] at l
  have lF := List.length_pos_iff.mpr F0
  have : K = F.length - 1 := Nat.eq_of_mul_eq_mul_right (show 0 < m by omega) (by omega)
  rw [c, co_out (by omega)]; split <;> grind
theorem OfI.step {f h : List Rat} {ls ls' gs : List Int} {c : Int} {m i : Nat} {p hd : Rat} (O : OfI f h (i + 1) ls) (c0 : c ≠ 0) (eh : ratsOf c gs = h) (lh : h.length = m + 1) (t1 : co h m = 1) (m1 : 1 ≤ m) (ep : p = numQ (powI gs i) (i * m)) (ehd : hd = numQ ls (i * m)) (e : ∀ j, numQ ls' j = p * numQ ls j - hd * numQ (powI gs i) j) : OfI f h i ls' := by
  subst eh
  have pw : ∀ j, numQ (powI gs i) j = (c : Rat) ^ i * co (powQ (ratsOf c gs) i) j := fun j => powI_at c0 gs i j
  generalize ratsOf c gs = h at *
  have cq : (c : Rat) ^ i ≠ 0 := by rw [← Rat.intCast_pow]; exact Fp.cast_ne (Int.pow_ne_zero c0)
  generalize (c : Rat) ^ i = C at *
  have h0 : h ≠ [] := fun z => by rw [z] at lh; simp at lh
  have pt : p ≠ 0 := by
    rw [ep, pw, pow_top m1 lh t1]
    grind
  refine ⟨?_, fun hO => ?_⟩
  · obtain ⟨s, F, s0, hs⟩ := O.one
    obtain ⟨F', _, d⟩ := jl_more h F p (hd * C) i
    refine ⟨p * s, F', by grind, fun j => ?_⟩
    rw [e, hs, d, pw]; grind
  · obtain ⟨F, z, hs⟩ := O.two hO
    obtain ⟨F', k, d⟩ := jl_more h F p (-(hd * C)) i
    refine ⟨F', fun j hj => ?_, fun j => by rw [e, hs, d, pw]; grind⟩
    rw [k]
    by_cases E : j = i
    · rw [if_pos E, E, ehd, hs, ep, pw]
      have : co (jl h (osing F)) (i * m) = co F i * co (powQ h i) (i * m) := by
        rw [jo_congr h (ys := (List.range (i + 1)).map (co F)) (fun j => ?_) (i * m), jl_top lh m1 _ i (by simp) _ (by omega), co_at (x := co F i) (by rw [List.getElem?_map, List.getElem?_range (by omega)]; rfl)]
        by_cases hj : j < i + 1
        · rw [co_at (xs := (List.range (i + 1)).map (co F)) (x := co F j) (by rw [List.getElem?_map, List.getElem?_range hj]; rfl)]
        · rw [z j (by omega), co_out (by simp; omega)]
      rw [this]; grind
    · rw [if_neg E, z j (by omega)]; grind
theorem OfI.done {f h : List Rat} {ls : List Int} (O : OfI f h 0 ls) : (ls.any (· != 0)) = false ↔ Of f h := by
  constructor
  · intro hz
    obtain ⟨s, F, s0, hs⟩ := O.one
    have z : ∀ j, numQ ls j = 0 := fun j => by
      unfold numQ
      rw [List.getD_eq_getElem?_getD]
      cases hj : ls[j]? with
      | none => rfl
      | some x =>
        have := List.any_eq_false.mp hz x (List.mem_of_getElem? hj)
        have x0 : x = 0 := by simpa using this
        rw [x0]; rfl
    obtain ⟨F', k, d⟩ := jl_more h F (1 / s) 0 0
    refine ⟨trimQ F', trimQ_told _, fun j => ?_⟩
    rw [jo_trim, d]
    have := hs j
    rw [z] at this
    grind
  · intro hO
    obtain ⟨F, z, hs⟩ := O.two hO
    have e : ∀ j, numQ ls j = 0 := fun j => by
      rw [hs, jo_congr h (ys := []) (fun i => by rw [z i (Nat.zero_le _)]; rfl)]; rfl
    refine List.any_eq_false.mpr fun x hx => ?_
    obtain ⟨j, hj⟩ := List.getElem?_of_mem hx
    have := e j
    unfold numQ at this
    rw [List.getD_eq_getElem?_getD, hj] at this
    have x0 : x = 0 := Classical.byContradiction fun c => Fp.cast_ne c this
    rw [x0]; decide
def stpI (ls pw : List Int) (p hd : Int) (j : Nat) : List Int := (List.range ls.length).map fun t => ls.getD t 0 * p - if t < j then hd * pw.getD t 0 else 0
theorem stpI_len (ls pw : List Int) (p hd : Int) (j : Nat) : (stpI ls pw p hd j).length = ls.length := by unfold stpI; rw [List.length_map, List.length_range]
theorem stpI_at {ls : List Int} (pw : List Int) (p hd : Int) (j : Nat) {t : Nat} (h : t < ls.length) : (stpI ls pw p hd j)[t]? = some (ls.getD t 0 * p - if t < j then hd * pw.getD t 0 else 0) := by unfold stpI; rw [List.getElem?_map, List.getElem?_range h]; rfl
theorem stpI_zero (ls pw : List Int) (p hd : Int) : stpI ls pw p hd 0 = ls.map fun z => z * p := by
  refine List.ext_getElem (by rw [stpI_len, List.length_map]) fun t h1 h2 => ?_
  have h : t < ls.length := by rwa [List.length_map] at h2
  have e := stpI_at pw p hd 0 h
  rw [List.getElem?_eq_getElem h1] at e
  rw [Option.some.inj e, List.getElem_map, if_neg (by omega), List.getD_eq_getElem?_getD, List.getElem?_eq_getElem h]
  show ls[t] * p - 0 = _
  omega
theorem stpI_succ (ls pw : List Int) (p hd : Int) {j : Nat} (h : j < ls.length) : stpI ls pw p hd (j + 1) = (stpI ls pw p hd j).set j (ls.getD j 0 * p - hd * pw.getD j 0) := by
  refine List.ext_getElem? fun t => ?_
  rw [List.getElem?_set, stpI_len]
  by_cases ht : t < ls.length
  · rw [stpI_at _ _ _ _ ht]
    by_cases e : j = t
    · rw [if_pos e, if_pos h, ← e, if_pos (by omega)]
    · rw [if_neg e, stpI_at _ _ _ _ ht]
      by_cases c : t < j
      · rw [if_pos c, if_pos (by omega)]
      · rw [if_neg c, if_neg (by omega)]
  · rw [List.getElem?_eq_none (by rw [stpI_len]; omega), if_neg (by omega), List.getElem?_eq_none (by rw [stpI_len]; omega)]
theorem gd_out {xs : List Int} {t : Nat} (h : xs.length ≤ t) : xs.getD t 0 = 0 := by rw [List.getD_eq_getElem?_getD, List.getElem?_eq_none h]; rfl
theorem gd_at {xs : List Int} {t : Nat} {x : Int} (h : xs[t]? = some x) : xs.getD t 0 = x := by rw [List.getD_eq_getElem?_getD, h]; rfl
theorem stpI_num {ls pw : List Int} (p hd : Int) (h : pw.length ≤ ls.length) (t : Nat) : numQ (stpI ls pw p hd pw.length) t = (p : Rat) * numQ ls t - (hd : Rat) * numQ pw t := by
  unfold numQ
  by_cases ht : t < ls.length
  · rw [gd_at (stpI_at pw p hd pw.length ht), Rat.intCast_sub, Rat.intCast_mul]
    split
    · rw [Rat.intCast_mul]; grind
    · rename_i c
      rw [gd_out (xs := pw) (by omega)]
      show _ - ((0 : Int) : Rat) = _ - _ * ((0 : Int) : Rat)
      grind
  · rw [gd_out (xs := stpI _ _ _ _ _) (by rw [stpI_len]; omega), gd_out (xs := ls) (by omega), gd_out (xs := pw) (by omega)]
    show ((0 : Int) : Rat) = _ * ((0 : Int) : Rat) - _ * ((0 : Int) : Rat)
    grind
theorem stpI_bits {ls pw : List Int} {p hd : Int} {a b j : Nat} (hl : ∀ z ∈ ls, LbI a z) (hp : LbI b p) (hh : LbI a hd) (hw : ∀ z ∈ pw, LbI b z) : ∀ z ∈ stpI ls pw p hd j, LbI (a + b + 1) z := fun z hz => by
  have g : ∀ {n : Nat} {xs : List Int}, (∀ z ∈ xs, LbI n z) → ∀ t, LbI n (xs.getD t 0) := fun {n xs} h t => by
    rw [List.getD_eq_getElem?_getD]
    cases e : xs[t]? with
    | none => exact LbI.zero
    | some x => exact h x (List.mem_of_getElem? e)
  obtain ⟨t, _, rfl⟩ := List.mem_map.mp hz
  refine ((g hl t).mul hp).sub ?_
  split
  · exact hh.mul (g hw t)
  · exact LbI.zero
/-! ### the law's own root part -/
def hT (h : List Rat) (m below : Nat) : List Rat := (List.range (m + 1)).map fun j => if m - j < below then co h j else 0
theorem hT_co (h : List Rat) {m below j : Nat} (hj : j ≤ m) : co (hT h m below) j = if m - j < below then co h j else 0 := co_at (by unfold hT; rw [List.getElem?_map, List.getElem?_range (by omega)]; rfl)
theorem hT_len (h : List Rat) (m below : Nat) : (hT h m below).length = m + 1 := by unfold hT; rw [List.length_map, List.length_range]
/-- the number that comes next -/
theorem hT_next {f : List Rat} {m n k below : Nat} (m1 : 1 ≤ m) (k1 : 1 ≤ k) (en : n = k * m) (l : f.length = n + 1) (t : co f n ≠ 0) (b1 : 1 ≤ below) (bm : below < m) : (co f (n - below) / co f n - co (powQ (hT (rootL f m) m below) k) (n - below)) / (k : Rat) = co (rootL f m) (m - below) := by
  obtain ⟨lh, th, h0, _⟩ := rootL_co (f := f) m1
  have rp := rootL_pow m1 k1 en l t below bm
  rw [en] at *
  rw [← rp]
  generalize rootL f m = h at *
  have lT := hT_len h m below
  have k0 : (k : Rat) ≠ 0 := by rw [← natR]; exact Fp.cast_ne (by omega)
  have mk : m ≤ k * m := Nat.le_mul_of_pos_left m k1
  have nh : h ≠ [] := fun z => by rw [z] at lh; simp at lh
  have nT : hT h m below ≠ [] := fun z => by rw [z] at lT; simp at lT
  have ph := pow_len h nh k
  have pT := pow_len _ nT k
  rw [lh, Nat.add_sub_cancel] at ph
  rw [lT, Nat.add_sub_cancel] at pT
  have rv : ∀ (g : List Rat), g.length = m + 1 → ∀ j, j ≤ m → co g.reverse j = co g (m - j) := fun g lg j hj => by rw [rev_co, if_pos (by omega), lg]; rfl
  have rk : ∀ (g : List Rat), g ≠ [] → (powQ g k).length = k * m + 1 → co (powQ g.reverse k) below = co (powQ g k) (k * m - below) := fun g g0 lg => by rw [← rev_pow g0, rev_co, if_pos (by omega), lg]; rfl
  have cT : ∀ j, j ≤ m → co (hT h m below) (m - j) = if j < below then co h (m - j) else 0 := fun j hj => by rw [hT_co h (Nat.sub_le _ _), show m - (m - j) = j by omega]
  have r := (pow_first (u := h.reverse) (v := (hT h m below).reverse) (n := below) (fun j hj => by rw [rv h lh j (by omega), rv _ lT j (by omega), cT j (by omega), if_pos hj]) (by rw [rv h lh 0 (by omega), Nat.sub_zero]; exact th) (by rw [rv _ lT 0 (by omega), cT 0 (by omega), if_pos (by omega), Nat.sub_zero]; exact th) b1 k).2.2
  rw [rk h nh ph, rk _ nT pT, rv h lh below (by omega), rv _ lT below (by omega), cT below (by omega), if_neg (by omega)] at r
  rw [r]
  grind
theorem prim_dvd {zs : List Int} {b E : Int} (b0 : 0 < b) (pr : ∀ d : Nat, (∀ z ∈ zs, (d : Int) ∣ z) → (d : Int) ∣ b → d = 1) (h : ∀ z ∈ zs, b ∣ z * E) : b ∣ E := by
  have B0 : 0 < b.natAbs := by omega
  have g0 : 0 < Nat.gcd b.natAbs E.natAbs := Nat.gcd_pos_of_pos_left _ B0
  have cp := Nat.coprime_div_gcd_div_gcd g0
  obtain ⟨d, ed⟩ := Nat.gcd_dvd_left b.natAbs E.natAbs
  obtain ⟨e, ee⟩ := Nat.gcd_dvd_right b.natAbs E.natAbs
  have hd : b.natAbs / Nat.gcd b.natAbs E.natAbs = d := by conv => lhs; lhs; rw [ed]
                                                           exact Nat.mul_div_cancel_left d g0
  have he : E.natAbs / Nat.gcd b.natAbs E.natAbs = e := by conv => lhs; lhs; rw [ee]
                                                           exact Nat.mul_div_cancel_left e g0
  rw [hd, he] at cp
  have d1 : d = 1 := pr d (fun z hz => by
    have := Int.natAbs_dvd_natAbs.mpr (h z hz)
    rw [Int.natAbs_mul] at this
    generalize Nat.gcd b.natAbs E.natAbs = g at *
    rw [ed, ee, Nat.mul_left_comm] at this
    have h2 := Nat.dvd_of_mul_dvd_mul_left g0 this
    exact Int.dvd_natAbs.mp (Int.natCast_dvd_natCast.mpr (cp.dvd_of_dvd_mul_right h2))) (Int.dvd_natAbs.mp (Int.natCast_dvd_natCast.mpr ⟨_, by rw [Nat.mul_comm]; exact ed⟩))
  rw [d1, Nat.mul_one] at ed
  refine Int.natAbs_dvd_natAbs.mp ?_
  rw [ed]; exact Nat.gcd_dvd_right _ _
structure RtI (h : List Rat) (m below : Nat) (zs : List Int) (b : Int) : Prop where
  l : zs.length = m + 1
  b0 : 0 < b
  e : ratsOf b zs = hT h m below
  pr : ∀ d : Nat, (∀ z ∈ zs, (d : Int) ∣ z) → (d : Int) ∣ b → d = 1
theorem RtI.size {h : List Rat} {m below E Cc : Nat} {zs : List Int} {b : Int} (r : RtI h m below zs b) (R : RtS h m E Cc) (m12 : m ≤ 12) : LbI 300 b ∧ BN (2 ^ 300) zs := by
  have E0 := R.E0
  have b0 := r.b0
  have bq := Fp.cast_ne (show b ≠ 0 by omega)
  have eq := Fp.cast_ne (show (E : Int) ≠ 0 by omega)
  have sT : AllS (E : Int) Cc (hT h m below) := fun x hx => by
    obtain ⟨j, hj, rfl⟩ := List.mem_map.mp hx
    split
    · exact R.s.co j
    · exact Fp.Sc.zero
  have key : ∀ z ∈ zs, ∃ y : Int, y.natAbs ≤ Cc ∧ z * (E : Int) = y * b := fun z hz => by
    obtain ⟨j, hj⟩ := List.getElem?_of_mem hz
    have h1 := ratsOf_at (b := b) hj
    rw [r.e] at h1
    obtain ⟨y, hy, by_⟩ := sT _ (List.mem_of_getElem? h1)
    refine ⟨y, by_, ?_⟩
    have : ((z * (E : Int) : Int) : Rat) = ((y * b : Int) : Rat) := by
      rw [Rat.intCast_mul, Rat.intCast_mul]
      generalize (b : Rat) = B at *
      generalize ((E : Int) : Rat) = EE at *
      grind
    exact Rat.intCast_inj.mp this
  have d : b ∣ (E : Int) := prim_dvd b0 r.pr fun z hz => by
    obtain ⟨y, _, e⟩ := key z hz
    rw [e]; exact Int.dvd_mul_left _ _
  have bE : b.natAbs ≤ E := Nat.le_of_dvd E0 (by have := Int.natAbs_dvd_natAbs.mpr d; rwa [Int.natAbs_natCast] at this)
  have El := R.El
  have p1 : 2 ^ (23 * (m - 1)) < 2 ^ 300 := Nat.pow_lt_pow_right (by decide) (by omega)
  have p2 : Cc ≤ 2 ^ 300 := by rw [R.Cl]; exact Nat.pow_le_pow_right (by decide) (by omega)
  refine ⟨by show b.natAbs < 2 ^ 300; omega, fun z hz => ?_⟩
  obtain ⟨y, by_, e⟩ := key z hz
  have e2 : z.natAbs * E = y.natAbs * b.natAbs := by
    have := congrArg Int.natAbs e
    rwa [Int.natAbs_mul, Int.natAbs_mul, Int.natAbs_natCast] at this
  have : z.natAbs * E ≤ Cc * E := by rw [e2]; exact Nat.mul_le_mul by_ bE
  exact Nat.le_trans (Nat.le_of_mul_le_mul_right this E0) p2
end
end K21

namespace Fp
/-! ### whole polynomials: what divides what, modulo a number too -/
abbrev zc (zs : List Int) (n : Nat) : Int := zs.getD n 0
theorem zc_out {zs : List Int} {n : Nat} (h : zs.length ≤ n) : zc zs n = 0 := getD_out h
theorem zc_cons_succ (z : Int) (zs : List Int) (n : Nat) : zc (z :: zs) (n + 1) = zc zs n := rfl
theorem zc_shift (zs : List Int) (n : Nat) : zc (0 :: zs) n = if n = 0 then 0 else zc zs (n - 1) := by
  cases n with
  | zero => rfl
  | succ n => rw [if_neg (by omega)]; rfl
theorem mulL_cons (x : Int) (xs ys : List Int) (n : Nat) : zc (mulL (x :: xs) ys) n = x * zc ys n + (if n = 0 then 0 else zc (mulL xs ys) (n - 1)) := by
  show (addL (smL x ys) (0 :: mulL xs ys)).getD n 0 = _
  rw [addL_at, smL_at]
  congr 1
  exact zc_shift _ _
theorem sumI_shift (f : Nat → Int) : ∀ n, sumI f (n + 1) = f 0 + sumI (fun i => f (i + 1)) n
  | 0 => by show (0 : Int) + f 0 = f 0 + 0; omega
  | n + 1 => by
    show sumI f (n + 1) + f (n + 1) = f 0 + (sumI (fun i => f (i + 1)) n + f (n + 1))
    rw [sumI_shift f n]; omega
theorem sumI_congr {f g : Nat → Int} : ∀ {n : Nat}, (∀ i, i < n → f i = g i) → sumI f n = sumI g n
  | 0, _ => rfl
  | n + 1, h => by
    show sumI f n + f n = sumI g n + g n
    rw [sumI_congr fun i hi => h i (by omega), h n (by omega)]
theorem mulL_sum : ∀ (xs ys : List Int) (n : Nat), zc (mulL xs ys) n = sumI (fun k => zc xs k * zc ys (n - k)) (n + 1)
  | [], ys, n => by
    symm
    exact sumI_zero fun i _ => by show (0 : Int) * _ = 0; omega
  | x :: xs, ys, n => by
    rw [mulL_cons, sumI_shift]
    show x * zc ys n + _ = x * zc ys (n - 0) + _
    rw [Nat.sub_zero]
    congr 1
    cases n with
    | zero => rfl
    | succ n =>
      rw [if_neg (by omega), Nat.add_sub_cancel, mulL_sum xs ys n]
      exact sumI_congr fun i _ => by rw [zc_cons_succ, show n + 1 - (i + 1) = n - i by omega]
theorem sumI_add (f g : Nat → Int) : ∀ n, sumI (fun i => f i + g i) n = sumI f n + sumI g n
  | 0 => rfl
  | n + 1 => by
    show sumI (fun i => f i + g i) n + (f n + g n) = (sumI f n + f n) + (sumI g n + g n)
    rw [sumI_add f g n]; omega
theorem sumI_mul (c : Int) (f : Nat → Int) : ∀ n, sumI (fun i => c * f i) n = c * sumI f n
  | 0 => by show (0 : Int) = c * 0; omega
  | n + 1 => by
    show sumI (fun i => c * f i) n + c * f n = c * (sumI f n + f n)
    rw [sumI_mul c f n, Int.mul_add]
/-- linear in the second -/
theorem mulL_lin {G P Q R : List Int} {c d : Int} (h : ∀ n, zc R n = c * zc P n + d * zc Q n) (n : Nat) : zc (mulL G R) n = c * zc (mulL G P) n + d * zc (mulL G Q) n := by
  rw [mulL_sum, mulL_sum, mulL_sum, ← sumI_mul, ← sumI_mul, ← sumI_add]
  exact sumI_congr fun i _ => by rw [h, Int.mul_add, Int.mul_left_comm, Int.mul_left_comm (zc G i) d]
theorem mulL_congr {G P Q : List Int} (h : ∀ n, zc P n = zc Q n) (n : Nat) : zc (mulL G P) n = zc (mulL G Q) n := by
  rw [mulL_sum, mulL_sum]
  exact sumI_congr fun i _ => by rw [h]
/-- by a power -/
def upL (k : Nat) (Q : List Int) : List Int := List.replicate k 0 ++ Q
theorem upL_at (k : Nat) (Q : List Int) (n : Nat) : zc (upL k Q) n = if n < k then 0 else zc Q (n - k) := by
  unfold upL zc
  rw [List.getD_eq_getElem?_getD, List.getElem?_append, List.length_replicate]
  split
  · rw [List.getElem?_replicate, if_pos ‹_›]; rfl
  · rw [List.getD_eq_getElem?_getD]
theorem mulL_upL (G Q : List Int) : ∀ (k n : Nat), zc (mulL G (upL k Q)) n = if n < k then 0 else zc (mulL G Q) (n - k)
  | 0, n => by rw [if_neg (by omega)]; rfl
  | k + 1, n => by
    have e : ∀ n, zc (mulL G (0 :: upL k Q)) n = if n = 0 then 0 else zc (mulL G (upL k Q)) (n - 1) := fun n => by
      rw [mulL_sum]
      cases n with
      | zero =>
        rw [if_pos rfl]
        show (0 : Int) + zc G 0 * zc (0 :: upL k Q) 0 = 0
        show (0 : Int) + zc G 0 * 0 = 0
        omega
      | succ n =>
        rw [if_neg (by omega), Nat.add_sub_cancel, mulL_sum]
        show sumI _ (n + 1) + zc G (n + 1) * zc (0 :: upL k Q) (n + 1 - (n + 1)) = _
        rw [Nat.sub_self]
        show sumI _ (n + 1) + zc G (n + 1) * 0 = _
        rw [Int.mul_zero, Int.add_zero]
        exact sumI_congr fun i hi => by rw [show n + 1 - i = (n - i) + 1 by omega, zc_cons_succ]
    show zc (mulL G (0 :: upL k Q)) n = _
    rw [e, mulL_upL G Q k]
    by_cases z : n = 0
    · rw [if_pos z, if_pos (by omega)]
    · rw [if_neg z]
      by_cases y : n < k + 1
      · rw [if_pos (by omega), if_pos y]
      · rw [if_neg (by omega), if_neg y, show n - 1 - k = n - (k + 1) by omega]
/-- the sum but one term is divisible -/
theorem sumI_dvd {q : Int} {f : Nat → Int} {m : Nat} : ∀ {n : Nat}, m < n → (∀ i, i < n → i ≠ m → q ∣ f i) → q ∣ sumI f n - f m
  | 0, h, _ => absurd h (Nat.not_lt_zero _)
  | n + 1, h, g => by
    show q ∣ sumI f n + f n - f m
    by_cases e : m = n
    · subst e
      have : ∀ {k : Nat}, k ≤ m → q ∣ sumI f k := fun {k} => by
        induction k with
        | zero => intro _; exact Int.dvd_zero _
        | succ k ih => intro hk; exact Int.dvd_add (ih (by omega)) (g k (by omega) (by omega))
      have h2 := this (Nat.le_refl m)
      rwa [Int.add_sub_cancel]
    · have h1 := sumI_dvd (f := f) (m := m) (n := n) (by omega) fun i hi ne => g i (by omega) ne
      have h2 := g n (by omega) (Ne.symm e)
      have := Int.dvd_add h1 h2
      rwa [show sumI f n + f n - f m = sumI f n - f m + f n by omega]
/-! ### Gauss -/
/-- divides a product only if it divides a factor -/
def Pr (q : Nat) : Prop := 1 < q ∧ ∀ a b : Int, (q : Int) ∣ a * b → (q : Int) ∣ a ∨ (q : Int) ∣ b
theorem pr_of {q : Nat} (h1 : 1 < q) (h : ∀ d, d ∣ q → d = 1 ∨ d = q) : Pr q := ⟨h1, fun a b hab => by
  rcases h (Nat.gcd q a.natAbs) (Nat.gcd_dvd_left ..) with e | e
  · right
    have c : Nat.Coprime q a.natAbs := e
    have h2 : q ∣ a.natAbs * b.natAbs := by rw [← Int.natAbs_mul]; exact Int.natCast_dvd_natCast.mp (Int.dvd_natAbs.mpr hab)
    exact Int.dvd_natAbs.mp (Int.natCast_dvd_natCast.mpr (c.dvd_of_dvd_mul_left h2))
  · left
    have : q ∣ a.natAbs := by rw [← e]; exact Nat.gcd_dvd_right ..
    exact Int.dvd_natAbs.mp (Int.natCast_dvd_natCast.mpr this)⟩
theorem pr_exists : ∀ n : Nat, 1 < n → ∃ q, Pr q ∧ q ∣ n := fun n => by
  induction n using Nat.strongRecOn with
  | ind n ih =>
    intro h
    by_cases c : ∀ d, d ∣ n → d = 1 ∨ d = n
    · exact ⟨n, pr_of h c, Nat.dvd_refl n⟩
    · obtain ⟨d, hd⟩ := Classical.not_forall.mp c
      obtain ⟨hd, hn⟩ := Classical.not_imp.mp hd
      have d0 : 0 < d := Nat.pos_of_dvd_of_pos hd (by omega)
      have dl := Nat.le_of_dvd (by omega) hd
      obtain ⟨q, hq, hqd⟩ := ih d (by omega) (by omega)
      exact ⟨q, hq, Nat.dvd_trans hqd hd⟩
/-- a number that divides all but not from a place on: the least such place -/
theorem least_not {q : Int} {zs : List Int} (h : ∃ i, ¬ q ∣ zc zs i) : ∃ i, ¬ q ∣ zc zs i ∧ ∀ j, j < i → q ∣ zc zs j := by
  obtain ⟨i, hi⟩ := h
  induction i using Nat.strongRecOn with
  | ind i ih =>
    by_cases c : ∀ j, j < i → q ∣ zc zs j
    · exact ⟨i, hi, c⟩
    · obtain ⟨j, hj⟩ := Classical.not_forall.mp c
      obtain ⟨a, b⟩ := Classical.not_imp.mp hj
      exact ih j a b
/-- and the greatest -/
theorem last_not {q : Int} {zs : List Int} (h : ∃ i, ¬ q ∣ zc zs i) : ∃ i, ¬ q ∣ zc zs i ∧ ∀ j, i < j → q ∣ zc zs j := by
  have key : ∀ (m i : Nat), zs.length - i ≤ m → ¬ q ∣ zc zs i → ∃ i, ¬ q ∣ zc zs i ∧ ∀ j, i < j → q ∣ zc zs j := by
    intro m
    induction m with
    | zero =>
      intro i hm hi
      exact absurd (by rw [zc_out (by omega)]; exact Int.dvd_zero _) hi
    | succ m ih =>
      intro i hm hi
      by_cases c : ∀ j, i < j → q ∣ zc zs j
      · exact ⟨i, hi, c⟩
      · obtain ⟨j, hj⟩ := Classical.not_forall.mp c
        obtain ⟨a, b⟩ := Classical.not_imp.mp hj
        exact ih j (by omega) b
  obtain ⟨i, hi⟩ := h
  exact key _ i (Nat.le_refl _) hi
theorem pr_mul {q : Nat} (hq : Pr q) {G Q : List Int} (hG : ∃ i, ¬ (q : Int) ∣ zc G i) (h : ∀ n, (q : Int) ∣ zc (mulL G Q) n) : ∀ n, (q : Int) ∣ zc Q n := by
  obtain ⟨i, hi, hi2⟩ := least_not hG
  refine Classical.byContradiction fun c => ?_
  obtain ⟨j, hj, hj2⟩ := least_not (zs := Q) (Classical.not_forall.mp c)
  have s := h (i + j)
  rw [mulL_sum] at s
  have d := sumI_dvd (q := (q : Int)) (f := fun k => zc G k * zc Q (i + j - k)) (m := i) (n := i + j + 1) (by omega) fun k hk ne => by
    by_cases z : k < i
    · exact Int.dvd_mul_of_dvd_left (hi2 k z)
    · exact Int.dvd_mul_of_dvd_right (hj2 _ (by omega))
  have t := Int.dvd_sub s d
  rw [show sumI (fun k => zc G k * zc Q (i + j - k)) (i + j + 1) - (sumI (fun k => zc G k * zc Q (i + j - k)) (i + j + 1) - zc G i * zc Q (i + j - i)) = zc G i * zc Q (i + j - i) by omega, show i + j - i = j by omega] at t
  rcases hq.2 _ _ t with a | a
  · exact hi a
  · exact hj a
/-- primitive -/
def PrimL (G : List Int) : Prop := ∀ d : Nat, (∀ n, (d : Int) ∣ zc G n) → d = 1
def divL (q : Int) (Q : List Int) : List Int := Q.map fun x => x / q
theorem divL_at {q : Int} (Q : List Int) (n : Nat) : zc (divL q Q) n = zc Q n / q := by
  unfold divL zc
  rw [List.getD_eq_getElem?_getD, List.getD_eq_getElem?_getD, List.getElem?_map]
  cases Q[n]? with
  | none => show (0 : Int) = 0 / q; rw [Int.zero_ediv]
  | some x => rfl
theorem gauss {G : List Int} (hG : PrimL G) : ∀ (m : Nat) {N : Int} {A Q : List Int}, N.natAbs = m → N ≠ 0 → (∀ n, N * zc A n = zc (mulL G Q) n) → ∃ Q', ∀ n, zc A n = zc (mulL G Q') n := fun m => by
  induction m using Nat.strongRecOn with
  | ind m ih =>
    intro N A Q hm h0 h
    by_cases one : m ≤ 1
    · have e : N = 1 ∨ N = -1 := by omega
      refine ⟨smL N Q, fun n => ?_⟩
      have l := mulL_lin (G := G) (P := Q) (Q := []) (R := smL N Q) (c := N) (d := 0) (fun n => by rw [Int.zero_mul, Int.add_zero]; exact smL_at N Q n) n
      rw [l, ← h, Int.zero_mul, Int.add_zero, ← Int.mul_assoc]
      rcases e with e | e <;> subst e <;> omega
    · obtain ⟨q, hq, hd⟩ := pr_exists m (by omega)
      have q1 := hq.1
      have qN : (q : Int) ∣ N := Int.dvd_natAbs.mp (Int.natCast_dvd_natCast.mpr (by rw [hm]; exact hd))
      have hGq : ∃ i, ¬ (q : Int) ∣ zc G i := Classical.not_forall.mp fun c => by
        have := hG q c
        omega
      have hQ := pr_mul hq hGq fun n => by rw [← h]; exact Int.dvd_mul_of_dvd_left qN
      obtain ⟨N1, e1⟩ := qN
      have q0 : (q : Int) ≠ 0 := by omega
      refine ih N1.natAbs ?_ (N := N1) (A := A) (Q := divL q Q) rfl (fun z => h0 (by rw [e1, z, Int.mul_zero])) fun n => ?_
      · have : m = q * N1.natAbs := by rw [← hm, e1, Int.natAbs_mul, Int.natAbs_natCast]
        have n1 : 0 < N1.natAbs := Nat.pos_of_ne_zero fun z => h0 (by rw [e1, Int.natAbs_eq_zero.mp z, Int.mul_zero])
        rw [this]
        have := Nat.mul_lt_mul_of_pos_right q1 n1
        omega
      · have l := mulL_lin (G := G) (P := divL q Q) (Q := []) (R := Q) (c := (q : Int)) (d := 0) (fun n => by
          rw [divL_at, Int.zero_mul, Int.add_zero]
          exact (Int.mul_ediv_cancel' (hQ n)).symm) n
        rw [Int.zero_mul, Int.add_zero, ← h, e1, Int.mul_assoc] at l
        exact Int.eq_of_mul_eq_mul_left q0 l
end Fp

namespace Fp
/-! ### pigeons -/
theorem pigeon : ∀ (N M : Nat) (f : Nat → Nat), (∀ i, i < N → f i < M) → (∀ i j, i < j → j < N → f i ≠ f j) → N ≤ M
  | 0, _, _, _, _ => Nat.zero_le _
  | N + 1, M, f, hf, inj => by
    have hN := hf N (Nat.lt_succ_self N)
    obtain ⟨m, rfl⟩ : ∃ m, M = m + 1 := ⟨M - 1, by omega⟩
    -- take the value of N out: what is m goes there
    have := pigeon N m (fun i => if f i = m then f N else f i) (fun i hi => by
      have h1 := hf i (by omega)
      have h2 := inj i N hi (Nat.lt_succ_self N)
      split
      · rename_i e; rw [e] at h2; omega
      · omega) (fun i j hij hj => by
      have h1 := inj i j hij (by omega)
      have h2 := inj i N (by omega) (Nat.lt_succ_self N)
      have h3 := inj j N hj (Nat.lt_succ_self N)
      split <;> split
      · rename_i e1 e2; exact absurd (e1.trans e2.symm) h1
      · exact fun z => h3 z.symm
      · exact h2
      · exact h1)
    omega
/-- two that fall together -/
theorem pigeon2 {N M : Nat} {f : Nat → Nat} (hf : ∀ i, i < N → f i < M) (h : M < N) : ∃ i j, i < j ∧ j < N ∧ f i = f j := by
  refine Classical.byContradiction fun c => ?_
  have := pigeon N M f hf fun i j hij hj e => c ⟨i, j, hij, hj, e⟩
  omega
/-! ### powers of 2 + sqrt 3 -/
def pw : Nat → Int × Int
  | 0 => (1, 0)
  | n + 1 => (2 * (pw n).1 + 3 * (pw n).2, (pw n).1 + 2 * (pw n).2)
theorem pw_add (m : Nat) : ∀ n, pw (m + n) = ((pw m).1 * (pw n).1 + 3 * ((pw m).2 * (pw n).2), (pw m).1 * (pw n).2 + (pw m).2 * (pw n).1)
  | 0 => by
    show pw m = _
    show pw m = ((pw m).1 * 1 + 3 * ((pw m).2 * 0), (pw m).1 * 0 + (pw m).2 * 1)
    rw [Int.mul_one, Int.mul_zero, Int.mul_zero, Int.mul_one, Int.mul_zero, Int.add_zero, Int.zero_add]
  | n + 1 => by
    show (2 * (pw (m + n)).1 + 3 * (pw (m + n)).2, (pw (m + n)).1 + 2 * (pw (m + n)).2) = ((pw m).1 * (2 * (pw n).1 + 3 * (pw n).2) + 3 * ((pw m).2 * ((pw n).1 + 2 * (pw n).2)), (pw m).1 * ((pw n).1 + 2 * (pw n).2) + (pw m).2 * (2 * (pw n).1 + 3 * (pw n).2))
    rw [pw_add m n]
    refine Prod.ext ?_ ?_ <;> dsimp only <;> grind
theorem pw_norm : ∀ n, (pw n).1 * (pw n).1 - 3 * ((pw n).2 * (pw n).2) = 1
  | 0 => by decide
  | n + 1 => by
    have ih := pw_norm n
    show (2 * (pw n).1 + 3 * (pw n).2) * (2 * (pw n).1 + 3 * (pw n).2) - 3 * (((pw n).1 + 2 * (pw n).2) * ((pw n).1 + 2 * (pw n).2)) = 1
    grind
theorem pw_dbl (n : Nat) : (pw (n + n)).1 = 2 * ((pw n).1 * (pw n).1) - 1 ∧ (pw (n + n)).2 = 2 * ((pw n).1 * (pw n).2) := by
  have h := pw_norm n
  rw [pw_add]
  constructor <;> dsimp only <;> grind
/-- back: j - i -/
theorem pw_back (i d : Nat) : (pw d).1 = (pw i).1 * (pw (i + d)).1 - 3 * ((pw i).2 * (pw (i + d)).2) ∧ (pw d).2 = (pw i).1 * (pw (i + d)).2 - (pw i).2 * (pw (i + d)).1 := by
  have h := pw_norm i
  rw [pw_add]
  constructor <;> dsimp only <;> grind
/-- one, modulo q -/
def P1 (q : Int) (n : Nat) : Prop := q ∣ (pw n).1 - 1 ∧ q ∣ (pw n).2
theorem p1_zero (q : Int) : P1 q 0 := ⟨⟨0, by rw [Int.mul_zero]; rfl⟩, ⟨0, by rw [Int.mul_zero]; rfl⟩⟩
theorem p1_add {q : Int} {m n : Nat} (h : P1 q m) (g : P1 q n) : P1 q (m + n) := by
  obtain ⟨⟨a, ha⟩, ⟨b, hb⟩⟩ := h
  obtain ⟨⟨c, hc⟩, ⟨d, hd⟩⟩ := g
  unfold P1
  rw [pw_add]
  refine ⟨⟨a * (pw n).1 + c + 3 * (b * (pw n).2), ?_⟩, ⟨(pw m).1 * d + b * (pw n).1, ?_⟩⟩ <;> dsimp only <;> grind
theorem p1_sub {q : Int} {m n : Nat} (h : P1 q m) (g : P1 q (m + n)) : P1 q n := by
  obtain ⟨e1, e2⟩ := pw_back m n
  obtain ⟨⟨a, ha⟩, ⟨b, hb⟩⟩ := h
  obtain ⟨⟨c, hc⟩, ⟨d, hd⟩⟩ := g
  unfold P1
  rw [e1, e2]
  refine ⟨⟨(pw m).1 * c + a - 3 * (b * (pw (m + n)).2), ?_⟩, ⟨(pw m).1 * d - b * (pw (m + n)).1, ?_⟩⟩ <;> grind
theorem p1_mul {q : Int} {m : Nat} (h : P1 q m) : ∀ k, P1 q (m * k)
  | 0 => p1_zero q
  | k + 1 => p1_add (p1_mul h k) h
theorem p1_gcd {q : Int} (m n : Nat) (h : P1 q m) (g : P1 q n) : P1 q (Nat.gcd m n) := by
  induction m, n using Nat.gcd.induction with
  | H0 n => rw [Nat.gcd_zero_left]; exact g
  | H1 m n hm ih =>
    rw [Nat.gcd_rec]
    refine ih (p1_sub (m := m * (n / m)) (p1_mul h _) ?_) h
    rw [Nat.div_add_mod]; exact g
theorem half_pow {g n : Nat} (h : g ∣ 2 ^ (n + 1)) (ne : g ≠ 2 ^ (n + 1)) : g ∣ 2 ^ n := by
  obtain ⟨k, hk⟩ := h
  rcases Nat.mod_two_eq_zero_or_one k with e | e
  · obtain ⟨j, rfl⟩ : ∃ j, k = 2 * j := ⟨k / 2, by omega⟩
    refine ⟨j, ?_⟩
    rw [Nat.pow_succ] at hk
    have : g * (2 * j) = (g * j) * 2 := by rw [Nat.mul_left_comm, Nat.mul_comm]
    omega
  · exfalso
    have c : Nat.Coprime k 2 := by
      have : Nat.gcd k 2 ∣ 2 := Nat.gcd_dvd_right ..
      have h2 : Nat.gcd k 2 ∣ k := Nat.gcd_dvd_left ..
      have l := Nat.le_of_dvd (by decide) this
      have l0 := Nat.gcd_pos_of_pos_right k (show 0 < 2 by decide)
      rcases (show Nat.gcd k 2 = 1 ∨ Nat.gcd k 2 = 2 by omega) with z | z
      · exact z
      · rw [z] at h2; omega
    have c2 : Nat.Coprime k (2 ^ (n + 1)) := Nat.Coprime.pow_right (n + 1) c
    have d : k ∣ 2 ^ (n + 1) := ⟨g, by rw [hk, Nat.mul_comm]⟩
    have k1 : k = 1 := Nat.Coprime.eq_one_of_dvd c2 d
    rw [k1, Nat.mul_one] at hk
    exact ne hk.symm
/-- what the law of Lucas and Lehmer says of each odd divisor -/
theorem big_divisor {n q : Nat} (q1 : 1 < q) (odd : ¬ (q : Int) ∣ 2) (h : (q : Int) ∣ (pw (2 ^ n)).1) : 2 ^ (n + 2) ≤ q * q := by
  have d1 := pw_dbl (2 ^ n)
  rw [show 2 ^ n + 2 ^ n = 2 ^ (n + 1) by rw [Nat.pow_succ]; omega] at d1
  obtain ⟨c, hc⟩ := h
  -- minus one at 2^(n+1), one at 2^(n+2)
  have m1 : (q : Int) ∣ (pw (2 ^ (n + 1))).1 + 1 := ⟨2 * (c * (pw (2 ^ n)).1), by rw [d1.1, hc]; grind⟩
  have m2 : (q : Int) ∣ (pw (2 ^ (n + 1))).2 := ⟨2 * (c * (pw (2 ^ n)).2), by rw [d1.2, hc]; grind⟩
  have p2 : P1 q (2 ^ (n + 2)) := by
    have d2 := pw_dbl (2 ^ (n + 1))
    rw [show 2 ^ (n + 1) + 2 ^ (n + 1) = 2 ^ (n + 2) by rw [Nat.pow_succ 2 (n + 1)]; omega] at d2
    obtain ⟨a, ha⟩ := m1
    obtain ⟨b, hb⟩ := m2
    unfold P1
    rw [d2.1, d2.2, hb]
    exact ⟨⟨2 * (a * ((pw (2 ^ (n + 1))).1 - 1)), by grind⟩, ⟨2 * ((pw (2 ^ (n + 1))).1 * b), by grind⟩⟩
  have q0 : (q : Int) ≠ 0 := by omega
  have none : ∀ d, 0 < d → d < 2 ^ (n + 2) → ¬ P1 q d := fun d d0 dl hd => by
    have g := p1_gcd _ _ hd p2
    have gd : Nat.gcd d (2 ^ (n + 2)) ∣ 2 ^ (n + 2) := Nat.gcd_dvd_right ..
    have gl := Nat.le_of_dvd d0 (Nat.gcd_dvd_left d (2 ^ (n + 2)))
    obtain ⟨k, hk⟩ := half_pow gd (Nat.ne_of_lt (Nat.lt_of_le_of_lt gl dl))
    have := p1_mul g k
    rw [← hk] at this
    obtain ⟨a, _⟩ := this
    have := Int.dvd_sub m1 a
    rw [show (pw (2 ^ (n + 1))).1 + 1 - ((pw (2 ^ (n + 1))).1 - 1) = 2 by omega] at this
    exact odd this
  have b1 : ∀ x : Int, (x % (q : Int)).toNat < q := fun x => by
    have h1 := Int.emod_nonneg x q0
    have h2 := Int.emod_lt_of_pos x (show (0 : Int) < (q : Int) by omega)
    omega
  refine pigeon _ (q * q) (fun i => ((pw i).1 % (q : Int)).toNat * q + ((pw i).2 % (q : Int)).toNat) (fun i _ => ?_) (fun i j hij hj e => ?_)
  · have h1 := b1 (pw i).1
    have h2 := b1 (pw i).2
    have h3 : ((pw i).1 % (q : Int)).toNat * q ≤ (q - 1) * q := Nat.mul_le_mul_right _ (by omega)
    have h4 : (q - 1) * q + q = q * q := by
      have : (q - 1 + 1) * q = q * q := by rw [Nat.sub_add_cancel (by omega)]
      rwa [Nat.add_mul, Nat.one_mul] at this
    omega
  · have e2 : ((pw i).2 % (q : Int)).toNat = ((pw j).2 % (q : Int)).toNat := by
      have := congrArg (· % q) e
      have l : ∀ a b : Nat, b < q → (a * q + b) % q = b := fun a b h => by rw [Nat.mul_add_mod', Nat.mod_eq_of_lt h]
      simp only [l _ _ (b1 _)] at this
      exact this
    have e1 : ((pw i).1 % (q : Int)).toNat = ((pw j).1 % (q : Int)).toNat := by
      rw [e2] at e
      exact Nat.eq_of_mul_eq_mul_right (by omega) (Nat.add_right_cancel e)
    have back : ∀ x y : Int, (x % (q : Int)).toNat = (y % (q : Int)).toNat → (q : Int) ∣ y - x := fun x y h => by
      have h1 := Int.emod_nonneg x q0
      have h2 := Int.emod_nonneg y q0
      have h3 : x % (q : Int) = y % (q : Int) := by omega
      exact Int.dvd_of_emod_eq_zero (by rw [Int.sub_emod, h3, Int.sub_self]; rfl)
    obtain ⟨a, ha⟩ := back _ _ e1
    obtain ⟨b, hb⟩ := back _ _ e2
    refine none (j - i) (by omega) (by omega) ?_
    have bk := pw_back i (j - i)
    rw [show i + (j - i) = j by omega] at bk
    have nm := pw_norm i
    unfold P1
    rw [bk.1, bk.2]
    exact ⟨⟨(pw i).1 * a - 3 * ((pw i).2 * b), by grind⟩, ⟨(pw i).1 * b - (pw i).2 * a, by grind⟩⟩
end Fp

namespace Fp
/-! ### small solutions -/
/-- digits put together -/
def enc (W : Nat) (v : Nat → Nat) : Nat → Nat
  | 0 => 0
  | n + 1 => enc W v n + v n * W ^ n
theorem enc_lt {W : Nat} {v : Nat → Nat} : ∀ {n : Nat}, (∀ i, i < n → v i < W) → enc W v n < W ^ n
  | 0, _ => by show 0 < 1; decide
  | n + 1, h => by
    have a := enc_lt (n := n) fun i hi => h i (by omega)
    have b := h n (by omega)
    have c : v n * W ^ n ≤ (W - 1) * W ^ n := Nat.mul_le_mul_right _ (by omega)
    have d : (W - 1) * W ^ n + W ^ n = W ^ (n + 1) := by
      have : (W - 1 + 1) * W ^ n = W * W ^ n := by rw [Nat.sub_add_cancel (by omega)]
      rw [Nat.add_mul, Nat.one_mul] at this
      rw [Nat.pow_succ, Nat.mul_comm (W ^ n)]; exact this
    show enc W v n + v n * W ^ n < W ^ (n + 1)
    omega
theorem enc_inj {W : Nat} {v u : Nat → Nat} : ∀ {n : Nat}, (∀ i, i < n → v i < W) → (∀ i, i < n → u i < W) → enc W v n = enc W u n → ∀ i, i < n → v i = u i
  | 0, _, _, _, i, hi => absurd hi (Nat.not_lt_zero i)
  | n + 1, hv, hu, e, i, hi => by
    have a := enc_lt (n := n) fun i hi => hv i (by omega)
    have b := enc_lt (n := n) fun i hi => hu i (by omega)
    have e : enc W v n + v n * W ^ n = enc W u n + u n * W ^ n := e
    have w0 : 0 < W ^ n := by omega
    have hn : v n = u n := by
      have e2 := congrArg (· / W ^ n) e
      simp only [Nat.add_mul_div_right _ _ w0, Nat.div_eq_of_lt a, Nat.div_eq_of_lt b, Nat.zero_add] at e2
      exact e2
    rw [hn] at e
    by_cases z : i = n
    · rw [z]; exact hn
    · exact enc_inj (n := n) (fun i hi => hv i (by omega)) (fun i hi => hu i (by omega)) (Nat.add_right_cancel e) i (by omega)
def dig (B k i : Nat) : Nat := k / B ^ i % B
theorem enc_dig (B k : Nat) : ∀ n, enc B (dig B k) n = k % B ^ n
  | 0 => by show 0 = k % 1; rw [Nat.mod_one]
  | n + 1 => by
    show enc B (dig B k) n + k / B ^ n % B * B ^ n = _
    rw [enc_dig B k n, Nat.pow_succ, Nat.mod_mul, Nat.mul_comm (B ^ n)]
theorem sumI_le {f : Nat → Int} {c : Nat} : ∀ {n : Nat}, (∀ i, i < n → (f i).natAbs ≤ c) → (sumI f n).natAbs ≤ n * c
  | 0, _ => Nat.zero_le _
  | n + 1, h => by
    have a := sumI_le (n := n) fun i hi => h i (by omega)
    have b := h n (by omega)
    show (sumI f n + f n).natAbs ≤ (n + 1) * c
    rw [Nat.add_mul, Nat.one_mul]; omega
theorem sumI_sub (f g : Nat → Int) : ∀ n, sumI (fun i => f i - g i) n = sumI f n - sumI g n
  | 0 => rfl
  | n + 1 => by
    show sumI (fun i => f i - g i) n + (f n - g n) = (sumI f n + f n) - (sumI g n + g n)
    rw [sumI_sub f g n]; omega
/-- fewer equations than unknowns: a solution that is small -/
theorem siegel {N M C : Nat} (r : Nat → Nat → Int) (hr : ∀ j i, j < M → i < N → (r j i).natAbs ≤ C) (C0 : 0 < C) (h : M < N) :
    ∃ x : Nat → Int, (∀ i, (x i).natAbs ≤ (2 * N * C) ^ M) ∧ (∃ i, i < N ∧ x i ≠ 0) ∧ ∀ j, j < M → sumI (fun i => r j i * x i) N = 0 := by
  let X := (2 * N * C) ^ M
  let B := X + 1
  let W := 2 * (N * (C * X)) + 1
  have NC : 0 < 2 * N * C := Nat.mul_pos (Nat.mul_pos (by decide) (by omega)) C0
  have X0 : 0 < X := Nat.pow_pos NC
  have dl : ∀ k i, dig B k i < B := fun k i => Nat.mod_lt _ (by show 0 < X + 1; omega)
  have val : ∀ k j, j < M → (sumI (fun i => r j i * (dig B k i : Int)) N).natAbs ≤ N * (C * X) := fun k j hj => sumI_le fun i hi => by
    rw [Int.natAbs_mul, Int.natAbs_natCast]
    have := dl k i
    exact Nat.mul_le_mul (hr j i hj hi) (by show dig B k i ≤ X; omega)
  let v : Nat → Nat → Nat := fun k j => (sumI (fun i => r j i * (dig B k i : Int)) N + (N * (C * X) : Nat)).toNat
  have vl : ∀ k j, j < M → v k j < W := fun k j hj => by
    have := val k j hj
    show (_ + _ : Int).toNat < 2 * (N * (C * X)) + 1
    omega
  have many : W ^ M < B ^ N := by
    have w1 : W ≤ (2 * N * C) * B := by
      show 2 * (N * (C * X)) + 1 ≤ 2 * N * C * (X + 1)
      have e : 2 * N * C * (X + 1) = 2 * (N * (C * X)) + 2 * N * C := by
        rw [Nat.mul_add, Nat.mul_one, Nat.mul_assoc, Nat.mul_assoc, Nat.mul_assoc]
      rw [e]; omega
    have w2 := Nat.pow_le_pow_left w1 M
    rw [Nat.mul_pow] at w2
    have w3 : B ^ M * B ≤ B ^ N := by
      rw [← Nat.pow_succ]
      exact Nat.pow_le_pow_right (by show 0 < X + 1; omega) (by omega)
    have w4 : (2 * N * C) ^ M * B ^ M < B ^ M * B := by
      rw [Nat.mul_comm (B ^ M)]
      exact Nat.mul_lt_mul_of_pos_right (by show X < X + 1; omega) (Nat.pow_pos (by show 0 < X + 1; omega))
    omega
  obtain ⟨k, l, kl, hl, e⟩ := pigeon2 (N := B ^ N) (M := W ^ M) (f := fun k => enc W (v k) M) (fun k _ => enc_lt fun j hj => vl k j hj) many
  have ev := enc_inj (fun j hj => vl k j hj) (fun j hj => vl l j hj) e
  refine ⟨fun i => (dig B l i : Int) - (dig B k i : Int), fun i => ?_, ?_, fun j hj => ?_⟩
  · have a := dl k i
    have b := dl l i
    show ((dig B l i : Int) - (dig B k i : Int)).natAbs ≤ X
    have : B = X + 1 := rfl
    omega
  · refine Classical.byContradiction fun c => ?_
    have same : ∀ i, i < N → dig B l i = dig B k i := fun i hi => by
      refine Classical.byContradiction fun z => c ⟨i, hi, by show ((dig B l i : Int) - (dig B k i : Int)) ≠ 0; omega⟩
    have ek := enc_dig B k N
    have el := enc_dig B l N
    rw [Nat.mod_eq_of_lt (by omega)] at ek
    rw [Nat.mod_eq_of_lt hl] at el
    have : ∀ n, n ≤ N → enc B (dig B l) n = enc B (dig B k) n := fun n => by
      induction n with
      | zero => intro _; rfl
      | succ n ih =>
        intro hn
        show enc B (dig B l) n + dig B l n * B ^ n = enc B (dig B k) n + dig B k n * B ^ n
        rw [ih (by omega), same n (by omega)]
    have := this N (Nat.le_refl N)
    omega
  · have e1 := ev j hj
    have a := val k j hj
    have b := val l j hj
    have s : sumI (fun i => r j i * ((dig B l i : Int) - (dig B k i : Int))) N = sumI (fun i => r j i * (dig B l i : Int)) N - sumI (fun i => r j i * (dig B k i : Int)) N := by
      rw [← sumI_sub]
      exact sumI_congr fun i _ => by rw [Int.mul_sub]
    show sumI (fun i => r j i * ((dig B l i : Int) - (dig B k i : Int))) N = 0
    rw [s]
    have e2 : (sumI (fun i => r j i * (dig B k i : Int)) N + (N * (C * X) : Nat)).toNat = (sumI (fun i => r j i * (dig B l i : Int)) N + (N * (C * X) : Nat)).toNat := e1
    omega
end Fp

namespace Fp
/-! ### more of whole polynomials -/
theorem sumI_split (f : Nat → Int) (a : Nat) : ∀ b, sumI f (a + b) = sumI f a + sumI (fun i => f (a + i)) b
  | 0 => by show sumI f a = sumI f a + 0; omega
  | b + 1 => by
    show sumI f (a + b) + f (a + b) = sumI f a + (sumI (fun i => f (a + i)) b + f (a + b))
    rw [sumI_split f a b]; omega
theorem sumI_rev (f : Nat → Int) : ∀ n, sumI f n = sumI (fun i => f (n - 1 - i)) n
  | 0 => rfl
  | n + 1 => by
    rw [sumI_shift (fun i => f (n + 1 - 1 - i))]
    show sumI f n + f n = f (n + 1 - 1 - 0) + sumI (fun i => f (n + 1 - 1 - (i + 1))) n
    rw [sumI_rev f n, show n + 1 - 1 - 0 = n by omega, sumI_congr (g := fun i => f (n + 1 - 1 - (i + 1))) fun i hi => by rw [show n - 1 - i = n + 1 - 1 - (i + 1) by omega]]
    omega
theorem mulL_comm (P Q : List Int) (n : Nat) : zc (mulL P Q) n = zc (mulL Q P) n := by
  rw [mulL_sum, mulL_sum, sumI_rev]
  exact sumI_congr fun i hi => by rw [show n + 1 - 1 - i = n - i by omega, show n - (n - i) = i by omega, Int.mul_comm]
theorem mulL_nil (P : List Int) (n : Nat) : zc (mulL P []) n = 0 := by rw [mulL_comm]; rfl
/-- linear in the first -/
theorem mulL_lin' {G P Q R : List Int} {c d : Int} (h : ∀ n, zc R n = c * zc P n + d * zc Q n) (n : Nat) : zc (mulL R G) n = c * zc (mulL P G) n + d * zc (mulL Q G) n := by
  rw [mulL_comm, mulL_comm P, mulL_comm Q]; exact mulL_lin h n
theorem mulL_congr' {G P Q : List Int} (h : ∀ n, zc P n = zc Q n) (n : Nat) : zc (mulL P G) n = zc (mulL Q G) n := by
  rw [mulL_comm, mulL_comm Q]; exact mulL_congr h n
theorem zc_cons (x : Int) (xs : List Int) (n : Nat) : zc (x :: xs) n = if n = 0 then x else zc xs (n - 1) := by
  cases n with
  | zero => rfl
  | succ n => rw [if_neg (by omega)]; rfl
theorem addL_z (P Q : List Int) (n : Nat) : zc (addL P Q) n = zc P n + zc Q n := addL_at ..
theorem smL_z (c : Int) (P : List Int) (n : Nat) : zc (smL c P) n = c * zc P n := smL_at ..
theorem mulL_assoc : ∀ (P Q R : List Int) (n : Nat), zc (mulL (mulL P Q) R) n = zc (mulL P (mulL Q R)) n
  | [], Q, R, n => by show zc (mulL [] R) n = zc [] n; rfl
  | x :: P, Q, R, n => by
    rw [mulL_cons x P (mulL Q R)]
    have e : ∀ n, zc (mulL (x :: P) Q) n = x * zc Q n + 1 * zc (0 :: mulL P Q) n := fun n => by
      rw [mulL_cons, zc_shift, Int.one_mul]
    rw [mulL_lin' e, Int.one_mul]
    congr 1
    show zc (mulL (0 :: mulL P Q) R) n = _
    rw [mulL_cons, Int.zero_mul, Int.zero_add]
    split
    · rfl
    · exact mulL_assoc P Q R (n - 1)
theorem mulL_swap (U G A : List Int) (n : Nat) : zc (mulL U (mulL G A)) n = zc (mulL G (mulL U A)) n := by
  rw [← mulL_assoc, mulL_congr' (mulL_comm U G), mulL_assoc]
/-- divides a product only if it divides a factor, or 0 -/
def PrI (q : Int) : Prop := ∀ a b : Int, q ∣ a * b → q ∣ a ∨ q ∣ b
theorem prI_zero : PrI 0 := fun a b h => by
  have := Int.zero_dvd.mp h
  rcases Int.mul_eq_zero.mp this with h | h
  · exact .inl (by rw [h]; exact Int.dvd_refl 0)
  · exact .inr (by rw [h]; exact Int.dvd_refl 0)
theorem Pr.i {q : Nat} (h : Pr q) : PrI q := h.2
/-- modulo q it ends at d -/
def DegM (q : Int) (P : List Int) (d : Nat) : Prop := ¬ q ∣ zc P d ∧ ∀ n, d < n → q ∣ zc P n
theorem degM_ex {q : Int} {P : List Int} (h : ∃ i, ¬ q ∣ zc P i) : ∃ d, DegM q P d := last_not h
theorem degM_fn {q : Int} {P : List Int} {d e : Nat} (h : DegM q P d) (g : DegM q P e) : d = e := by
  rcases Nat.lt_trichotomy d e with l | l | l
  · exact absurd (h.2 e l) g.1
  · exact l
  · exact absurd (g.2 d l) h.1
theorem sumI_dvd_all {q : Int} {f : Nat → Int} : ∀ {n : Nat}, (∀ i, i < n → q ∣ f i) → q ∣ sumI f n
  | 0, _ => Int.dvd_zero _
  | n + 1, h => Int.dvd_add (sumI_dvd_all fun i hi => h i (by omega)) (h n (by omega))
theorem degM_mul {q : Int} (hq : PrI q) {P Q : List Int} {d e : Nat} (h : DegM q P d) (g : DegM q Q e) : DegM q (mulL P Q) (d + e) := by
  constructor
  · intro s
    rw [mulL_sum] at s
    have t := sumI_dvd (q := q) (f := fun k => zc P k * zc Q (d + e - k)) (m := d) (n := d + e + 1) (by omega) fun k hk ne => by
      by_cases z : k < d
      · exact Int.dvd_mul_of_dvd_right (g.2 _ (by omega))
      · exact Int.dvd_mul_of_dvd_left (h.2 k (by omega))
    have u := Int.dvd_sub s t
    rw [show sumI (fun k => zc P k * zc Q (d + e - k)) (d + e + 1) - (sumI (fun k => zc P k * zc Q (d + e - k)) (d + e + 1) - zc P d * zc Q (d + e - d)) = zc P d * zc Q (d + e - d) by omega, show d + e - d = e by omega] at u
    rcases hq _ _ u with a | a
    · exact h.1 a
    · exact g.1 a
  · intro n hn
    rw [mulL_sum]
    refine sumI_dvd_all fun k hk => ?_
    by_cases z : k ≤ d
    · exact Int.dvd_mul_of_dvd_right (g.2 _ (by omega))
    · exact Int.dvd_mul_of_dvd_left (h.2 k (by omega))
/-- the same, modulo q -/
def EqM (q : Int) (P Q : List Int) : Prop := ∀ n, q ∣ zc P n - zc Q n
theorem EqM.symm {q : Int} {P Q : List Int} (h : EqM q P Q) : EqM q Q P := fun n => by have := h n; rw [← Int.dvd_neg, Int.neg_sub] at this; exact this
theorem EqM.trans {q : Int} {P Q R : List Int} (h : EqM q P Q) (g : EqM q Q R) : EqM q P R := fun n => by
  have := Int.dvd_add (h n) (g n)
  rwa [show zc P n - zc Q n + (zc Q n - zc R n) = zc P n - zc R n by omega] at this
theorem EqM.of {q : Int} {P Q : List Int} (h : ∀ n, zc P n = zc Q n) : EqM q P Q := fun n => by rw [h, Int.sub_self]; exact Int.dvd_zero _
theorem EqM.deg {q : Int} {P Q : List Int} {d : Nat} (h : EqM q P Q) (g : DegM q P d) : DegM q Q d := by
  constructor
  · intro z
    have := Int.dvd_add (h d) z
    rw [Int.sub_add_cancel] at this
    exact g.1 this
  · intro n hn
    have := Int.dvd_sub (g.2 n hn) (h n)
    rwa [show zc P n - (zc P n - zc Q n) = zc Q n by omega] at this
theorem EqM.mul {q : Int} {P Q : List Int} (G : List Int) (h : EqM q P Q) : EqM q (mulL G P) (mulL G Q) := fun n => by
  rw [mulL_sum, mulL_sum, ← sumI_sub]
  refine sumI_dvd_all fun k hk => ?_
  rw [← Int.mul_sub]
  exact Int.dvd_mul_of_dvd_right (h _)
theorem EqM.mul' {q : Int} {P Q : List Int} (G : List Int) (h : EqM q P Q) : EqM q (mulL P G) (mulL Q G) := fun n => by
  rw [mulL_comm, mulL_comm Q]; exact EqM.mul G h n
theorem EqM.lin {q : Int} {P Q P' Q' R R' : List Int} {c d : Int} (h : EqM q P P') (g : EqM q Q Q') (e : ∀ n, zc R n = c * zc P n + d * zc Q n) (e' : ∀ n, zc R' n = c * zc P' n + d * zc Q' n) : EqM q R R' := fun n => by
  obtain ⟨a, ha⟩ := h n
  obtain ⟨b, hb⟩ := g n
  rw [e, e']
  exact ⟨c * a + d * b, by grind⟩
/-- nothing times something -/
theorem mul_none {q : Int} (hq : PrI q) {G P : List Int} (hG : ∃ i, ¬ q ∣ zc G i) (h : ∀ n, q ∣ zc (mulL G P) n) : ∀ n, q ∣ zc P n := by
  refine Classical.byContradiction fun c => ?_
  obtain ⟨d, hd⟩ := degM_ex hG
  obtain ⟨e, he⟩ := degM_ex (Classical.not_forall.mp c)
  exact (degM_mul hq hd he).1 (h _)
theorem mul_cancel {G P Q : List Int} (hG : ∃ i, zc G i ≠ 0) (h : ∀ n, zc (mulL G P) n = zc (mulL G Q) n) (n : Nat) : zc P n = zc Q n := by
  have e : ∀ n, zc (addL P (smL (-1) Q)) n = 1 * zc P n + -1 * zc Q n := fun n => by rw [addL_z, smL_z]; omega
  have z := mul_none prI_zero (G := G) (P := addL P (smL (-1) Q)) (let ⟨i, hi⟩ := hG; ⟨i, fun z => hi (Int.zero_dvd.mp z)⟩) (fun n => by rw [mulL_lin e, h]; exact ⟨0, by omega⟩) n
  have := Int.zero_dvd.mp z
  rw [e] at this; omega
/-! ### the common part -/
structure GcdL (A B G : List Int) : Prop where
  prim : PrimL G
  dA : ∃ Q, ∀ n, zc A n = zc (mulL G Q) n
  dB : ∃ Q, ∀ n, zc B n = zc (mulL G Q) n
  bez : ∃ (c : Int) (U V : List Int), c ≠ 0 ∧ ∀ n, c * zc G n = zc (mulL U A) n + zc (mulL V B) n
theorem GcdL.symm {A B G : List Int} (h : GcdL A B G) : GcdL B A G := ⟨h.prim, h.dB, h.dA, let ⟨c, U, V, c0, e⟩ := h.bez; ⟨c, V, U, c0, fun n => by rw [e, Int.add_comm]⟩⟩
theorem PrimL.ne {G : List Int} (h : PrimL G) : ∃ i, zc G i ≠ 0 := Classical.byContradiction fun c => by
  have z : ∀ i, zc G i = 0 := fun i => Classical.byContradiction fun e => c ⟨i, e⟩
  have := h 2 fun n => by rw [z]; exact Int.dvd_zero _
  omega
theorem PrimL.neM {G : List Int} (h : PrimL G) {p : Nat} (hp : Pr p) : ∃ i, ¬ (p : Int) ∣ zc G i := Classical.not_forall.mp fun c => by
  have := h p c
  have := hp.1
  omega
/-- what is combined to nothing with little is nothing -/
theorem GcdL.cop {A B G A' B' U V : List Int} {b : Nat} (h : GcdL A B G) (eA : ∀ n, zc A n = zc (mulL G A') n) (eB : ∀ n, zc B n = zc (mulL G B') n) (hb : DegM 0 B' b) (hU : ∀ n, b ≤ n → zc U n = 0) (e : ∀ n, zc (mulL U A) n + zc (mulL V B) n = 0) : (∀ n, zc U n = 0) ∧ ∀ n, zc V n = 0 := by
  obtain ⟨c, u, v, c0, bz⟩ := h.bez
  have hG := h.prim.ne
  -- U A' + V B' = 0
  have e1 : ∀ n, zc (mulL U A') n + zc (mulL V B') n = 0 := fun n => by
    have := mul_cancel (G := G) (P := addL (mulL U A') (mulL V B')) (Q := []) hG (fun n => by
      rw [mulL_lin (c := 1) (d := 1) (P := mulL U A') (Q := mulL V B') fun n => by rw [addL_z]; omega, mulL_nil]
      have s1 := mulL_swap U G A' n
      have s2 := mulL_swap V G B' n
      rw [mulL_congr (fun n => (eA n).symm)] at s1
      rw [mulL_congr (fun n => (eB n).symm)] at s2
      have := e n; omega) n
    rw [addL_z] at this
    exact this
  -- c = u A' + v B'
  have e2 : ∀ n, zc [c] n = zc (mulL u A') n + zc (mulL v B') n := fun n => by
    have := mul_cancel (G := G) (P := addL (mulL u A') (mulL v B')) (Q := [c]) hG (fun n => by
      rw [mulL_lin (c := 1) (d := 1) (P := mulL u A') (Q := mulL v B') fun n => by rw [addL_z]; omega, mulL_comm G [c], mulL_cons]
      have s1 := mulL_swap u G A' n
      have s2 := mulL_swap v G B' n
      rw [mulL_congr (fun n => (eA n).symm)] at s1
      rw [mulL_congr (fun n => (eB n).symm)] at s2
      have := bz n
      have z : (if n = 0 then (0 : Int) else zc (mulL [] G) (n - 1)) = 0 := by split <;> rfl
      rw [z]; omega) n
    rw [addL_z] at this
    exact this.symm
  -- c U = B' (v U - u V)
  have e3 : ∀ n, c * zc U n = zc (mulL B' (addL (mulL v U) (smL (-1) (mulL u V)))) n := fun n => by
    rw [mulL_lin (c := 1) (d := -1) (P := mulL v U) (Q := mulL u V) fun n => by rw [addL_z, smL_z]; omega]
    have a1 : c * zc U n = zc (mulL [c] U) n := by
      rw [mulL_cons]
      have z : (if n = 0 then (0 : Int) else zc (mulL [] U) (n - 1)) = 0 := by split <;> rfl
      rw [z]; omega
    have a2 : zc (mulL [c] U) n = 1 * zc (mulL (mulL u A') U) n + 1 * zc (mulL (mulL v B') U) n := mulL_lin' (fun n => by rw [e2]; omega) n
    have a3 : zc (mulL (mulL u A') U) n = zc (mulL u (mulL U A')) n := by rw [mulL_assoc]; exact mulL_congr (mulL_comm A' U) n
    have a4 : zc (mulL u (mulL U A')) n = -1 * zc (mulL u (mulL V B')) n := by
      have := mulL_lin (G := u) (R := mulL U A') (P := mulL V B') (Q := []) (c := -1) (d := 0) (fun n => by have := e1 n; omega) n
      rw [this]; omega
    have a5 : zc (mulL u (mulL V B')) n = zc (mulL B' (mulL u V)) n := by
      rw [← mulL_assoc]; exact mulL_comm (mulL u V) B' n
    have a6 : zc (mulL (mulL v B') U) n = zc (mulL B' (mulL v U)) n := by
      rw [mulL_congr' (mulL_comm v B'), mulL_assoc]
    omega
  have U0 : ∀ n, zc U n = 0 := by
    refine Classical.byContradiction fun z => ?_
    obtain ⟨i, hi⟩ := Classical.not_forall.mp z
    have ne : ∃ j, ¬ (0 : Int) ∣ zc (addL (mulL v U) (smL (-1) (mulL u V))) j := Classical.not_forall.mp fun y => by
      have := e3 i
      rw [mulL_sum] at this
      have z0 : sumI (fun k => zc B' k * zc (addL (mulL v U) (smL (-1) (mulL u V))) (i - k)) (i + 1) = 0 := Int.zero_dvd.mp (sumI_dvd_all fun k hk => Int.dvd_mul_of_dvd_right (y _))
      rw [z0] at this
      rcases Int.mul_eq_zero.mp this with a | a
      · exact c0 a
      · exact hi a
    obtain ⟨d, hd⟩ := degM_ex ne
    have m := (degM_mul prI_zero hb hd).1
    rw [← e3, hU _ (by omega), Int.mul_zero] at m
    exact m (Int.dvd_refl 0)
  refine ⟨U0, fun n => ?_⟩
  have := mul_cancel (G := B') (P := V) (Q := []) ⟨b, fun z => hb.1 (by rw [z]; exact Int.dvd_refl 0)⟩ (fun n => by
    rw [mulL_nil, mulL_comm B' V]
    have a := e1 n
    have b : zc (mulL U A') n = 0 := by
      rw [mulL_congr' (Q := []) (fun n => U0 n)]; rfl
    omega) n
  exact this
end Fp

namespace Fp
/-! ### the common part is small -/
theorem sumI_none {f : Nat → Int} : ∀ {n : Nat}, (∀ i, i < n → f i = 0) → sumI f n = 0
  | 0, _ => rfl
  | n + 1, h => by
    show sumI f n + f n = 0
    rw [sumI_none fun i hi => h i (by omega), h n (by omega)]; rfl
theorem sumI_pad {f : Nat → Int} {b : Nat} (h : ∀ k, b ≤ k → f k = 0) (m : Nat) : sumI f m = sumI (fun k => if k < m then f k else 0) b := by
  have e1 : sumI f m = sumI (fun k => if k < m then f k else 0) m := sumI_congr fun i hi => by rw [if_pos hi]
  have e2 : sumI (fun k => if k < m then f k else 0) (m + b) = sumI (fun k => if k < m then f k else 0) m := by
    rw [sumI_split, sumI_none (f := fun i => if m + i < m then f (m + i) else 0) fun i hi => by rw [if_neg (by omega)]]; omega
  have e3 : sumI (fun k => if k < m then f k else 0) (b + m) = sumI (fun k => if k < m then f k else 0) b := by
    rw [sumI_split, sumI_none (f := fun i => if b + i < m then f (b + i) else 0) fun i hi => by rw [h (b + i) (by omega)]; split <;> rfl]; omega
  rw [e1, ← e2, Nat.add_comm, e3]
def mkZ (f : Nat → Int) (n : Nat) : List Int := (List.range n).map f
theorem mkZ_at (f : Nat → Int) (n k : Nat) : zc (mkZ f n) k = if k < n then f k else 0 := by
  show ((List.range n).map f).getD k 0 = _
  rw [List.getD_eq_getElem?_getD, List.getElem?_map]
  by_cases h : k < n
  · rw [List.getElem?_range h, if_pos h]; rfl
  · rw [List.getElem?_eq_none (by rw [List.length_range]; omega), if_neg h]; rfl
/-- a product's place, over a few -/
theorem mulL_few {U A : List Int} {b : Nat} (h : ∀ k, b ≤ k → zc U k = 0) (n : Nat) : zc (mulL U A) n = sumI (fun k => (if k ≤ n then zc A (n - k) else 0) * zc U k) b := by
  rw [mulL_sum, sumI_pad (b := b) fun k hk => by rw [h k hk, Int.zero_mul]]
  refine sumI_congr fun k hk => ?_
  by_cases c : k ≤ n
  · rw [if_pos (by omega), if_pos c, Int.mul_comm]
  · rw [if_neg (by omega), if_neg c, Int.zero_mul]
theorem mulL_le {U A : List Int} {b C X : Nat} (h : ∀ k, b ≤ k → zc U k = 0) (hA : ∀ k, (zc A k).natAbs ≤ C) (hU : ∀ k, (zc U k).natAbs ≤ X) (n : Nat) : (zc (mulL U A) n).natAbs ≤ b * (C * X) := by
  rw [mulL_few h]
  refine sumI_le fun k hk => ?_
  rw [Int.natAbs_mul]
  refine Nat.mul_le_mul ?_ (hU k)
  split
  · exact hA _
  · exact Nat.zero_le _
theorem DegM.zero {P : List Int} {d : Nat} (h : DegM 0 P d) : zc P d ≠ 0 ∧ ∀ n, d < n → zc P n = 0 := ⟨fun z => h.1 (by rw [z]; exact Int.dvd_refl 0), fun n hn => Int.zero_dvd.mp (h.2 n hn)⟩
theorem mulL_const {G : List Int} {c : Int} {S : List Int} (h0 : zc S 0 = c) (h : ∀ n, 0 < n → zc S n = 0) (n : Nat) : zc (mulL G S) n = c * zc G n := by
  rw [mulL_congr (Q := [c]) (fun n => by
    by_cases z : n = 0
    · subst z; exact h0
    · rw [h n (by omega), zc_cons, if_neg z]; rfl), mulL_comm, mulL_cons]
  have : (if n = 0 then (0 : Int) else zc (mulL [] G) (n - 1)) = 0 := by split <;> rfl
  rw [this]; omega
/-- few and small factors that bring down to the common part -/
theorem GcdL.small {A B G A' B' : List Int} {g a b C : Nat} (h : GcdL A B G) (eA : ∀ n, zc A n = zc (mulL G A') n) (eB : ∀ n, zc B n = zc (mulL G B') n) (hg : DegM 0 G g) (ha : DegM 0 A' a) (hb : DegM 0 B' b) (CA : ∀ i, (zc A i).natAbs ≤ C) (CB : ∀ i, (zc B i).natAbs ≤ C) (C0 : 0 < C) :
    ∃ (c : Int) (U V : List Int), c ≠ 0 ∧ (∀ n, c * zc G n = zc (mulL U A) n + zc (mulL V B) n) ∧ ∀ n, (c * zc G n).natAbs ≤ (a + b + 1) * (C * (2 * (a + b) * C) ^ (a + b)) := by
  by_cases z : a + b = 0
  · obtain ⟨rfl, rfl⟩ : a = 0 ∧ b = 0 := by omega
    have e := mulL_const (G := G) (c := zc A' 0) (S := A') rfl (fun n hn => ha.zero.2 n hn)
    refine ⟨zc A' 0, [1], [], ha.zero.1, fun n => ?_, fun n => ?_⟩
    · rw [← e, ← eA, mulL_cons]
      have : (if n = 0 then (0 : Int) else zc (mulL [] A) (n - 1)) = 0 := by split <;> rfl
      rw [this]
      show _ = _ + zc [] n
      have : zc [] n = 0 := rfl
      rw [this]; omega
    · rw [← e, ← eA]
      have := CA n
      show (zc A n).natAbs ≤ 1 * (C * 1)
      omega
  · have dA := degM_mul prI_zero hg ha
    have dB := degM_mul prI_zero hg hb
    have dA' : ∀ n, g + a < n → zc A n = 0 := fun n hn => by rw [eA]; exact dA.zero.2 n hn
    have dB' : ∀ n, g + b < n → zc B n = 0 := fun n hn => by rw [eB]; exact dB.zero.2 n hn
    obtain ⟨x, hx, ⟨i0, hi0, hxi⟩, eq⟩ := siegel (N := a + b) (M := a + b - 1) (C := C)
      (fun j i => if i < b then (if i ≤ g + 1 + j then zc A (g + 1 + j - i) else 0) else (if i - b ≤ g + 1 + j then zc B (g + 1 + j - (i - b)) else 0))
      (fun j i _ _ => by
        split <;> split
        · exact CA _
        · exact Nat.zero_le _
        · exact CB _
        · exact Nat.zero_le _) C0 (by omega)
    have U0 : ∀ k, b ≤ k → zc (mkZ x b) k = 0 := fun k hk => by rw [mkZ_at, if_neg (by omega)]
    have V0 : ∀ k, a ≤ k → zc (mkZ (fun i => x (b + i)) a) k = 0 := fun k hk => by rw [mkZ_at, if_neg (by omega)]
    have W : ∀ n, g < n → zc (mulL (mkZ x b) A) n + zc (mulL (mkZ (fun i => x (b + i)) a) B) n = 0 := fun n hn => by
      by_cases big : g + a + b ≤ n
      · have z1 : zc (mulL (mkZ x b) A) n = 0 := by
          rw [mulL_few U0]
          refine sumI_none fun k hk => ?_
          rw [if_pos (by omega), dA' _ (by omega), Int.zero_mul]
        have z2 : zc (mulL (mkZ (fun i => x (b + i)) a) B) n = 0 := by
          rw [mulL_few V0]
          refine sumI_none fun k hk => ?_
          rw [if_pos (by omega), dB' _ (by omega), Int.zero_mul]
        rw [z1, z2]; rfl
      · have e := eq (n - (g + 1)) (by omega)
        rw [show g + 1 + (n - (g + 1)) = n by omega, Nat.add_comm a b, sumI_split] at e
        rw [mulL_few U0, mulL_few V0]
        refine Eq.trans ?_ e
        congr 1
        · exact sumI_congr fun k hk => by rw [if_pos hk, mkZ_at, if_pos hk]
        · refine sumI_congr fun k hk => ?_
          rw [mkZ_at, if_pos hk, if_neg (show ¬ b + k < b by omega), show b + k - b = k by omega]
    -- over the common part
    have s1 : ∀ n, zc (mulL (mkZ x b) A) n + zc (mulL (mkZ (fun i => x (b + i)) a) B) n = zc (mulL G (addL (mulL (mkZ x b) A') (mulL (mkZ (fun i => x (b + i)) a) B'))) n := fun n => by
      rw [mulL_lin (R := addL (mulL (mkZ x b) A') (mulL (mkZ (fun i => x (b + i)) a) B')) (c := 1) (d := 1) (P := mulL (mkZ x b) A') (Q := mulL (mkZ (fun i => x (b + i)) a) B') fun n => by rw [addL_z]; omega, mulL_congr (G := mkZ x b) eA, mulL_congr (G := mkZ (fun i => x (b + i)) a) eB, mulL_swap (mkZ x b) G A', mulL_swap (mkZ (fun i => x (b + i)) a) G B']
      omega
    generalize addL (mulL (mkZ x b) A') (mulL (mkZ (fun i => x (b + i)) a) B') = S at s1
    have ne : ∃ i, ¬ (0 : Int) ∣ zc S i := Classical.not_forall.mp fun c => by
      have zz : ∀ n, zc (mulL (mkZ x b) A) n + zc (mulL (mkZ (fun i => x (b + i)) a) B) n = 0 := fun n => by
        rw [s1, mulL_sum]
        refine sumI_none fun k hk => ?_
        rw [Int.zero_dvd.mp (c _), Int.mul_zero]
      obtain ⟨u0, v0⟩ := h.cop eA eB hb U0 zz
      by_cases ib : i0 < b
      · have := u0 i0
        rw [mkZ_at, if_pos ib] at this
        exact hxi this
      · have := v0 (i0 - b)
        rw [mkZ_at, if_pos (by omega), show b + (i0 - b) = i0 by omega] at this
        exact hxi this
    obtain ⟨d, hd⟩ := degM_ex ne
    have d0 : d = 0 := by
      refine Classical.byContradiction fun c => ?_
      have m := (degM_mul prI_zero hg hd).zero.1
      rw [← s1, W _ (by omega)] at m
      exact m rfl
    subst d0
    have e := mulL_const (G := G) (c := zc S 0) (S := S) rfl (fun n hn => hd.zero.2 n hn)
    refine ⟨zc S 0, mkZ x b, mkZ (fun i => x (b + i)) a, hd.zero.1, fun n => by rw [s1, e], fun n => ?_⟩
    rw [← e, ← s1]
    have X0 : 0 < 2 * (a + b) * C := Nat.mul_pos (by omega) C0
    have le : (2 * (a + b) * C) ^ (a + b - 1) ≤ (2 * (a + b) * C) ^ (a + b) := Nat.pow_le_pow_right X0 (by omega)
    have h1 := mulL_le U0 CA (X := (2 * (a + b) * C) ^ (a + b - 1)) (fun k => by rw [mkZ_at]; split; exact hx _; exact Nat.zero_le _) n
    have h2 := mulL_le V0 CB (X := (2 * (a + b) * C) ^ (a + b - 1)) (fun k => by rw [mkZ_at]; split; exact hx _; exact Nat.zero_le _) n
    have h3 : b * (C * (2 * (a + b) * C) ^ (a + b - 1)) + a * (C * (2 * (a + b) * C) ^ (a + b - 1)) = (a + b) * (C * (2 * (a + b) * C) ^ (a + b - 1)) := by
      rw [← Nat.add_mul, Nat.add_comm]
    have h4 : (a + b) * (C * (2 * (a + b) * C) ^ (a + b - 1)) ≤ (a + b + 1) * (C * (2 * (a + b) * C) ^ (a + b)) := Nat.mul_le_mul (by omega) (Nat.mul_le_mul_left _ le)
    have h5 := Int.natAbs_add_le (zc (mulL (mkZ x b) A) n) (zc (mulL (mkZ (fun i => x (b + i)) a) B) n)
    omega
end Fp

namespace Fp
/-! ### common parts modulo a prime (or, modulo 0, of whole polynomials up to factors) -/
theorem not_dvd_mul {q : Int} (hq : PrI q) {a b : Int} (ha : ¬ q ∣ a) (hb : ¬ q ∣ b) : ¬ q ∣ a * b := fun h => (hq a b h).elim ha hb
/-- D divides X, but for a factor that counts -/
def DvM (q : Int) (D X : List Int) : Prop := ∃ (N : Int) (Q : List Int), ¬ q ∣ N ∧ ∀ n, q ∣ N * zc X n - zc (mulL D Q) n
/-- F is put together of A and B, but for a factor that counts -/
def CombM (q : Int) (A B F : List Int) : Prop := ∃ (c : Int) (U V : List Int), ¬ q ∣ c ∧ ∀ n, q ∣ c * zc F n - (zc (mulL U A) n + zc (mulL V B) n)
theorem one_not {q : Int} (h : q ≠ 1 ∧ q ≠ -1) : ¬ q ∣ 1 := fun c => by
  have := Int.natAbs_dvd_natAbs.mpr c
  have : q.natAbs = 1 := Nat.dvd_one.mp this
  omega
theorem mulL_one (D : List Int) (n : Nat) : zc (mulL D [1]) n = zc D n := by
  rw [mulL_const (c := 1) rfl (fun n hn => by rw [zc_cons, if_neg (by omega)]; rfl)]; omega
theorem mulL_one' (D : List Int) (n : Nat) : zc (mulL [1] D) n = zc D n := by rw [mulL_comm, mulL_one]
theorem DvM.self {q : Int} (h : ¬ q ∣ 1) (D : List Int) : DvM q D D := ⟨1, [1], h, fun n => by rw [mulL_one]; exact ⟨0, by omega⟩⟩
theorem DvM.none {q : Int} (h : ¬ q ∣ 1) (D : List Int) {X : List Int} (z : ∀ n, q ∣ zc X n) : DvM q D X := ⟨1, [], h, fun n => by
  rw [mulL_nil]; obtain ⟨k, hk⟩ := z n; exact ⟨k, by omega⟩⟩
theorem CombM.one {q : Int} (h : ¬ q ∣ 1) (A B : List Int) : CombM q A B A := ⟨1, [1], [], h, fun n => by
  rw [mulL_one']
  have : zc (mulL [] B) n = 0 := rfl
  rw [this]; exact ⟨0, by omega⟩⟩
theorem CombM.two {q : Int} (h : ¬ q ∣ 1) (A B : List Int) : CombM q A B B := ⟨1, [], [1], h, fun n => by
  rw [mulL_one']
  have : zc (mulL [] A) n = 0 := rfl
  rw [this]; exact ⟨0, by omega⟩⟩
/-- h X is Z modulo q -/
def SmM (q h : Int) (X Z : List Int) : Prop := ∀ n, q ∣ h * zc X n - zc Z n
theorem DvM.up {q : Int} (hq : PrI q) {D X Z : List Int} {h : Int} (hh : ¬ q ∣ h) (e : SmM q h X Z) (d : DvM q D Z) : DvM q D X := by
  obtain ⟨N, Q, hN, eN⟩ := d
  refine ⟨N * h, Q, not_dvd_mul hq hN hh, fun n => ?_⟩
  obtain ⟨a, ha⟩ := e n
  obtain ⟨b, hb⟩ := eN n
  exact ⟨N * a + b, by grind⟩
theorem DvM.down {q : Int} {D X Z : List Int} {h : Int} (e : SmM q h X Z) (d : DvM q D X) : DvM q D Z := by
  obtain ⟨N, Q, hN, eN⟩ := d
  refine ⟨N, smL h Q, hN, fun n => ?_⟩
  have l := mulL_lin (G := D) (P := Q) (Q := []) (R := smL h Q) (c := h) (d := 0) (fun n => by rw [Int.zero_mul, Int.add_zero]; exact smL_at h Q n) n
  rw [l]
  obtain ⟨a, ha⟩ := e n
  obtain ⟨b, hb⟩ := eN n
  exact ⟨h * b - N * a, by grind⟩
theorem CombM.up {q : Int} (hq : PrI q) {A B X Z : List Int} {h : Int} (hh : ¬ q ∣ h) (e : SmM q h X Z) (d : CombM q A B Z) : CombM q A B X := by
  obtain ⟨c, U, V, hc, eN⟩ := d
  refine ⟨c * h, U, V, not_dvd_mul hq hc hh, fun n => ?_⟩
  obtain ⟨a, ha⟩ := e n
  obtain ⟨b, hb⟩ := eN n
  exact ⟨c * a + b, by grind⟩
theorem CombM.down {q : Int} {A B X Z : List Int} {h : Int} (e : SmM q h X Z) (d : CombM q A B X) : CombM q A B Z := by
  obtain ⟨c, U, V, hc, eN⟩ := d
  refine ⟨c, smL h U, smL h V, hc, fun n => ?_⟩
  have l := mulL_lin' (G := A) (P := U) (Q := []) (R := smL h U) (c := h) (d := 0) (fun n => by rw [Int.zero_mul, Int.add_zero]; exact smL_at h U n) n
  have l2 := mulL_lin' (G := B) (P := V) (Q := []) (R := smL h V) (c := h) (d := 0) (fun n => by rw [Int.zero_mul, Int.add_zero]; exact smL_at h V n) n
  rw [l, l2]
  obtain ⟨a, ha⟩ := e n
  obtain ⟨b, hb⟩ := eN n
  exact ⟨h * b - c * a, by grind⟩
theorem DvM.lin {q : Int} (hq : PrI q) {D X Y Z : List Int} {c d : Int} (x : DvM q D X) (y : DvM q D Y) (e : ∀ n, q ∣ zc Z n - (c * zc X n + d * zc Y n)) : DvM q D Z := by
  obtain ⟨N, Q, hN, eN⟩ := x
  obtain ⟨M, R, hM, eM⟩ := y
  refine ⟨N * M, addL (smL (c * M) Q) (smL (d * N) R), not_dvd_mul hq hN hM, fun n => ?_⟩
  have l := mulL_lin (G := D) (P := Q) (Q := R) (R := addL (smL (c * M) Q) (smL (d * N) R)) (c := c * M) (d := d * N) (fun n => by rw [addL_z, smL_z, smL_z]) n
  rw [l]
  obtain ⟨a, ha⟩ := e n
  obtain ⟨b, hb⟩ := eN n
  obtain ⟨f, hf⟩ := eM n
  exact ⟨N * M * a + c * M * b + d * N * f, by grind⟩
theorem CombM.lin {q : Int} (hq : PrI q) {A B X Y Z : List Int} {c d : Int} (x : CombM q A B X) (y : CombM q A B Y) (e : ∀ n, q ∣ zc Z n - (c * zc X n + d * zc Y n)) : CombM q A B Z := by
  obtain ⟨N, U, V, hN, eN⟩ := x
  obtain ⟨M, R, S, hM, eM⟩ := y
  refine ⟨N * M, addL (smL (c * M) U) (smL (d * N) R), addL (smL (c * M) V) (smL (d * N) S), not_dvd_mul hq hN hM, fun n => ?_⟩
  have l := mulL_lin' (G := A) (P := U) (Q := R) (R := addL (smL (c * M) U) (smL (d * N) R)) (c := c * M) (d := d * N) (fun n => by rw [addL_z, smL_z, smL_z]) n
  have l2 := mulL_lin' (G := B) (P := V) (Q := S) (R := addL (smL (c * M) V) (smL (d * N) S)) (c := c * M) (d := d * N) (fun n => by rw [addL_z, smL_z, smL_z]) n
  rw [l, l2]
  obtain ⟨a, ha⟩ := e n
  obtain ⟨b, hb⟩ := eN n
  obtain ⟨f, hf⟩ := eM n
  exact ⟨N * M * a + c * M * b + d * N * f, by grind⟩
theorem DvM.shift {q : Int} {D X : List Int} (k : Nat) (x : DvM q D X) : DvM q D (upL k X) := by
  obtain ⟨N, Q, hN, eN⟩ := x
  refine ⟨N, upL k Q, hN, fun n => ?_⟩
  rw [mulL_upL, upL_at]
  split
  · exact ⟨0, by omega⟩
  · exact eN _
theorem mulL_upL' (Q G : List Int) (k n : Nat) : zc (mulL (upL k Q) G) n = if n < k then 0 else zc (mulL Q G) (n - k) := by
  rw [mulL_comm, mulL_upL]; split
  · rfl
  · rw [mulL_comm]
theorem CombM.shift {q : Int} {A B X : List Int} (k : Nat) (x : CombM q A B X) : CombM q A B (upL k X) := by
  obtain ⟨N, U, V, hN, eN⟩ := x
  refine ⟨N, upL k U, upL k V, hN, fun n => ?_⟩
  rw [mulL_upL', mulL_upL', upL_at]
  split
  · exact ⟨0, by omega⟩
  · exact eN _
/-- what stands in the division of Euclid, modulo q -/
structure EucM (q : Int) (A B F S : List Int) : Prop where
  cF : CombM q A B F
  cS : CombM q A B S
  dv : ∀ D, DvM q D F → DvM q D S → DvM q D A ∧ DvM q D B
theorem EucM.swap {q : Int} {A B F S : List Int} (h : EucM q A B F S) : EucM q A B S F := ⟨h.cS, h.cF, fun D a b => h.dv D b a⟩
/-- a first that stands for another -/
theorem EucM.same {q : Int} (hq : PrI q) {A B F F' S : List Int} {k : Int} (hk : ¬ q ∣ k) (e : SmM q k F' F) (h : EucM q A B F S) : EucM q A B F' S :=
  ⟨h.cF.up hq hk e, h.cS, fun D a b => h.dv D (a.down e) b⟩
theorem EucM.start {q : Int} (h1 : ¬ q ∣ 1) (A B : List Int) : EucM q A B A B := ⟨.one h1 A B, .two h1 A B, fun D a b => ⟨a, b⟩⟩
/-- a step: the first times the head of the second, less the second times another number, higher up -/
theorem EucM.step {q : Int} (hq : PrI q) (h1 : ¬ q ∣ 1) {A B F F' S : List Int} {k : Nat} {head lead : Int} (hh : ¬ q ∣ head) (e : ∀ n, q ∣ zc F' n - (head * zc F n - lead * zc (upL k S) n)) (h : EucM q A B F S) : EucM q A B F' S := by
  refine ⟨.lin hq (c := head) (d := -lead) h.cF (h.cS.shift k) fun n => ?_, h.cS, fun D a b => h.dv D ?_ b⟩
  · rw [Int.neg_mul, ← Int.sub_eq_add_neg]; exact e n
  · refine DvM.up hq (h := head) (Z := addL F' (smL lead (upL k S))) hh (fun n => ?_) (.lin hq (c := 1) (d := lead) a (b.shift k) fun n => ?_)
    · rw [addL_z, smL_z]
      obtain ⟨x, hx⟩ := e n
      exact ⟨-x, by grind⟩
    · rw [addL_z, smL_z]; exact ⟨0, by omega⟩
/-- where it ends -/
theorem EucM.last {q : Int} (h1 : ¬ q ∣ 1) {A B F S : List Int} (h : EucM q A B F S) (z : ∀ n, q ∣ zc S n) : CombM q A B F ∧ DvM q F A ∧ DvM q F B :=
  ⟨h.cF, h.dv F (.self h1 F) (.none h1 F z)⟩
theorem DvM.comb {q : Int} (hq : PrI q) {D A B F : List Int} (a : DvM q D A) (b : DvM q D B) (f : CombM q A B F) : DvM q D F := by
  obtain ⟨c, U, V, hc, e⟩ := f
  have m : ∀ {X : List Int} (W : List Int), DvM q D X → DvM q D (mulL W X) := fun {X} W x => by
    obtain ⟨N, Q, hN, eN⟩ := x
    refine ⟨N, mulL W Q, hN, fun n => ?_⟩
    have s := mulL_swap W D Q n
    have t := EqM.mul (q := q) (P := smL N X) (Q := mulL D Q) W (fun n => by rw [smL_z]; exact eN n) n
    have u := mulL_lin (G := W) (P := X) (Q := []) (R := smL N X) (c := N) (d := 0) (fun n => by rw [Int.zero_mul, Int.add_zero]; exact smL_at N X n) n
    rw [u, s] at t
    rw [Int.zero_mul, Int.add_zero] at t
    exact t
  refine DvM.up hq (h := c) (Z := addL (mulL U A) (mulL V B)) hc (fun n => ?_) (.lin hq (c := 1) (d := 1) (m U a) (m V b) fun n => ?_)
  · rw [addL_z]; exact e n
  · rw [addL_z]; exact ⟨0, by omega⟩
/-- modulo a prime it is the common part, but for a factor -/
theorem mod_gcd {q : Int} (hq : PrI q) {A B G F : List Int} (hG : ∃ i, ¬ q ∣ zc G i) (A' B' : List Int) (eA : ∀ n, zc A n = zc (mulL G A') n) (eB : ∀ n, zc B n = zc (mulL G B') n) (hc : CombM q A B G) (hF : CombM q A B F) (dA : DvM q F A) (dB : DvM q F B) :
    ∃ k w : Int, ¬ q ∣ k ∧ ¬ q ∣ w ∧ ∀ n, q ∣ k * zc F n - w * zc G n := by
  obtain ⟨N, Q, hN, eN⟩ := dA.comb hq dB hc
  obtain ⟨k, U, V, hk, e⟩ := hF
  -- k F = G S
  have e1 : ∀ n, q ∣ k * zc F n - zc (mulL G (addL (mulL U A') (mulL V B'))) n := fun n => by
    rw [mulL_lin (R := addL (mulL U A') (mulL V B')) (c := 1) (d := 1) (P := mulL U A') (Q := mulL V B') fun n => by rw [addL_z]; omega, ← mulL_swap U G A', ← mulL_swap V G B', mulL_congr (G := U) fun n => (eA n).symm, mulL_congr (G := V) fun n => (eB n).symm]
    obtain ⟨x, hx⟩ := e n
    exact ⟨x, by omega⟩
  generalize addL (mulL U A') (mulL V B') = S at e1
  -- k N G = G S Q
  have e2 : ∀ n, q ∣ zc (mulL G (mulL S Q)) n - zc (mulL G [k * N]) n := fun n => by
    have a := eN n
    have b := EqM.mul' (q := q) (P := smL k F) (Q := mulL G S) Q (fun n => by rw [smL_z]; exact e1 n) n
    have c := mulL_lin' (G := Q) (P := F) (Q := []) (R := smL k F) (c := k) (d := 0) (fun n => by rw [Int.zero_mul, Int.add_zero]; exact smL_at k F n) n
    rw [c, mulL_assoc, Int.zero_mul, Int.add_zero] at b
    rw [mulL_const (S := [k * N]) (c := k * N) rfl fun n hn => by rw [zc_cons, if_neg (by omega)]; rfl]
    obtain ⟨x, hx⟩ := a
    obtain ⟨y, hy⟩ := b
    exact ⟨-y - k * x, by grind⟩
  have e3 : ∀ n, q ∣ zc (addL (mulL S Q) (smL (-1) [k * N])) n := mul_none hq hG fun n => by
    rw [mulL_lin (R := addL (mulL S Q) (smL (-1) [k * N])) (c := 1) (d := -1) (P := mulL S Q) (Q := [k * N]) fun n => by rw [addL_z, smL_z]; omega]
    have := e2 n
    rwa [show 1 * zc (mulL G (mulL S Q)) n + -1 * zc (mulL G [k * N]) n = zc (mulL G (mulL S Q)) n - zc (mulL G [k * N]) n by omega]
  have e4 : EqM q [k * N] (mulL S Q) := EqM.symm fun n => by
    have := e3 n
    rw [addL_z, smL_z] at this
    rwa [show zc (mulL S Q) n + -1 * zc [k * N] n = zc (mulL S Q) n - zc [k * N] n by omega] at this
  have d0 : DegM q [k * N] 0 := ⟨not_dvd_mul hq hk hN, fun n hn => by
    rw [zc_cons, if_neg (by omega)]; exact Int.dvd_zero _⟩
  have d1 := e4.deg d0
  -- S is a number
  have sx : ∃ i, ¬ q ∣ zc S i := Classical.not_forall.mp fun c => d1.1 (by
    rw [mulL_sum]; exact sumI_dvd_all fun i hi => Int.dvd_mul_of_dvd_left (c _))
  have qx : ∃ i, ¬ q ∣ zc Q i := Classical.not_forall.mp fun c => d1.1 (by
    rw [mulL_sum]; exact sumI_dvd_all fun i hi => Int.dvd_mul_of_dvd_right (c _))
  obtain ⟨s, hs⟩ := degM_ex sx
  obtain ⟨t, ht⟩ := degM_ex qx
  have := degM_fn d1 (degM_mul hq hs ht)
  obtain rfl : s = 0 := by omega
  refine ⟨k, zc S 0, hk, hs.1, fun n => ?_⟩
  have a := EqM.mul (q := q) (P := S) (Q := [zc S 0]) G (fun n => by
    rw [zc_cons]
    by_cases z : n = 0
    · subst z; rw [if_pos rfl]; exact ⟨0, by omega⟩
    · rw [if_neg z]
      have := hs.2 n (by omega)
      show q ∣ zc S n - 0
      rwa [Int.sub_zero]) n
  rw [mulL_const (S := [zc S 0]) (c := zc S 0) rfl fun n hn => by rw [zc_cons, if_neg (by omega)]; rfl] at a
  obtain ⟨x, hx⟩ := e1 n
  obtain ⟨y, hy⟩ := a
  exact ⟨x + y, by rw [Int.mul_add]; omega⟩
/-- the law's own common part -/
theorem GcdL.of {A B G : List Int} (hG : PrimL G) (h : CombM 0 A B G) (a : DvM 0 G A) (b : DvM 0 G B) : GcdL A B G := by
  have z : ∀ {x : Int}, ¬ (0 : Int) ∣ x → x ≠ 0 := fun h e => h (by rw [e]; exact Int.dvd_refl 0)
  refine ⟨hG, ?_, ?_, ?_⟩
  · obtain ⟨N, Q, hN, e⟩ := a
    exact gauss hG _ (Q := Q) rfl (z hN) fun n => by have := Int.zero_dvd.mp (e n); omega
  · obtain ⟨N, Q, hN, e⟩ := b
    exact gauss hG _ (Q := Q) rfl (z hN) fun n => by have := Int.zero_dvd.mp (e n); omega
  · obtain ⟨c, U, V, hc, e⟩ := h
    exact ⟨c, U, V, z hc, fun n => by have := Int.zero_dvd.mp (e n); omega⟩
end Fp

namespace Fp
def ll (p : Nat) : Nat → Nat
  | 0 => 4
  | k + 1 => (ll p k * ll p k + (p - 2)) % p
theorem ll_pw {p : Nat} (p2 : 2 ≤ p) : ∀ k, (p : Int) ∣ 2 * (pw (2 ^ k)).1 - (ll p k : Int)
  | 0 => ⟨0, by rw [Int.mul_zero]; rfl⟩
  | k + 1 => by
    obtain ⟨c, hc⟩ := ll_pw p2 k
    have d := (pw_dbl (2 ^ k)).1
    rw [show 2 ^ k + 2 ^ k = 2 ^ (k + 1) by rw [Nat.pow_succ]; omega] at d
    have e : ((ll p (k + 1) : Nat) : Int) = ((ll p k : Int) * (ll p k : Int) + ((p : Int) - 2)) % (p : Int) := by
      show (((ll p k * ll p k + (p - 2)) % p : Nat) : Int) = _
      rw [Int.natCast_emod, Int.natCast_add, Int.natCast_mul, Int.natCast_sub p2]; rfl
    have m := Int.emod_add_mul_ediv ((ll p k : Int) * (ll p k : Int) + ((p : Int) - 2)) (p : Int)
    rw [← e] at m
    rw [d]
    generalize ((ll p k : Int) * (ll p k : Int) + ((p : Int) - 2)) / (p : Int) = t at m
    generalize (pw (2 ^ k)).1 = x at *
    generalize ((ll p k : Nat) : Int) = s at *
    generalize ((ll p (k + 1) : Nat) : Int) = u at *
    exact ⟨c * (2 * x + s) - 1 + t, by grind⟩
/-- Lucas and Lehmer -/
theorem mersenne {k p : Nat} (hp : p + 1 = 2 ^ (k + 2)) (h : ll p k = 0) : ∀ d, d ∣ p → d = 1 ∨ d = p := fun d hd => by
  have p4 : 4 ≤ p + 1 := by rw [hp, Nat.pow_add]; have := Nat.one_le_two_pow (n := k); omega
  have podd : ¬ 2 ∣ p := fun z => by
    have : (2 : Nat) ∣ 2 ^ (k + 2) := ⟨2 ^ (k + 1), by rw [Nat.pow_succ 2 (k + 1)]; omega⟩
    rw [← hp] at this
    omega
  have e := ll_pw (p := p) (by omega) k
  rw [h] at e
  have e : (p : Int) ∣ 2 * (pw (2 ^ k)).1 := by simpa using e
  have big : ∀ q, q ∣ p → 1 < q → p < q * q := fun q hq q1 => by
    have qodd : ¬ 2 ∣ q := fun z => podd (Nat.dvd_trans z hq)
    have q2 : ¬ (q : Int) ∣ 2 := fun z => by
      have := Int.natCast_dvd_natCast.mp (show ((q : Nat) : Int) ∣ ((2 : Nat) : Int) from z)
      have := Nat.le_of_dvd (by decide) this
      have : q = 2 := by omega
      omega
    have e2 : (q : Int) ∣ 2 * (pw (2 ^ k)).1 := Int.dvd_trans (Int.natCast_dvd_natCast.mpr hq) e
    have e3 : (q : Int) ∣ (pw (2 ^ k)).1 := by
      obtain ⟨c, hc⟩ := e2
      obtain ⟨j, hj⟩ : ∃ j : Int, (q : Int) = 2 * j + 1 := ⟨(q : Int) / 2, by omega⟩
      exact ⟨(pw (2 ^ k)).1 - j * c, by grind⟩
    have := big_divisor (n := k) q1 q2 e3
    omega
  obtain ⟨f, hf⟩ := hd
  have dp : d ∣ p := ⟨f, hf⟩
  have fp : f ∣ p := ⟨d, by rw [hf, Nat.mul_comm]⟩
  rcases Nat.lt_or_ge 1 d with d1 | d1
  · rcases Nat.lt_or_ge 1 f with f1 | f1
    · have a := big d dp d1
      have b := big f fp f1
      exfalso
      rcases Nat.le_total d f with l | l
      · have := Nat.mul_le_mul_left d l; omega
      · have := Nat.mul_le_mul_left f l
        rw [Nat.mul_comm f d] at this; omega
    · have : f = 1 := by
        rcases (show f = 0 ∨ f = 1 by omega) with z | z
        · rw [z, Nat.mul_zero] at hf; omega
        · exact z
      right; rw [hf, this, Nat.mul_one]
  · left
    rcases (show d = 0 ∨ d = 1 by omega) with z | z
    · rw [z, Nat.zero_mul] at hf; omega
    · exact z
abbrev p521 : Nat := 2 ^ 521 - 1
theorem ll_521 : ll (2 ^ 521 - 1) 519 = 0 := by decide +kernel
theorem prime_521 : Pr p521 := pr_of (by decide +kernel) (mersenne (k := 519) (by decide +kernel) ll_521)
end Fp

namespace Fp
/-! ### fractions out of their rests -/
/-- where the division of Euclid stands: older, newer, and their multiples -/
structure Euc (p : Nat) (x : Int) (r0 r1 b0 b1 : Int) : Prop where
  e0 : (p : Int) ∣ r0 - b0 * x
  e1 : (p : Int) ∣ r1 - b1 * x
  n1 : 0 ≤ r1
  lt : r1 < r0
  sg : ∃ s : Int, (s = 1 ∨ s = -1) ∧ 0 ≤ s * b1 ∧ s * b0 ≤ 0 ∧ s * (r0 * b1 - r1 * b0) = p
  cp : Int.gcd r0 r1 = Int.gcd p x
theorem Euc.start {p : Nat} {x : Int} (h0 : 0 ≤ x) (h1 : x < p) : Euc p x p x 0 1 :=
  ⟨⟨1, by omega⟩, ⟨0, by omega⟩, h0, h1, ⟨1, .inl rfl, by omega, by omega, by omega⟩, rfl⟩
theorem Euc.step {p : Nat} {x r0 r1 b0 b1 : Int} (h : Euc p x r0 r1 b0 b1) (h1 : 0 < r1) : Euc p x r1 (r0 - r0.fdiv r1 * r1) b1 (b0 - r0.fdiv r1 * b1) := by
  obtain ⟨⟨a, ha⟩, ⟨c, hc⟩, n1, lt, ⟨s, hs, s1, s0, det⟩, cp⟩ := h
  have q0 : 0 ≤ r0.fdiv r1 := by rw [Int.fdiv_eq_ediv_of_nonneg _ (by omega)]; exact Int.ediv_nonneg (by omega) (by omega)
  have em : r0 - r0.fdiv r1 * r1 = r0 % r1 := by
    rw [Int.fdiv_eq_ediv_of_nonneg _ (by omega)]
    have := Int.emod_add_mul_ediv r0 r1
    rw [Int.mul_comm] at this; omega
  have r2 : 0 ≤ r0 - r0.fdiv r1 * r1 ∧ r0 - r0.fdiv r1 * r1 < r1 := by
    rw [em]; exact ⟨Int.emod_nonneg _ (by omega), Int.emod_lt_of_pos _ h1⟩
  have cg : Int.gcd r1 (r0 - r0.fdiv r1 * r1) = Int.gcd r0 r1 := by
    generalize r0.fdiv r1 = q
    refine Nat.dvd_antisymm (Int.dvd_gcd_iff.mpr ⟨?_, Int.gcd_dvd_left ..⟩) (Int.dvd_gcd_iff.mpr ⟨Int.gcd_dvd_right .., ?_⟩)
    · obtain ⟨a, ha⟩ := Int.gcd_dvd_left r1 (r0 - q * r1)
      obtain ⟨b, hb⟩ := Int.gcd_dvd_right r1 (r0 - q * r1)
      exact ⟨b + q * a, by grind⟩
    · obtain ⟨a, ha⟩ := Int.gcd_dvd_left r0 r1
      obtain ⟨b, hb⟩ := Int.gcd_dvd_right r0 r1
      exact ⟨a - q * b, by grind⟩
  generalize r0.fdiv r1 = q at *
  refine ⟨⟨c, hc⟩, ⟨a - q * c, by grind⟩, r2.1, r2.2, ⟨-s, by omega, ?_, ?_, ?_⟩, by rw [cg, cp]⟩
  · have : -s * (b0 - q * b1) = q * (s * b1) - s * b0 := by grind
    rw [this]
    have := Int.mul_nonneg q0 s1
    omega
  · have : -s * b1 = -(s * b1) := by grind
    omega
  · grind
/-- the one small fraction -/
theorem recon {p L : Nat} {x r0 r1 b0 b1 t m : Int} (h : Euc p x r0 r1 b0 b1) (hp : 2 * (L * L) < p) (hL : (L : Int) < r0) (hl : r1 ≤ L) (m0 : 0 < m) (mL : m ≤ L) (tL : t.natAbs ≤ L) (c : Int.gcd t m = 1) (e : (p : Int) ∣ t - m * x) :
    (r1 = t ∧ b1 = m) ∨ (r1 = -t ∧ b1 = -m) := by
  obtain ⟨⟨a, ha⟩, ⟨d, hd⟩, n1, lt, ⟨s, hs, s1, s0, det⟩, _⟩ := h
  obtain ⟨f, hf⟩ := e
  have p0 : (0 : Int) < p := by omega
  have ss : s * s = 1 := by rcases hs with h | h <;> subst h <;> decide
  -- (t, m) = al (r0, b0) + be (r1, b1)
  obtain ⟨al, hal⟩ : ∃ al : Int, s * (t * b1 - m * r1) = p * al := ⟨s * (f * b1 - m * d), by grind⟩
  obtain ⟨be, hbe⟩ : ∃ be : Int, s * (m * r0 - t * b0) = p * be := ⟨s * (m * a - f * b0), by grind⟩
  have et : t = al * r0 + be * r1 := Int.eq_of_mul_eq_mul_left (show (p : Int) ≠ 0 by omega) (by grind)
  have em : m = al * b0 + be * b1 := Int.eq_of_mul_eq_mul_left (show (p : Int) ≠ 0 by omega) (by grind)
  have LL : (L : Int) * L = ((L * L : Nat) : Int) := (Int.natCast_mul L L).symm
  have key : al = 0 := by
    refine Classical.byContradiction fun al0 => ?_
    by_cases be0 : be = 0
    · -- |t| = |al| r0
      rw [be0, Int.zero_mul, Int.add_zero] at et
      have h1 : t.natAbs = al.natAbs * r0.natAbs := by rw [et, Int.natAbs_mul]
      have h2 : 1 * r0.natAbs ≤ al.natAbs * r0.natAbs := Nat.mul_le_mul_right _ (by omega)
      omega
    · rcases Int.lt_or_gt_of_ne al0 with an | ap <;> rcases Int.lt_or_gt_of_ne be0 with bn | bp
      · have h1 : r0 ≤ -al * r0 := by have := Int.mul_le_mul_of_nonneg_right (show 1 ≤ -al by omega) (show 0 ≤ r0 by omega); omega
        have h2 : 0 ≤ -be * r1 := Int.mul_nonneg (by omega) n1
        have h3 : -al * r0 = -(al * r0) := Int.neg_mul ..
        have h4 : -be * r1 = -(be * r1) := Int.neg_mul ..
        omega
      · -- signs differ: |b1| <= m
        have h1 : s * b1 ≤ be * (s * b1) := by have := Int.mul_le_mul_of_nonneg_right (show 1 ≤ be by omega) s1; omega
        have h2 : 0 ≤ -al * -(s * b0) := Int.mul_nonneg (by omega) (by omega)
        have h3 : s * m = -al * -(s * b0) + be * (s * b1) := by grind
        have h4 : s * b1 ≤ m := by rcases hs with h | h <;> subst h <;> omega
        have h5 : (t * (s * b1)).natAbs ≤ L * L := by
          rw [Int.natAbs_mul]; exact Nat.mul_le_mul tL (by omega)
        have h6 : 0 ≤ m * r1 := Int.mul_nonneg (by omega) n1
        have h7 : m * r1 ≤ L * L := Int.mul_le_mul mL hl n1 (by omega)
        have h8 : t * (s * b1) - s * (m * r1) = p * al := by grind
        have h9 : (p : Int) * al ≤ p * -1 := Int.mul_le_mul_of_nonneg_left (by omega) (by omega)
        rcases hs with h | h <;> subst h <;> omega
      · have h1 : s * b1 ≤ -be * (s * b1) := by have := Int.mul_le_mul_of_nonneg_right (show 1 ≤ -be by omega) s1; omega
        have h2 : 0 ≤ al * -(s * b0) := Int.mul_nonneg (by omega) (by omega)
        have h3 : s * m = -(al * -(s * b0) + -be * (s * b1)) := by grind
        have h4 : s * b1 ≤ m := by rcases hs with h | h <;> subst h <;> omega
        have h5 : (t * (s * b1)).natAbs ≤ L * L := by
          rw [Int.natAbs_mul]; exact Nat.mul_le_mul tL (by omega)
        have h6 : 0 ≤ m * r1 := Int.mul_nonneg (by omega) n1
        have h7 : m * r1 ≤ L * L := Int.mul_le_mul mL hl n1 (by omega)
        have h8 : t * (s * b1) - s * (m * r1) = p * al := by grind
        have h9 : (p : Int) * 1 ≤ p * al := Int.mul_le_mul_of_nonneg_left (by omega) (by omega)
        rcases hs with h | h <;> subst h <;> omega
      · have h1 : r0 ≤ al * r0 := by have := Int.mul_le_mul_of_nonneg_right (show 1 ≤ al by omega) (show 0 ≤ r0 by omega); omega
        have h2 : 0 ≤ be * r1 := Int.mul_nonneg (by omega) n1
        omega
  rw [key, Int.zero_mul, Int.zero_add] at et em
  have one : be.natAbs = 1 := by
    have : be.natAbs ∣ Int.gcd t m := Int.dvd_gcd_iff.mpr ⟨Int.natAbs_dvd.mpr ⟨r1, et⟩, Int.natAbs_dvd.mpr ⟨b1, em⟩⟩
    rw [c] at this
    exact Nat.dvd_one.mp this
  rcases (show be = 1 ∨ be = -1 by omega) with h | h
  · left; rw [h] at et em; omega
  · right; rw [h] at et em; omega
/-- what is prime to p has an inverse -/
theorem euc_inv {p : Nat} {x r0 r1 b0 b1 : Int} (h : Euc p x r0 r1 b0 b1) (h0 : 1 < r0) (h1 : r1 ≤ 1) (c : Int.gcd p x = 1) : (p : Int) ∣ 1 - b1 * x := by
  have e := h.e1
  have g := h.cp
  rw [c] at g
  have : r1 = 1 := by
    rcases (show r1 = 0 ∨ r1 = 1 by have := h.n1; omega) with z | z
    · rw [z, Int.gcd_zero] at g; omega
    · exact z
  rwa [this] at e
end Fp

namespace Fp
/-! ### fractions out of rests, one behind another -/
theorem pr_ndvd {p : Nat} {x : Int} (h0 : x ≠ 0) (h : x.natAbs < p) : ¬ (p : Int) ∣ x := fun c => by
  have := Nat.le_of_dvd (by omega) (Int.ofNat_dvd_left.mp c)
  omega
theorem euc_b {p : Nat} {x r0 r1 b0 b1 : Int} (h : Euc p x r0 r1 b0 b1) : b1.natAbs ≤ p := by
  obtain ⟨s, hs, s1, s0, det⟩ := h.sg
  have n1 := h.n1
  have lt := h.lt
  have i1 : 1 * (s * b1) ≤ r0 * (s * b1) := Int.mul_le_mul_of_nonneg_right (by omega) s1
  have i2 : 0 ≤ r1 * -(s * b0) := Int.mul_nonneg n1 (by omega)
  have e : r0 * (s * b1) + r1 * -(s * b0) = p := by grind
  have b1' : b1.natAbs = (s * b1).natAbs := by rcases hs with h | h <;> subst h <;> omega
  omega
theorem euc_b0 {p : Nat} {x r0 r1 b0 b1 : Int} (h : Euc p x r0 r1 b0 b1) (h1 : 0 < r1) : b0.natAbs ≤ p := by
  obtain ⟨s, hs, s1, s0, det⟩ := h.sg
  have lt := h.lt
  have i1 : 0 ≤ r0 * (s * b1) := Int.mul_nonneg (by omega) s1
  have i2 : 1 * -(s * b0) ≤ r1 * -(s * b0) := Int.mul_le_mul_of_nonneg_right (by omega) (by omega)
  have e : r0 * (s * b1) + r1 * -(s * b0) = p := by grind
  have b0' : b0.natAbs = (s * b0).natAbs := by rcases hs with h | h <;> subst h <;> omega
  omega
/-- one more fraction: e x = T modulo p, in lowest terms -/
theorem frac_one {p L : Nat} (hp : Pr p) {x e T r0 r1 b0 b1 : Int} (hL : 2 * (L * L) < p) (e0 : 0 < e) (eL : e ≤ L) (TL : T.natAbs ≤ L) (hx : (p : Int) ∣ T - e * x) (h : Euc p x r0 r1 b0 b1) (h0 : (L : Int) < r0) (h1 : r1 ≤ L) :
    ∃ t m g : Int, 0 < g ∧ T = t * g ∧ e = m * g ∧ 0 < m ∧ m ≤ L ∧ t.natAbs ≤ L ∧ ((r1 = t ∧ b1 = m) ∨ (r1 = -t ∧ b1 = -m)) := by
  have g0 : 0 < Int.gcd T e := Int.gcd_pos_of_ne_zero_right T (by omega)
  have d1 : ((Int.gcd T e : Nat) : Int) ∣ T := Int.gcd_dvd_left ..
  have d2 : ((Int.gcd T e : Nat) : Int) ∣ e := Int.gcd_dvd_right ..
  have cp := Int.gcd_ediv_gcd_ediv_gcd g0
  have eT := Int.ediv_mul_cancel d1
  have ee := Int.ediv_mul_cancel d2
  have gl : Int.gcd T e ≤ e.natAbs := Nat.le_of_dvd (by omega) (Int.ofNat_dvd_left.mp d2)
  generalize hg : ((Int.gcd T e : Nat) : Int) = g at *
  generalize T / g = t at *
  generalize e / g = m at *
  have g1 : 0 < g := by omega
  have m0 : 0 < m := by
    rcases Int.lt_or_le 0 m with h | h
    · exact h
    · have : m * g ≤ 0 * g := Int.mul_le_mul_of_nonneg_right h (by omega)
      omega
  have mL : m ≤ L := by
    have : m * 1 ≤ m * g := Int.mul_le_mul_of_nonneg_left (by omega) (by omega)
    omega
  have tL : t.natAbs ≤ L := by
    have h2 : T.natAbs = t.natAbs * g.natAbs := by rw [← eT, Int.natAbs_mul]
    have h3 : t.natAbs * 1 ≤ t.natAbs * g.natAbs := Nat.mul_le_mul_left _ (by omega)
    omega
  refine ⟨t, m, g, g1, eT.symm, ee.symm, m0, mL, tL, ?_⟩
  refine recon h hL h0 h1 m0 mL tL cp ?_
  -- g (t - m x) = T - e x
  have e1 : T - e * x = g * (t - m * x) := by rw [← eT, ← ee]; grind
  rw [e1] at hx
  rcases hp.2 _ _ hx with z | z
  · exact absurd z (pr_ndvd (by omega) (by
      have : L * 1 ≤ L * L := Nat.mul_le_mul_left _ (by omega)
      omega))
  · exact z
end Fp

namespace Fp
open PySem PySem.Spec PyProof.Rows L2
/-- the whole root of a number of up to 13499 bits -/
def rIsqrt : List V → Hp → VK → Prop := fun vs H Q => ∃ a : Int, vs = [.int a] ∧ 0 ≤ a ∧ a.toNat.log2 ≤ 13490 ∧ Q (.int ((Float64.isqrt a.toNat : Nat) : Int)) H
theorem cr_isqrt {X : Cx} : CallR X (.builtin "math.isqrt") rIsqrt := by
  intro pins s σ H vs us Q I r h
  obtain ⟨a, rfl, h0, h1, q⟩ := h
  obtain ⟨u, rfl, r⟩ : ∃ t, us = [.int a t] ∧ True := by
    cases r with
    | cons r1 r2 => cases r2; obtain ⟨t, rfl⟩ := r1; exact ⟨t, rfl, trivial⟩
  exact PySem.call_function_meets PySem.W.MGF.kind_isqrt PySem.W.MGF.plain_isqrt PySem.W.MGF.entry_isqrt (PySem.W.MGF.args_isqrt _) (PySem.W.mg_run_isqrt a u (by omega) (by omega) (by omega)).meets ⟨.int _, H, I.tok _, ⟨_, rfl⟩, q⟩
/-! ### any of a list of numbers -/
theorem any_rangeZ : ∀ zs : List Int, (List.range zs.length).any (fun i => zs.getD i 0 != 0) = zs.any (· != 0)
  | [] => rfl
  | b :: bs => by
    rw [List.length_cons, List.range_succ_eq_map, List.any_cons, List.any_map, List.any_cons, ← any_rangeZ bs]
    all_goals rfl
def rAnyI (K : PySem.W.Frag) : List V → Hp → VK → Prop := fun vs H Q => ∃ (a : Addr) (zs : List Int), vs = [V.ref a] ∧ SqL K H a (zs.map V.int) ∧ Q (.bl (zs.any (· != 0))) H
theorem cr_anyI {X : Cx} (hc : X.calm = true) : CallR X (.builtin "any") (rAnyI X.K) := by
  intro pins s σ H vs us Q I r h
  obtain ⟨a, zs, rfl, hs, q⟩ := h
  obtain ⟨its, rv, hl, _⟩ := I.list hs
  rw [Vals.ref1 r]
  have ln : its.length = zs.length := by rw [← rv.length, List.length_map]
  refine call_any_walk (iter_any hl.isList fun s₂ e2 st hne => ?_)
  subst e2
  refine ⟨_, _, _, _, _, _, fun i => zs.getD i 0 != 0, rfl, Walks.list (A := X.A.in1) (I.ok.hd hc) _ a hne its.toArray, st, fun i v s' Q' E' hv hq => ?_, fun h' tk hk => ?_⟩
  · have hv' : its[i]? = some v := by simpa using hv
    have hi : i < zs.length := by
      have := (List.getElem?_eq_some_iff.mp hv').1
      omega
    have hz : (zs.map V.int)[i]? = some (V.int (zs.getD i 0)) := by
      rw [List.getElem?_map, List.getD_eq_getElem?_getD, List.getElem?_eq_getElem hi]; rfl
    obtain ⟨u, hu, t, rfl⟩ := Vals.get rv hz
    rw [hv'] at hu
    obtain rfl := Option.some.inj hu
    exact truthy_int hq
  refine ⟨.bl _, H, I.kept fun b o eo => hk b o (fun hmem => ?_) (Heap.get?_push_of_some _ eo), ?_, q⟩
  · rcases List.mem_cons.mp hmem with e1 | hmem
    · exact absurd (e1 ▸ Heap.lt_size eo) (Nat.lt_irrefl _)
    · cases hmem
  · show Value.bool _ = Value.bool _
    rw [← any_rangeZ, List.size_toArray, ln]
theorem p521_half : ((p521 : Nat) : Int).fdiv 2 = ((2 ^ 520 - 1 : Nat) : Int) := by decide +kernel
theorem isqrt_520 : Float64.isqrt (2 ^ 520 - 1) = 2 ^ 260 - 1 := by decide +kernel
end Fp

namespace K21
open PySem PySem.Spec PyProof.Rows L2 Fp
section
variable {P : Program} {w : World} {K : PySem.W.Frag} {mg : Str → Option Value} {base : Heap} {k : Nat} {C fI fR : Addr}
theorem snocI_of {xs : List Int} (h : xs ≠ []) : ∃ A x, xs = A ++ [x] := ⟨xs.dropLast, xs.getLast h, (List.dropLast_concat_getLast h).symm⟩
def sp_law_is_of (K : PySem.W.Frag) : Sp := fun vs H Q _ => ∃ (l1 l2 : Addr) (ts gs : List Int) (b c : Int) (f h : List Rat) (n m kk : Nat), vs = [.ref l1, .ref l2] ∧ H l1 = some (.lst (VI ts)) ∧ H l2 = some (.lst (VI gs)) ∧ ts.length = n + 1 ∧ gs.length = m + 1 ∧ 1 ≤ m ∧ n = kk * m ∧ n ≤ 12 ∧ 1 ≤ n ∧ b ≠ 0 ∧ c ≠ 0 ∧ ratsOf b ts = f ∧ ratsOf c gs = h ∧ Told f ∧ co h m = 1 ∧ (∀ z ∈ ts, LbI 1000 z) ∧ BN (2 ^ 300) gs ∧ ∀ r H', Same H H' → (r = true ↔ Of f h) → Q (.bl r) H'
-- slots: tops 0, inner 1, left 2, many 3, often 4, power 5, head 6, at 7, number 8; cells: power
abbrev s_law_is_of : Stmt := top 49
abbrev N_law_is_of : List Str := ["tops", "inner", "left", "many", "often", "power", "head", "at", "number"]
theorem sc_law_is_of : FnScope N_law_is_of ["tops", "inner"] (defScope s_law_is_of) := ⟨rfl, rfl, rfl, by decide +kernel, rfl, by decide +kernel, by decide +kernel⟩
theorem d_law_is_of (B : Bnd K mg "_law_is_of" s_law_is_of) (M : Mg2 mg)  (D_law_power : Def P w K mg base k "_law_power" s_law_power ["tops", "many"] (sp_law_power K)) : Def P w K mg base (k + 1) "_law_is_of" s_law_is_of ["tops", "inner"] (sp_law_is_of K) := by
  refine def_of B sc_law_is_of (by rintro _ _ _ _ ⟨l1, l2, ts, gs, b, c, f, h, n, m, kk, rfl, _⟩; rfl) (fun _ _ _ _ _ _ us hl => match us, hl with | [_, _], _ => rfl) fun f cdv A outer s H vs Q E hr h => ?_
  obtain ⟨l1, l2, ts, gs, b, c, f, h, n, m, kk, rfl, h1, h2, lt, lg, m1, en, n12, n1, b0, c0, ef, eh, tf, th, bt, bg, q⟩ := h
  have hu := hr.units
  refine ⟨_, pss_cons (ps_par (i := 2) (j := 3) rfl sc_law_is_of.nd rfl rfl (by decide) rfl rfl (pa_cons (pe_callTy call_list_of (by rfl) M.list (by decide +kernel) (pa_cons (pv 0) pa_nil)) (pa_cons (pe_op op_sub (pe_callB call_len_seq (by rfl) M.len boot_len (pa_cons (pv 1) pa_nil)) pe_int) pa_nil)) (by rfl))
    (pss_cons (ps_for PassesOwn.never rfl (pi_range3 (by rfl) M.range (pa_cons (pe_op op_fdivNW (pe_op op_sub (pe_callB call_len_seq (by rfl) M.len boot_len (pa_cons (pv 0) pa_nil)) pe_int) (pv 3)) (pa_cons (pe_un un_neg pe_int) (pa_cons (pe_un un_neg pe_int) pa_nil)))) (pg_name (i := 4) sc_law_is_of.nd rfl (.inl rfl))
      (pss_cons (ps_asg (pe_tup (pa_cons (pe_d D_law_power hr (by rfl) (pa_cons (pv 1) (pa_cons (pv 4) pa_nil))) (pa_cons (pe_ix (r := rIxL K) ix_list (pv 2) (pe_op op_mulW (pv 4) (pv 3)) (fun _ _ => rfl)) pa_nil))) (pg_tup rfl (pgs_cons (pg_name (i := 5) sc_law_is_of.nd rfl (.inr rfl)) (pgs_cons (pg_name (i := 6) sc_law_is_of.nd rfl (.inl rfl)) pgs_nil))))
      (pss_cons (ps_setLc (i := 2) (own := [("number", 8)]) (g := (gName 8)) (tt := tYes) (te := (tOp _ (tVar 8) (tOp (rIxL K) (tVar 5) (tUn _ (tC (.int 1)))))) rfl sc_law_is_of.nd rfl rfl (sw_true rfl rfl rfl (by decide +kernel)) (pi_list (pv 2)) (blkOk_by (own := [("number", 8)]) (N := N_law_is_of) (sc := defScope s_law_is_of) (by decide +kernel)) (fun _ _ _ _ _ => pg_name (i := 8) sc_law_is_of.nd rfl (.inl rfl)) (fun _ _ _ _ _ => pts_nil) (fun _ _ _ _ _ => pe_op op_mulW (pv 8) (pe_ix (r := rIxL K) ix_list (pv 5) (pe_un un_neg pe_int) (fun _ _ => rfl))))
      (pss_one (ps_for PassesOwn.never rfl (pi_enum (by rfl) M.enum (pa_cons (pv 5) pa_nil)) (pg_tup rfl (pgs_cons (pg_name (i := 7) sc_law_is_of.nd rfl (.inl rfl)) (pgs_cons (pg_name (i := 8) sc_law_is_of.nd rfl (.inl rfl)) pgs_nil)))
        (pss_one (ps_asg (pe_op op_sub (pe_ix (r := rIxL K) ix_list (pv 2) (pv 7) (fun _ _ => rfl)) (pe_op op_mulW (pv 6) (pv 8))) (pg_sub (pv 2) (pv 7) set_list))))))))
    (pss_one (ps_ret (pe_not (pe_callB (cr_anyI rfl) (by rfl) M.any boot_any (pa_cons (pv 2) pa_nil)))))), ?_⟩
  have lv1 := vi_len ts
  have lv2 := vi_len gs
  refine ⟨_, rfl, l1, VI ts, rfl, .inl (SqL.of h1), fun d nd => ⟨_, rfl, l2, VI gs, rfl, .inl (SqL.of ((same_new (o := .lst (VI ts)) nd) _ _ h2)), _, 1, rfl, rfl, _, _, rfl, ?_⟩⟩
  have s1 := same_new (o := .lst (VI ts)) nd
  have hd1 : (upd H d (.lst (VI ts))) d = some (.lst (VI ts)) := upd_same
  generalize upd H d (.lst (VI ts)) = H1 at *
  have em : (fun i j : Int => V.int (i - j)) (((VI gs).length : Nat) : Int) 1 = V.int (m : Int) := congrArg V.int (by rw [lv2]; omega)
  rw [em]
  have th1 : Told h := told_len (m := m) (by rw [← eh, ratsOf_len, lg]) (by rw [th]; decide)
  have lh : h.length = m + 1 := by rw [← eh, ratsOf_len, lg]
  have lf : f.length = n + 1 := by rw [← ef, ratsOf_len, lt]
  obtain ⟨_, k12, m12⟩ := mkn en m1 n12 n1
  have st := OfI.start (f := f) (h := h) (ts := ts) b0 (fun j => by rw [ef]) tf lf en m1 lh th1
  have eg : ((((VI ts).length : Nat) : Int) - 1).fdiv (m : Int) = (kk : Int) := by
    rw [lv1, lt, show ((n + 1 : Nat) : Int) - 1 = (n : Int) by omega, en, Int.natCast_mul, Int.mul_fdiv_cancel _ (by omega)]
  have bgl : ∀ z ∈ gs, LbI 301 z := fun z hz => Nat.lt_of_le_of_lt (bg z hz) (Nat.pow_lt_pow_right (by decide) (by decide))
  have gne : gs ≠ [] := fun z => by rw [z] at lg; simp at lg
  have pl : ∀ i, (powI gs i).length = i * m + 1 := fun i => by rw [powI_len gne, lg, Nat.add_sub_cancel]
  have im : ∀ i, i ≤ kk → i * m ≤ n := fun i hi => by rw [en]; exact Nat.mul_le_mul_right _ hi
  have pb : ∀ i, i ≤ kk → ∀ z ∈ powI gs i, LbI 4000 z := fun i hi z hz => by
    have := powI_bits gne bg i (by rw [lg, Nat.add_sub_cancel]; exact Nat.le_trans (im i hi) n12) z hz
    exact Nat.lt_of_le_of_lt this (Nat.pow_lt_pow_right (by decide) (by have : i * (300 + 4) ≤ 12 * 304 := Nat.mul_le_mul_right _ (by omega); omega))
  refine ⟨_, rfl, l1, VI ts, rfl, .inl (SqL.of (s1 _ _ h1)), _, 1, rfl, rfl, _, rfl, _, _, rfl, rfl, LbI.div (n := 8) (show ((m : Nat) : Int).natAbs < 2 ^ 8 by rw [Int.natAbs_natCast]; omega) (by decide) (by omega), ?_⟩
  refine ⟨1, rfl, 1, rfl, _, _, _, _, rfl, RgC.neg (by rw [eg]; omega) (by rw [eg]; omega) (by decide) (by decide), ?_⟩
  rw [eg, show ((kk : Int) - -1).toNat = kk + 1 by omega]
  refine for_rangeC (lo := (kk : Int)) (c := -1) (n := kk + 1) (fun i σ G => ∃ (a : Addr) (ls : List Int) (o4 o5 o6 o7 o8 : Option V), σ = [some (.ref l1), some (.ref l2), some (.ref a), some (.int (m : Int)), o4, o5, o6, o7, o8] ∧ Same H G ∧ H a = none ∧ G a = some (.lst (VI ls)) ∧ ls.length = n + 1 ∧ (∀ z ∈ ls, LbI (1000 + i * 5000) z) ∧ OfI f h (kk + 1 - i) ls)
    ⟨d, ts, none, none, none, none, none, rfl, s1, nd, hd1, lt, fun z hz => (bt z hz).mono (by omega), st⟩ (fun i σ G hi ⟨a, ls, o4, o5, o6, o7, o8, e, sm, na, hG, ll, bl, O⟩ => ?_) (fun σ G ⟨a, ls, o4, o5, o6, o7, o8, e, sm, na, hG, ll, bl, O⟩ => ?_)
  · subst e
    obtain ⟨r, hr0⟩ : ∃ r, kk = i + r := ⟨kk - i, by omega⟩
    have rk : r ≤ kk := by omega
    rw [show (kk : Int) + (i : Int) * -1 = (r : Int) by omega]
    rw [show kk + 1 - i = r + 1 by omega] at O
    have rn := im r rk
    have lp := pl r
    have hG2 := sm _ _ h2
    have xl : ∃ x, ls[r * m]? = some x := ⟨_, List.getElem?_eq_getElem (by omega)⟩
    obtain ⟨hd, hhd⟩ := xl
    refine ⟨_, rfl, _, rfl, l2, gs, r, 0, rfl, hG2, by omega, by omega, fun i' hi' => ⟨by have := im i' (by omega); have := pl i'; omega, fun z hz => (pb i' (by omega) z hz).mono (by decide)⟩, fun z hz => (bgl z hz).mono (by decide), fun P1 G1 sa nP hP => ?_⟩
    refine ⟨_, rfl, _, rfl, _, rfl, _, _, rfl, rfl, LbI.cm (n := 8) (m := 8) (show ((r : Nat) : Int).natAbs < 2 ^ 8 by rw [Int.natAbs_natCast]; omega) (show ((m : Nat) : Int).natAbs < 2 ^ 8 by rw [Int.natAbs_natCast]; omega) (by decide), a, _, _, _, rfl, rfl, SqL.of (sa _ _ hG), at_of (j := r * m) (Int.natCast_mul r m).symm (show (VI ls)[r * m]? = some (V.int hd) by unfold VI; rw [List.getElem?_map, hhd]; rfl), ?_⟩
    refine ⟨by show 2 ≤ sizeLine; decide, fun T nT => ⟨T, _, rfl, SqT.of upd_same, rfl, _, _, rfl, _, _, rfl, rfl, ?_⟩⟩
    have sT := same_new (o := .tup [V.ref P1, V.int hd]) nT
    have s2 := sm.trans (sa.trans sT)
    have hP2 := sT _ _ hP
    have ha2 := (sa.trans sT) _ _ hG
    generalize upd G1 T (.tup [V.ref P1, V.int hd]) = G2 at *
    obtain ⟨pA, px, ep⟩ : ∃ A x, powI gs r = A ++ [x] := snocI_of (fun z => by rw [z] at lp; simp at lp)
    have lA : pA.length = r * m := by rw [ep, List.length_append, List.length_singleton] at lp; omega
    have epx : (powI gs r).getD (r * m) 0 = px := gd_at (by rw [ep, List.getElem?_append_right (by omega), lA, Nat.sub_self]; rfl)
    have bpx : LbI 4000 px := pb r rk px (by rw [ep]; exact List.mem_append_right _ (List.mem_singleton.mpr rfl))
    have ehd : ls.getD (r * m) 0 = hd := gd_at hhd
    have bhd := bl hd (List.mem_of_getElem? hhd)
    have i60 : i * 5000 ≤ 12 * 5000 := Nat.mul_le_mul_right _ (by omega)
    refine ⟨_, rfl, a, rfl, ⟨_, SqL.of ha2⟩, fun D nD => ?_⟩
    refine lc_l (fun t => (ls[t]?).map fun z : Int => V.int (z * px)) (SqL.of ha2) nD (by rw [vi_len, sizeLine_eq]; omega) (fun t v H4 hv s4 Y N y nn => ?_) (fun H4 s4 hE => ?_)
    · obtain ⟨z, hz, rfl⟩ := vi_at hv
      refine ⟨rfl, _, rfl, _, rfl, 1, rfl, P1, VI (powI gs r), -1, V.int px, rfl, rfl, SqL.of (s4 _ _ hP2), ?_, z, px, rfl, rfl, (bl z (List.mem_of_getElem? hz)).cm bpx (by omega), y _ _ (Same.refl _) ?_⟩
      · rw [ep]; unfold VI; rw [List.map_append]; exact atI_last _ _
      · show (ls[t]?).map _ = _
        rw [hz]; rfl
    have hE : H4 D = some (.lst (VI (stpI ls (powI gs r) px hd 0))) := by
      rw [hE, vi_len, fm_get, stpI_zero]; unfold VI; rw [List.map_map]; rfl
    have nDH : H D = none := s2.free nD
    have old : ∀ {G : Hp}, Same G2 (wo D G) → Same G2 G := fun s => s.trans wo_le
    refine ⟨_, rfl, P1, _, rfl, SqL.of (s4 _ _ hP2), ?_⟩
    refine for_it (walk_enum (K := K) (a := P1) (xs := VI (powI gs r))) (fun j σ G => ∃ (o7 o8 : Option V), σ = [some (.ref l1), some (.ref l2), some (.ref D), some (.int (m : Int)), some (.int (r : Int)), some (.ref P1), some (.int hd), o7, o8] ∧ Same G2 (wo D G) ∧ G D = some (.lst (VI (stpI ls (powI gs r) px hd j))))
      ⟨_, _, rfl, same_wo nD s4, hE⟩ (fun j σ G _ ⟨_, _, _, sm, _⟩ => SqL.of (old sm _ _ hP2)) (fun j v σ G G2 hj ⟨o7, o8, e, sm, hG⟩ hy => ?_) (fun σ G ⟨o7, o8, e, sm, hG⟩ => ?_)
    · subst e
      obtain ⟨T2, v1, v2, rfl, nT2, rfl, hy1, hy2⟩ := hy
      obtain ⟨y, hy, rfl⟩ := vi_at hy2
      obtain rfl := Option.some.inj hy1
      have hjl : j < ls.length := by have := (List.getElem?_eq_some_iff.mp hy).1; omega
      have sT := same_new (o := .tup [V.int (j : Nat), V.int y]) nT2
      have s6 := sm.trans (wo_mono (D := D) sT)
      have hG4 := sT _ _ hG
      have hT2 : (upd G T2 (.tup [V.int (j : Nat), V.int y])) T2 = some (.tup [V.int (j : Nat), V.int y]) := upd_same
      generalize upd G T2 (.tup [V.int (j : Nat), V.int y]) = G4 at *
      have ey : (powI gs r).getD j 0 = y := gd_at hy
      have hat : (VI (stpI ls (powI gs r) px hd j))[j]? = some (.int (ls.getD j 0 * px)) := by
        unfold VI
        rw [List.getElem?_map, stpI_at _ _ _ _ hjl, if_neg (by omega)]
        show some (V.int (_ - 0)) = _
        rw [Int.sub_zero]
      refine ⟨T2, _, rfl, SqT.of hT2, rfl, _, _, rfl, _, _, rfl, rfl, ?_⟩
      refine ⟨_, rfl, _, rfl, D, _, _, _, rfl, rfl, SqL.of hG4, at_of (j := j) rfl hat, _, rfl, _, rfl, hd, y, rfl, rfl, bhd.cm (pb r rk y (List.mem_of_getElem? hy)) (by omega), _, _, rfl, rfl, ?_⟩
      refine ⟨_, rfl, _, rfl, D, _, _, j, rfl, rfl, hG4, ixn rfl (by rw [vi_len, stpI_len]; exact hjl), ?_⟩
      refine ⟨_, _, rfl, ?_, ?_⟩
      · rw [wo_upd]; exact s6
      · rw [upd_same, stpI_succ _ _ _ _ hjl, ey]
        unfold VI
        rw [List.map_set]
    · subst e
      rw [vi_len] at hG
      have O2 := O.step (ls' := stpI ls (powI gs r) px hd (powI gs r).length) (gs := gs) (c := c) (m := m) (p := (px : Rat)) (hd := (hd : Rat)) c0 eh lh th m1 (by unfold numQ; rw [epx]) (by unfold numQ; rw [ehd]) (fun t => stpI_num px hd (by omega) t)
      refine ⟨D, _, _, _, _, _, _, rfl, s2.trans (old sm), nDH, hG, by rw [stpI_len, ll], fun z hz => (stpI_bits (b := 4000) bl bpx bhd (pb r rk) z hz).mono (by omega), ?_⟩
      rw [show kk + 1 - (i + 1) = r by omega]
      exact O2
  · subst e
    rw [show kk + 1 - (kk + 1) = 0 by omega] at O
    refine ⟨_, rfl, a, ls, rfl, SqL.of hG, _, rfl, q _ _ sm ?_⟩
    rw [← O.done]
    cases ls.any (· != 0) <;> simp
end
end K21

namespace K21
open PySem PySem.Spec PyProof.Rows L2 Fp
section
theorem prim_size {zs : List Int} {b : Int} {f : List Rat} {E Cc : Nat} (E0 : 0 < E) (b0 : 0 < b) (e : ratsOf b zs = f) (pr : ∀ d : Nat, (∀ z ∈ zs, (d : Int) ∣ z) → (d : Int) ∣ b → d = 1) (s : AllS (E : Int) Cc f) : b.natAbs ≤ E ∧ BN Cc zs := by
  have bq := Fp.cast_ne (show b ≠ 0 by omega)
  have eq := Fp.cast_ne (show (E : Int) ≠ 0 by omega)
  have key : ∀ z ∈ zs, ∃ y : Int, y.natAbs ≤ Cc ∧ z * (E : Int) = y * b := fun z hz => by
    obtain ⟨j, hj⟩ := List.getElem?_of_mem hz
    have h1 := ratsOf_at (b := b) hj
    rw [e] at h1
    obtain ⟨y, hy, by_⟩ := s _ (List.mem_of_getElem? h1)
    refine ⟨y, by_, ?_⟩
    have : ((z * (E : Int) : Int) : Rat) = ((y * b : Int) : Rat) := by
      rw [Rat.intCast_mul, Rat.intCast_mul]
      generalize (b : Rat) = B at *
      generalize ((E : Int) : Rat) = EE at *
      grind
    exact Rat.intCast_inj.mp this
  have d : b ∣ (E : Int) := prim_dvd b0 pr fun z hz => by
    obtain ⟨y, _, e⟩ := key z hz
    rw [e]; exact Int.dvd_mul_left _ _
  have bE : b.natAbs ≤ E := Nat.le_of_dvd E0 (by have := Int.natAbs_dvd_natAbs.mpr d; rwa [Int.natAbs_natCast] at this)
  refine ⟨bE, fun z hz => ?_⟩
  obtain ⟨y, by_, e⟩ := key z hz
  have e2 : z.natAbs * E = y.natAbs * b.natAbs := by
    have := congrArg Int.natAbs e
    rwa [Int.natAbs_mul, Int.natAbs_mul, Int.natAbs_natCast] at this
  have : z.natAbs * E ≤ Cc * E := by rw [e2]; exact Nat.mul_le_mul by_ bE
  exact Nat.le_of_mul_le_mul_right this E0
theorem hT_full {h : List Rat} {m : Nat} (lh : h.length = m + 1) (h0 : co h 0 = 0) (m1 : 1 ≤ m) : hT h m m = h := by
  refine List.ext_getElem? fun j => ?_
  by_cases hj : j ≤ m
  · have h1 : (hT h m m)[j]? = some (if m - j < m then co h j else 0) := by unfold hT; rw [List.getElem?_map, List.getElem?_range (by omega)]; rfl
    have h2 : h[j]? = some (co h j) := by rw [List.getElem?_eq_getElem (show j < h.length by omega), co_at (List.getElem?_eq_getElem (show j < h.length by omega))]
    rw [h1, h2]
    split
    · rfl
    · rw [show j = 0 by omega, h0]
  · rw [List.getElem?_eq_none (by rw [hT_len]; omega), List.getElem?_eq_none (by omega)]
theorem hT_one {h : List Rat} {m : Nat} (t : co h m = 1) (zs : List Int) (e : zs = List.replicate m 0 ++ [1]) : ratsOf 1 zs = hT h m 1 := by
  refine List.ext_getElem? fun j => ?_
  unfold hT ratsOf
  rw [List.getElem?_map, List.getElem?_map, e]
  by_cases hj : j < m
  · rw [List.getElem?_append_left (by simpa using hj), List.getElem?_replicate, if_pos hj, List.getElem?_range (by omega)]
    show some (((0 : Int) : Rat) / _) = some (if m - j < 1 then _ else _)
    rw [if_neg (by omega)]
    exact congrArg some (by decide +kernel)
  · rw [List.getElem?_append_right (by simpa using hj), List.length_replicate]
    by_cases e2 : j = m
    · rw [e2, Nat.sub_self, List.getElem?_range (by omega)]
      show some (((1 : Int) : Rat) / _) = some (if m - m < 1 then _ else _)
      rw [if_pos (by omega), t]
      exact congrArg some (by decide +kernel)
    · rw [List.getElem?_eq_none (by simp; omega), List.getElem?_eq_none (by simp; omega)]; rfl
/-- the next number, as the law makes it -/
def nxI (zs : List Int) (at_ : Nat) (lacks under b : Int) : List Int := (zs.map fun z => z * under).set at_ (zs.getD at_ 0 * under + lacks * b)
theorem RtI.next {f : List Rat} {m n k below : Nat} {zs ts : List Int} {b bw lacks under down tl : Int} (m1 : 1 ≤ m) (k1 : 1 ≤ k) (en : n = k * m) (l : f.length = n + 1) (t : co f n ≠ 0) (b1 : 1 ≤ below) (bm : below < m) (R : RtI (rootL f m) m below zs b) (w0 : bw ≠ 0) (et : ratsOf bw ts = f) (etl : tl = ts.getD n 0) (ed : down = b ^ k) (el : lacks = ts.getD (n - below) 0 * down - (powI zs k).getD (n - below) 0 * tl) (eu : under = tl * down * (k : Int)) :
    under ≠ 0 ∧ ratsOf (b * under) (nxI zs (m - below) lacks under b) = hT (rootL f m) m (below + 1) := by
  have nx := hT_next m1 k1 en l t b1 bm
  have b0 : b ≠ 0 := by have := R.b0; omega
  have bq := Fp.cast_ne b0
  have wq := Fp.cast_ne w0
  have pw := powI_at b0 zs k (n - below)
  rw [R.e] at pw
  have dq : ((down : Int) : Rat) = (b : Rat) ^ k := by rw [ed, Rat.intCast_pow]
  have d0 : (b : Rat) ^ k ≠ 0 := by rw [← Rat.intCast_pow]; exact Fp.cast_ne (Int.pow_ne_zero b0)
  have tj : ∀ j, ((ts.getD j 0 : Int) : Rat) = (bw : Rat) * co f j := fun j => by
    rw [← et, co_rats]
    generalize (bw : Rat) = q at *
    grind
  have tq : (tl : Rat) = (bw : Rat) * co f n := by rw [etl, tj]
  have kq : ((k : Int) : Rat) ≠ 0 := Fp.cast_ne (by omega)
  have uq : (under : Rat) = (bw : Rat) * co f n * (b : Rat) ^ k * ((k : Int) : Rat) := by rw [eu, Rat.intCast_mul, Rat.intCast_mul, tq, dq]
  have u0 : (under : Rat) ≠ 0 := by rw [uq]; grind
  have lq : (lacks : Rat) = (under : Rat) * co (rootL f m) (m - below) := by
    rw [el, Rat.intCast_sub, Rat.intCast_mul, Rat.intCast_mul, tj, pw, dq, tq, uq, ← nx, ← natR]
    generalize (b : Rat) ^ k = D at *
    generalize ((k : Int) : Rat) = kk at *
    generalize co (powQ _ _) _ = pq at *
    generalize co f (n - below) = x at *
    generalize co f n = y at *
    grind
  refine ⟨fun z => u0 (by rw [z]; rfl), ?_⟩
  have lT := hT_len (rootL f m) m (below + 1)
  refine List.ext_getElem? fun j => ?_
  by_cases hj : j ≤ m
  · have h1 : (hT (rootL f m) m (below + 1))[j]? = some (if m - j < below + 1 then co (rootL f m) j else 0) := by unfold hT; rw [List.getElem?_map, List.getElem?_range (by omega)]; rfl
    have h2 : (zs[j]?) = some (zs.getD j 0) := by rw [List.getElem?_eq_getElem (show j < zs.length by rw [R.l]; omega), gd_at (List.getElem?_eq_getElem (show j < zs.length by rw [R.l]; omega))]
    have h3 : ((zs.getD j 0 : Int) : Rat) = (b : Rat) * if m - j < below then co (rootL f m) j else 0 := by
      rw [← hT_co _ hj, ← R.e, co_rats]
      generalize (b : Rat) = q at *
      grind
    rw [h1]
    unfold ratsOf nxI
    rw [List.getElem?_map, List.getElem?_set, List.length_map, R.l, List.getElem?_map, h2]
    by_cases e : m - below = j
    · rw [if_pos e, if_pos (by omega), if_pos (by omega)]
      show some (((_ : Int) : Rat) / ((_ : Int) : Rat)) = _
      rw [e, Rat.intCast_add, Rat.intCast_mul, Rat.intCast_mul, Rat.intCast_mul, h3, if_neg (by omega), lq, e]
      congr 1
      generalize (b : Rat) = q at *
      generalize (under : Rat) = u at *
      grind
    · rw [if_neg e]
      show some (((_ : Int) : Rat) / ((_ : Int) : Rat)) = _
      rw [Rat.intCast_mul, Rat.intCast_mul, h3]
      congr 1
      have : (m - j < below + 1) ↔ m - j < below := by omega
      simp only [this]
      generalize (b : Rat) = q at *
      generalize (under : Rat) = u at *
      split <;> grind
  · rw [List.getElem?_eq_none (by unfold ratsOf nxI; rw [List.length_map, List.length_set, List.length_map, R.l]; omega), List.getElem?_eq_none (by omega)]
theorem low_rats {zs zs' : List Int} {b b' : Int} {g : Nat} (g0 : 0 < g) (b0 : b ≠ 0) (ez : zs'.map (· * (g : Int)) = zs) (eb : b' * g = b) : ratsOf b' zs' = ratsOf b zs := by
  subst ez eb
  have gq : ((g : Int) : Rat) ≠ 0 := Fp.cast_ne (by omega)
  have bq : ((b' : Int) : Rat) ≠ 0 := Fp.cast_ne fun z => b0 (by rw [z, Int.zero_mul])
  unfold ratsOf
  rw [List.map_map]
  refine List.map_congr_left fun z _ => ?_
  show _ = (((z * (g : Int) : Int)) : Rat) / (((b' * (g : Int) : Int)) : Rat)
  rw [Rat.intCast_mul, Rat.intCast_mul]
  generalize ((g : Int) : Rat) = G at *
  grind
theorem neg_rats {zs : List Int} {b : Int} (b0 : b ≠ 0) : ratsOf (0 - b) (zs.map fun z => 0 - z) = ratsOf b zs := by
  have bq := Fp.cast_ne b0
  unfold ratsOf
  rw [List.map_map]
  refine List.map_congr_left fun z _ => ?_
  show (((0 - z : Int)) : Rat) / (((0 - b : Int)) : Rat) = _
  rw [Rat.intCast_sub, Rat.intCast_sub, show ((0 : Int) : Rat) = 0 from rfl]
  grind
end
end K21

namespace K21
open PySem PySem.Spec PyProof.Rows L2 Fp
section
variable {P : Program} {w : World} {K : PySem.W.Frag} {mg : Str → Option Value} {base : Heap} {k : Nat} {C fI fR : Addr}
def sp_law_root (C : Addr) : Sp := fun vs H Q _ => ∃ (l : Addr) (us : List V) (f : List Rat) (n m kk : Nat), vs = [.ref l, .int (m : Nat)] ∧ H l = some (.lst us) ∧ ML C H us f ∧ Lw f n ∧ n = kk * m ∧ 1 ≤ m ∧ ∀ t c H' zs b, Same H H' → H c = none → H' t = some (.tup [.ref c, .int b]) → H' c = some (.lst (VI zs)) → RtI (rootL f m) m m zs b → Q (.ref t) H'
-- slots: poly 0, many 1, tops 2, often 3, found 4, bottom 5, below 6, at 7, power 8, down 9, turn 10, lacks 11, under 12, number 13; cells: under
abbrev s_law_root : Stmt := top 48
abbrev N_law_root : List Str := ["poly", "many", "tops", "often", "found", "bottom", "below", "at", "power", "down", "turn", "lacks", "under", "number"]
theorem sc_law_root : FnScope N_law_root ["poly", "many"] (defScope s_law_root) := ⟨rfl, rfl, rfl, by decide +kernel, rfl, by decide +kernel, by decide +kernel⟩
theorem d_law_root (B : Bnd K mg "_law_root" s_law_root) (M : Mg2 mg) (R : RCls K mg C fI fR)  (D_law_low : Def P w K mg base k "_law_low" s_law_low ["tops", "bottom"] (sp_law_low K)) (D_law_whole : Def P w K mg base k "_law_whole" s_law_whole ["poly"] (sp_law_whole C)) (D_law_power : Def P w K mg base k "_law_power" s_law_power ["tops", "many"] (sp_law_power K)) : Def P w K mg base (k + 1) "_law_root" s_law_root ["poly", "many"] (sp_law_root C) := by
  refine def_of B sc_law_root (by rintro _ _ _ _ ⟨l, us, f, n, m, kk, rfl, _⟩; rfl) (fun _ _ _ _ _ _ us hl => match us, hl with | [_, _], _ => rfl) fun f cdv A outer s H vs Q E hr h => ?_
  obtain ⟨l, us, f, n, m, kk, rfl, hl, hM, h, en, m1, q⟩ := h
  have hu := hr.units
  refine ⟨_, pss_cons (ps_par (i := 2) (j := 3) rfl sc_law_root.nd rfl rfl (by decide) rfl rfl (pa_cons (pe_d D_law_whole hr (by rfl) (pa_cons (pv 0) pa_nil)) (pa_cons (pe_op op_fdivNW (pe_op op_sub (pe_callB call_len_seq (by rfl) M.len boot_len (pa_cons (pv 0) pa_nil)) pe_int) (pv 1)) pa_nil)) (by rfl))
    (pss_cons (ps_par (i := 4) (j := 5) rfl sc_law_root.nd rfl rfl (by decide) rfl rfl (pa_cons (pe_op op_cat (pe_op op_rep (pe_lst (pa_cons pe_int pa_nil)) (pv 1)) (pe_lst (pa_cons pe_int pa_nil))) (pa_cons pe_int pa_nil)) (by rfl))
    (pss_cons (ps_for PassesOwn.never rfl (pi_range2 (by rfl) M.range (pa_cons pe_int (pa_cons (pv 1) pa_nil))) (pg_name (i := 6) sc_law_root.nd rfl (.inl rfl))
      (pss_cons (ps_par (i := 7) (j := 8) rfl sc_law_root.nd rfl rfl (by decide) rfl rfl (pa_cons (pe_op op_sub (pe_op op_sub (pe_callB call_len_seq (by rfl) M.len boot_len (pa_cons (pv 2) pa_nil)) pe_int) (pv 6)) (pa_cons (pe_d D_law_power hr (by rfl) (pa_cons (pv 4) (pa_cons (pv 3) pa_nil))) pa_nil)) (by rfl))
      (pss_cons (ps_set (i := 9) sc_law_root.nd rfl (.inl rfl) pe_int)
      (pss_cons (ps_for PassesOwn.never rfl (pi_range1 (by rfl) M.range (pa_cons (pv 3) pa_nil)) (pg_name (i := 10) sc_law_root.nd rfl (.inl rfl))
        (pss_one (ps_set (i := 9) sc_law_root.nd rfl (.inl rfl) (pe_op op_mulW (pv 9) (pv 5)))))
      (pss_cons (ps_asg (pe_tup (pa_cons (pe_op op_sub (pe_op op_mulW (pe_ix (r := rIxL K) ix_list (pv 2) (pv 7) (fun _ _ => rfl)) (pv 9)) (pe_op op_mulW (pe_ix (r := rIxL K) ix_list (pv 8) (pv 7) (fun _ _ => rfl)) (pe_ix (r := rIxL K) ix_list (pv 2) (pe_un un_neg pe_int) (fun _ _ => rfl)))) (pa_cons (pe_op op_mulW (pe_op op_mulW (pe_ix (r := rIxL K) ix_list (pv 2) (pe_un un_neg pe_int) (fun _ _ => rfl)) (pv 9)) (pv 3)) pa_nil))) (pg_tup rfl (pgs_cons (pg_name (i := 11) sc_law_root.nd rfl (.inl rfl)) (pgs_cons (pg_name (i := 12) sc_law_root.nd rfl (.inr rfl)) pgs_nil))))
      (pss_cons (ps_setLc (i := 4) (own := [("number", 13)]) (g := (gName 13)) (tt := tYes) (te := (tOp _ (tVar 13) (tVar 12))) rfl sc_law_root.nd rfl rfl (sw_true rfl rfl rfl (by decide +kernel)) (pi_list (pv 4)) (blkOk_by (own := [("number", 13)]) (N := N_law_root) (sc := defScope s_law_root) (by decide +kernel)) (fun _ _ _ _ _ => pg_name (i := 13) sc_law_root.nd rfl (.inl rfl)) (fun _ _ _ _ _ => pts_nil) (fun _ _ _ _ _ => pe_op op_mulW (pv 13) (pv 12)))
      (pss_cons (ps_asg (pe_op op_add (pe_ix (r := rIxL K) ix_list (pv 4) (pe_op op_sub (pv 1) (pv 6)) (fun _ _ => rfl)) (pe_op op_mulW (pv 11) (pv 5))) (pg_sub (pv 4) (pe_op op_sub (pv 1) (pv 6)) set_list))
      (pss_cons (ps_asg (pe_d D_law_low hr (by rfl) (pa_cons (pv 4) (pa_cons (pe_op op_mulW (pv 5) (pv 12)) pa_nil))) (pg_tup rfl (pgs_cons (pg_name (i := 4) sc_law_root.nd rfl (.inl rfl)) (pgs_cons (pg_name (i := 5) sc_law_root.nd rfl (.inl rfl)) pgs_nil))))
      (pss_one (ps_if (pt_cmpR op_lt (pv 5) pe_int (nomark _))
        (pss_one (ps_par (i := 4) (j := 5) rfl sc_law_root.nd rfl rfl (by decide) rfl rfl (pa_cons (pe_lc (own := [("number", 13)]) (g := (gName 13)) (tt := tYes) (te := (tOp _ (tC (.int 0)) (tVar 13))) rfl sc_law_root.nd (pi_list (pv 4)) (blkOk_by (own := [("number", 13)]) (N := N_law_root) (sc := defScope s_law_root) (by decide +kernel)) (fun _ _ _ _ _ => pg_name (i := 13) sc_law_root.nd rfl (.inl rfl)) (fun _ _ _ _ _ => pts_nil) (fun _ _ _ _ _ => pe_op op_sub pe_int (pv 13))) (pa_cons (pe_op op_sub pe_int (pv 5)) pa_nil)) (by rfl)))
        (pss_nil)))))))))))
    (pss_one (ps_ret (pe_tup (pa_cons (pv 4) (pa_cons (pv 5) pa_nil))))))), ?_⟩
  obtain ⟨k1, k12, m12⟩ := mkn en m1 h.n12 h.n1
  have lM := hM.1
  have lf := h.l
  have t0 := h.top
  have tf : trimQ f = f := trimQ_id h.t
  obtain ⟨ok, E, Cc, rs⟩ := h.rt m1 en
  refine ⟨_, rfl, l, us, f, rfl, .inl hl, hM, ?_, by have := h.n12; omega, fun cT H1 ts bw s1 nT hT w0 et pr => ?_⟩
  · exact h.s.bits (by decide) (show (6 : Int).natAbs < 2 ^ 40 by decide) (Nat.pow_lt_pow_right (by decide) (by decide))
  rw [tf] at et
  have lu : us.length = n + 1 := by rw [lM, lf]
  have eo : (((us.length : Nat) : Int) - 1).fdiv ((m : Nat) : Int) = (kk : Int) := by
    rw [lu, show ((n + 1 : Nat) : Int) - 1 = (n : Int) by omega, en, Int.natCast_mul, Int.mul_fdiv_cancel _ (by omega)]
  refine ⟨_, rfl, l, us, rfl, .inl (SqL.of (s1 _ _ hl)), _, 1, rfl, rfl, _, rfl, _, _, rfl, rfl, LbI.div (n := 8) (show ((m : Nat) : Int).natAbs < 2 ^ 8 by rw [Int.natAbs_natCast]; omega) (by decide) (by omega), _, _, rfl, ?_⟩
  rw [show (fun i j : Int => V.int (i.fdiv j)) (((us.length : Nat) : Int) - 1) ((m : Nat) : Int) = V.int (kk : Int) from congrArg V.int eo]
  refine ⟨by show 1 ≤ sizeLine; decide, fun c0 n0 => ⟨_, rfl, c0, _, [V.int 0], rfl, rfl, upd_same, by omega, by omega, by rw [sizeLine_eq]; simp only [List.length_cons, List.length_nil]; omega, fun c1 nc1 => ?_⟩⟩
  have s2 := same_new (o := .lst [V.int 0]) n0
  have S2 := s1.trans s2
  have hT2 := s2 _ _ hT
  generalize upd H1 c0 (.lst [V.int 0]) = H2 at *
  have eR : (List.replicate ((m : Nat) : Int).toNat [V.int 0]).flatten = VI (List.replicate m 0) := by
    rw [Int.toNat_natCast]
    have : ∀ k, (List.replicate k [V.int 0]).flatten = VI (List.replicate k 0) := fun k => by
      induction k with
      | zero => rfl
      | succ k ih => rw [List.replicate_succ, List.flatten_cons, ih]; rfl
    exact this m
  rw [eR]
  have s3 := same_new (o := .lst (VI (List.replicate m 0))) nc1
  have S3 := S2.trans s3
  have hT3 := s3 _ _ hT2
  have h3 : (upd H2 c1 (.lst (VI (List.replicate m 0)))) c1 = some (.lst (VI (List.replicate m 0))) := upd_same
  generalize upd H2 c1 (.lst (VI (List.replicate m 0))) = H3 at *
  refine ⟨by show 1 ≤ sizeLine; decide, fun c2 nc2 => ?_⟩
  have s4 := same_new (o := .lst [V.int 1]) nc2
  refine ⟨c1, c2, _, _, rfl, rfl, s4 _ _ h3, upd_same, by rw [vi_len, sizeLine_eq]; simp; omega, fun c3 nc3 => ⟨_, _, rfl, ?_⟩⟩
  have s5 := s4.trans (same_new (o := .lst (VI (List.replicate m 0) ++ [V.int 1])) nc3)
  have h5 : (upd (upd H3 c2 (.lst [V.int 1])) c3 (.lst (VI (List.replicate m 0) ++ [V.int 1]))) c3 = some (.lst (VI (List.replicate m 0 ++ [1]))) := by
    rw [upd_same]; unfold VI; rw [List.map_append]; rfl
  generalize upd (upd H3 c2 (.lst [V.int 1])) c3 (.lst (VI (List.replicate m 0) ++ [V.int 1])) = H5 at *
  have hT5 := s5 _ _ hT3
  have S5 := S3.trans s5
  have n3 : H c3 = none := S3.free (s4.free nc3)
  obtain ⟨bE, bN⟩ := prim_size (by decide) w0 et pr h.s
  have lt : ts.length = n + 1 := by rw [← ratsOf_len bw, et, lf]
  obtain ⟨lh, th, h0, _⟩ := rootL_co (f := f) m1
  have R1 : RtI (rootL f m) m 1 (List.replicate m 0 ++ [1]) 1 := ⟨by simp, by decide, hT_one th _ rfl, fun d _ e => by
    have := Int.natCast_dvd_natCast.mp e
    exact Nat.dvd_one.mp this⟩
  refine ⟨_, rfl, 1, (m : Int), rfl, ⟨by omega, by omega, by omega, by omega⟩, for_range (lo := 1) (n := ((m : Int) - 1).toNat) (fun i σ G => ∃ (a : Addr) (zs : List Int) (b : Int) (o6 o7 o8 o9 o10 o11 o12 o13 : Option V), σ = [some (.ref l), some (.int (m : Int)), some (.ref cT), some (.int (kk : Int)), some (.ref a), some (.int b), o6, o7, o8, o9, o10, o11, o12, o13] ∧ Same H5 G ∧ (G a = some (.lst (VI zs)) ∧ H a = none) ∧ RtI (rootL f m) m (i + 1) zs b)
    ⟨c3, _, _, none, none, none, none, none, none, none, none, rfl, Same.refl _, ⟨h5, n3⟩, R1⟩ (fun i σ G hi ⟨a, zs, b, o6, o7, o8, o9, o10, o11, o12, o13, e, sm, ⟨hG, na⟩, RI⟩ => ?_) (fun σ G ⟨a, zs, b, o6, o7, o8, o9, o10, o11, o12, o13, e, sm, ⟨hG, na⟩, RI⟩ => ?_)⟩
  · subst e
    obtain ⟨bb, bz⟩ := RI.size rs m12
    have hb : i + 1 < m := by omega
    have hTG := sm _ _ hT5
    have zne : zs ≠ [] := fun z => by have := RI.l; rw [z] at this; simp at this
    have lz := RI.l
    have im : ∀ i, i ≤ kk → i * m ≤ n := fun i hi => by rw [en]; exact Nat.mul_le_mul_right _ hi
    have n12 := h.n12
    have bzl : ∀ z ∈ zs, LbI 301 z := fun z hz => Nat.lt_of_le_of_lt (bz z hz) (Nat.pow_lt_pow_right (by decide) (by decide))
    have pl : ∀ i, (powI zs i).length = i * m + 1 := fun i => by rw [powI_len zne, lz, Nat.add_sub_cancel]
    have pb : ∀ i, i ≤ kk → ∀ z ∈ powI zs i, LbI 4000 z := fun i hi z hz => by
      have := powI_bits zne bz i (by rw [lz, Nat.add_sub_cancel]; exact Nat.le_trans (im i hi) n12) z hz
      exact Nat.lt_of_le_of_lt this (Nat.pow_lt_pow_right (by decide) (by have : i * (300 + 4) ≤ 12 * 304 := Nat.mul_le_mul_right _ (by omega); omega))
    refine ⟨_, rfl, cT, VI ts, rfl, .inl (SqL.of hTG), _, 1, rfl, rfl, _, rfl, _, _, rfl, rfl, _, rfl, _, rfl, a, zs, kk, 0, rfl, hG, by omega, by omega, fun i' hi' => ⟨by have := im i' (by omega); have := pl i'; omega, fun z hz => (pb i' (by omega) z hz).mono (by decide)⟩, fun z hz => (bzl z hz).mono (by decide), fun P1 G1 sa nP hP => ⟨_, _, rfl, ?_⟩⟩
    have ea : (fun i j : Int => V.int (i - j)) (((VI ts).length : Int) - 1) (1 + (i : Int)) = V.int ((n - (i + 1) : Nat) : Int) := congrArg V.int (by rw [vi_len, lt]; have := im 1 k1; omega)
    rw [ea]
    have hTG1 := sa _ _ hTG
    have hG1 := sa _ _ hG
    refine ⟨_, rfl, (kk : Int), rfl, by omega, by omega, ?_⟩
    have pwb : ∀ j, j ≤ kk → LbI 4000 (b ^ j) := fun j hj => by
      have h2 := Nat.pow_le_pow_left (Nat.le_of_lt bb) j
      rw [← Nat.pow_mul, ← Int.natAbs_pow] at h2
      exact Nat.lt_of_le_of_lt h2 (Nat.pow_lt_pow_right (by decide) (by have : 300 * j ≤ 300 * 12 := Nat.mul_le_mul_left _ (by omega); omega))
    refine for_range (lo := 0) (n := (kk : Int).toNat) (fun j σ G => ∃ (o10 : Option V), σ = [some (.ref l), some (.int (m : Int)), some (.ref cT), some (.int (kk : Int)), some (.ref a), some (.int b), some (.int (1 + (i : Int))), some (.int ((n - (i + 1) : Nat) : Int)), some (.ref P1), some (.int (b ^ j)), o10, o11, o12, o13] ∧ G = G1)
      ⟨_, by rw [Int.pow_zero]; rfl, rfl⟩ (fun j σ G hj ⟨o10, e, eG⟩ => ?_) (fun σ G ⟨o10, e, eG⟩ => ?_)
    · subst e eG
      exact ⟨_, rfl, _, rfl, _, _, rfl, rfl, (pwb j (by omega)).cm bb (by decide), _, by rw [Int.pow_succ]; rfl, rfl⟩
    subst e eG
    rw [Int.toNat_natCast]
    have im1 := im 1 k1
    obtain ⟨tx, htx⟩ : ∃ x, ts[n - (i + 1)]? = some x := ⟨_, List.getElem?_eq_getElem (by omega)⟩
    obtain ⟨px, hpx⟩ : ∃ x, (powI zs kk)[n - (i + 1)]? = some x := ⟨_, List.getElem?_eq_getElem (by rw [pl]; omega)⟩
    obtain ⟨tA, tl, etl⟩ : ∃ A x, ts = A ++ [x] := snocI_of (fun z => by rw [z] at lt; simp at lt)
    have lA : tA.length = n := by rw [etl, List.length_append, List.length_singleton] at lt; omega
    have etn : ts.getD n 0 = tl := gd_at (by rw [etl, List.getElem?_append_right (by omega), lA, Nat.sub_self]; rfl)
    have btx : LbI 16 tx := Nat.lt_of_le_of_lt (bN tx (List.mem_of_getElem? htx)) (by decide)
    have btl : LbI 16 tl := Nat.lt_of_le_of_lt (bN tl (by rw [etl]; exact List.mem_append_right _ (List.mem_singleton.mpr rfl))) (by decide)
    have bpx := pb kk (Nat.le_refl _) px (List.mem_of_getElem? hpx)
    have bdn := pwb kk (Nat.le_refl _)
    refine ⟨_, rfl, _, rfl, cT, VI ts, _, V.int tx, rfl, rfl, SqL.of hTG1, at_of (j := n - (i + 1)) rfl (by unfold VI; rw [List.getElem?_map, htx]; rfl), _, rfl, tx, b ^ kk, rfl, rfl, btx.cm bdn (by decide), ?_⟩
    have last : atI (VI ts) (-1) = some (V.int tl) := by rw [etl]; unfold VI; rw [List.map_append]; exact atI_last _ _
    refine ⟨_, rfl, _, rfl, P1, VI (powI zs kk), _, V.int px, rfl, rfl, SqL.of hP, at_of (j := n - (i + 1)) rfl (by unfold VI; rw [List.getElem?_map, hpx]; rfl), _, rfl, 1, rfl, cT, VI ts, -1, V.int tl, rfl, rfl, SqL.of hTG1, last, px, tl, rfl, rfl, bpx.cm btl (by decide), _, _, rfl, rfl, ?_⟩
    refine ⟨_, rfl, 1, rfl, cT, VI ts, -1, V.int tl, rfl, rfl, SqL.of hTG1, last, _, rfl, tl, b ^ kk, rfl, rfl, btl.cm bdn (by decide), _, rfl, _, _, rfl, rfl, LbI.cm (n := 4016) (m := 4) (btl.mul bdn |>.mono (by decide)) (show ((kk : Nat) : Int).natAbs < 2 ^ 4 by rw [Int.natAbs_natCast]; omega) (by decide), by show 2 ≤ sizeLine; decide, fun T nT => ⟨T, _, rfl, SqT.of upd_same, rfl, _, _, rfl, _, _, rfl, rfl, ?_⟩⟩
    obtain ⟨lacks, hla⟩ : ∃ z, tx * b ^ kk - px * tl = z := ⟨_, rfl⟩
    obtain ⟨under, hun⟩ : ∃ z, tl * b ^ kk * (kk : Int) = z := ⟨_, rfl⟩
    rw [show (fun i j : Int => V.int (i - j)) (tx * b ^ kk) (px * tl) = V.int lacks from congrArg V.int hla, show (fun i j : Int => V.int (i * j)) (tl * b ^ kk) (kk : Int) = V.int under from congrArg V.int hun]
    have sT := same_new (o := .tup [V.int lacks, V.int under]) nT
    have s6 := sa.trans sT
    have hG2 := sT _ _ hG1
    have sm2 := sm.trans s6
    generalize upd G T (.tup [V.int lacks, V.int under]) = G2 at *
    have blk : LbI 4017 lacks := by rw [← hla]; exact ((btx.mul bdn).mono (by decide)).sub ((bpx.mul btl).mono (by decide))
    have bun : LbI 4020 under := by rw [← hun]; exact ((btl.mul bdn).mul (show LbI 4 ((kk : Nat) : Int) by show ((kk : Nat) : Int).natAbs < 2 ^ 4; rw [Int.natAbs_natCast]; omega)).mono (by decide)
    obtain ⟨un0, er⟩ := RI.next (ts := ts) (bw := bw) (lacks := lacks) (under := under) (down := b ^ kk) (tl := tl) m1 k1 en lf t0 (by omega) hb (by omega) et etn.symm rfl (by rw [gd_at htx, gd_at hpx, hla]) hun.symm
    have b0 := RI.b0
    refine ⟨_, rfl, a, rfl, ⟨_, SqL.of hG2⟩, fun D nD => ?_⟩
    refine lc_l (fun t => (zs[t]?).map fun z : Int => V.int (z * under)) (SqL.of hG2) nD (by rw [vi_len, sizeLine_eq]; omega) (fun t v H4 hv s4 Y N y nn => ?_) (fun H4 s4 hE => ?_)
    · obtain ⟨z, hz, rfl⟩ := vi_at hv
      exact ⟨rfl, _, rfl, _, rfl, z, under, rfl, rfl, (bzl z (List.mem_of_getElem? hz)).cm bun (by decide), y _ _ (Same.refl _) (by show (zs[t]?).map _ = _; rw [hz]; rfl)⟩
    have hE : H4 D = some (.lst (VI (zs.map fun z => z * under))) := by
      rw [hE, vi_len, fm_get]; unfold VI; rw [List.map_map]; rfl
    obtain ⟨zx, hzx⟩ : ∃ x, zs[m - (i + 1)]? = some x := ⟨_, List.getElem?_eq_getElem (by omega)⟩
    have sD : ∀ o, Same G2 (upd H4 D o) := fun o => by
      have := same_wo nD s4
      rw [← wo_upd (o := o)] at this
      exact this.trans wo_le
    have nDH : H D = none := (S5.trans sm2).free nD
    refine ⟨_, rfl, _, rfl, _, rfl, _, _, rfl, rfl, D, _, _, V.int (zx * under), rfl, rfl, SqL.of hE, at_of (j := m - (i + 1)) (by omega) (by unfold VI; rw [List.getElem?_map, List.getElem?_map, hzx]; rfl), _, rfl, _, rfl, lacks, b, rfl, rfl, blk.cm bb (by decide), _, _, rfl, rfl, ?_⟩
    refine ⟨_, rfl, _, rfl, _, rfl, _, _, rfl, rfl, D, _, _, m - (i + 1), rfl, rfl, hE, ixn (by omega) (by rw [vi_len, List.length_map, lz]; omega), ?_⟩
    have eN : (VI (zs.map fun z => z * under)).set (m - (i + 1)) (V.int (zx * under + lacks * b)) = VI (nxI zs (m - (i + 1)) lacks under b) := by
      unfold nxI VI
      rw [List.map_set, gd_at hzx]
    rw [show (VI (zs.map fun z => z * under)).set (m - (i + 1)) ((fun i j : Int => V.int (i + j)) (zx * under) (lacks * b)) = VI (nxI zs (m - (i + 1)) lacks under b) from eN]
    have sDx := sD (.lst (VI (nxI zs (m - (i + 1)) lacks under b)))
    have hDx : (upd H4 D (.lst (VI (nxI zs (m - (i + 1)) lacks under b)))) D = some (.lst (VI (nxI zs (m - (i + 1)) lacks under b))) := upd_same
    generalize upd H4 D (.lst (VI (nxI zs (m - (i + 1)) lacks under b))) = H5' at *
    have bx : ∀ z ∈ nxI zs (m - (i + 1)) lacks under b, LbI 5000 z := fun z hz => by
      unfold nxI at hz
      rcases List.mem_or_eq_of_mem_set hz with e | e
      · obtain ⟨y, hy, rfl⟩ := List.mem_map.mp e
        exact ((bzl y hy).mul bun).mono (by decide)
      · rw [e, gd_at hzx]
        exact (((bzl zx (List.mem_of_getElem? hzx)).mul bun).mono (show 301 + 4020 ≤ 4400 by decide)).add ((blk.mul bb).mono (by decide)) |>.mono (by decide)
    have lx : (nxI zs (m - (i + 1)) lacks under b).length = m + 1 := by unfold nxI; rw [List.length_set, List.length_map, lz]
    have bu0 : b * under ≠ 0 := Int.mul_ne_zero (by omega) un0
    refine ⟨_, rfl, _, rfl, _, rfl, b, under, rfl, rfl, bb.cm bun (by decide), D, _, b * under, 5000, rfl, hDx, bu0, bx, (bb.mul bun).mono (by decide), by decide, by omega, fun t c H6 g zs' b' s6' nc ht hc g0 ez eb pr' => ?_⟩
    have er2 := (low_rats g0 bu0 ez eb).trans er
    have bb0 : b' ≠ 0 := fun z => bu0 (by rw [← eb, z, Int.zero_mul])
    have lz' : zs'.length = m + 1 := by rw [← lx, ← ez, List.length_map]
    have S6 := sm2.trans (sDx.trans s6')
    have nH : H c = none := (S5.trans (sm2.trans sDx)).free nc
    refine ⟨t, _, rfl, SqT.of ht, rfl, _, _, rfl, _, _, rfl, rfl, ?_⟩
    refine ⟨_, rfl, b', 0, rfl, rfl, _, rfl, ite2 (fun z => ?_) (fun z => ?_)⟩
    · have z1 : b' < 0 := of_decide_eq_true z
      refine ⟨_, rfl, c, rfl, ⟨_, SqL.of hc⟩, fun D2 nD2 => ?_⟩
      refine lc_l (fun t => (zs'[t]?).map fun z : Int => V.int (0 - z)) (SqL.of hc) nD2 (by rw [vi_len, sizeLine_eq]; omega) (fun t v H4 hv s4 Y N y nn => ?_) (fun H7 s7 hE => ?_)
      · obtain ⟨z, hz, rfl⟩ := vi_at hv
        exact ⟨rfl, _, rfl, 0, z, rfl, rfl, y _ _ (Same.refl _) (by show (zs'[t]?).map _ = _; rw [hz]; rfl)⟩
      · have hE : H7 D2 = some (.lst (VI (zs'.map fun z => 0 - z))) := by
          rw [hE, vi_len, fm_get]; unfold VI; rw [List.map_map]; rfl
        refine ⟨_, rfl, 0, b', rfl, rfl, _, _, rfl, D2, zs'.map (fun z => 0 - z), 0 - b', _, _, _, _, _, _, _, _, rfl, S6.trans s7, ⟨hE, (S5.trans S6).free nD2⟩, ⟨by rw [List.length_map, lz'], by omega, (neg_rats bb0).trans er2, fun d h1 h2 => pr' d (fun z hz => ?_) ?_⟩⟩
        · have := h1 _ (List.mem_map_of_mem hz)
          rw [Int.zero_sub] at this
          exact Int.dvd_neg.mp this
        · rw [Int.zero_sub] at h2
          exact Int.dvd_neg.mp h2
    · have z1 : ¬ b' < 0 := fun h => z (decide_eq_true h)
      exact ⟨c, zs', b', _, _, _, _, _, _, _, _, rfl, S6, ⟨hc, nH⟩, ⟨lz', by omega, er2, pr'⟩⟩
  · subst e
    rw [show ((m : Int) - 1).toNat + 1 = m by omega] at RI
    refine ⟨_, rfl, _, rfl, by show 2 ≤ sizeLine; decide, fun t nt => ?_⟩
    have st := same_new (o := .tup [V.ref a, V.int b]) nt
    exact q t a _ zs b (S5.trans (sm.trans st)) na upd_same (st _ _ hG) RI
end
end K21

namespace K21
open PySem PySem.Spec PyProof.Rows L2 Fp
section
variable {P : Program} {w : World} {K : PySem.W.Frag} {mg : Str → Option Value} {base : Heap} {k : Nat} {C fI fR : Addr}
def sp_law_due (C : Addr) : Sp := fun vs H Q _ => ∃ (l : Addr) (us : List V) (f : List Rat) (n m kk : Nat), vs = [.ref l, .int (m : Nat)] ∧ H l = some (.lst us) ∧ ML C H us f ∧ Lw f n ∧ n = kk * m ∧ 1 ≤ m ∧ ∀ v H', Same H H' → RpR C H H' f (rootL f m) v → Q v H'
-- slots: poly 0, many 1, found 2, bottom 3, number 4; cells: bottom
abbrev s_law_due : Stmt := top 50
abbrev N_law_due : List Str := ["poly", "many", "found", "bottom", "number"]
theorem sc_law_due : FnScope N_law_due ["poly", "many"] (defScope s_law_due) := ⟨rfl, rfl, rfl, by decide +kernel, rfl, by decide +kernel, by decide +kernel⟩
theorem d_law_due (B : Bnd K mg "_law_due" s_law_due) (M : Mg2 mg) (R : RCls K mg C fI fR) {kr : Nat} (DQ : RDefQ P w K mg base kr C) (hk : kr + 8 ≤ k) (D_law_told : Def P w K mg base k "_law_told" s_law_told ["poly"] (sp_law_told K C)) (D_law_whole : Def P w K mg base k "_law_whole" s_law_whole ["poly"] (sp_law_whole C)) (D_law_root : Def P w K mg base k "_law_root" s_law_root ["poly", "many"] (sp_law_root C)) (D_law_is_of : Def P w K mg base k "_law_is_of" s_law_is_of ["tops", "inner"] (sp_law_is_of K)) : Def P w K mg base (k + 1) "_law_due" s_law_due ["poly", "many"] (sp_law_due C) := by
  refine def_of B sc_law_due (by rintro _ _ _ _ ⟨l, us, f, n, m, kk, rfl, _⟩; rfl) (fun _ _ _ _ _ _ us hl => match us, hl with | [_, _], _ => rfl) fun f cdv A outer s H vs Q E hr h => ?_
  obtain ⟨l, us, f, n, m, kk, rfl, hl, hM, h, en, m1, q⟩ := h
  have hu := hr.units
  refine ⟨_, pss_cons (ps_asg (pe_d D_law_root hr (by rfl) (pa_cons (pv 0) (pa_cons (pv 1) pa_nil))) (pg_tup rfl (pgs_cons (pg_name (i := 2) sc_law_due.nd rfl (.inl rfl)) (pgs_cons (pg_name (i := 3) sc_law_due.nd rfl (.inr rfl)) pgs_nil))))
    (pss_one (ps_ret (pe_ifExp (pt_val (pe_d D_law_is_of hr (by rfl) (pa_cons (pe_d D_law_whole hr (by rfl) (pa_cons (pv 0) pa_nil)) (pa_cons (pv 2) pa_nil)))) (pe_d D_law_told hr (by rfl) (pa_cons (pe_lc (own := [("number", 4)]) (g := (gName 4)) (tt := tYes) (te := (tRatQ C (tCons (tVar 4) (tCons (tVar 3) tNil)))) rfl sc_law_due.nd (pi_list (pv 2)) (blkOk_by (own := [("number", 4)]) (N := N_law_due) (sc := defScope s_law_due) (by decide +kernel)) (fun _ _ _ _ _ => pg_name (i := 4) sc_law_due.nd rfl (.inl rfl)) (fun _ _ _ _ _ => pts_nil) (fun _ _ _ _ _ => pe_ratQ DQ (hr.mono (by omega)) (by rfl) (pa_cons (pv 4) (pa_cons (pv 3) pa_nil)))) pa_nil)) pe_non))), ?_⟩
  obtain ⟨k1, k12, m12⟩ := mkn en m1 h.n12 h.n1
  have lM := hM.1
  have lf := h.l
  have tf : trimQ f = f := trimQ_id h.t
  obtain ⟨lh, th, h0, _⟩ := rootL_co (f := f) m1
  obtain ⟨ok, E, Cc, rs⟩ := h.rt m1 en
  refine ⟨_, rfl, _, rfl, l, us, f, n, m, kk, rfl, hl, hM, h, en, m1, fun t c H1 zs b s1 nc ht hc RI => ⟨t, _, rfl, SqT.of ht, rfl, _, _, rfl, _, _, rfl, rfl, ?_⟩⟩
  obtain ⟨bb, bz⟩ := RI.size rs m12
  have eh : ratsOf b zs = rootL f m := by rw [RI.e, hT_full lh h0 m1]
  have b0 := RI.b0
  have lt0 := RI.l
  refine ⟨_, rfl, l, us, f, rfl, .inl (s1 _ _ hl), hM.same s1, h.s.bits (by decide) (show (6 : Int).natAbs < 2 ^ 40 by decide) (Nat.pow_lt_pow_right (by decide) (by decide)), by have := h.n12; omega, fun cT H2 ts bw s2 nT hT w0 et pr => ?_⟩
  rw [tf] at et
  obtain ⟨bE, bN⟩ := prim_size (by decide) w0 et pr h.s
  have lt : ts.length = n + 1 := by rw [← ratsOf_len bw, et, lf]
  refine ⟨_, rfl, cT, c, ts, zs, bw, b, f, rootL f m, n, m, kk, rfl, hT, s2 _ _ hc, lt, lt0, m1, en, h.n12, h.n1, by omega, by omega, et, eh, h.t, th, fun z hz => Nat.lt_of_le_of_lt (bN z hz) (Nat.pow_lt_pow_right (by decide) (by decide)), bz, fun r H3 s3 hr3 => ?_⟩
  refine ⟨r, rfl, ite2 (fun z => ?_) (fun z => ?_)⟩
  · have hO := hr3.mp z
    have s03 := s1.trans (s2.trans s3)
    have hc3 := (s2.trans s3) _ _ hc
    have E0 := rs.E0
    have El : E < 2 ^ 600 := Nat.lt_of_le_of_lt rs.El (Nat.pow_lt_pow_right (by decide) (by omega))
    have Cl : Cc < 2 ^ 600 := by rw [rs.Cl]; exact Nat.pow_lt_pow_right (by decide) (by omega)
    refine ⟨_, rfl, c, rfl, ⟨_, SqL.of hc3⟩, fun D nD => ?_⟩
    refine lc_rel (walk_list (K := K) (a := c) (xs := VI zs)) (fun i acc Hh => QL C Hh acc ((ratsOf b zs).take i)) nD (by rw [vi_len, lt0, sizeLine_eq]; omega) (fun Hh sh => SqL.of (sh _ _ hc3)) QL.nil (fun i acc A B s r => RatL.same r s) (fun i v acc Ha Hb hi sa hA hr hy Yc Nc yc nc => ?_) (fun acc H4 s4 hD hr => ?_)
    · obtain ⟨rfl, hv⟩ := hy
      obtain ⟨z, hz, rfl⟩ := vi_at hv
      refine ⟨rfl, _, rfl, _, rfl, z, b, rfl, by omega, bb.mono (by decide), fun c H4 nc s4 rc => yc _ H4 s4 ?_⟩
      have hx : (ratsOf b zs)[i]? = some ((z : Rat) / (b : Rat)) := by unfold ratsOf; rw [List.getElem?_map, hz]; rfl
      rw [takeS hx]
      rw [Rat.divInt_eq_div] at rc
      exact QL.snoc (RatL.same hr (wo_mono s4)) (Rat2.wo rc (s4 _ _ hA))
    · rw [vi_len, List.take_of_length_le (by rw [ratsOf_len]; exact Nat.le_refl _)] at hr
      have hZ := RatL.same hr (wo_le (D := D))
      rw [eh] at hZ
      refine ⟨D, acc, rootL f m, rfl, sq_of (.inl hD), ML.of_ql hZ, fun y hy => (sc_bitsN (rs.s y hy) E0 El Cl).mono (by decide), by omega, fun e H5 ws s5 ne he hq => q _ H5 (s03.trans (s4.trans s5)) (.inr ⟨⟨e, ws, rfl, (s03.trans s4).free ne, he, ?_⟩, hO⟩)⟩
      rwa [trimQ_id (told_len lh (by rw [th]; decide))] at hq
  · exact q _ _ (s1.trans (s2.trans s3)) (.inl ⟨rfl, fun hO => z (hr3.mpr hO)⟩)
end
end K21

namespace Fp
open PySem PySem.Spec PyProof.Rows L2
/-! ### != of two equal lists whose items have an own == -/
section
variable {pr : Program} {w : World} {A : Around} {R : Result → Shared → Prop}
theorem ne_turns (a c : Addr) (N : Nat) (J : Nat → Shared → Prop) (hJ : GQ.ListI pr w A (fun e s' => R (.error e) s') a c N J) (done : ∀ s, J N s → R (.ok (.ret (.bool false))) s) :
    ∀ (k i : Nat), i + k = N → ∀ s, J i s → wpAny (model pr w) A.in1 (Builtin.«list.__eq__.loop» ⟨[.ref a, .ref c, rawInt i, rawInt 3], []⟩) (GQ.FinOf pr w A R) (fun e s' => R (.error e) s') s
  | 0, i, hk, s, h => by
    obtain ⟨us, vs, n1, n2, e1, e2, z1, z2, _⟩ := hJ _ _ h
    have ei : i = N := by omega
    have fin := done s (ei ▸ h)
    obtain ⟨hp, g, d, tk, os⟩ := s
    wp_walk using AutoSeq1.wpAny_loadPart' e1, AutoSeq1.wpAny_loadPart' e2
    have q1 : us[((i : Nat) : Int).toNat]? = none := by rw [Int.toNat_natCast]; exact Array.getElem?_eq_none (by omega)
    have q2 : vs[((i : Nat) : Int).toNat]? = none := by rw [Int.toNat_natCast]; exact Array.getElem?_eq_none (by omega)
    rw [q1, q2]
    wp_walk using AutoSeq1.wpAny_loadPart' e1, AutoSeq1.wpAny_loadPart' e2
    show R (.ok (.ret (.bool (us.size != vs.size)))) _
    rw [show (us.size != vs.size) = false by rw [z1, z2]; simp]
    exact fin
  | k + 1, i, hk, s, h => by
    obtain ⟨us, vs, n1, n2, e1, e2, z1, z2, tn⟩ := hJ _ _ h
    have l1 : i < us.size := by omega
    have l2 : i < vs.size := by omega
    have one := tn l1 l2
    obtain ⟨hp, g, d, tk, os⟩ := s
    wp_walk using AutoSeq1.wpAny_loadPart' e1, AutoSeq1.wpAny_loadPart' e2
    have q1 : us[((i : Nat) : Int).toNat]? = some us[i] := by rw [Int.toNat_natCast]; exact Array.getElem?_eq_getElem l1
    have q2 : vs[((i : Nat) : Int).toNat]? = some vs[i] := by rw [Int.toNat_natCast]; exact Array.getElem?_eq_getElem l2
    rw [q1, q2]
    refine wpAny_bind (wpAny_mono one (fun r t2 y => ?_) fun _ _ z => z)
    obtain ⟨rfl, y⟩ := y
    have more := ne_turns a c N J hJ done k (i + 1) (by omega) t2 y
    obtain ⟨hp2, g2, d2, tk2, os2⟩ := t2
    wp_walk
    rw [show ((i : Int) + 1) = ((i + 1 : Nat) : Int) by omega]
    refine ⟨plainId_quiet MeetsSeq3.plain_eq_loop _, codeAny_builtin MeetsSeq3.entry_eq_loop ?_⟩
    rw [Around.under_plainId MeetsSeq3.plain_eq_loop _]
    exact more
theorem ne_list (a c : Addr) (N : Nat) (J : Nat → Shared → Prop) (hJ : GQ.ListI pr w A (fun e s' => R (.error e) s') a c N J) (done : ∀ s, J N s → R (.ok (.ret (.bool false))) s) {s : Shared} (h : J 0 s) :
    wpAny (model pr w) A.in1 (Builtin.«list.__ne__» ⟨[.ref a, .ref c], []⟩) (GQ.FinOf pr w A R) (fun e s' => R (.error e) s') s := by
  obtain ⟨us, vs, n1, n2, e1, e2, z1, z2, _⟩ := hJ _ _ h
  have more := ne_turns (A := A) (R := R) a c N J hJ done N 0 (by omega) s h
  obtain ⟨hp, g, d, tk, os⟩ := s
  have sb := AutoSeq1.sub_list_list
  have ne : ¬ (us.size != vs.size) = true := by rw [z1, z2]; simp
  wp_walk using AutoSeq1.wpAny_loadPart' e1, AutoSeq1.wpAny_loadPart' e2
  refine ⟨plainId_quiet MeetsSeq3.plain_eq_loop _, codeAny_builtin MeetsSeq3.entry_eq_loop ?_⟩
  rw [Around.under_plainId MeetsSeq3.plain_eq_loop _]
  exact more
end
/-- a rich comparison by != of what D says is equal -/
def RcN (X : Cx) (n : Nat) (D : Eqv) : Prop := ∀ (A : Around) (pins : List (Addr × Obj)) (s : Shared) (σ : L2.St) (H : Hp) (x y : V) (u v : Value), Sub X n A → L2.Inv X pins σ H s → RelV x u → RelV y v → D x y H →
  wpAny (model X.prog X.w) A (richCompare .NotEq u v) (fun r s' => r = .bool false ∧ LoopI X pins σ H s') X.xe s
theorem rcN_list {X : Cx} {n : Nat} {D : Eqv} (hD : Mon D) (h : EqG X n D) : RcN X (n + 1) (DList D) := by
  intro A pins s σ H x y u v sb I rx ry d
  obtain ⟨a, b, xs, ys, rfl, rfl, ha, hb, p⟩ := d
  cases rx
  cases ry
  have hJ : GQ.ListI X.prog X.w A X.xe a b xs.length (fun _ s' => LoopI X pins σ H s') := fun i s' q => by
    obtain ⟨H1, I1, e1⟩ := id q
    obtain ⟨z, us, k, r, e⟩ := I1.hok a _ (e1 _ _ ha)
    obtain ⟨z2, vs, k2, r2, e2⟩ := I1.hok b _ (e1 _ _ hb)
    exact ⟨us.toArray, vs.toArray, k, k2, e, e2, by rw [List.size_toArray, ← r.length], by rw [List.size_toArray, ← r2.length, ← p.1], fun h1 h2 => turnG hD h sb p r r2 i h1 h2 s' q⟩
  have h0 : LoopI X pins σ H s := ⟨H, I, Ext.rfl'⟩
  obtain ⟨us, vs, n1, n2, e1, e2, _, _, _⟩ := hJ 0 s h0
  refine wpAny_richCompare_same_room (op := .NotEq) ⟨_, e1, rfl⟩ ⟨_, e2, rfl⟩ F.slot_list_ne (GQ.call_here F.slot_list_ne ⟨_, e1, rfl⟩ F.entry_list_ne (F.args_list_ne_2 _ _) ?_) sb.room.units0
  exact ne_list (R := wants (fun v s' => v ≠ .notImplemented ∧ (v = .bool false ∧ LoopI X pins σ H s')) X.xe) a b xs.length (fun _ s' => LoopI X pins σ H s') hJ (fun s' q => ⟨(fun x => nomatch x), rfl, q⟩) h0
def rNeG (D : Eqv) : R2 := fun x y H Q => D x y H ∧ ∀ H', Ext H H' → Q (.bl false) H'
theorem op_neG {X : Cx} {n : Nat} {D : Eqv} (h : RcN X n D) (hr : Room n X.A) : OpR X (compareOp .NotEq) (rNeG D) := by
  intro pins s σ H x y v u Q I rx ry hq
  obtain ⟨d, q⟩ := hq
  show wpAny (model X.prog X.w) X.A (richCompare .NotEq v u) (EP X pins σ Q) X.xe s
  refine wpAny_mono (h X.A pins s σ H x y v u ⟨hr, rfl⟩ I rx ry d) (fun r s' z => ?_) fun _ _ z => z
  obtain ⟨rfl, H', I', e⟩ := z
  exact ⟨.bl false, H', I', rfl, q H' e⟩
/-- == and != of lists of own numbers, and of lists of these -/
theorem op_ne1 {X : Cx} {C : Addr} {k : Nat} (D : EqX X.prog X.w X.K X.mg X.base k C) (hr : Room (k + 1) X.A) : OpR X (compareOp .NotEq) (rNeG (DList (DIns C (SameR C)))) := op_neG (rcN_list mon_rat D.eqG) hr
theorem op_ne2 {X : Cx} {C : Addr} {k : Nat} (D : EqX X.prog X.w X.K X.mg X.base k C) (hr : Room (k + 2) X.A) : OpR X (compareOp .NotEq) (rNeG (DList (DList (DIns C (SameR C))))) := op_neG (rcN_list (mon_list mon_rat) (eqG_list mon_rat D.eqG)) hr
theorem op_eq1 {X : Cx} {C : Addr} {k : Nat} (D : EqX X.prog X.w X.K X.mg X.base k C) (hr : Room (k + 1) X.A) : OpR X (compareOp .Eq) (rEqG (DList (DIns C (SameR C)))) := op_eqG (rcG_list mon_rat D.eqG) hr
end Fp

namespace Fp
open PySem PySem.Spec PyProof.Rows L2
/-- == [] -/
def rEqNil : R2 := fun x y H Q => ∃ a b us, x = .ref a ∧ y = .ref b ∧ H a = some (.lst us) ∧ H b = some (.lst []) ∧ Q (.bl us.isEmpty) H
theorem op_eqNil {X : Cx} (hu : X.A.units + 64 < cLine) : OpR X (compareOp .Eq) rEqNil := by
  intro pins s σ H x y v u Q I rx ry hq
  obtain ⟨a, b, us, rfl, rfl, ha, hb, q⟩ := hq
  cases rx
  cases ry
  obtain ⟨_, its, na, rv, hl, he⟩ := I.lstM ha
  obtain ⟨_, it2, nb, rv2, hl2, he2⟩ := I.lstM hb
  have e2 : it2 = [] := List.length_eq_zero_iff.mp (by simpa using hl2.symm)
  subst e2
  show wpAny (model X.prog X.w) X.A (richCompare .Eq (.ref a) (.ref b)) (EP X pins σ Q) X.xe s
  have fin : ∀ k : Bool, k = us.isEmpty → EP X pins σ Q (.bool k) s := fun k hk => ⟨.bl k, H, I, rfl, by rw [hk]; exact q⟩
  cases us with
  | nil =>
    have e1 : its = [] := List.length_eq_zero_iff.mp (by simpa using hl.symm)
    subst e1
    exact SeqAt.RcAt.lists (e := fun _ => true) ⟨_, he, rfl, na, rfl⟩ ⟨_, he2, rfl, nb, rfl⟩ rfl (by omega) (fun j h1 => absurd h1 (by simp)) X.prog X.w X.xe _ (fin _ rfl)
  | cons z r =>
    refine SeqAt.RcAt.lists_lengths ⟨_, he, rfl, na, rfl⟩ ⟨_, he2, rfl, nb, rfl⟩ ?_ (by omega) X.prog X.w X.xe _ (fin _ rfl)
    have : its.length = r.length + 1 := by rw [← hl]; simp
    simp
    intro e
    rw [e] at this
    simp at this
/-- != of what may be nothing -/
def rNeO (C : Addr) : R2 := fun x y H Q => (x = .non ∧ y = .non ∧ Q (.bl false) H) ∨ rNeG (DList (DIns C (SameR C))) x y H Q
theorem op_neO {X : Cx} {C : Addr} {k : Nat} (D : EqX X.prog X.w X.K X.mg X.base k C) (hr : Room (k + 1) X.A) : OpR X (compareOp .NotEq) (rNeO C) := by
  intro pins s σ H x y v u Q I rx ry h
  rcases h with ⟨rfl, rfl, q⟩ | h
  · exact op_ne pins s σ H _ _ v u Q I rx ry ⟨rfl, by simpa using q⟩
  · exact op_ne1 D hr pins s σ H _ _ v u Q I rx ry h
end Fp
namespace K21
open PySem PySem.Spec PyProof.Rows L2 Fp
section
variable {P : Program} {w : World} {K : PySem.W.Frag} {mg : Str → Option Value} {base : Heap} {k : Nat} {C fI fR : Addr}
theorem numOf_q {H : Hp} {v : V} {x : Rat} (h : NumQ C H v x) : Fp.numOf H v = nd x ∧ isNum H v = true := by
  rcases h with ⟨rfl, h1⟩ | ⟨a, rfl, dx, h1⟩
  · exact ⟨by show (x.num, (1 : Int)) = (x.num, (x.den : Int)); rw [h1], rfl⟩
  · constructor
    · show Fp.numOf H (.ref a) = nd x
      unfold Fp.numOf
      simp only [h1]; rfl
    · unfold isNum isOwn
      simp only [h1]; rfl
def SmQ (x : Rat) : Prop := okS x.num ∧ okS x.den
theorem PolyQ.mk {H : Hp} {a : Addr} {gs : List V} {xs : List Rat} (hl : H a = some (.lst gs) ∨ H a = some (.tup gs)) (len : gs.length = xs.length) (h : ∀ (i : Nat) v x, gs[i]? = some v → xs[i]? = some x → NumQ C H v x) (sm : ∀ x ∈ xs, SmQ x) (l49 : gs.length ≤ 49) : PolyQ C H (.ref a) (trimQ xs) := by
  have ei : itemsOf H (.ref a) = some gs := by
    unfold itemsOf
    rcases hl with hl | hl <;> simp only [hl]
  have ed : itemsD H (.ref a) = gs := by unfold itemsD; rw [ei]; rfl
  have at_ : ∀ v ∈ gs, ∃ x, x ∈ xs ∧ NumQ C H v x := fun v hv => by
    obtain ⟨i, hi⟩ := List.getElem?_of_mem hv
    have li := (List.getElem?_eq_some_iff.mp hi).1
    have hx : xs[i]? = some xs[i] := List.getElem?_eq_getElem (by omega)
    exact ⟨_, List.getElem_mem _, h i v _ hi hx⟩
  have sk : ∀ v ∈ gs, Sk C H 0 v := fun v hv => by
    obtain ⟨x, hx, nq⟩ := at_ v hv
    obtain ⟨o1, o2⟩ := sm x hx
    rcases nq with ⟨rfl, _⟩ | ⟨b, rfl, r⟩
    · exact Sk.int o1
    · exact Sk.own r o1 o2 RQ.red
  refine ⟨?_, ?_, ?_⟩
  · rcases hl with hl | hl
    · exact Sk.lst (d := 0) hl (by omega) sk
    · exact Sk.tup (d := 0) hl (by omega) sk
  · unfold isPolyV
    rw [ei]
    simp only [Bool.and_eq_true, decide_eq_true_eq, List.all_eq_true]
    exact ⟨l49, fun v hv => let ⟨x, _, nq⟩ := at_ v hv; (numOf_q nq).2⟩
  · unfold toldP
    rw [ed, ← trimP_nd]
    congr 1
    refine List.ext_getElem? fun i => ?_
    rw [List.getElem?_map, List.getElem?_map]
    cases e : gs[i]? with
    | none => rw [List.getElem?_eq_none (by have := List.getElem?_eq_none_iff.mp e; omega)]; rfl
    | some v =>
      have li := (List.getElem?_eq_some_iff.mp e).1
      have hx : xs[i]? = some xs[i] := List.getElem?_eq_getElem (by omega)
      rw [hx]
      show some (Fp.numOf H v) = some (nd xs[i])
      rw [(numOf_q (h i v _ e hx)).1]
theorem QL.eqv {H : Hp} {us ws : List V} {xs : List Rat} {a b : Addr} (r : QL C H us xs) (r2 : QL C H ws xs) (ha : H a = some (.lst us)) (hb : H b = some (.lst ws)) : DList (DIns C (SameR C)) (.ref a) (.ref b) H := by
  refine ⟨a, b, us, ws, rfl, rfl, ha, hb, by rw [QL.len r, QL.len r2], fun i x y h1 h2 => ?_⟩
  obtain ⟨z, c, h3, rfl, h4⟩ := QL.at r h1
  obtain ⟨z2, c2, h5, rfl, h6⟩ := QL.at r2 h2
  obtain rfl : z = z2 := by rw [h3] at h5; exact Option.some.inj h5
  obtain ⟨d1, e1⟩ := id h4
  obtain ⟨d2, e2⟩ := id h6
  exact ⟨c, c2, d1, d2, _, _, rfl, rfl, e1, e2, _, _, h4, h6⟩
theorem sh_pair {H : Hp} {a : Addr} {x1 x2 : V} {t1 t2 : Str} (h : H a = some (.lst [x1, x2])) (h1 : Sh C H 1 x1 t1) (h2 : Sh C H 1 x2 t2) : Sh C H 2 (.ref a) (listText [t1, t2]) := .lst h (by simp) rfl fun i x t g1 g2 => by
  match i, g1, g2 with
  | 0, g1, g2 => cases g1; cases g2; exact h1
  | 1, g1, g2 => cases g1; cases g2; exact h2
  | i + 2, g1, _ => cases g1
theorem pair_len {t1 t2 : Str} (h1 : t1.length ≤ Bz 1) (h2 : t2.length ≤ Bz 1) : (listText [t1, t2]).length ≤ sizeLine := by
  have := listText_le [t1, t2]
  have := piled_all (ts := [t1, t2]) (L := Bz 1) (fun t ht => by simp at ht; rcases ht with h | h <;> rw [h] <;> assumption)
  have e : Bz 1 = 36800 := rfl
  rw [e] at this
  rw [sizeLine_eq]
  simp at this
  omega
theorem QLL.eqv {H : Hp} {us ws : List V} {ds : List (List Rat)} {a b : Addr} (r : QLL C H us ds) (r2 : QLL C H ws ds) (ha : H a = some (.lst us)) (hb : H b = some (.lst ws)) : DList (DList (DIns C (SameR C))) (.ref a) (.ref b) H := by
  refine ⟨a, b, us, ws, rfl, rfl, ha, hb, by rw [r.1, r2.1], fun i x y h1 h2 => ?_⟩
  obtain ⟨d, b1, u1, g1, rfl, g2, g3⟩ := r.2 i x h1
  obtain ⟨d2, b2, u2, g4, rfl, g5, g6⟩ := r2.2 i y h2
  obtain rfl : d = d2 := by rw [g1] at g4; exact Option.some.inj g4
  exact QL.eqv g3 g6 g2 g5
theorem QLL.cons {H : Hp} {gs us : List V} {ds : List (List Rat)} {b : Addr} {d : List Rat} (hb : H b = some (.lst us)) (r : QL C H us d) (h : QLL C H gs ds) : QLL C H (.ref b :: gs) (d :: ds) :=
  ⟨by rw [List.length_cons, List.length_cons, h.1], fun i v hv => by
    cases i with
    | zero => obtain rfl := Option.some.inj hv; exact ⟨d, b, us, rfl, rfl, hb, r⟩
    | succ i => exact h.2 i v hv⟩
theorem fitN_of {d s : Int} {nM T : Nat} (d0 : d ≠ 0) (dl : LbI 100 d) (s0 : s ≠ 0) (s2 : s.natAbs ≤ 2) (m : nM < 2 ^ 200) (t : T ≤ 500) : FitN d s nM (2 * 2 * (1 : Int).natAbs) T := fun e he => by
  have p : LbI (e + 1) (s ^ e) := by
    show (s ^ e).natAbs < 2 ^ (e + 1)
    rw [Int.natAbs_pow]
    refine Nat.lt_of_le_of_lt (Nat.pow_le_pow_left s2 e) (Nat.pow_lt_pow_right (by decide) (by omega))
  refine ⟨fun z => ?_, (dl.mul p).mono (by omega), ?_⟩
  · rcases Int.mul_eq_zero.mp z with h | h
    · exact d0 h
    · exact Int.pow_ne_zero s0 h
  · have e4 : (2 * 2 * (1 : Int).natAbs) ^ e = 2 ^ (2 * e) := by rw [Nat.pow_mul]; rfl
    rw [e4]
    have := Nat.mul_lt_mul_of_pos_right m (Nat.two_pow_pos (2 * e))
    rw [← Nat.pow_add] at this
    exact Nat.lt_of_lt_of_le this (Nat.pow_le_pow_right (by decide) (by omega))
theorem fit_j {d s : Int} {nM T j : Nat} (d0 : d ≠ 0) (dl : LbI 100 d) (s0 : s ≠ 0) (s2 : s.natAbs ≤ 2) (m : nM < 2 ^ 200) (t : T ≤ 500) (lj : j ≤ 100) : Fit (d * s ^ T) (nM * (2 * 2 * (1 : Int).natAbs) ^ T * (100 * 2 + 1) ^ j) := by
  obtain ⟨f1, f2, _⟩ := fitN_of d0 dl s0 s2 m t T (Nat.le_refl _)
  refine ⟨f1, f2, ?_⟩
  have e4 : (2 * 2 * (1 : Int).natAbs) ^ T = 2 ^ (2 * T) := by rw [Nat.pow_mul]; rfl
  rw [e4]
  have h1 := Nat.mul_lt_mul_of_pos_right m (Nat.two_pow_pos (2 * T))
  rw [← Nat.pow_add] at h1
  have h2 : (100 * 2 + 1) ^ j ≤ 2 ^ (8 * j) := by rw [Nat.pow_mul]; exact Nat.pow_le_pow_left (by decide) j
  have h3 := Nat.mul_lt_mul_of_pos_right h1 (show 0 < (100 * 2 + 1) ^ j from Nat.pow_pos (by decide))
  have h4 := Nat.mul_le_mul_left (2 ^ (200 + 2 * T)) h2
  rw [← Nat.pow_add] at h4
  exact Nat.lt_of_lt_of_le (Nat.lt_of_lt_of_le h3 h4) (Nat.pow_le_pow_right (by decide) (by omega))
theorem smq_int {z : Int} (h : z.natAbs ≤ 1000) : SmQ (z : Rat) := ⟨Nat.lt_of_le_of_lt (show (z : Rat).num.natAbs ≤ 1000 from h) (by decide), by show (1 : Int).natAbs < _; decide⟩
theorem sc_smq {x : Rat} {nM : Nat} (h : Sc 1 nM x) (l : nM ≤ 1000) : SmQ x := by
  obtain ⟨z, e, b⟩ := h
  rw [← cast_div_one] at e
  rw [e]; exact smq_int (by omega)
theorem mlq {H : Hp} (zs : List Int) : ML C H (VI zs) (intQ zs) := ML.ints zs
def IntsAt (H : Hp) (a : Addr) (zs : List Int) : Prop := H a = some (.lst (VI zs)) ∨ H a = some (.tup (VI zs))
theorem IntsAt.same {H H' : Hp} {a : Addr} {zs : List Int} (h : IntsAt H a zs) (e : Same H H') : IntsAt H' a zs := h.imp (fun h => e _ _ h) (fun h => e _ _ h)
theorem IntsAt.sq {H : Hp} {a : Addr} {zs : List Int} (h : IntsAt H a zs) : Sq K H a (VI zs) := h.imp (fun h => SqL.of h) (fun h => SqT.of h)
theorem IntsAt.poly {H : Hp} {a : Addr} {zs : List Int} (h : IntsAt H a zs) (l : zs.length ≤ 49) (s : ∀ z ∈ zs, z.natAbs ≤ 1000) : PolyQ C H (.ref a) (trimQ (intQ zs)) :=
  PolyQ.mk h (by simp) (fun i v x h1 h2 => by
    obtain ⟨y, g1, g2⟩ := (ML.ints (C := C) (H := H) zs).2 i v h1
    rw [g1] at h2
    obtain rfl := Option.some.inj h2
    exact g2) (fun x hx => by
    obtain ⟨z, hz, rfl⟩ := List.mem_map.mp hx
    exact smq_int (s z hz)) (by rw [vi_len]; exact l)
theorem isi_list {H : Hp} {a : Addr} {xs : List V} {Q : VK} (h : H a = some (.lst xs)) (q : Q (.bl true) H) : rIsi K [.ref a, .ty "list"] H Q := ⟨_, _, _, _, true, rfl, .ty _, .base (.lst h), kit_ty (r := true) (by decide +kernel), q⟩
theorem all_false (n : Nat) : (List.range n).filterMap (fun _ => some (V.bl false)) = (List.replicate n false).map V.bl := by
  rw [List.filterMap_eq_map']
  refine List.ext_getElem (by simp) fun i a b => by simp
theorem any_rep : ∀ n, (List.replicate n false).any id = false
  | 0 => rfl
  | n + 1 => by rw [List.replicate_succ, List.any_cons, any_rep n]; rfl
/-- lists among what is left out -/
def Lsts (S : List Addr) (H : Hp) : Prop := ∀ s ∈ S, ∃ acc, H s = some (.lst acc)
theorem RQ.wos {S : List Addr} {H : Hp} {a : Addr} {x : Rat} (r : RQ C H a x) (h : Lsts S H) : RQ C (wos S H) a x := by
  obtain ⟨dx, e⟩ := r
  exact ⟨dx, by
    rw [wos_ne]
    · exact e
    · intro z
      obtain ⟨acc, g⟩ := h a z
      rw [g] at e; cases e⟩
theorem NumQ.wos {S : List Addr} {H : Hp} {v : V} {x : Rat} (r : NumQ C H v x) (h : Lsts S H) : NumQ C (wos S H) v x := by
  rcases r with r | ⟨a, e, r⟩
  · exact .inl r
  · exact .inr ⟨a, e, RQ.wos r h⟩
theorem ML.wos {S : List Addr} {H : Hp} {us : List V} {xs : List Rat} (r : ML C H us xs) (h : Lsts S H) : ML C (wos S H) us xs := ⟨r.1, fun i v hv => let ⟨x, h1, h2⟩ := r.2 i v hv; ⟨x, h1, NumQ.wos h2 h⟩⟩
theorem QL.wos {S : List Addr} {H : Hp} {us : List V} {xs : List Rat} (r : QL C H us xs) (h : Lsts S H) : QL C (wos S H) us xs := QL.mk (QL.len r) fun i v x hv hx => by
  obtain ⟨y, a, h1, h2, h3⟩ := QL.at r hv
  rw [hx] at h1
  obtain rfl := Option.some.inj h1
  exact ⟨a, h2, RQ.wos h3 h⟩
theorem PotOk.lst {H : Hp} {p : Addr} (h : PotOk H p) : ∃ acc, H p = some (.lst acc) := let ⟨u, v, e, _⟩ := h; ⟨_, e⟩
theorem Keep.new {p : Addr} {H H' : Hp} {b : Addr} (k : Keep p H H') (hp : PotOk H' p) (n : H' b = none) : H b = none := by
  cases e : H b with
  | none => rfl
  | some o =>
    have := k b o (pot_ne hp n) e
    rw [this] at n; cases n
theorem Keep.upd {p S : Addr} {H G : Hp} {o : HO} (k : Keep p H G) (n : H S = none) : Keep p H (upd G S o) := fun b u nb hb => by
  rw [upd_ne (ne_of_none hb n)]; exact k b u nb hb
/-- texts of lists of lists of numbers -/
def qlText (d : List Rat) : Str := listText (d.map fun x => ratText x.num x.den)
theorem rat_len {x : Rat} (h : SmQ x) : (ratText x.num x.den).length ≤ Bz 0 := by
  have := Fp.int_short h.1
  have := Fp.int_short h.2
  have := Bz_ge 0
  unfold ratText
  rw [strLen_append, strLen_append, strLen_append, strLen_append]
  have e1 : (Str.ofString "Ratio(").length = 6 := rfl
  have e2 : (Str.ofString ", ").length = 2 := rfl
  have e3 : (Str.ofString ")").length = 1 := rfl
  omega
theorem ql_len {d : List Rat} (l : d.length ≤ 60) (h : ∀ x ∈ d, SmQ x) : (qlText d).length ≤ Bz 1 := by
  have := listText_le (d.map fun x => ratText x.num x.den)
  have := piled_all (ts := d.map fun x => ratText x.num x.den) (L := Bz 0) (fun t ht => by
    obtain ⟨x, hx, rfl⟩ := List.mem_map.mp ht
    exact rat_len (h x hx))
  rw [List.length_map] at this
  have e0 : Bz 0 = 600 := rfl
  have e1 : Bz 1 = 36800 := rfl
  rw [e0] at this
  rw [e1]
  unfold qlText
  omega
theorem sh_ql {H : Hp} {a : Addr} {us : List V} {d : List Rat} {n : Nat} (ha : H a = some (.lst us)) (q : QL C H us d) (l : d.length ≤ 60) (h : ∀ x ∈ d, SmQ x) : Sh C H (n + 1) (.ref a) (qlText d) :=
  .lst ha (by rw [QL.len q]; omega) (by rw [List.length_map, QL.len q]) fun i v t hv ht => by
    obtain ⟨x, b, h1, rfl, r⟩ := QL.at q hv
    rw [List.getElem?_map, h1] at ht
    obtain rfl := Option.some.inj ht
    have s := h x (List.mem_of_getElem? h1)
    exact .own r s.1 s.2 RQ.red
theorem RQ.keep {p a : Addr} {H H' : Hp} {x : Rat} (r : RQ C H a x) (hp : PotOk H p) (k : Keep p H H') : RQ C H' a x := by
  obtain ⟨dx, e⟩ := r
  refine ⟨dx, k a _ (fun z => ?_) e⟩
  obtain ⟨u, v, g, _⟩ := hp
  rw [z, g] at e; cases e
theorem lsts2 {H : Hp} {a b : Addr} (h1 : ∃ acc, H a = some (.lst acc)) (h2 : ∃ acc, H b = some (.lst acc)) : Lsts [a, b] H := fun s hs => by
  simp only [List.mem_cons, List.not_mem_nil, or_false] at hs
  rcases hs with e | e
  · rw [e]; exact h1
  · rw [e]; exact h2
theorem wo_wos {D : Addr} {H : Hp} : wo D H = wos [D] H := funext fun b => by
  unfold Fp.wo Fp.wos
  by_cases h : b = D
  · rw [if_pos h, if_pos (by simp [h])]
  · rw [if_neg h, if_neg (by simp [h])]
theorem bits_smq {x : Rat} (h : Bits 40 x) : SmQ x := ⟨Nat.lt_trans h.1 (by decide), Nat.lt_trans h.2 (by decide)⟩
theorem lb6 {n : Nat} (h : 3 ≤ n) : LbI n 6 := Nat.lt_of_lt_of_le (show 6 < 2 ^ 3 by decide) (Nat.pow_le_pow_right (by decide) h)
theorem lb1 {n : Nat} (h : 1 ≤ n) : LbI n 1 := Nat.lt_of_lt_of_le (show 1 < 2 ^ 1 by decide) (Nat.pow_le_pow_right (by decide) h)
theorem PotOk.upd {H : Hp} {p D : Addr} {o : HO} (h : PotOk H p) (n : D ≠ p) : PotOk (upd H D o) p := by
  obtain ⟨u, v, e, x⟩ := h
  exact ⟨u, v, by rw [upd_ne n.symm]; exact e, x⟩
theorem lt_pow {a m n : Nat} (h : a < 2 ^ m) (l : m ≤ n) : a < 2 ^ n := Nat.lt_of_lt_of_le h (Nat.pow_le_pow_right (by decide) l)
theorem lbpow {E : Int} {b : Nat} (h : E.natAbs ≤ 2 ^ b) (n : Nat) : LbI (b * n + 1) (E ^ n) := by
  show (E ^ n).natAbs < 2 ^ (b * n + 1)
  rw [Int.natAbs_pow]
  refine Nat.lt_of_le_of_lt (Nat.pow_le_pow_left h n) ?_
  rw [← Nat.pow_mul]
  exact Nat.pow_lt_pow_right (by decide) (by omega)
theorem pow_le {G b n : Nat} (h : G ≤ 2 ^ b) : G ^ n ≤ 2 ^ (b * n) := by rw [Nat.pow_mul]; exact Nat.pow_le_pow_left h n
theorem mul_lt {A B a b : Nat} (h : A < 2 ^ a) (g : B ≤ 2 ^ b) : A * B < 2 ^ (a + b) := by
  rw [Nat.pow_add]
  exact Nat.lt_of_le_of_lt (Nat.mul_le_mul_left A g) (Nat.mul_lt_mul_of_pos_right h (Nat.two_pow_pos b))
theorem fitG {d s E : Int} {nM T : Nat} (d0 : d ≠ 0) (dl : LbI 100 d) (s0 : s ≠ 0) (s4 : s.natAbs ≤ 4) (E2 : E.natAbs ≤ 2) (m : nM < 2 ^ 200) (t : T ≤ 400) : FitN d s nM (2 * 4 * E.natAbs) T := fun e he => by
  have p := lbpow (b := 2) s4 e
  refine ⟨fun z => ?_, (dl.mul p).mono (by omega), ?_⟩
  · rcases Int.mul_eq_zero.mp z with h | h
    · exact d0 h
    · exact Int.pow_ne_zero s0 h
  · exact lt_pow (mul_lt m (pow_le (b := 4) (n := e) (by omega))) (by omega)
theorem put_fit {D' E : Int} {M' N : Nat} {ys xs : List Rat} (d0 : D' ≠ 0) (dl : LbI 1000 D') (m : M' < 2 ^ 1500) (E0 : E ≠ 0) (E2 : E.natAbs ≤ 2) (N8 : N ≤ 8) (y0 : 0 < ys.length) (sy : AllS E N ys) (sx : AllS D' M' xs) (l : xs.length * ys.length ≤ 99) (lx : xs.length ≤ 16) :
    (∀ n, n ≤ xs.length → Fit (D' * E ^ n) (M' * (100 * N + E.natAbs) ^ n)) ∧ (∀ n, n ≤ xs.length → AllS (D' * E ^ n) (M' * (100 * N + E.natAbs) ^ n) (jw ys ((osing xs).drop (xs.length - n)))) ∧ (∀ n, n < xs.length → Fit (D' * E ^ n * E) ((jw ys ((osing xs).drop (xs.length - n))).length * (M' * (100 * N + E.natAbs) ^ n * N))) := by
  have dE : ∀ n, D' * E ^ n ≠ 0 := fun n z => by
    rcases Int.mul_eq_zero.mp z with h | h
    · exact d0 h
    · exact Int.pow_ne_zero E0 h
  have bE : ∀ n, n ≤ 16 → LbI 1020 (D' * E ^ n) := fun n hn => (dl.mul (lbpow (b := 1) E2 n)).mono (by omega)
  have bM : ∀ n, n ≤ 16 → M' * (100 * N + E.natAbs) ^ n < 2 ^ 1660 := fun n hn => lt_pow (mul_lt m (pow_le (b := 10) (n := n) (by omega))) (by omega)
  have one : ∀ d ∈ osing xs, d.length ≤ ys.length := fun d hd => by
    obtain ⟨x, _, rfl⟩ := List.mem_map.mp hd
    exact y0
  have lo : (osing xs).length = xs.length := by simp
  have sc : ∀ d ∈ osing xs, AllS D' M' d := fun d hd z hz => by
    obtain ⟨x, hx, rfl⟩ := List.mem_map.mp hd
    rw [List.mem_singleton.mp hz]; exact sx x hx
  have ld : ∀ n, n ≤ xs.length → ((osing xs).drop (xs.length - n)).length = n := fun n hn => by rw [List.length_drop, lo]; omega
  refine ⟨fun n hn => ⟨dE n, (bE n (by omega)).mono (by decide), lt_pow (bM n (by omega)) (by decide)⟩, fun n hn => ?_, fun n hn => ⟨fun z => ?_, ?_, ?_⟩⟩
  · have := jw_scE (D := D') (M := M') sy E0 y0 (ds := (osing xs).drop (xs.length - n)) (fun d hd => one d (List.mem_of_mem_drop hd)) (fun d hd => sc d (List.mem_of_mem_drop hd)) (by rw [ld n hn]; exact Nat.le_trans (Nat.mul_le_mul_right _ hn) l)
    rw [ld n hn] at this; exact this
  · rcases Int.mul_eq_zero.mp z with h | h
    · exact dE n h
    · exact E0 h
  · exact ((bE n (by omega)).mul (show LbI 2 E by show E.natAbs < 2 ^ 2; omega)).mono (by decide)
  · have jl := jw_len y0 (ds := (osing xs).drop (xs.length - n)) fun d hd => one d (List.mem_of_mem_drop hd)
    rw [ld n (by omega)] at jl
    have := Nat.le_trans jl (Nat.le_trans (Nat.mul_le_mul_right _ (show n ≤ xs.length by omega)) l)
    rw [Nat.mul_comm]
    exact lt_pow (mul_lt (mul_lt (bM n (by omega)) (show N ≤ 2 ^ 3 by omega)) (show _ ≤ 2 ^ 7 by omega)) (by decide)
end
end K21

namespace K21
open PySem PySem.Spec PyProof.Rows L2 Fp
section
variable {C : Addr}
/-! ### root parts' texts; what is told of one polynomial -/
theorem bits160 {x : Rat} (h : Bits 160 x) : SmQ x := ⟨Nat.lt_trans h.1 (by decide), Nat.lt_trans h.2 (by decide)⟩
theorem Lw.sm {f : List Rat} {n : Nat} (h : Lw f n) : ∀ x ∈ f, SmQ x := fun x hx => bits160 ((h.s x hx).bits (by decide) (show (6 : Int).natAbs < 2 ^ 160 by decide) (Nat.pow_lt_pow_right (by decide) (by decide)))
theorem Lw.sm_root {f : List Rat} {n m k : Nat} (h : Lw f n) (m1 : 1 ≤ m) (en : n = k * m) : ∀ x ∈ rootL f m, SmQ x := by
  obtain ⟨k1, k12, m12⟩ := mkn en m1 h.n12 h.n1
  have n12 := h.n12
  by_cases e : k = 1
  · have enm : m = n := by rw [en, e, Nat.one_mul]
    subst enm
    have t := h.top
    rw [rootL_whole m1 h.l t]
    obtain ⟨lb, tb, b0, bc⟩ := bareQ_co m1 h.l t
    obtain ⟨z, hz, bz⟩ := h.s.co m
    have z0 : z ≠ 0 := fun e => t (by rw [hz, e]; decide +kernel)
    have zq := Fp.cast_ne z0
    have A : AllS z (2 ^ 15) (bareQ f) := AllS.of_co fun j => by
      by_cases c : j = 0
      · rw [c, b0]; exact Fp.Sc.zero
      · rw [bc j (by omega), hz]
        obtain ⟨y, hy, by_⟩ := h.s.co j
        rw [hy]
        have s6 : ((6 : Int) : Rat) ≠ 0 := Fp.cast_ne (by decide)
        exact ⟨y, by grind, by_⟩
    exact fun x hx => bits160 ((A x hx).bits z0 (Nat.lt_of_le_of_lt bz (Nat.pow_lt_pow_right (by decide) (by decide))) (Nat.pow_lt_pow_right (by decide) (by decide)))
  · obtain ⟨ok, E, Cc, r⟩ := h.rt m1 en
    have m6 : m ≤ 6 := by
      have : 2 * m ≤ k * m := Nat.mul_le_mul_right _ (by omega)
      omega
    have E0 := r.E0
    have El := r.El
    have h1 : 2 ^ (23 * (m - 1)) < 2 ^ 160 := Nat.pow_lt_pow_right (by decide) (by omega)
    exact fun x hx => bits160 ((r.s x hx).bits (by omega) (by show ((E : Nat) : Int).natAbs < _; rw [Int.natAbs_natCast]; omega) (by rw [r.Cl]; exact Nat.pow_lt_pow_right (by decide) (by omega)))
theorem RpR.both {Ha Hb Hc Hd : Hp} {f h : List Rat} {v v2 : V} (a : RpR C Ha Hb f h v) (b : RpR C Hc Hd f h v2) (s : Same Hb Hd) (l : h.length ≤ 60) (sm : ∀ x ∈ h, SmQ x) : ∃ t : Str, Sh C Hb 2 v t ∧ Sh C Hd 2 v2 t ∧ t.length ≤ sizeLine := by
  rcases a with ⟨rfl, no⟩ | ⟨⟨x, us, rfl, _, ha, hq⟩, yes⟩
  · rcases b with ⟨rfl, _⟩ | ⟨_, yes⟩
    · exact ⟨_, .non, .non, by decide⟩
    · exact absurd yes no
  · rcases b with ⟨_, no⟩ | ⟨⟨y, ws, rfl, _, hb, hp⟩, _⟩
    · exact absurd yes no
    · exact ⟨_, sh_ql ha hq (by omega) sm, sh_ql hb hp (by omega) sm, Nat.le_trans (ql_len (by omega) sm) (Bz_size 1)⟩
theorem RpR.neo {Ha Hb Hc Hd : Hp} {f h : List Rat} {v v2 : V} {Q : VK} (a : RpR C Ha Hb f h v) (b : RpR C Hc Hd f h v2) (s : Same Hb Hd) (q : ∀ H', Ext Hd H' → Q (.bl false) H') : rNeO C v2 v Hd Q := by
  rcases a with ⟨rfl, no⟩ | ⟨⟨x, us, rfl, _, ha, hq⟩, yes⟩
  · rcases b with ⟨rfl, _⟩ | ⟨_, yes⟩
    · exact .inl ⟨rfl, rfl, q Hd Ext.rfl'⟩
    · exact absurd yes no
  · rcases b with ⟨_, no⟩ | ⟨⟨y, ws, rfl, _, hb, hp⟩, _⟩
    · exact absurd yes no
    · exact .inr ⟨QL.eqv hp (RatL.same hq s) hb (s _ _ ha), q⟩
theorem RpR.to {Ha Hb Hd : Hp} {f h : List Rat} {v : V} (a : RpR C Ha Hb f h v) (s : Same Hb Hd) : RpR C Ha Hd f h v := by
  rcases a with ⟨rfl, no⟩ | ⟨⟨x, us, rfl, na, ha, hq⟩, yes⟩
  · exact .inl ⟨rfl, no⟩
  · exact .inr ⟨⟨x, us, rfl, na, s _ _ ha, RatL.same hq s⟩, yes⟩
theorem RpR.yes {Ha Hb : Hp} {f h : List Rat} {v : V} (a : RpR C Ha Hb f h v) (o : Of f h) : ∃ x us, v = .ref x ∧ Ha x = none ∧ Hb x = some (.lst us) ∧ QL C Hb us h := by
  rcases a with ⟨_, no⟩ | ⟨r, _⟩
  · exact absurd o no
  · exact r
/-- of the first degree, and of the whole one -/
theorem of_one {f : List Rat} (tf : Told f) : Of f [0, 1] := ⟨f, tf, fun j => (jo_id f j).symm⟩
theorem root_oneL {f : List Rat} {n : Nat} (l : f.length = n + 1) (n1 : 1 ≤ n) : rootL f 1 = [0, 1] := by
  obtain ⟨lh, th, h0, _⟩ := rootL_co (f := f) (Nat.le_refl 1)
  match e : rootL f 1, lh with
  | [a, b], _ =>
    rw [e] at th h0
    have a0 : a = 0 := h0
    have b1 : b = 1 := th
    rw [a0, b1]
theorem of_bare {f : List Rat} {n : Nat} (n1 : 1 ≤ n) (l : f.length = n + 1) (t : co f n ≠ 0) : Of f (bareQ f) := by
  obtain ⟨lb, tb, b0, bc⟩ := bareQ_co n1 l t
  refine ⟨[co f 0, co f n], fun z hz => by obtain rfl := Option.some.inj hz; exact t, fun j => ?_⟩
  show co f j = co (jl (bareQ f) ([co f 0] :: osing [co f n])) j
  rw [jl_co]
  have h1 : ∀ i, co (jl (bareQ f) (osing [co f n])) i = co [co f n] i := fun i => by
    show co (jl (bareQ f) [[co f n]]) i = _
    rw [jl_co]
    show prodc _ (co []) i + _ = _
    rw [prodc_nil_right]; grind
  have h2 : ∀ i, co [co f n] i = co f n * co [1] i := fun i => by
    cases i with
    | zero => show co f n = co f n * 1; grind
    | succ i => rw [co_out (by simp), co_out (xs := [1]) (by simp)]; grind
  rw [prodc_congr h1, prodc_congr h2, prodc_mul, prodc_comm (bareQ f) [1], prodc_oneL]
  by_cases c : j = 0
  · rw [c, b0]; show _ = _ * 0 + co f 0; grind
  · rw [bc j (by omega), co_out (xs := [co f 0]) (by simp; omega)]; grind
end
end K21

namespace K21
open PySem PySem.Spec PyProof.Rows L2 Fp
section
variable {P : Program} {w : World} {K : PySem.W.Frag} {mg : Str → Option Value} {base : Heap} {k : Nat} {C fI fR : Addr}
def sp_law_pr (C : Addr) : Sp := fun vs H Q _ => ∃ (a : Addr) (us : List V) (f : List Rat) (n : Nat), vs = [.ref a] ∧ H a = some (.lst us) ∧ ML C H us f ∧ Lw f n ∧ Ret H Q (.bl true)
theorem ML.poly {H : Hp} {a : Addr} {us : List V} {xs : List Rat} (h : H a = some (.lst us)) (m : ML C H us xs) (sm : ∀ x ∈ xs, SmQ x) (l : xs.length ≤ 49) : PolyQ C H (.ref a) (trimQ xs) :=
  PolyQ.mk (.inl h) m.1 (fun i v x h1 h2 => by
    obtain ⟨y, g1, g2⟩ := m.2 i v h1
    rw [g1] at h2
    obtain rfl := Option.some.inj h2
    exact g2) sm (by rw [m.1]; exact l)
theorem ML.polyT {H : Hp} {a : Addr} {us : List V} {xs : List Rat} (h : H a = some (.tup us)) (m : ML C H us xs) (sm : ∀ x ∈ xs, SmQ x) (l : xs.length ≤ 49) : PolyQ C H (.ref a) (trimQ xs) :=
  PolyQ.mk (.inr h) m.1 (fun i v x h1 h2 => by
    obtain ⟨y, g1, g2⟩ := m.2 i v h1
    rw [g1] at h2
    obtain rfl := Option.some.inj h2
    exact g2) sm (by rw [m.1]; exact l)
theorem ml_zero {H : Hp} : ML C H [.int 0] [0] := ML.zeros (C := C) (H := H) 1
theorem sm_zero : SmQ 0 := ⟨by show (0 : Int).natAbs < _; decide, by show (1 : Int).natAbs < _; decide⟩
theorem sm_app {xs ys : List Rat} (h : ∀ x ∈ xs, SmQ x) (g : ∀ x ∈ ys, SmQ x) : ∀ x ∈ xs ++ ys, SmQ x := fun x hx => (List.mem_append.mp hx).elim (h x) (g x)
theorem iteT2 {b : Bool} {A B : Prop} (h : b = true) (a : A) : if b = true then A else B := by subst h; exact iteT a
-- slots: poly 0, size 1, shown 2, many 3, told_v 4, due 5; cells: 
abbrev s_law_poly_right : Stmt := top 51
theorem bk_root_part_0_many_poly : BindK 0 2 true "root_part" s_root_part ["poly", "many"] ["many", "poly"] := fun _ _ _ _ _ _ us ws hu hw => match us, ws, hu, hw with | [], [_, _], _, _ => rfl
abbrev N_law_poly_right : List Str := ["poly", "size", "shown", "many", "told_v", "due"]
theorem sc_law_poly_right : FnScope N_law_poly_right ["poly"] (defScope s_law_poly_right) := ⟨rfl, rfl, rfl, by decide +kernel, rfl, by decide +kernel, by decide +kernel⟩
theorem d_law_poly_right (B : Bnd K mg "_law_poly_right" s_law_poly_right) (M : Mg2 mg) (R : RCls K mg C fI fR) {kr : Nat} (RD : RDef P w K mg base kr C) (EX : EqX P w K mg base kr C) (hk : kr + 8 ≤ k) (D_outer : Def P w K mg base k "outer" s_outer ["poly", "inner"] (sp_outer C)) (D_root_part : Def P w K mg base k "root_part" s_root_part ["poly", "many"] (sp_root_part C)) (D_law_told : Def P w K mg base k "_law_told" s_law_told ["poly"] (sp_law_told K C)) (D_law_bare : Def P w K mg base k "_law_bare" s_law_bare ["poly"] (sp_law_bare C)) (D_law_due : Def P w K mg base k "_law_due" s_law_due ["poly", "many"] (sp_law_due C)) : DefG P w K mg base (k + 1) "_law_poly_right" s_law_poly_right ["poly"] (sp_law_pr C) := by
  refine defG_of B sc_law_poly_right (by rintro _ _ _ _ ⟨a, us, ff, n, rfl, _⟩; rfl) (fun _ _ _ _ _ _ us hl => match us, hl with | [_], _ => rfl) fun f cdv A outer s H vs Q E hgd hr h => ?_
  obtain ⟨a, us, ff, n, rfl, ha, hM, h, q⟩ := h
  have hu := hr.units
  have hg2 : (A.deeper (envOfC "_law_poly_right" (defScope s_law_poly_right) s.heap.objs.size f cdv)).guards = some [] := hgd
  refine ⟨_, pss_cons (ps_par (i := 1) (j := 2) rfl sc_law_poly_right.nd rfl rfl (by decide) rfl rfl (pa_cons (pe_op op_sub (pe_callB call_len_seq (by rfl) M.len boot_len (pa_cons (pe_d D_law_told hr (by rfl) (pa_cons (pv 0) pa_nil)) pa_nil)) pe_int) (pa_cons (pe_callB (cr_sh (RD.own (hr.mono (by omega))) (hr.mono (by omega)) hg2) (by rfl) M.repr (by decide +kernel) (pa_cons (pv 0) pa_nil)) pa_nil)) (by rfl))
    (pss_cons (ps_for PassesOwn.never rfl (pi_range2 (by rfl) M.range (pa_cons pe_int (pa_cons (pe_op op_add (pv 1) pe_int) pa_nil))) (pg_name (i := 3) sc_law_poly_right.nd rfl (.inl rfl))
      (pss_cons (ps_set (i := 4) sc_law_poly_right.nd rfl (.inl rfl) (pe_d D_root_part hr (by rfl) (pa_cons (pv 0) (pa_cons (pv 3) pa_nil))))
      (pss_cons (ps_set (i := 5) sc_law_poly_right.nd rfl (.inl rfl) (pe_ifExp (pt_cmpR op_eq (pe_op op_mod (pv 1) (pv 3)) pe_int (nomark _)) (pe_d D_law_due hr (by rfl) (pa_cons (pe_d D_law_told hr (by rfl) (pa_cons (pv 0) pa_nil)) (pa_cons (pv 3) pa_nil))) pe_non))
      (C8.pss_cut (ps_if (pt_cmpR op_ne (pe_callB (cr_sh (RD.own (hr.mono (by omega))) (hr.mono (by omega)) hg2) (by rfl) M.repr (by decide +kernel) (pa_cons (pv 4) pa_nil)) (pe_callB (cr_sh (RD.own (hr.mono (by omega))) (hr.mono (by omega)) hg2) (by rfl) M.repr (by decide +kernel) (pa_cons (pv 5) pa_nil)) (nomark _))
        (pss_one (ps_ret pe_bl))
        (pss_nil))
      (C8.pss_cut (ps_if (PW.pt (pw_and (pt_cmpR op_notN (pv 4) pe_non (nomark _)) (pw_and1 (PW.pt (pw_or (pt_cmpR (op_neO EX (hr.mono (by omega))) (pe_d D_root_part hr (by rfl) (pa_cons (pv 4) (pa_cons (pv 3) pa_nil))) (pv 4) (nomark _)) (pw_or1 (pt_cmpR op_isN (pe_d D_outer hr (by rfl) (pa_cons (pv 0) (pa_cons (pv 4) pa_nil))) pe_non (nomark _))))))))
        (pss_one (ps_ret pe_bl))
        (pss_nil))
      (pss_one (ps_if (pt_cmpR (op_neO EX (hr.mono (by omega))) (pe_dk0 D_root_part hr (by rfl) 2 true ["many", "poly"] bk_root_part_0_many_poly (pk_cons (pv 3) (pk_cons (pe_op op_catT (pe_callTy call_tuple_of (by rfl) M.tuple (by decide +kernel) (pa_cons (pv 0) pa_nil)) (pe_tup (pa_cons pe_int pa_nil))) pk_nil))) (pv 4) (nomark _))
        (pss_one (ps_ret pe_bl))
        (pss_nil))))))))
    (pss_one (ps_ret (pe_and (pe_cmpR (op_eq1 EX (hr.mono (by omega))) (pe_d D_root_part hr (by rfl) (pa_cons (pv 0) (pa_cons pe_int pa_nil))) (pe_d D_law_told hr (by rfl) (pa_cons (pe_lst (pa_cons pe_int (pa_cons pe_int pa_nil))) pa_nil)) (nomark _)) (pe_and (pe_cmpR (op_eq1 EX (hr.mono (by omega))) (pe_d D_root_part hr (by rfl) (pa_cons (pv 0) (pa_cons (pv 1) pa_nil))) (pe_d D_law_bare hr (by rfl) (pa_cons (pv 0) pa_nil)) (nomark _)) (pe_one (pe_cmpR op_eq (pe_callB (cr_sh (RD.own (hr.mono (by omega))) (hr.mono (by omega)) hg2) (by rfl) M.repr (by decide +kernel) (pa_cons (pv 0) pa_nil)) (pv 2) (nomark _)))))))), ?_⟩
  have n1 := h.n1
  have n12 := h.n12
  have lf := h.l
  have tf : trimQ ff = ff := trimQ_id h.t
  have P0 : PolyQ C H (.ref a) ff := by
    have := ML.poly (C := C) ha hM h.sm (by omega)
    rwa [tf] at this
  have lu : us.length = n + 1 := by rw [hM.1, lf]
  have une : us ≠ [] := fun z => by rw [z] at lu; simp at lu
  have BX : AllB 4000 ff := fun x hx => (h.bits x hx).mono (by decide)
  obtain ⟨tt, sh0, st0⟩ := id P0.1
  refine ⟨_, rfl, a, us, ff, rfl, .inl (SqL.of ha), hM, BX, by omega, fun c1 H1 w1 s1 nc1 h1 q1 => ?_⟩
  rw [tf] at q1
  have lw1 := QL.len q1
  refine ⟨c1, w1, rfl, .inl (SqL.of h1), _, 1, rfl, rfl, _, rfl, .ref a, tt, 1, rfl, sh0.same s1, Nat.le_trans st0 (Bz_size 1), by omega, fun H2 s2 => ⟨_, _, rfl, ?_⟩⟩
  rw [show (fun i j : Int => V.int (i - j)) ((w1.length : Nat) : Int) 1 = V.int (n : Int) from congrArg V.int (by omega)]
  have s02 := s1.trans s2
  refine ⟨_, rfl, n, 3, rfl, rfl, 1, (n : Int) + 3, rfl, ⟨by omega, by omega, by omega, by omega⟩, for_range (lo := 1) (n := ((n : Int) + 3 - 1).toNat) (fun i σ G => ∃ (o3 o4 o5 : Option V), σ = [some (.ref a), some (.int (n : Int)), some (.str tt), o3, o4, o5] ∧ Same H G)
    ⟨none, none, none, rfl, s02⟩ (fun i σ G hi ⟨o3, o4, o5, e, sm⟩ => ?_) (fun σ G ⟨o3, o4, o5, e, sm⟩ => ?_)⟩
  · subst e
    rw [show (1 : Int) + (i : Int) = ((i + 1 : Nat) : Int) by omega]
    have hP := P0.same sm
    refine ⟨_, rfl, _, rfl, ?_⟩
    dsimp only [tNil]
    by_cases em : n % (i + 1) = 0
    · obtain ⟨kk, en⟩ : ∃ kk, n = kk * (i + 1) := ⟨n / (i + 1), (Nat.div_mul_cancel (Nat.dvd_of_mod_eq_zero em)).symm⟩
      refine root_ok hP h (by omega) en fun v H3 s3 r3 => ?_
      have eI : (((n : Nat) : Int) % ((i + 1 : Nat) : Int)) = 0 := by rw [← Int.natCast_emod, em]; rfl
      have s03 := sm.trans s3
      refine ⟨_, rfl, _, rfl, _, _, rfl, rfl, by omega, rfl, _, rfl, iteT2 (decide_eq_true (congrArg V.int eI)) ?_⟩
      refine ⟨_, rfl, a, us, ff, rfl, .inl (SqL.of (s03 _ _ ha)), hM.same s03, BX, by omega, fun c4 H4 w4 s4 nc4 h4 q4 => ?_⟩
      rw [tf] at q4
      refine ⟨_, rfl, c4, w4, ff, n, i + 1, kk, rfl, h4, ML.of_ql q4, h, en, by omega, fun v2 H5 s5 r5 => ?_⟩
      have s05 := s03.trans (s4.trans s5)
      have m1 : 1 ≤ i + 1 := by omega
      have smh := h.sm_root m1 en
      obtain ⟨lh, th, h0, _⟩ := rootL_co (f := ff) m1
      obtain ⟨_, _, m12⟩ := mkn en m1 n12 n1
      have r35 := r3.to (s4.trans s5)
      obtain ⟨tx, sx1, sx2, sxl⟩ := RpR.both r35 r5 (Same.refl _) (by omega) smh
      have hP5 := P0.same s05
      refine ⟨fun σ' G => σ' = [some (.ref a), some (.int (n : Int)), some (.str tt), some (.int ((i + 1 : Nat) : Int)), some v, some v2] ∧ Same H5 G, ?_, ?_⟩
      · exact ⟨_, rfl, v, tx, 2, rfl, sx1, sxl, by omega, fun H6 s6 => ⟨_, rfl, v2, tx, 2, rfl, sx2.same s6, sxl, by omega, fun H7 s7 => ⟨rfl, _, rfl, iteF2 (by simp) ⟨rfl, s6.trans s7⟩⟩⟩⟩
      rintro _ G5 ⟨rfl, g5⟩
      refine ⟨fun σ' G => σ' = [some (.ref a), some (.int (n : Int)), some (.str tt), some (.int ((i + 1 : Nat) : Int)), some v, some v2] ∧ Same H5 G, ?_, ?_⟩
      · obtain ⟨ok, E, Cc, r⟩ := h.rt m1 en
        rcases r35 with ⟨rfl, no⟩ | ⟨⟨x3, us3, rfl, nx3, hx3, qx3⟩, yes⟩
        · exact ⟨_, rfl, rfl, _, rfl, iteF2 (by simp) (iteF ⟨rfl, g5⟩)⟩
        · obtain ⟨B, bE, bS⟩ := r.by_ lh th m12
          have PX3 : PolyQ C H5 (.ref x3) (rootL ff (i + 1)) := by
            have := ML.poly (C := C) hx3 (ML.of_ql qx3) smh (by omega)
            rwa [trimQ_id (told_len lh (by rw [th]; decide))] at this
          refine ⟨_, rfl, rfl, _, rfl, iteT2 (by simp) ?_⟩
          refine ⟨_, rfl, _, rfl, ?_⟩
          dsimp only [tNil]
          refine self_call (PX3.same g5) m1 m12 lh th h0 r fun a7 us7 H7 s7 n7 h7 q7 => ?_
          refine ⟨_, rfl, .inr ⟨QL.eqv q7 (RatL.same qx3 (g5.trans s7)) h7 ((g5.trans s7) _ _ hx3), fun H8 s8 => ⟨false, rfl, iteF ?_⟩⟩⟩
          have s8' : Same H7 H8 := s8
          have g8 := g5.trans (s7.trans s8')
          refine ⟨_, rfl, _, rfl, .ref a, .ref x3, ff, _, 6, (E : Int), (E : Int), 2 ^ 15, Cc, wkm (i + 1), rfl, hP5.same g8, PX3.same g8, h.t, by omega, B, h.s, bE, bS, by rw [lh]; exact wkm_ok m1 m12, by rw [lf]; exact r.fit m1 en n12 n1 (a := 20) (by decide) (by decide) (by decide) (by decide), by omega, fun v8 H9 ds s9 D o => ?_⟩
          rcases o with ⟨_, d, hd, l⟩ | ⟨a9, us9, rfl, _⟩
          · exact absurd yes (digs_no (by omega) B.told D.dg D.jn ⟨d, hd, l⟩)
          · exact ⟨rfl, _, rfl, iteF2 (decide_eq_false (by intro z; cases z)) ⟨rfl, g8.trans s9⟩⟩
      rintro _ G6 ⟨rfl, g6⟩
      have s06 := s05.trans g6
      refine ⟨_, rfl, _, rfl, a, us, rfl, .inl ⟨SqL.of (s06 _ _ ha), fun p np => ?_⟩⟩
      have sp := same_new (o := .tup us) np
      have hp' : (upd G6 p (.tup us)) p = some (.tup us) := upd_same
      generalize upd G6 p (.tup us) = G7 at *
      refine ⟨by show 1 ≤ sizeLine; decide, fun p2 np2 => ?_⟩
      have sp2 := same_new (o := .tup [V.int 0]) np2
      refine ⟨p, p2, us, [V.int 0], rfl, rfl, SqT.of (sp2 _ _ hp'), SqT.of upd_same, une, by rw [lu, sizeLine_eq]; simp; omega, fun z => (by cases z), fun _ p3 np3 => ⟨rfl, rfl, ?_⟩⟩
      have sp3 := (sp.trans sp2).trans (same_new (o := .tup (us ++ [V.int 0])) np3)
      have P3 : PolyQ C (upd (upd G7 p2 (.tup [V.int 0])) p3 (.tup (us ++ [V.int 0]))) (.ref p3) ff := by
        have := ML.polyT (C := C) (H := upd (upd G7 p2 (.tup [V.int 0])) p3 (.tup (us ++ [V.int 0]))) (a := p3) upd_same ((hM.same (s06.trans sp3)).app ml_zero) (sm_app h.sm fun x hx => by simp at hx; rw [hx]; exact sm_zero) (by rw [List.length_append]; show _ + 1 ≤ 49; omega)
        rwa [trimQ_zero rfl, tf] at this
      generalize upd (upd G7 p2 (.tup [V.int 0])) p3 (.tup (us ++ [V.int 0])) = G8 at *
      refine root_ok P3 h m1 en fun v9 H9 s9 r9 => ?_
      refine ⟨_, rfl, RpR.neo r35 r9 ((g6.trans sp3).trans s9) fun H10 s10 => ⟨false, rfl, iteF ?_⟩⟩
      have s10' : Same H9 H10 := s10
      exact ⟨_, _, _, rfl, ((s06.trans sp3).trans s9).trans s10'⟩
    · refine root_none hP h (by omega) (by omega) em fun H3 s3 => ?_
      have eI : (((n : Nat) : Int) % ((i + 1 : Nat) : Int)) ≠ 0 := fun z => em (by have := Int.natCast_emod n (i + 1); omega)
      have s03 := sm.trans s3
      refine ⟨_, rfl, _, rfl, _, _, rfl, rfl, by omega, rfl, _, rfl, iteF2 (decide_eq_false fun z => eI (V.int.inj z)) ?_⟩
      refine ⟨fun σ' G => σ' = [some (.ref a), some (.int (n : Int)), some (.str tt), some (.int ((i + 1 : Nat) : Int)), some .non, some .non] ∧ Same H3 G, ?_, ?_⟩
      · exact ⟨_, rfl, .non, "None", 2, rfl, .non, by decide, by omega, fun H6 s6 => ⟨_, rfl, .non, "None", 2, rfl, .non, by decide, by omega, fun H7 s7 => ⟨rfl, _, rfl, iteF2 (by simp) ⟨rfl, s6.trans s7⟩⟩⟩⟩
      rintro _ G5 ⟨rfl, g5⟩
      refine ⟨fun σ' G => σ' = [some (.ref a), some (.int (n : Int)), some (.str tt), some (.int ((i + 1 : Nat) : Int)), some .non, some .non] ∧ Same H3 G, ?_, ?_⟩
      · exact ⟨_, rfl, rfl, _, rfl, iteF2 (by simp) (iteF ⟨rfl, g5⟩)⟩
      rintro _ G6 ⟨rfl, g6⟩
      have s06 := s03.trans g6
      refine ⟨_, rfl, _, rfl, a, us, rfl, .inl ⟨SqL.of (s06 _ _ ha), fun p np => ?_⟩⟩
      have sp := same_new (o := .tup us) np
      have hp' : (upd G6 p (.tup us)) p = some (.tup us) := upd_same
      generalize upd G6 p (.tup us) = G7 at *
      refine ⟨by show 1 ≤ sizeLine; decide, fun p2 np2 => ?_⟩
      have sp2 := same_new (o := .tup [V.int 0]) np2
      refine ⟨p, p2, us, [V.int 0], rfl, rfl, SqT.of (sp2 _ _ hp'), SqT.of upd_same, une, by rw [lu, sizeLine_eq]; simp; omega, fun z => (by cases z), fun _ p3 np3 => ⟨rfl, rfl, ?_⟩⟩
      have sp3 := (sp.trans sp2).trans (same_new (o := .tup (us ++ [V.int 0])) np3)
      have P3 : PolyQ C (upd (upd G7 p2 (.tup [V.int 0])) p3 (.tup (us ++ [V.int 0]))) (.ref p3) ff := by
        have := ML.polyT (C := C) (H := upd (upd G7 p2 (.tup [V.int 0])) p3 (.tup (us ++ [V.int 0]))) (a := p3) upd_same ((hM.same (s06.trans sp3)).app ml_zero) (sm_app h.sm fun x hx => by simp at hx; rw [hx]; exact sm_zero) (by rw [List.length_append]; show _ + 1 ≤ 49; omega)
        rwa [trimQ_zero rfl, tf] at this
      generalize upd (upd G7 p2 (.tup [V.int 0])) p3 (.tup (us ++ [V.int 0])) = G8 at *
      refine root_none P3 h (by omega) (by omega) em fun H9 s9 => ?_
      exact ⟨_, rfl, .inl ⟨rfl, rfl, false, rfl, iteF ⟨_, _, _, rfl, (s06.trans sp3).trans s9⟩⟩⟩
  · subst e
    have hP := P0.same sm
    refine ⟨_, rfl, ?_⟩
    dsimp only [tNil, tCons, tC]
    refine root_ok (m := 1) (k := n) hP h (by decide) (by omega) fun v H3 s3 r3 => ?_
    obtain ⟨x3, us3, rfl, nx3, hx3, qx3⟩ := r3.yes (by rw [root_oneL lf n1]; exact of_one h.t)
    rw [root_oneL lf n1] at qx3
    refine ⟨by show 2 ≤ sizeLine; decide, fun cA nA => ?_⟩
    have vA := same_new (o := .lst [V.int 0, V.int 1]) nA
    refine ⟨cA, [V.int 0, V.int 1], intQ [0, 1], rfl, .inl (SqL.of upd_same), mlq [0, 1], (ints_sc (M := 1) (by decide)).bits (by decide) (lb1 (by decide)) (Nat.one_lt_two_pow (by decide)), by show 2 ≤ 200; decide, fun cB HB wB uB nB' hB' qB => ?_⟩
    rw [show intQ [0, 1] = [0, 1] by decide +kernel, trimQ_id told_id] at qB
    refine ⟨QL.eqv (RatL.same qx3 (vA.trans uB)) qB ((vA.trans uB) _ _ hx3) hB', fun HC uC => ⟨true, rfl, iteT ?_⟩⟩
    have uC' : Same HB HC := uC
    have g4 := sm.trans ((s3.trans (vA.trans uB)).trans uC')
    refine ⟨_, rfl, _, rfl, ?_⟩
    dsimp only [tNil]
    refine root_ok (m := n) (k := 1) (P0.same g4) h n1 (by omega) fun v H5 s5 r5 => ?_
    have rw_ := rootL_whole n1 lf h.top
    obtain ⟨x5, us5, rfl, nx5, hx5, qx5⟩ := r5.yes (by rw [rw_]; exact of_bare n1 lf h.top)
    rw [rw_] at qx5
    have g5 := g4.trans s5
    refine ⟨_, rfl, a, us, ff, rfl, g5 _ _ ha, hM.same g5, h.bits, (fun z => by rw [z] at lf; simp at lf), by rw [lf, Nat.add_sub_cancel]; exact h.top, by omega, fun c7 H7 w7 s7 n7 h7 q7 => ?_⟩
    refine ⟨QL.eqv (RatL.same qx5 s7) q7 (s7 _ _ hx5) h7, fun H8 s8 => ⟨true, rfl, iteT ?_⟩⟩
    have s8' : Same H7 H8 := s8
    have g8 := g5.trans (s7.trans s8')
    refine ⟨_, rfl, .ref a, tt, 1, rfl, sh0.same g8, Nat.le_trans st0 (Bz_size 1), by omega, fun H9 s9 => ⟨_, rfl, rfl, ?_⟩⟩
    have := q H9 (g8.trans s9)
    simpa using this
end
end K21

namespace K21
open PySem PySem.Spec PyProof.Rows L2 Fp
section
/-! ### a polynomial of an inner one: its root part is the inner one's bare one -/
theorem prodc_one (c : Rat) (g : Nat → Rat) (n : Nat) : prodc [c] g n = c * g n := by
  rw [prodc_range, sumN_one (m := 0) (by omega) fun j hj ne => by rw [co_out (by simp; omega), Rat.zero_mul]]
  rw [Nat.sub_zero]; rfl
theorem jo_comp {Y g : List Rat} {t c0 : Rat} (e : ∀ j, co Y j = co [c0] j + t * co g j) : ∀ F : List Rat, ∃ F' : List Rat, F'.length = F.length ∧ ∀ n, co (jl Y (osing F)) n = co (jl g (osing F')) n
  | [] => ⟨[], rfl, fun n => rfl⟩
  | x :: F => by
    obtain ⟨F', l, h⟩ := jo_comp e F
    let z : Nat → Rat := fun i => co [x] i + t * co (0 :: F') i + c0 * co F' i
    let Z1 := (List.range (F'.length + 1)).map fun i => co [x] i + t * co (0 :: F') i
    let Z2 := (List.range (F'.length + 1)).map z
    have c1 : ∀ i, co Z1 i = co [x] i + t * co (0 :: F') i := fun i => by
      by_cases hi : i < F'.length + 1
      · exact co_at (by show (List.map _ _)[i]? = _; rw [List.getElem?_map, List.getElem?_range hi]; rfl)
      · rw [co_out (by show (List.map _ _).length ≤ i; rw [List.length_map, List.length_range]; omega), co_out (xs := [x]) (by simp; omega), co_out (xs := 0 :: F') (by simp; omega)]; grind
    have c2 : ∀ i, co Z2 i = co Z1 i + c0 * co F' i := fun i => by
      rw [c1]
      by_cases hi : i < F'.length + 1
      · exact co_at (by show (List.map _ _)[i]? = _; rw [List.getElem?_map, List.getElem?_range hi]; rfl)
      · rw [co_out (by show (List.map _ _).length ≤ i; rw [List.length_map, List.length_range]; omega), co_out (xs := [x]) (by simp; omega), co_out (xs := 0 :: F') (by simp; omega), co_out (xs := F') (by omega)]; grind
    have l1 : Z1.length = F'.length + 1 := by show (List.map _ _).length = _; rw [List.length_map, List.length_range]
    have l2 : Z2.length = F'.length + 1 := by show (List.map _ _).length = _; rw [List.length_map, List.length_range]
    refine ⟨Z2, by rw [l2, l]; rfl, fun n => ?_⟩
    rw [jo_lin g c0 (F'.length + 1) Z1 F' Z2 (by omega) (by omega) (by omega) c2 n, jo_lin g t (F'.length + 1) [x] (0 :: F') Z1 (by simp) (by simp) (by omega) c1 n]
    show co (jl Y ([x] :: osing F)) n = co (jl g [[x]]) n + t * co (jl g ([0] :: osing F')) n + c0 * _
    rw [jl_co, jl_co, jl_co]
    have e1 : prodc Y (co (jl Y (osing F))) n = c0 * co (jl g (osing F')) n + t * prodc g (co (jl g (osing F'))) n := by
      rw [prodc_congr h, prodc_comm Y, prodc_congr e]
      rw [prodc_add, prodc_mul, prodc_comm _ [c0], prodc_one, prodc_comm _ g]
    rw [e1]
    show _ = prodc g (co []) n + _ + _ + _
    rw [prodc_nil_right]
    have e0 : co [(0 : Rat)] n = 0 := by cases n <;> rfl
    rw [e0]; grind
theorem bare_lin {Y : List Rat} {m : Nat} (m1 : 1 ≤ m) (l : Y.length = m + 1) (t : co Y m ≠ 0) (j : Nat) : co Y j = co [co Y 0] j + co Y m * co (bareQ Y) j := by
  obtain ⟨lb, tb, b0, bc⟩ := bareQ_co m1 l t
  by_cases c : j = 0
  · rw [c, b0]; show _ = co Y 0 + _; grind
  · rw [bc j (by omega), co_out (xs := [co Y 0]) (by simp; omega)]; grind
/-- what is made of an inner one -/
structure MadeOf (f Y F : List Rat) (n m k : Nat) : Prop where
  tf : Told f
  lf : f.length = n + 1
  en : n = k * m
  m1 : 1 ≤ m
  k1 : 1 ≤ k
  lY : Y.length = m + 1
  tY : co Y m ≠ 0
  lF : F.length = k + 1
  e : ∀ j, co f j = co (jl Y (osing F)) j
theorem MadeOf.top {f Y F : List Rat} {n m k : Nat} (M : MadeOf f Y F n m k) : co f n ≠ 0 := by
  have := told_top M.tf (fun e => by have := M.lf; rw [e] at this; simp at this)
  rwa [M.lf, Nat.add_sub_cancel] at this
theorem MadeOf.inner {f Y F : List Rat} {n m k : Nat} (M : MadeOf f Y F n m k) : ∃ F' : List Rat, F'.length = k + 1 ∧ ∀ j, co f j = co (jl (bareQ Y) (osing F')) j := by
  obtain ⟨F', l, h⟩ := jo_comp (bare_lin M.m1 M.lY M.tY) F
  exact ⟨F', by rw [l, M.lF], fun j => by rw [M.e, h]⟩
theorem MadeOf.root {f Y F : List Rat} {n m k : Nat} (M : MadeOf f Y F n m k) : rootL f m = bareQ Y ∧ Of f (bareQ Y) := by
  obtain ⟨F', l, h⟩ := M.inner
  obtain ⟨lb, tb, b0, bc⟩ := bareQ_co M.m1 M.lY M.tY
  exact ⟨rootL_made M.m1 M.k1 M.en M.lf M.top lb tb b0 l h, trimQ F', trimQ_told _, fun j => by rw [h, jo_trim]⟩
/-- with another number below its highest ones -/
theorem MadeOf.near {f Y F f2 : List Rat} {n m k s : Nat} {c : Rat} (M : MadeOf f Y F n m k) (hs : s + m ≤ n) (e2 : ∀ j, co f2 j = co f j + single s c j) (l2 : f2.length = n + 1) : rootL f2 m = bareQ Y := by
  obtain ⟨F', l, h⟩ := M.inner
  obtain ⟨lb, tb, b0, bc⟩ := bareQ_co M.m1 M.lY M.tY
  have m1 := M.m1
  have en := M.en
  have hi : ∀ j, n < j + m → co f2 j = co f j := fun j hj => by
    rw [e2]; unfold single; rw [if_neg (by omega)]; grind
  refine rootL_is (c := co F' k) m1 M.k1 en l2 (by rw [hi n (by omega)]; exact M.top) lb tb b0 fun i hi' => ?_
  rw [hi _ (by omega), h, jl_top lb m1 F' k l _ (by have := Nat.le_mul_of_pos_left m M.k1; omega)]
theorem MadeOf.plus {f Y F f2 : List Rat} {n m k : Nat} {c : Rat} (M : MadeOf f Y F n m k) (e2 : ∀ j, co f2 j = co f j + single 0 c j) : Of f2 (bareQ Y) := by
  obtain ⟨F', l, h⟩ := M.inner
  obtain ⟨F2, _, d⟩ := jl_more (bareQ Y) F' 1 c 0
  refine ⟨trimQ F2, trimQ_told _, fun j => ?_⟩
  rw [jo_trim, d, e2, h]
  have : single 0 c j = c * co (powQ (bareQ Y) 0) j := by
    show _ = c * co [1] j
    unfold single
    cases j with
    | zero => rw [if_pos rfl]; show c = c * 1; grind
    | succ j => rw [if_neg (by omega), co_out (xs := [1]) (by simp)]; grind
  rw [this]; grind
theorem MadeOf.bent {f Y F f2 : List Rat} {n m k s : Nat} {c : Rat} (M : MadeOf f Y F n m k) (c0 : c ≠ 0) (hs : s % m ≠ 0) (e2 : ∀ j, co f2 j = co f j + single s c j) : ¬ Of f2 (bareQ Y) := fun ⟨G, tG, eG⟩ => by
  obtain ⟨F', l, h⟩ := M.inner
  obtain ⟨lb, tb, b0, bc⟩ := bareQ_co M.m1 M.lY M.tY
  have tB : Told (bareQ Y) := told_len lb (by rw [tb]; decide)
  refine hs ?_
  have := no_outer (Y := bareQ Y) (zs := F') (ds := tsing G) (c := c) (m := s) (by have := M.m1; omega) tB c0 (jl_sing_len (by have := M.m1; omega) tG) (fun j => by rw [jl_ts, ← eG, e2, h]) (ts_one G)
  rwa [lb, Nat.add_sub_cancel] at this
def bJ : Nat → Nat
  | 0 => 0
  | n + 1 => 10 * bJ n + 12
theorem jo_sc {Y : List Rat} (sY : AllS 1 2 Y) (lY : Y.length ≤ 5) : ∀ F : List Rat, AllS 6 12 F → ∀ n, Fp.Sc 6 (bJ F.length) (co (jl Y (osing F)) n)
  | [], _, n => Fp.Sc.zero
  | x :: F, sF, n => by
    have ih := jo_sc sY lY F fun z hz => sF z (List.mem_cons_of_mem _ hz)
    show Fp.Sc 6 (10 * bJ F.length + 12) (co (jl Y ([x] :: osing F)) n)
    rw [jl_co]
    refine Fp.Sc.add ?_ ?_
    · unfold prodc
      have := sumN_sc (n := Y.length) (f := fun i => co Y i * sh i (co (jl Y (osing F))) n) (D := 6) (M := 2 * bJ F.length) fun i _ => by
        have h2 : Fp.Sc 6 (bJ F.length) (sh i (co (jl Y (osing F))) n) := by
          unfold sh
          split
          · exact Fp.Sc.zero
          · exact ih _
        have := (sY.co i).mul h2
        rwa [Int.one_mul] at this
      refine this.mono ?_
      have := Nat.mul_le_mul_right (2 * bJ F.length) lY
      omega
    · have s1 : AllS 6 12 [x] := fun z hz => sF z (by rw [List.mem_singleton.mp hz]; exact List.mem_cons_self)
      exact s1.co n
theorem MadeOf.lw {f Y F : List Rat} {n m k : Nat} (M : MadeOf f Y F n m k) (sY : AllS 1 2 Y) (lY : Y.length ≤ 5) (sF : AllS 6 12 F) (k3 : k ≤ 3) : Lw f n := by
  have lY' := M.lY
  have m1 := M.m1
  have k1 := M.k1
  have b : bJ F.length ≤ 2 ^ 15 := by
    rw [M.lF]
    have : ∀ k, k < 4 → bJ (k + 1) ≤ 2 ^ 15 := by decide
    exact this k (by omega)
  exact ⟨M.tf, AllS.of_co fun j => by rw [M.e]; exact (jo_sc sY lY F sF j).mono b, M.lf, by rw [M.en]; exact Nat.le_trans m1 (Nat.le_mul_of_pos_left m k1), by rw [M.en]; exact Nat.mul_le_mul k3 (show m ≤ 4 by omega)⟩
/-- it is made so, and trimmed -/
theorem made_of {Y F : List Rat} {m k : Nat} (m1 : 1 ≤ m) (k1 : 1 ≤ k) (lY : Y.length = m + 1) (tY : co Y m ≠ 0) (lF : F.length = k + 1) (tF : co F k ≠ 0) {f : List Rat} (tf : Told f) (e : ∀ j, co f j = co (jl Y (osing F)) j) : MadeOf f Y F (k * m) m k := by
  have tFt : Told F := told_len lF tF
  have F0 : F ≠ [] := fun z => by rw [z] at lF; simp at lF
  have l := jo_len (Y := Y) (by omega) (told_len lY tY) F tFt F0
  have ef : f = jl Y (osing F) := told_ext tf (jl_told _ _) e
  refine ⟨tf, ?_, rfl, m1, k1, lY, tY, lF, e⟩
  rw [ef, l, lF, lY, Nat.add_sub_cancel, Nat.add_sub_cancel]
theorem MadeOf.lw_near {f Y F f2 : List Rat} {n m k s : Nat} {c : Rat} (M : MadeOf f Y F n m k) (sY : AllS 1 2 Y) (lY : Y.length ≤ 5) (sF : AllS 6 12 F) (k3 : k ≤ 3) (sc : Fp.Sc 6 100 c) (hs : s + m ≤ n) (e2 : ∀ j, co f2 j = co f j + single s c j) (l2 : f2.length = n + 1) : Lw f2 n := by
  have h := M.lw sY lY sF k3
  have m1 := M.m1
  have b : bJ F.length ≤ 15000 := by
    rw [M.lF]
    have : ∀ k, k < 4 → bJ (k + 1) ≤ 15000 := by decide
    exact this k (by omega)
  refine ⟨told_len l2 ?_, AllS.of_co fun j => ?_, l2, h.n1, h.n12⟩
  · rw [e2]; unfold single; rw [if_neg (by omega), Rat.add_zero]; exact h.top
  · rw [e2, M.e]
    refine ((jo_sc sY lY F sF j).add (N := 100) ?_).mono (by omega)
    unfold single
    split
    · exact sc
    · exact Fp.Sc.zero
theorem plus_near {f ys : List Rat} {s n m : Nat} (c : Rat) (lf : f.length = n + 1) (ey : ∀ j, co ys j = single s 1 j) (ly : ys.length = s + 1) (hs : s + m ≤ n) (m1 : 1 ≤ m) (t : co f n ≠ 0) : trimQ (plusQ c f ys) = plusQ c f ys ∧ (plusQ c f ys).length = n + 1 ∧ ∀ j, co (plusQ c f ys) j = co f j + single s c j := by
  have e : ∀ j, co (plusQ c f ys) j = co f j + single s c j := fun j => by
    rw [plusQ_co, ey]
    unfold single
    split <;> grind
  have l : (plusQ c f ys).length = n + 1 := by rw [plusQ_len]; omega
  refine ⟨trimQ_id (told_len l ?_), l, e⟩
  rw [e]; unfold single; rw [if_neg (by omega), Rat.add_zero]; exact t
theorem one_single (j : Nat) : co [(1 : Rat)] j = single 0 1 j := by
  unfold single
  cases j with
  | zero => rfl
  | succ j => rw [if_neg (by omega), co_out (by simp)]
theorem lw_int {ns : List Int} {z : Int} {n : Nat} (l : ns.length = n) (h : ∀ x ∈ ns ++ [z], x.natAbs ≤ 2) (z0 : z ≠ 0) (n1 : 1 ≤ n) (n12 : n ≤ 12) : Lw (intQ (ns ++ [z])) n := by
  have lq : (intQ (ns ++ [z])).length = n + 1 := by unfold intQ; rw [List.length_map, List.length_append, l]; rfl
  have S : AllS 1 2 (intQ (ns ++ [z])) := ints_sc h
  refine ⟨told_len lq ?_, fun x hx => ?_, lq, n1, n12⟩
  · have : (intQ (ns ++ [z]))[n]? = some (z : Rat) := by
      unfold intQ
      rw [List.getElem?_map, List.getElem?_append_right (by omega), l, Nat.sub_self]; rfl
    rw [co_at this]
    exact Fp.cast_ne z0
  · have := (S x hx).up 6 (by decide)
    rw [Int.one_mul] at this
    exact this.mono (by decide)
end
end K21

namespace K21
open PySem PySem.Spec PyProof.Rows L2 Fp
section
variable {P : Program} {w : World} {K : PySem.W.Frag} {mg : Str → Option Value} {base : Heap} {k : Nat} {C fI fR : Addr}
theorem lb2 {n : Nat} (h : 2 ≤ n) {e : Int} (l : e.natAbs ≤ 2) : LbI n e := Nat.lt_of_le_of_lt l (Nat.lt_of_lt_of_le (show 2 < 2 ^ 2 by decide) (Nat.pow_le_pow_right (by decide) h))
theorem put_ok {H : Hp} {Q : VK} {Ex : L2.XK} {a b : Addr} {gs ws : List V} {xs ys : List Rat} {D E : Int} {M N : Nat} (ha : H a = some (.lst gs)) (mx : ML C H gs xs) (hb : Sq K H b ws) (my : ML C H ws ys) (d0 : D ≠ 0) (dl : LbI 100 D) (hM : M < 2 ^ 200) (E0 : E ≠ 0) (E2 : E.natAbs ≤ 2) (N8 : N ≤ 8) (y0 : 0 < ys.length) (sy : AllS E N ys) (sx : AllS D M xs) (l : xs.length * ys.length ≤ 99) (lx : xs.length ≤ 16)
    (q : ∀ c H' zs, Same H H' → H c = none → H' c = some (.lst zs) → ML C H' zs (jw ys (osing xs)) → Q (.ref c) H') : sp_law_put_in K C [.ref a, .ref b] H Q Ex := by
  obtain ⟨p1, p2, p3⟩ := put_fit d0 (dl.mono (by decide)) (lt_pow hM (by decide)) E0 E2 N8 y0 sy sx l lx
  exact ⟨a, b, gs, ws, xs, ys, D, E, M, N, rfl, ha, mx, hb, my, sy, y0, l, ⟨E0, lb2 (by decide) E2, lt_pow (show N < 2 ^ 4 by omega) (by decide)⟩, sx.bits d0 (dl.mono (by decide)) (lt_pow hM (by decide)), p1, p2, p3, q⟩
theorem NumQ.keep {p : Addr} {H H' : Hp} {v : V} {x : Rat} (r : NumQ C H v x) (hp : PotOk H p) (k : Keep p H H') : NumQ C H' v x := by
  rcases r with r | ⟨a, e, r⟩
  · exact .inl r
  · exact .inr ⟨a, e, RQ.keep r hp k⟩
theorem ML.keep {p : Addr} {H H' : Hp} {us : List V} {xs : List Rat} (r : ML C H us xs) (hp : PotOk H p) (k : Keep p H H') : ML C H' us xs := ⟨r.1, fun i v hv => let ⟨x, h1, h2⟩ := r.2 i v hv; ⟨x, h1, NumQ.keep h2 hp k⟩⟩
theorem single_more (m n : Nat) : co (List.replicate m 0 ++ [1]) n = single m 1 n := by
  rw [co_append, List.length_replicate]
  unfold single
  by_cases h : n < m
  · rw [if_pos h, if_neg (by omega)]
    unfold co
    rw [List.getD_eq_getElem?_getD, List.getElem?_replicate, if_pos h]; rfl
  · rw [if_neg h]
    by_cases e : n = m
    · subst e; rw [Nat.sub_self, if_pos rfl]; rfl
    · rw [if_neg e, co_out (by simp; omega)]
def sp_law_right (K : PySem.W.Frag) : Sp := fun vs H Q _ => ∃ p : Addr, vs = [.ref p] ∧ PotOk H p ∧ ∀ H', Keep p H H' → Q (.bl true) H'
-- slots: pot 0, inner 1, first 2, poly 3, many 4, spot 5, bent 6, at 7; cells: pot
abbrev s_law_right : Stmt := top 52
abbrev N_law_right : List Str := ["pot", "inner", "first", "poly", "many", "spot", "bent", "at"]
theorem sc_law_right : FnScope N_law_right ["pot"] (defScope s_law_right) := ⟨rfl, rfl, rfl, by decide +kernel, rfl, by decide +kernel, by decide +kernel⟩
theorem d_law_right (B : Bnd K mg "_law_right" s_law_right) (M : Mg2 mg) (R : RCls K mg C fI fR) {kr : Nat} (RD : RDef P w K mg base kr C) (DQ : RDefQ P w K mg base kr C) (EX : EqX P w K mg base kr C) (hk : kr + 8 ≤ k) (D_root_part : Def P w K mg base k "root_part" s_root_part ["poly", "many"] (sp_root_part C)) (D_law_draw : Def P w K mg base k "_law_draw" sDraw ["pot", "many"] spDraw) (D_law_pick : Def P w K mg base k "_law_pick" sPick ["pot", "some"] spPick) (D_law_plus : Def P w K mg base k "_law_plus" s_law_plus ["one", "other", "number"] (sp_law_plus K C)) (D_law_told : Def P w K mg base k "_law_told" s_law_told ["poly"] (sp_law_told K C)) (D_law_put_in : Def P w K mg base k "_law_put_in" s_law_put_in ["poly", "inner"] (sp_law_put_in K C)) (D_law_poly : Def P w K mg base k "_law_poly" s_law_poly ["pot", "degree"] (sp_law_poly K)) (D_law_bare : Def P w K mg base k "_law_bare" s_law_bare ["poly"] (sp_law_bare C)) (D_law_poly_right : DefG P w K mg base k "_law_poly_right" s_law_poly_right ["poly"] (sp_law_pr C)) : DefG P w K mg base (k + 1) "_law_right" s_law_right ["pot"] (sp_law_right K) := by
  refine defG_of B sc_law_right (by rintro _ _ _ _ ⟨p, rfl, _⟩; rfl) (fun _ _ _ _ _ _ us hl => match us, hl with | [_], _ => rfl) fun f cdv A outer s H vs Q E hgd hr h => ?_
  obtain ⟨p, rfl, hp, q⟩ := h
  have hu := hr.units
  have hg2 : (A.deeper (envOfC "_law_right" (defScope s_law_right) s.heap.objs.size f cdv)).guards = some [] := hgd
  refine ⟨_, pss_cons (ps_set (i := 1) sc_law_right.nd rfl (.inl rfl) (pe_d D_law_poly hr (by rfl) (pa_cons (pv 0) (pa_cons (pe_op op_add pe_int (pe_d D_law_draw hr (by rfl) (pa_cons (pv 0) (pa_cons pe_int pa_nil)))) pa_nil))))
    (pss_cons (ps_set (i := 2) sc_law_right.nd rfl (.inl rfl) (pe_op op_cat (pe_lc (own := [("at", 7)]) (g := (gName 7)) (tt := tYes) (te := (tD _ (tCons (tVar 0) (tCons (tLst (tCons (tC (.int 0)) (tCons (tC (.int 1)) (tCons (tUn _ (tC (.int 1))) (tCons (tRatQ C (tCons (tC (.int 1)) (tCons (tC (.int 2)) tNil))) tNil))))) tNil)))) rfl sc_law_right.nd (pi_range1 (by rfl) M.range (pa_cons (pe_d D_law_draw hr (by rfl) (pa_cons (pv 0) (pa_cons pe_int pa_nil))) pa_nil)) (blkOk_by (own := [("at", 7)]) (N := N_law_right) (sc := defScope s_law_right) (by decide +kernel)) (fun _ _ _ _ _ => pg_name (i := 7) sc_law_right.nd rfl (.inl rfl)) (fun _ _ _ _ _ => pts_nil) (fun _ _ _ _ _ => pe_d D_law_pick hr (by rfl) (pa_cons (pv 0) (pa_cons (pe_lst (pa_cons pe_int (pa_cons pe_int (pa_cons (pe_un un_neg pe_int) (pa_cons (pe_ratQ DQ (hr.mono (by omega)) (by rfl) (pa_cons pe_int (pa_cons pe_int pa_nil))) pa_nil))))) pa_nil)))) (pe_lst (pa_cons pe_int pa_nil))))
    (pss_cons (ps_set (i := 2) sc_law_right.nd rfl (.inl rfl) (pe_op op_cat (pv 2) (pe_lst (pa_cons (pe_d D_law_pick hr (by rfl) (pa_cons (pv 0) (pa_cons (pe_lst (pa_cons pe_int (pa_cons (pe_un un_neg pe_int) (pa_cons (pe_ratQ DQ (hr.mono (by omega)) (by rfl) (pa_cons pe_int (pa_cons pe_int pa_nil))) pa_nil)))) pa_nil))) pa_nil))))
    (pss_cons (ps_par (i := 3) (j := 4) rfl sc_law_right.nd rfl rfl (by decide) rfl rfl (pa_cons (pe_d D_law_told hr (by rfl) (pa_cons (pe_d D_law_put_in hr (by rfl) (pa_cons (pv 2) (pa_cons (pv 1) pa_nil))) pa_nil)) (pa_cons (pe_op op_sub (pe_callB call_len_seq (by rfl) M.len boot_len (pa_cons (pv 1) pa_nil)) pe_int) pa_nil)) (by rfl))
    (C8.pss_cut (ps_if (PW.pt (pw_or (pt_cmpR (op_neO EX (hr.mono (by omega))) (pe_d D_root_part hr (by rfl) (pa_cons (pv 3) (pa_cons (pv 4) pa_nil))) (pe_d D_law_bare hr (by rfl) (pa_cons (pv 1) pa_nil)) (nomark _)) (pw_or1 (pt_cmpR (op_neO EX (hr.mono (by omega))) (pe_d D_root_part hr (by rfl) (pa_cons (pe_d D_law_plus hr (by rfl) (pa_cons (pv 3) (pa_cons (pe_lst (pa_cons pe_int pa_nil)) (pa_cons (pe_ratQ DQ (hr.mono (by omega)) (by rfl) (pa_cons pe_int (pa_cons pe_int pa_nil))) pa_nil)))) (pa_cons (pv 4) pa_nil))) (pe_d D_law_bare hr (by rfl) (pa_cons (pv 1) pa_nil)) (nomark _)))))
      (pss_one (ps_ret pe_bl))
      (pss_nil))
    (C8.pss_cut (ps_if (PW.pt (pw_or (pt_not (pt_val (pe_dG D_law_poly_right hg2 hr (by rfl) (pa_cons (pv 3) pa_nil)))) (pw_or1 (pt_not (pt_val (pe_dG D_law_poly_right hg2 hr (by rfl) (pa_cons (pe_d D_law_poly hr (by rfl) (pa_cons (pv 0) (pa_cons (pe_op op_add pe_int (pe_d D_law_draw hr (by rfl) (pa_cons (pv 0) (pa_cons pe_int pa_nil)))) pa_nil))) pa_nil)))))))
      (pss_one (ps_ret pe_bl))
      (pss_nil))
    (pss_cons (ps_set (i := 5) sc_law_right.nd rfl (.inl rfl) (pe_op op_add pe_int (pe_d D_law_draw hr (by rfl) (pa_cons (pv 0) (pa_cons (pe_callB (call_max2 rfl) (by rfl) M.max (by decide +kernel) (pa_cons pe_int (pa_cons (pe_op op_sub (pe_op op_sub (pe_callB call_len_seq (by rfl) M.len boot_len (pa_cons (pv 3) pa_nil)) pe_int) (pv 4)) pa_nil))) pa_nil)))))
    (C8.pss_cut (ps_if (PW.pt (pw_and (pt_cmpR op_gt (pv 4) pe_int (nomark _)) (pw_and (pt_cmpR op_ne (pe_op op_mod (pv 5) (pv 4)) pe_int (nomark _)) (pw_and1 (pt_cmpR op_le (pv 5) (pe_op op_sub (pe_op op_sub (pe_callB call_len_seq (by rfl) M.len boot_len (pa_cons (pv 3) pa_nil)) pe_int) (pv 4)) (nomark _))))))
      (pss_cons (ps_set (i := 6) sc_law_right.nd rfl (.inl rfl) (pe_d D_law_plus hr (by rfl) (pa_cons (pv 3) (pa_cons (pe_op op_cat (pe_op op_rep (pe_lst (pa_cons pe_int pa_nil)) (pv 5)) (pe_lst (pa_cons pe_int pa_nil))) (pa_cons (pe_d D_law_pick hr (by rfl) (pa_cons (pv 0) (pa_cons (pe_lst (pa_cons pe_int (pa_cons (pe_un un_neg pe_int) (pa_cons (pe_ratQ DQ (hr.mono (by omega)) (by rfl) (pa_cons pe_int (pa_cons pe_int pa_nil))) pa_nil)))) pa_nil))) pa_nil)))))
      (pss_one (ps_if (pt_cmpR op_notN (pe_d D_root_part hr (by rfl) (pa_cons (pv 6) (pa_cons (pv 4) pa_nil))) pe_non (nomark _))
        (pss_one (ps_ret pe_bl))
        (pss_nil))))
      (pss_nil))
    (pss_one (ps_ret (pe_cmpR (op_eq1 EX (hr.mono (by omega))) (pe_d D_root_part hr (by rfl) (pa_cons (pe_lst (pa_cons (pe_d D_law_draw hr (by rfl) (pa_cons (pv 0) (pa_cons pe_int pa_nil))) (pa_cons (pe_ratQ DQ (hr.mono (by omega)) (by rfl) (pa_cons pe_int (pa_cons pe_int pa_nil))) pa_nil))) (pa_cons pe_int pa_nil))) (pe_d D_law_told hr (by rfl) (pa_cons (pe_lst (pa_cons pe_int (pa_cons pe_int pa_nil))) pa_nil)) (nomark _))))))))))), ?_⟩
  have pS : p ∈ [p] := by simp
  refine ⟨_, rfl, _, rfl, p, 4, rfl, hp, by omega, by omega, fun d H0 d0 d1 hp0 k0 => ⟨1, d, rfl, rfl, p, 1 + d, rfl, hp0, by omega, by omega, fun a1 H1 nsI zI hp1 k1 na1 ha1 lI bI zI0 => ?_⟩⟩
  have kA := k0.trans k1
  have ne1 : a1 ≠ p := pot_ne hp0 na1
  have bI2 : ∀ z ∈ nsI ++ [zI], z.natAbs ≤ 2 := fun z hz => by have := bI z hz; omega
  have lzI : (nsI ++ [zI]).length = nsI.length + 1 := by rw [List.length_append]; rfl
  obtain ⟨m, em⟩ : ∃ m, m = nsI.length := ⟨_, rfl⟩
  have m1 : 1 ≤ m := by omega
  have m4 : m ≤ 4 := by omega
  have lY : (intQ (nsI ++ [zI])).length = m + 1 := by rw [em, List.length_map]; exact lzI
  have tY : co (intQ (nsI ++ [zI])) m ≠ 0 := by
    have : (intQ (nsI ++ [zI]))[m]? = some (zI : Rat) := by
      unfold intQ
      rw [List.getElem?_map, List.getElem?_append_right (by omega), em, Nat.sub_self]; rfl
    rw [co_at this]
    exact Fp.cast_ne zI0
  have S2 : AllS 1 2 (intQ (nsI ++ [zI])) := ints_sc bI2
  have lv1 : (VI (nsI ++ [zI])).length = m + 1 := by rw [vi_len, lzI, em]
  have mI : ∀ {G : Hp}, ML C G (VI (nsI ++ [zI])) (intQ (nsI ++ [zI])) := fun {G} => mlq _
  clear bI
  generalize nsI ++ [zI] = zsI at *
  have y5 : (intQ zsI).length ≤ 5 := by omega
  have LB2 : LbI 8990 2 := lb2 (by decide) (by decide)
  have LB3 : LbI 8990 3 := Nat.lt_of_lt_of_le (show 3 < 2 ^ 2 by decide) (Nat.pow_le_pow_right (by decide) (by decide))
  refine ⟨_, rfl, p, 3, rfl, hp1, by omega, by omega, fun dd G1 f0 f1 hpG1 kG1 => ⟨dd, rfl, by omega, by omega, fun D nD => ?_⟩⟩
  have neD : D ≠ p := pot_ne hpG1 nD
  refine lc_it (walk_range (lo := 0) (n := dd.toNat)) (fun j G' => ∃ (acc : List V) (xs : List Rat), G' D = some (.lst acc) ∧ ML C (wos [p, D] G') acc xs ∧ xs.length = j ∧ AllS 6 12 xs ∧ PotOk G' p ∧ Keep p G1 G') ⟨[], [], upd_same, ML.nil, rfl, fun x hx => (by cases hx), hpG1.same (same_new nD), Keep.of (same_new nD)⟩ (fun _ _ _ _ => True.intro) (fun j x G' G2 hj pv y => ?_) (fun G' pv => ?_)
  · obtain ⟨acc, xs, hD, hM, lx, sx, hpp, kk⟩ := pv
    obtain ⟨rfl, rfl⟩ := y
    refine ⟨rfl, _, rfl, 1, rfl, 1, 2, rfl, by decide, LB2, fun r1 H4 n4 s4 q4 => ⟨by show 4 ≤ sizeLine; decide, fun L nL => ?_⟩⟩
    have sL := same_new (o := .lst [V.int 0, V.int 1, V.int (-1), V.ref r1]) nL
    have h46 := s4.trans sL
    refine ⟨p, L, _, rfl, hpp.same h46, upd_same, pot_ne (hpp.same s4) nL, by show 1 ≤ 4; decide, by show 4 ≤ 1000; decide, fun x H6 hx hp6 k6 => ?_⟩
    have kT : Keep p _ H6 := (Keep.of h46).trans k6
    have hD6 := kT _ _ neD hD
    have L6 : Lsts [p, D] H6 := lsts2 hp6.lst ⟨_, hD6⟩
    obtain ⟨z, hz, sz⟩ : ∃ z : Rat, NumQ C H6 x z ∧ Sc 6 12 z := by
      have r1' := RQ.keep (q4.same sL) (hpp.same h46) k6
      simp only [List.mem_cons, List.not_mem_nil, or_false] at hx
      rcases hx with e | e | e | e
      · exact ⟨_, by rw [e]; exact NumQ.int, ⟨0, by decide +kernel, by decide⟩⟩
      · exact ⟨_, by rw [e]; exact NumQ.int, ⟨6, by decide +kernel, by decide⟩⟩
      · exact ⟨_, by rw [e]; exact NumQ.int, ⟨-6, by decide +kernel, by decide⟩⟩
      · exact ⟨_, by rw [e]; exact r1'.nq, ⟨3, by decide +kernel, by decide⟩⟩
    refine ⟨acc, hD6, by rw [hM.1]; exact small (by omega), acc ++ [x], xs ++ [z], upd_same, ?_, by rw [List.length_append, lx]; rfl, fun y hy => ?_, hp6.upd neD, K21.Keep.upd (kk.trans kT) nD⟩
    · rw [wos_upd (by simp)]
      exact (hM.same (wos_keep (by simp) kT)).snoc (NumQ.wos hz L6)
    · rcases List.mem_append.mp hy with h | h
      · exact sx y h
      · rw [List.mem_singleton.mp h]; exact sz
  obtain ⟨gsX, xs, hX, hM, lx, sx, hpG, kk⟩ := pv
  have hA := (kG1.trans kk) _ _ ne1 ha1
  have kA := kA.trans (kG1.trans kk)
  have hM := hM.same wos_le
  have lx3 : xs.length ≤ 2 := by omega
  clear kk kG1 hpG1 f0 f1 lx hp1 ha1
  refine ⟨by show 1 ≤ sizeLine; decide, fun c1 nc1 => ⟨D, c1, gsX, [.int 0], rfl, rfl, (same_new nc1) _ _ hX, upd_same, by rw [hM.1, sizeLine_eq]; simp; omega, fun c2 nc2 => ?_⟩⟩
  have g2 := (same_new (o := .lst [V.int 0]) nc1).trans (same_new (o := .lst (gsX ++ [V.int 0])) nc2)
  have hX2 : (upd (upd G' c1 (.lst [V.int 0])) c2 (.lst (gsX ++ [V.int 0]))) c2 = some (.lst (gsX ++ [V.int 0])) := upd_same
  have hpG2 := hpG.same g2
  have hA2 := g2 _ _ hA
  have kA2 := kA.trans (Keep.of (p := p) g2)
  have hM2 := (hM.same g2).app ml_zero
  have ne2 : c2 ≠ p := pot_ne (hpG.same (same_new nc1)) nc2
  generalize upd (upd G' c1 (.lst [V.int 0])) c2 (.lst (gsX ++ [V.int 0])) = G2 at *
  clear hA hX hM kA hpG g2
  refine ⟨_, rfl, _, rfl, 2, rfl, 2, 3, rfl, by decide, LB3, fun r1 H4 n4 s4 q4 => ⟨by show 3 ≤ sizeLine; decide, fun L nL => ?_⟩⟩
  have sL := same_new (o := .lst [V.int 1, V.int (-2), V.ref r1]) nL
  have h46 := s4.trans sL
  refine ⟨p, L, _, rfl, hpG2.same h46, upd_same, pot_ne (hpG2.same s4) nL, by show 1 ≤ 3; decide, by show 3 ≤ 1000; decide, fun x H6 hx hp6 k6 => ?_⟩
  have kT : Keep p G2 H6 := (Keep.of h46).trans k6
  obtain ⟨z, hz, sz, z0⟩ : ∃ z : Rat, NumQ C H6 x z ∧ Sc 6 12 z ∧ z ≠ 0 := by
    have r1' := RQ.keep (q4.same sL) (hpG2.same h46) k6
    simp only [List.mem_cons, List.not_mem_nil, or_false] at hx
    rcases hx with e | e | e
    · exact ⟨_, by rw [e]; exact NumQ.int, ⟨6, by decide +kernel, by decide⟩, by decide⟩
    · exact ⟨_, by rw [e]; exact NumQ.int, ⟨-12, by decide +kernel, by decide⟩, by decide⟩
    · exact ⟨_, by rw [e]; exact r1'.nq, ⟨4, by decide +kernel, by decide⟩, by decide +kernel⟩
  have hX6 := kT _ _ ne2 hX2
  have hA6 := kT _ _ ne1 hA2
  have hM6 := ML.keep hM2 hpG2 kT
  have kA6 := kA2.trans kT
  refine ⟨by show 1 ≤ sizeLine; decide, fun c3 nc3 => ⟨c2, c3, _, [x], rfl, rfl, (same_new nc3) _ _ hX6, upd_same, by rw [hM6.1, sizeLine_eq]; simp; omega, fun c4 nc4 => ?_⟩⟩
  have g8 := (same_new (o := .lst [x]) nc3).trans (same_new (o := .lst (gsX ++ [V.int 0] ++ [x])) nc4)
  have hX8 : (upd (upd H6 c3 (.lst [x])) c4 (.lst (gsX ++ [V.int 0] ++ [x]))) c4 = some (.lst (gsX ++ [V.int 0] ++ [x])) := upd_same
  have hp8 := hp6.same g8
  have hA8 := g8 _ _ hA6
  have kA8 := kA6.trans (Keep.of (p := p) g8)
  have hM8 := (hM6.same g8).snoc (hz.same g8)
  generalize upd (upd H6 c3 (.lst [x])) c4 (.lst (gsX ++ [V.int 0] ++ [x])) = H8 at *
  clear hX6 hA6 hM6 kA6 g8 hX2 hA2 hM2 kA2 kT k6 hx
  obtain ⟨kk, ek⟩ : ∃ kk, kk = xs.length + 1 := ⟨_, rfl⟩
  have lF : (xs ++ [0] ++ [z]).length = kk + 1 := by simp; omega
  have tF : co (xs ++ [0] ++ [z]) kk ≠ 0 := by
    rw [co_at (x := z) (by rw [List.getElem?_append_right (by simp; omega)]; simp [ek])]; exact z0
  have sF : AllS 6 12 (xs ++ [0] ++ [z]) := fun y hy => by
    simp only [List.mem_append, List.mem_singleton] at hy
    rcases hy with (e | e) | e
    · exact sx y e
    · rw [e]; exact Fp.Sc.zero
    · rw [e]; exact sz
  generalize xs ++ [0] ++ [z] = F at *
  generalize gsX ++ [V.int 0] ++ [x] = gsF at *
  refine ⟨_, rfl, _, rfl, ?_⟩
  dsimp only [tNil]
  have yp : 0 < (intQ zsI).length := by omega
  have lxy : F.length * (intQ zsI).length ≤ 20 := Nat.mul_le_mul (show _ ≤ 4 by omega) y5
  refine put_ok hX8 hM8 (.inl (SqL.of hA8)) mI (D := 6) (M := 12) (E := 1) (N := 2) (by decide) (lb6 (by decide)) (lt_pow (show 12 < 2 ^ 4 by decide) (by decide)) (by decide) (by decide) (by decide) yp S2 sF (by omega) (by omega) fun e2 H9 w2 s9 n9 h9 m9 => ?_
  have ePX := jw_jo (Y := intQ zsI) (ys := intQ zsI) (fun _ => rfl) F
  have lPX : (jw (intQ zsI) (osing F)).length ≤ 20 := by
    have := jw_len yp (osing_one (xs := F) yp)
    rw [List.length_map] at this
    omega
  have SPX : AllS 6 33909132 (jw (intQ zsI) (osing F)) := jw_small (n := 4) sF S2 (by decide) yp lxy (by omega) (by decide) (by decide)
  refine ⟨e2, w2, _, rfl, .inl (SqL.of h9), m9, SPX.bits (by decide) (lb6 (by decide)) (lt_pow (show 33909132 < 2 ^ 26 by decide) (by decide)), by omega, fun c5 H10 w5 s10 n10 h10 q10 => ?_⟩
  have MO : MadeOf (trimQ (jw (intQ zsI) (osing F))) (intQ zsI) F (kk * m) m kk := made_of m1 (by omega) lY tY lF tF (trimQ_told _) fun j => by rw [trimQ_co, ePX]
  generalize trimQ (jw (intQ zsI) (osing F)) = ff at *
  have lw := MO.lw S2 y5 sF (by omega)
  have g10 := s9.trans s10
  have hp10 := hp8.same g10
  have hA10 := g10 _ _ hA8
  have kA10 := kA8.trans (Keep.of (p := p) g10)
  have n5 : c5 ≠ p := pot_ne (hp8.same s9) n10
  have lw5 := QL.len q10
  clear hX8 hM8 kA8 h9 m9 ePX lPX SPX
  refine ⟨_, rfl, a1, VI zsI, rfl, .inl (SqL.of hA10), _, 1, rfl, rfl, _, _, rfl, ?_⟩
  rw [show (fun i j : Int => V.int (i - j)) (((VI zsI).length : Nat) : Int) 1 = V.int (m : Int) from congrArg V.int (by rw [lv1]; omega)]
  have RT := MO.root
  have lff := lw.l
  have n12 := lw.n12
  have PF : ∀ {G : Hp} {us : List V}, G c5 = some (.lst us) → QL C G us ff → PolyQ C G (.ref c5) ff := fun hG hQ => by
    have := ML.poly (C := C) hG (ML.of_ql hQ) lw.sm (by omega)
    rwa [trimQ_id lw.t] at this
  have BY : AllB 600 (intQ zsI) := S2.bits (by decide) (lb1 (by decide)) (Nat.lt_of_lt_of_le (show 2 < 2 ^ 2 by decide) (Nat.pow_le_pow_right (by decide) (by decide)))
  have bare : ∀ {G : Hp} {Q : VK} {Ex : L2.XK}, G a1 = some (.lst (VI zsI)) → (∀ c H' ws, Same G H' → G c = none → H' c = some (.lst ws) → QL C H' ws (bareQ (intQ zsI)) → Q (.ref c) H') → sp_law_bare C [.ref a1] G Q Ex := fun hG q => ⟨a1, VI zsI, intQ zsI, rfl, hG, mI, BY, (fun z => by rw [z] at lY; simp at lY), by rw [lY, Nat.add_sub_cancel]; exact tY, by omega, q⟩
  refine ⟨fun σ' G' => σ' = [some (.ref p), some (.ref a1), some (.ref c4), some (.ref c5), some (.int (m : Int)), none, none, none] ∧ Same H10 G', ?_, ?_⟩
  · refine ⟨_, rfl, _, rfl, ?_⟩
    dsimp only [tNil]
    refine root_ok (PF h10 q10) lw m1 rfl fun v H11 s11 r11 => ?_
    obtain ⟨x11, us11, rfl, nx, hx11, qx11⟩ := r11.yes (by rw [RT.1]; exact RT.2)
    rw [RT.1] at qx11
    refine ⟨_, rfl, ?_⟩
    dsimp only [tNil]
    refine bare (s11 _ _ hA10) fun c12 H12 w12 s12 n12' h12 q12 => ?_
    refine .inr ⟨QL.eqv (RatL.same qx11 s12) q12 (s12 _ _ hx11) h12, fun H13 s13 => ⟨false, rfl, iteF ?_⟩⟩
    have s13' : Same H12 H13 := s13
    have g13 := s11.trans (s12.trans s13')
    refine ⟨_, rfl, by show 1 ≤ sizeLine; decide, fun L nL => ⟨7, 2, rfl, by decide, LB2, fun r1 H14 n14 s14 q14 => ?_⟩⟩
    have sL := same_new (o := .lst [V.int 1]) nL
    have g14 := g13.trans (sL.trans s14)
    refine ⟨c5, L, w5, [V.int 1], ff, [1], _, _, rfl, q14.nq, Bits.divInt (show (7 : Int).natAbs < 2 ^ 40 by decide) (show (2 : Int).natAbs < 2 ^ 40 by decide) (by decide), .inl (SqL.of (g14 _ _ h10)), .inl (SqL.of (s14 _ _ upd_same)), ML.of_ql (RatL.same q10 g14), ML.one num_one, fun x hx => (lw.bits x hx).mono (by decide), fun y hy => by rw [List.mem_singleton.mp hy]; exact bits_one.mono (by decide), by omega, by show 1 ≤ 200; decide, fun c15 H15 w15 s15 n15 h15 m15 => ?_⟩
    refine ⟨_, rfl, ?_⟩
    dsimp only [tNil]
    have mkm : m ≤ kk * m := Nat.le_mul_of_pos_left m (by omega)
    obtain ⟨t2, l2, e2'⟩ := plus_near (Rat.divInt 7 2) lff one_single rfl (show 0 + m ≤ kk * m by omega) m1 lw.top
    have lw2 := MO.lw_near S2 y5 sF (by omega) (c := Rat.divInt 7 2) ⟨21, by decide +kernel, by decide⟩ (show 0 + m ≤ kk * m by omega) e2' l2
    have P15 : PolyQ C H15 (.ref c15) (plusQ (Rat.divInt 7 2) ff [1]) := by
      have := ML.poly (C := C) h15 m15 lw2.sm (by omega)
      rwa [t2] at this
    have RT2 := MO.near (show 0 + m ≤ kk * m by omega) e2' l2
    refine root_ok P15 lw2 m1 rfl fun v H16 s16 r16 => ?_
    obtain ⟨x16, us16, rfl, _, hx16, qx16⟩ := r16.yes (by rw [RT2]; exact MO.plus e2')
    rw [RT2] at qx16
    have g16 := g14.trans (s15.trans s16)
    refine ⟨_, rfl, ?_⟩
    dsimp only [tNil]
    refine bare (g16 _ _ hA10) fun c17 H17 w17 s17 n17 h17 q17 => ?_
    exact .inr ⟨QL.eqv (RatL.same qx16 s17) q17 (s17 _ _ hx16) h17, fun H18 s18 => ⟨false, rfl, iteF ⟨rfl, (g16.trans s17).trans s18⟩⟩⟩
  rintro _ G2 ⟨rfl, g2⟩
  have hp11 := hp10.same g2
  have hA11 := g2 _ _ hA10
  have h11 := g2 _ _ h10
  have q11 := RatL.same q10 g2
  have kA11 := kA10.trans (Keep.of (p := p) g2)
  clear hA10 h10 q10 kA10 hp10 g2
  refine ⟨fun σ' G' => σ' = [some (.ref p), some (.ref a1), some (.ref c4), some (.ref c5), some (.int (m : Int)), none, none, none] ∧ PotOk G' p ∧ Keep p G2 G', ?_, ?_⟩
  · refine ⟨_, rfl, c5, w5, ff, _, rfl, h11, ML.of_ql q11, lw, fun H12 s12 => ⟨true, rfl, iteF ?_⟩⟩
    refine ⟨_, rfl, _, rfl, p, 6, rfl, hp11.same s12, by omega, by omega, fun d2 H13 d20 d21 hp13 k13 => ⟨1, d2, rfl, rfl, p, 1 + d2, rfl, hp13, by omega, by omega, fun a2 H14 ns2 z2 hp14 k14 na2 ha2 l2 b2 z20 => ?_⟩⟩
    refine ⟨a2, _, _, (1 + d2).toNat, rfl, ha2, mlq _, lw_int (by omega) (fun z hz => by have := b2 z hz; omega) z20 (by omega) (by omega), fun H15 s15 => ⟨true, rfl, iteF ⟨rfl, hp14.same s15, ((Keep.of s12).trans (k13.trans k14)).trans (Keep.of s15)⟩⟩⟩
  rintro _ G3 ⟨rfl, hp12, k12⟩
  have hA12 := k12 _ _ ne1 hA11
  have h12 := k12 _ _ n5 h11
  have q12 := ML.keep (ML.of_ql q11) hp11 k12
  have kA12 := kA11.trans k12
  clear hA11 h11 q11 kA11 k12
  obtain ⟨sp, esp⟩ : ∃ sp : Int, sp = ((w5.length : Nat) : Int) - 1 - (m : Int) := ⟨_, rfl⟩
  refine ⟨_, rfl, _, rfl, c5, w5, rfl, .inl (SqL.of h12), _, 1, rfl, rfl, _, rfl, _, _, rfl, rfl, _, _, rfl, p, _, rfl, hp12, by split <;> omega, by split <;> omega, fun d3 H13 d30 d31 hp13 k13 => ⟨1, d3, rfl, rfl, ?_⟩⟩
  have hA13 := k13 _ _ ne1 hA12
  have h13 := k13 _ _ n5 h12
  have q13 := ML.keep q12 hp12 k13
  have kA13 := kA12.trans k13
  clear hA12 h12 q12 kA12 k13
  refine ⟨fun σ' G' => ∃ o6 : Option V, σ' = [some (.ref p), some (.ref a1), some (.ref c4), some (.ref c5), some (.int (m : Int)), some (.int (1 + d3)), o6, none] ∧ PotOk G' p ∧ Keep p H13 G', ?_, ?_⟩
  · refine ⟨_, rfl, m, 1, rfl, rfl, _, rfl, ite2 (fun z1 => ?_) (fun z1 => iteF ⟨none, rfl, hp13, Keep.of (Same.refl _)⟩)⟩
    refine ⟨_, rfl, _, rfl, _, _, rfl, rfl, by omega, rfl, _, rfl, ite2 (fun z2 => ?_) (fun z2 => iteF ⟨none, rfl, hp13, Keep.of (Same.refl _)⟩)⟩
    refine ⟨_, rfl, _, rfl, c5, w5, rfl, .inl (SqL.of h13), _, 1, rfl, rfl, _, rfl, _, _, rfl, rfl, _, _, rfl, rfl, _, rfl, ite2 (fun z3 => ?_) (fun z3 => ⟨none, rfl, hp13, Keep.of (Same.refl _)⟩)⟩
    have y1 : 1 < (m : Int) := of_decide_eq_true z1
    have y2 : (1 + d3) % (m : Int) ≠ 0 := fun e => by
      rw [Bool.not_eq_true'] at z2
      exact absurd (congrArg V.int e) (of_decide_eq_false z2)
    have y3 : 1 + d3 ≤ ((w5.length : Nat) : Int) - 1 - (m : Int) := of_decide_eq_true z3
    clear z1 z2 z3
    obtain ⟨sn, esn⟩ : ∃ sn : Nat, 1 + d3 = (sn : Int) := ⟨(1 + d3).toNat, by omega⟩
    have hsn : sn + m ≤ kk * m := by omega
    have hsm : sn % m ≠ 0 := fun e => y2 (by rw [esn, ← Int.natCast_emod, e]; rfl)
    refine ⟨_, rfl, by show 1 ≤ sizeLine; decide, fun b0 n0 => ⟨_, rfl, b0, 1 + d3, [.int 0], rfl, rfl, upd_same, by omega, by omega, by rw [sizeLine_eq]; simp only [List.length_cons, List.length_nil]; omega, fun b1 nb1 => ?_⟩⟩
    rw [rep0, esn, Int.toNat_natCast]
    refine ⟨by show 1 ≤ sizeLine; decide, fun b3 n3 => ⟨b1, b3, _, [.int 1], rfl, rfl, (same_new n3) _ _ upd_same, upd_same, by rw [List.length_replicate, sizeLine_eq]; simp only [List.length_cons, List.length_nil]; omega, fun b4 nb4 => ?_⟩⟩
    have sb := ((same_new (o := .lst [V.int 0]) n0).trans (same_new (o := .lst (List.replicate sn (.int 0))) nb1)).trans ((same_new (o := .lst [V.int 1]) n3).trans (same_new (o := .lst (List.replicate sn (.int 0) ++ [.int 1])) nb4))
    have ne4 : b4 ≠ p := pot_ne (((hp13.same (same_new n0)).same (same_new nb1)).same (same_new n3)) nb4
    have hb4 : (upd (upd (upd (upd H13 b0 (.lst [V.int 0])) b1 (.lst (List.replicate sn (.int 0)))) b3 (.lst [V.int 1])) b4 (.lst (List.replicate sn (.int 0) ++ [.int 1]))) b4 = some (.lst (List.replicate sn (.int 0) ++ [.int 1])) := upd_same
    generalize upd (upd (upd (upd H13 b0 (.lst [V.int 0])) b1 (.lst (List.replicate sn (.int 0)))) b3 (.lst [V.int 1])) b4 (.lst (List.replicate sn (.int 0) ++ [.int 1])) = H3 at *
    have hp3 := hp13.same sb
    refine ⟨_, rfl, 1, rfl, 1, 2, rfl, by decide, LB2, fun r1 H4' nr s4 q4 => ⟨by show 3 ≤ sizeLine; decide, fun L nL => ?_⟩⟩
    have sL := same_new (o := .lst [V.int 1, V.int (-1), V.ref r1]) nL
    have h4L := s4.trans sL
    refine ⟨p, L, _, rfl, hp3.same h4L, upd_same, pot_ne (hp3.same s4) nL, by show 1 ≤ 3; decide, by show 3 ≤ 1000; decide, fun x H5 hx hp5 k5 => ?_⟩
    obtain ⟨cc, hc, sc, c0⟩ : ∃ z : Rat, NumQ C H5 x z ∧ Sc 6 100 z ∧ z ≠ 0 := by
      have r1' := RQ.keep (q4.same sL) (hp3.same h4L) k5
      simp only [List.mem_cons, List.not_mem_nil, or_false] at hx
      rcases hx with e | e | e
      · exact ⟨_, by rw [e]; exact NumQ.int, ⟨6, by decide +kernel, by decide⟩, by decide +kernel⟩
      · exact ⟨_, by rw [e]; exact NumQ.int, ⟨-6, by decide +kernel, by decide⟩, by decide +kernel⟩
      · exact ⟨_, by rw [e]; exact r1'.nq, ⟨3, by decide +kernel, by decide⟩, by decide +kernel⟩
    have k35 : Keep p H13 H5 := (Keep.of sb).trans ((Keep.of h4L).trans k5)
    have hb5 := k5 _ _ ne4 (h4L _ _ hb4)
    have h15 := k35 _ _ n5 h13
    have hA15 := k35 _ _ ne1 hA13
    have m15 := ML.keep q13 hp13 k35
    have MR : ML C H5 (List.replicate sn (.int 0) ++ [.int 1]) (List.replicate sn 0 ++ [1]) := (ML.zeros _).app (ML.one num_one)
    have lR : (List.replicate sn (0 : Rat) ++ [1]).length = sn + 1 := by rw [List.length_append, List.length_replicate, List.length_singleton]
    have BR : AllB 4000 (List.replicate sn (0 : Rat) ++ [1]) := fun y hy => by
      rcases List.mem_append.mp hy with h | h
      · rw [(List.mem_replicate.mp h).2]; exact ⟨Nat.two_pow_pos _, lb1 (by decide)⟩
      · rw [List.mem_singleton.mp h]; exact bits_one.mono (by decide)
    refine ⟨c5, b4, w5, _, ff, _, x, cc, rfl, hc, sc.bits (by decide) (show (6 : Int).natAbs < 2 ^ 40 by decide) (by decide), .inl (SqL.of h15), .inl (SqL.of hb5), m15, MR, fun x hx => (lw.bits x hx).mono (by decide), BR, by omega, by omega, fun c6 H6 w6 s6 n6 h6 m6 => ?_⟩
    obtain ⟨t2, l2, e2'⟩ := plus_near cc lff (single_more sn) lR hsn m1 lw.top
    have lw2 := MO.lw_near S2 y5 sF (by omega) sc hsn e2' l2
    have P6 : PolyQ C H6 (.ref c6) (plusQ cc ff (List.replicate sn 0 ++ [1])) := by
      have := ML.poly (C := C) h6 m6 lw2.sm (by omega)
      rwa [t2] at this
    have RT2 := MO.near hsn e2' l2
    refine ⟨_, rfl, _, rfl, ?_⟩
    dsimp only [tNil]
    refine root_ok P6 lw2 m1 rfl fun v H7 s7 r7 => ?_
    rw [RT2] at r7
    rcases r7 with ⟨rfl, _⟩ | ⟨_, yes⟩
    · exact ⟨rfl, _, rfl, iteF2 (by simp) ⟨some (.ref c6), by rw [← esn]; rfl, (hp5.same s6).same s7, k35.trans (Keep.of (s6.trans s7))⟩⟩
    · exact absurd yes (MO.bent c0 hsm e2')
  rintro _ G4 ⟨o6, rfl, hp14, k14⟩
  have kA14 := kA13.trans k14
  refine ⟨_, rfl, p, 5, rfl, hp14, by omega, by omega, fun d5 H15 d50 d51 hp15 k15 => ⟨3, 2, rfl, by decide, LB2, fun r1 H16 n16 s16 q16 => ⟨by show 2 ≤ sizeLine; decide, fun L nL => ?_⟩⟩⟩
  dsimp only [tNil, tCons, tC]
  have sL := same_new (o := .lst [V.int d5, V.ref r1]) nL
  have L5 : Lw [(d5 : Rat), Rat.divInt 3 2] 1 := by
    refine ⟨fun z hz => by obtain rfl := Option.some.inj hz; show Rat.divInt 3 2 ≠ 0; decide +kernel, fun x hx => ?_, rfl, by decide, by decide⟩
    simp only [List.mem_cons, List.not_mem_nil, or_false] at hx
    rcases hx with e | e
    · refine ⟨6 * d5, ?_, by omega⟩
      rw [e, Rat.intCast_mul, show ((6 : Int) : Rat) = 6 from rfl]; grind
    · exact ⟨9, by rw [e]; decide +kernel, by decide⟩
  have PL : PolyQ C (upd H16 L (.lst [V.int d5, V.ref r1])) (.ref L) [(d5 : Rat), Rat.divInt 3 2] := by
    have := ML.poly (C := C) (H := upd H16 L (.lst [V.int d5, V.ref r1])) upd_same ((ML.one (NumQ.int (i := d5))).snoc ((q16.same sL).nq)) L5.sm (by show 2 ≤ 49; decide)
    rwa [show [(d5 : Rat)] ++ [Rat.divInt 3 2] = [(d5 : Rat), Rat.divInt 3 2] from rfl, trimQ_id L5.t] at this
  refine root_ok (m := 1) (k := 1) PL L5 (by decide) rfl fun v H17 s17 r17 => ?_
  obtain ⟨x3, us3, rfl, nx3, hx3, qx3⟩ := r17.yes (by rw [root_oneL L5.l (by decide)]; exact of_one L5.t)
  rw [root_oneL L5.l (by decide)] at qx3
  refine ⟨by show 2 ≤ sizeLine; decide, fun cA nA => ?_⟩
  have vA := same_new (o := .lst [V.int 0, V.int 1]) nA
  refine ⟨cA, [V.int 0, V.int 1], intQ [0, 1], rfl, .inl (SqL.of upd_same), mlq [0, 1], (ints_sc (M := 1) (by decide)).bits (by decide) (lb1 (by decide)) (Nat.one_lt_two_pow (by decide)), by show 2 ≤ 200; decide, fun cB HB wB uB nB' hB' qB => ?_⟩
  rw [show intQ [0, 1] = [0, 1] by decide +kernel, trimQ_id told_id] at qB
  refine ⟨QL.eqv (RatL.same qx3 (vA.trans uB)) qB ((vA.trans uB) _ _ hx3) hB', fun HC uC => ?_⟩
  have uC' : Same HB HC := uC
  exact q HC ((kA14.trans k15).trans (Keep.of ((s16.trans (sL.trans s17)).trans ((vA.trans uB).trans uC'))))
end
end K21

namespace K21
open PySem PySem.Spec PyProof.Rows L2 Fp
section
variable {P : Program} {w : World} {K : PySem.W.Frag} {mg : Str → Option Value} {base : Heap} {k : Nat}
def spLaw (K : PySem.W.Frag) : Sp := fun vs H Q _ => ∃ (a : Addr) (ns : List Int), vs = [.ref a] ∧ SqL K H a (VI ns) ∧ ns.length ≤ 63 ∧ ∀ H', Q (.bl true) H'
abbrev sLaw : Stmt := top 53
theorem sc_law : FnScope ["script"] ["script"] (defScope sLaw) := ⟨rfl, rfl, rfl, by decide +kernel, rfl, by decide +kernel, by decide +kernel⟩
theorem d_law (B : Bnd K mg "law" sLaw) (M : Mg2 mg) (DP : Def P w K mg base k "_law_pot" sPot ["script", "k"] (spPot K)) (DR : DefG P w K mg base k "_law_right" s_law_right ["pot"] (sp_law_right K)) : DefG P w K mg base (k + 1) "law" sLaw ["script"] (spLaw K) := by
  refine defG_of B sc_law (by rintro _ _ _ _ ⟨a, ns, rfl, _⟩; rfl) (fun _ _ _ _ _ _ us hl => match us, hl with | [_], _ => rfl) fun f cdv A outer s H vs Q E hgd hr h => ?_
  obtain ⟨a, ns, rfl, hS, hl, q⟩ := h
  have hg2 : (A.deeper (envOfC "law" (defScope sLaw) s.heap.objs.size f cdv)).guards = some [] := hgd
  refine ⟨_, pss_one (ps_ret (pe_dG DR hg2 hr (by rfl) (pa_cons (pe_d DP hr (by rfl) (pa_cons (pv 0) (pa_cons pe_int pa_nil))) pa_nil))), ?_⟩
  exact ⟨_, rfl, a, ns, 0, rfl, hS, by omega, by omega, fun p H2 s2 np hp => ⟨p, rfl, hp, fun H3 k3 => q H3⟩⟩
end
theorem bnd {K : PySem.W.Frag} {h : Heap} {mg : Str → Option Value} (X : K.In h) (G : h.Ns mainGlobals mg) {x : Str} {st : Stmt} {f : Addr} {oc kV dc pm cd ct : Value} {od an : Option Addr} {sl : Array (Option Value)} (a : PySem.W.nsIn K mainGlobals x = some (some (.ref f)))
    (l : K.lookup f = some ⟨oc, od, .func (PySem.W.fnOf x x (defArgs st) (defBody st) (defScope st) .none kV dc pm an cd ct), sl⟩) (c : PySem.W.codeIn K cd x = true) (k : PySem.W.keepIn K (.ref f) = true) : Bnd K mg x st :=
  ⟨f, _, PySem.W.mg_of X G a, fun_mk (st := st) l c k⟩
theorem cls_mk {K : PySem.W.Frag} {h : Heap} {mg : Str → Option Value} (X : K.In h) (G : h.Ns mainGlobals mg) {C fI fR T p3 f3 p4 f4 p5 f5 f6 u6 f7 u7 f8 u8 f9 f10 : Addr} {od1 an1 od2 an2 od3 an3 od4 an4 od5 an5 od6 an6 od7 an7 od8 an8 odv6 anv6 odv8 anv8 od9 an9 od10 an10 odT : Option Addr} {sl1 sl2 sl3 sl4 sl5 sl6 sl7 sl8 slv6 slv8 sl9 sl10 slT : Array (Option Value)} {oc1 kV1 dc1 pm1 cd1 ct1 oc2 kV2 dc2 pm2 cd2 ct2 oc3 kV3 dc3 pm3 cd3 ct3 oc4 kV4 dc4 pm4 cd4 ct4 oc5 kV5 dc5 pm5 cd5 ct5 oc6 kV6 dc6 pm6 cd6 ct6 oc7 kV7 dc7 pm7 cd7 ct7 oc8 kV8 dc8 pm8 cd8 ct8 ocv6 kVv6 dcv6 pmv6 cdv6 ctv6 ocv8 kVv8 dcv8 pmv8 cdv8 ctv8 oc9 kV9 dc9 pm9 cd9 ct9 oc10 kV10 dc10 pm10 cd10 ct10 ocT : Value} {n : Nat} {tk : Tok} {rest3 rest4 rest5 : List Value} {fo6 ro6 fo7 ro7 fo8 ro8 : Option Value} {pTt gTt : Addr} {odTt anTt : Option Addr} {slTt : Array (Option Value)} {ocTt kVTt dcTt pmTt cdTt ctTt : Value} {restT : List Value}
    (aC : PySem.W.nsIn K mainGlobals "Ratio" = some (some (.ref C)))
    (pg : PySem.W.plainGet K C Str.empty = true)
    (hd : PySem.W.hasDictIn K C = true)
    (po : PySem.W.plainOver K C = true)
    (sa : PySem.W.findIn K (.ref C) "__setattr__" = some (some (.builtin "object.__setattr__")))
    (nT : PySem.W.findIn K (.ref C) "_top" = some none)
    (nB : PySem.W.findIn K (.ref C) "_bottom" = some none)
    (mk : PySem.W.makesIn K C = true)
    (kc : PySem.W.keepIn K (.ref C) = true)
    (a1 : PySem.W.findIn K (.ref C) "__init__" = some (some (.ref fI)))
    (i1 : PySem.W.isFn K (.ref fI) = true)
    (a2 : PySem.W.findIn K (.ref C) "__repr__" = some (some (.ref fR)))
    (i2 : PySem.W.isFn K (.ref fR) = true)
    (isA : PySem.W.findIn K (.ref C) "__class__" = some (some (.builtin "object.__class__")))
    (isN : PySem.W.specialIn K (.builtin "object.__class__") "__get__" = some (some (.builtin "getset_descriptor.__get__")))
    (isT : PySem.W.takesIn K (.builtin "object.__class__") = some true)
    (isM : PySem.W.mroIn K C (.type "object") = some true)
    (kI : PySem.W.kitOne K (.ref C) (.type "int") = some false)
    (kB : PySem.W.kitOne K (.ref C) (.type "bool") = some false)
    (kL : PySem.W.kitOne K (.ref C) (.type "list") = some false)
    (kT : PySem.W.kitOne K (.ref C) (.type "tuple") = some false)
    (l1 : K.lookup fI = some ⟨oc1, od1, .func (PySem.W.fnOf "__init__" "Ratio.__init__" (defArgs s_Ratio___init__) (defBody s_Ratio___init__) (defScope s_Ratio___init__) (.ref T) kV1 dc1 pm1 an1 cd1 ct1), sl1⟩)
    (c1 : PySem.W.codeIn K cd1 "Ratio.__init__" = true)
    (k1 : PySem.W.keepIn K (.ref fI) = true)
    (lT : K.lookup T = some ⟨ocT, odT, .seq #[.int 1 tk] n, slT⟩)
    (l2 : K.lookup fR = some ⟨oc2, od2, .func (PySem.W.fnOf "__repr__" "Ratio.__repr__" (defArgs s_Ratio___repr__) (defBody s_Ratio___repr__) (defScope s_Ratio___repr__) .none kV2 dc2 pm2 an2 cd2 ct2), sl2⟩)
    (c2 : PySem.W.codeIn K cd2 "Ratio.__repr__" = true)
    (k2 : PySem.W.keepIn K (.ref fR) = true)
    (ji : PySem.W.kitOne K (.type "int") (.ref C) = some false)
    (jb : PySem.W.kitOne K (.type "bool") (.ref C) = some false)
    (jn : PySem.W.kitOne K (.type "NoneType") (.ref C) = some false)
    (js : PySem.W.kitOne K (.type "str") (.ref C) = some false)
    (jl : PySem.W.kitOne K (.type "list") (.ref C) = some false)
    (jt : PySem.W.kitOne K (.type "tuple") (.ref C) = some false)
    (jd : PySem.W.kitOne K (.type "dict") (.ref C) = some false)
    (jc : PySem.W.kitOne K (.ref C) (.ref C) = some true)
    (q3 : PySem.W.findIn K (.ref C) "top" = some (some (.ref p3)))
    (g3 : PySem.W.specialIn K (.ref p3) "__get__" = some (some (.builtin "property.__get__")))
    (t3 : PySem.W.takesIn K (.ref p3) = some true)
    (r3 : PySem.W.recIn K p3 "property" = some (.ref f3 :: rest3))
    (l3 : K.lookup f3 = some ⟨oc3, od3, .func (PySem.W.fnOf "top" "Ratio.top" (defArgs s_Ratio_top) (defBody s_Ratio_top) (defScope s_Ratio_top) .none kV3 dc3 pm3 an3 cd3 ct3), sl3⟩)
    (c3 : PySem.W.codeIn K cd3 "Ratio.top" = true)
    (k3 : PySem.W.keepIn K (.ref f3) = true)
    (q4 : PySem.W.findIn K (.ref C) "bottom" = some (some (.ref p4)))
    (g4 : PySem.W.specialIn K (.ref p4) "__get__" = some (some (.builtin "property.__get__")))
    (t4 : PySem.W.takesIn K (.ref p4) = some true)
    (r4 : PySem.W.recIn K p4 "property" = some (.ref f4 :: rest4))
    (l4 : K.lookup f4 = some ⟨oc4, od4, .func (PySem.W.fnOf "bottom" "Ratio.bottom" (defArgs s_Ratio_bottom) (defBody s_Ratio_bottom) (defScope s_Ratio_bottom) .none kV4 dc4 pm4 an4 cd4 ct4), sl4⟩)
    (c4 : PySem.W.codeIn K cd4 "Ratio.bottom" = true)
    (k4 : PySem.W.keepIn K (.ref f4) = true)
    (q5 : PySem.W.findIn K (.ref C) "sign" = some (some (.ref p5)))
    (g5 : PySem.W.specialIn K (.ref p5) "__get__" = some (some (.builtin "property.__get__")))
    (t5 : PySem.W.takesIn K (.ref p5) = some true)
    (r5 : PySem.W.recIn K p5 "property" = some (.ref f5 :: rest5))
    (l5 : K.lookup f5 = some ⟨oc5, od5, .func (PySem.W.fnOf "sign" "Ratio.sign" (defArgs s_Ratio_sign) (defBody s_Ratio_sign) (defScope s_Ratio_sign) .none kV5 dc5 pm5 an5 cd5 ct5), sl5⟩)
    (c5 : PySem.W.codeIn K cd5 "Ratio.sign" = true)
    (k5 : PySem.W.keepIn K (.ref f5) = true)
    (sf : PySem.W.selfFirst K C = true)
    (a6 : PySem.W.findIn K (.ref C) "__add__" = some (some (.ref f6)))
    (i6 : PySem.W.isFn K (.ref f6) = true)
    (ra6 : PySem.W.findIn K (.ref C) "__radd__" = some (some (.ref u6)))
    (h16 : PySem.W.findIn K (.type "int") "__add__" = some fo6)
    (h26 : PySem.W.findIn K (.type "int") "__radd__" = some ro6)
    (hs : PySem.W.subIn K (.type "int") (.ref C) = some false)
    (l6 : K.lookup f6 = some ⟨oc6, od6, .func (PySem.W.fnOf "__add__" "Ratio.__add__" (defArgs s_Ratio___add__) (defBody s_Ratio___add__) (defScope s_Ratio___add__) .none kV6 dc6 pm6 an6 cd6 ct6), sl6⟩)
    (c6 : PySem.W.codeIn K cd6 "Ratio.__add__" = true)
    (k6 : PySem.W.keepIn K (.ref f6) = true)
    (a7 : PySem.W.findIn K (.ref C) "__sub__" = some (some (.ref f7)))
    (i7 : PySem.W.isFn K (.ref f7) = true)
    (ra7 : PySem.W.findIn K (.ref C) "__rsub__" = some (some (.ref u7)))
    (h17 : PySem.W.findIn K (.type "int") "__sub__" = some fo7)
    (h27 : PySem.W.findIn K (.type "int") "__rsub__" = some ro7)
    (l7 : K.lookup f7 = some ⟨oc7, od7, .func (PySem.W.fnOf "__sub__" "Ratio.__sub__" (defArgs s_Ratio___sub__) (defBody s_Ratio___sub__) (defScope s_Ratio___sub__) .none kV7 dc7 pm7 an7 cd7 ct7), sl7⟩)
    (c7 : PySem.W.codeIn K cd7 "Ratio.__sub__" = true)
    (k7 : PySem.W.keepIn K (.ref f7) = true)
    (a8 : PySem.W.findIn K (.ref C) "__mul__" = some (some (.ref f8)))
    (i8 : PySem.W.isFn K (.ref f8) = true)
    (ra8 : PySem.W.findIn K (.ref C) "__rmul__" = some (some (.ref u8)))
    (h18 : PySem.W.findIn K (.type "int") "__mul__" = some fo8)
    (h28 : PySem.W.findIn K (.type "int") "__rmul__" = some ro8)
    (l8 : K.lookup f8 = some ⟨oc8, od8, .func (PySem.W.fnOf "__mul__" "Ratio.__mul__" (defArgs s_Ratio___mul__) (defBody s_Ratio___mul__) (defScope s_Ratio___mul__) .none kV8 dc8 pm8 an8 cd8 ct8), sl8⟩)
    (c8 : PySem.W.codeIn K cd8 "Ratio.__mul__" = true)
    (k8 : PySem.W.keepIn K (.ref f8) = true)
    (iu6 : PySem.W.isFn K (.ref u6) = true)
    (hs2 : PySem.W.subIn K (.ref C) (.type "int") = some false)
    (lv6 : K.lookup u6 = some ⟨ocv6, odv6, .func (PySem.W.fnOf "__radd__" "Ratio.__radd__" (defArgs s_Ratio___radd__) (defBody s_Ratio___radd__) (defScope s_Ratio___radd__) .none kVv6 dcv6 pmv6 anv6 cdv6 ctv6), slv6⟩)
    (cv6 : PySem.W.codeIn K cdv6 "Ratio.__radd__" = true)
    (kv6 : PySem.W.keepIn K (.ref u6) = true)
    (iu8 : PySem.W.isFn K (.ref u8) = true)
    (lv8 : K.lookup u8 = some ⟨ocv8, odv8, .func (PySem.W.fnOf "__rmul__" "Ratio.__rmul__" (defArgs s_Ratio___rmul__) (defBody s_Ratio___rmul__) (defScope s_Ratio___rmul__) .none kVv8 dcv8 pmv8 anv8 cdv8 ctv8), slv8⟩)
    (cv8 : PySem.W.codeIn K cdv8 "Ratio.__rmul__" = true)
    (kv8 : PySem.W.keepIn K (.ref u8) = true)
    (a9 : PySem.W.findIn K (.ref C) "over" = some (some (.ref f9)))
    (i9 : PySem.W.isFn K (.ref f9) = true)
    (l9 : K.lookup f9 = some ⟨oc9, od9, .func (PySem.W.fnOf "over" "Ratio.over" (defArgs s_Ratio_over) (defBody s_Ratio_over) (defScope s_Ratio_over) .none kV9 dc9 pm9 an9 cd9 ct9), sl9⟩)
    (c9 : PySem.W.codeIn K cd9 "Ratio.over" = true)
    (k9 : PySem.W.keepIn K (.ref f9) = true)
    (a10 : PySem.W.findIn K (.ref C) "__eq__" = some (some (.ref f10)))
    (i10 : PySem.W.isFn K (.ref f10) = true)
    (l10 : K.lookup f10 = some ⟨oc10, od10, .func (PySem.W.fnOf "__eq__" "Ratio.__eq__" (defArgs s_Ratio___eq__) (defBody s_Ratio___eq__) (defScope s_Ratio___eq__) .none kV10 dc10 pm10 an10 cd10 ct10), sl10⟩)
    (c10 : PySem.W.codeIn K cd10 "Ratio.__eq__" = true)
    (k10 : PySem.W.keepIn K (.ref f10) = true)
    (rdT : PySem.W.readsIn K C (.type "type") = true)
    (gaT : PySem.W.specialIn K (.ref C) "__getattribute__" = some (some (.builtin "type.__getattribute__")))
    (atT : PySem.W.findCls K (.ref C) (.type "type") "total" = some (.get (.builtin "classmethod.__get__") (.ref pTt) .none (.ref C)))
    (rcT : PySem.W.recIn K pTt "classmethod" = some (.ref gTt :: restT))
    (fiT : PySem.W.fnIn K gTt = true)
    (lTt : K.lookup gTt = some ⟨ocTt, odTt, .func (PySem.W.fnOf "total" "Ratio.total" (defArgs s_Ratio_total) (defBody s_Ratio_total) (defScope s_Ratio_total) .none kVTt dcTt pmTt anTt cdTt ctTt), slTt⟩)
    (cTt : PySem.W.codeIn K cdTt "Ratio.total" = true)
    (kTt : PySem.W.keepIn K (.ref gTt) = true) :
    ∃ (C fI fR : Addr) (fdI fdR : FuncData), RCls K mg C fI fR ∧ FunD K "__init__" "Ratio.__init__" (defArgs s_Ratio___init__) (defBody s_Ratio___init__) (defScope s_Ratio___init__) [V.int 1] [] fI fdI ∧ Fun K "__repr__" "Ratio.__repr__" s_Ratio___repr__ fR fdR ∧ RIsi K C ∧ (∃ (p g : Addr) (fd : FuncData), PropOf K C "top" p g ∧ Fun K "top" "Ratio.top" s_Ratio_top g fd) ∧ (∃ (p g : Addr) (fd : FuncData), PropOf K C "bottom" p g ∧ Fun K "bottom" "Ratio.bottom" s_Ratio_bottom g fd) ∧ (∃ (p g : Addr) (fd : FuncData), PropOf K C "sign" p g ∧ Fun K "sign" "Ratio.sign" s_Ratio_sign g fd) ∧ (∃ (f : Addr) (fd : FuncData), BinF K C f .Add ∧ Fun K "__add__" "Ratio.__add__" s_Ratio___add__ f fd) ∧ (∃ (f : Addr) (fd : FuncData), BinF K C f .Sub ∧ Fun K "__sub__" "Ratio.__sub__" s_Ratio___sub__ f fd) ∧ (∃ (f : Addr) (fd : FuncData), BinF K C f .Mult ∧ Fun K "__mul__" "Ratio.__mul__" s_Ratio___mul__ f fd) ∧ (∃ (f : Addr) (fd : FuncData), RevF K C f .Add ∧ Fun K "__radd__" "Ratio.__radd__" s_Ratio___radd__ f fd) ∧ (∃ (f : Addr) (fd : FuncData), RevF K C f .Mult ∧ Fun K "__rmul__" "Ratio.__rmul__" s_Ratio___rmul__ f fd) ∧ (∃ (f : Addr) (fd : FuncData), Meth K C "over" f ∧ Fun K "over" "Ratio.over" s_Ratio_over f fd) ∧ (∃ (f : Addr) (fd : FuncData), PySem.W.findIn K (.ref C) "__eq__" = some (some (.ref f)) ∧ PySem.W.isFn K (.ref f) = true ∧ Fun K "__eq__" "Ratio.__eq__" s_Ratio___eq__ f fd) ∧ (∃ (mc : Value) (p g : Addr) (fd : FuncData), ClX.CRead K C mc ∧ ClX.CMet K C mc "total" p g ∧ Fun K "total" "Ratio.total" s_Ratio_total g fd) := by
  refine ⟨C, fI, fR, _, _, ⟨⟨pg, hd, po, sa⟩, nT, nB, PySem.W.mg_of X G aC, ⟨mk, a1, i1, kc⟩, a2, i2, isA, isN, isT, isM, kI, kB, kL, kT⟩,
    ⟨⟨oc1, od1, .ref T, kV1, dc1, pm1, an1, cd1, ct1, sl1, rfl, l1, c1, .inr ⟨List.cons_ne_nil _ _, T, _, [.int 1 tk], n, rfl, lT, rfl, .cons ⟨tk, rfl⟩ .nil⟩, .inl rfl⟩, k1⟩, fun_mk (st := s_Ratio___repr__) l2 c2 k2, ⟨ji, jb, jn, js, jl, jt, jd, jc⟩,
    ⟨p3, f3, _, ⟨q3, g3, t3, rest3, r3⟩, fun_mk (st := s_Ratio_top) l3 c3 k3⟩, ⟨p4, f4, _, ⟨q4, g4, t4, rest4, r4⟩, fun_mk (st := s_Ratio_bottom) l4 c4 k4⟩, ⟨p5, f5, _, ⟨q5, g5, t5, rest5, r5⟩, fun_mk (st := s_Ratio_sign) l5 c5 k5⟩, ⟨f6, _, ⟨sf, ?_, i6, ⟨u6, ?_⟩, ⟨fo6, ?_⟩, ⟨ro6, ?_⟩, hs⟩, fun_mk (st := s_Ratio___add__) l6 c6 k6⟩, ⟨f7, _, ⟨sf, ?_, i7, ⟨u7, ?_⟩, ⟨fo7, ?_⟩, ⟨ro7, ?_⟩, hs⟩, fun_mk (st := s_Ratio___sub__) l7 c7 k7⟩, ⟨f8, _, ⟨sf, ?_, i8, ⟨u8, ?_⟩, ⟨fo8, ?_⟩, ⟨ro8, ?_⟩, hs⟩, fun_mk (st := s_Ratio___mul__) l8 c8 k8⟩, ⟨u6, _, ⟨sf, ⟨f6, ?_⟩, ?_, iu6, hs2⟩, fun_mk (st := s_Ratio___radd__) lv6 cv6 kv6⟩, ⟨u8, _, ⟨sf, ⟨f8, ?_⟩, ?_, iu8, hs2⟩, fun_mk (st := s_Ratio___rmul__) lv8 cv8 kv8⟩, ⟨f9, _, ⟨a9, i9, k9⟩, fun_mk (st := s_Ratio_over) l9 c9 k9⟩, ⟨f10, _, a10, i10, fun_mk (st := s_Ratio___eq__) l10 c10 k10⟩, ⟨.type "type", pTt, gTt, _, ⟨rdT, gaT⟩, ⟨atT, ⟨restT, rcT⟩, fiT⟩, fun_mk (st := s_Ratio_total) lTt cTt kTt⟩⟩
  · show PySem.W.findIn K (.ref C) (PySem.dunder "add") = _
    rw [show PySem.dunder "add" = ("__add__" : Str) by decide +kernel]; exact a6
  · show PySem.W.findIn K (.ref C) (PySem.dunderR "add") = _
    rw [show PySem.dunderR "add" = ("__radd__" : Str) by decide +kernel]; exact ra6
  · show PySem.W.findIn K (.type "int") (PySem.dunder "add") = _
    rw [show PySem.dunder "add" = ("__add__" : Str) by decide +kernel]; exact h16
  · show PySem.W.findIn K (.type "int") (PySem.dunderR "add") = _
    rw [show PySem.dunderR "add" = ("__radd__" : Str) by decide +kernel]; exact h26
  · show PySem.W.findIn K (.ref C) (PySem.dunder "sub") = _
    rw [show PySem.dunder "sub" = ("__sub__" : Str) by decide +kernel]; exact a7
  · show PySem.W.findIn K (.ref C) (PySem.dunderR "sub") = _
    rw [show PySem.dunderR "sub" = ("__rsub__" : Str) by decide +kernel]; exact ra7
  · show PySem.W.findIn K (.type "int") (PySem.dunder "sub") = _
    rw [show PySem.dunder "sub" = ("__sub__" : Str) by decide +kernel]; exact h17
  · show PySem.W.findIn K (.type "int") (PySem.dunderR "sub") = _
    rw [show PySem.dunderR "sub" = ("__rsub__" : Str) by decide +kernel]; exact h27
  · show PySem.W.findIn K (.ref C) (PySem.dunder "mul") = _
    rw [show PySem.dunder "mul" = ("__mul__" : Str) by decide +kernel]; exact a8
  · show PySem.W.findIn K (.ref C) (PySem.dunderR "mul") = _
    rw [show PySem.dunderR "mul" = ("__rmul__" : Str) by decide +kernel]; exact ra8
  · show PySem.W.findIn K (.type "int") (PySem.dunder "mul") = _
    rw [show PySem.dunder "mul" = ("__mul__" : Str) by decide +kernel]; exact h18
  · show PySem.W.findIn K (.type "int") (PySem.dunderR "mul") = _
    rw [show PySem.dunderR "mul" = ("__rmul__" : Str) by decide +kernel]; exact h28
  · show PySem.W.findIn K (.ref C) (PySem.dunder "add") = _
    rw [show PySem.dunder "add" = ("__add__" : Str) by decide +kernel]; exact a6
  · show PySem.W.findIn K (.ref C) (PySem.dunderR "add") = _
    rw [show PySem.dunderR "add" = ("__radd__" : Str) by decide +kernel]; exact ra6
  · show PySem.W.findIn K (.ref C) (PySem.dunder "mul") = _
    rw [show PySem.dunder "mul" = ("__mul__" : Str) by decide +kernel]; exact a8
  · show PySem.W.findIn K (.ref C) (PySem.dunderR "mul") = _
    rw [show PySem.dunderR "mul" = ("__rmul__" : Str) by decide +kernel]; exact ra8
structure All (K : PySem.W.Frag) (mg : Str → Option Value) : Prop where
  g : Mg2 mg
  R : ∃ (C fI fR : Addr) (fdI fdR : FuncData), RCls K mg C fI fR ∧ FunD K "__init__" "Ratio.__init__" (defArgs s_Ratio___init__) (defBody s_Ratio___init__) (defScope s_Ratio___init__) [V.int 1] [] fI fdI ∧ Fun K "__repr__" "Ratio.__repr__" s_Ratio___repr__ fR fdR ∧ RIsi K C ∧ (∃ (p g : Addr) (fd : FuncData), PropOf K C "top" p g ∧ Fun K "top" "Ratio.top" s_Ratio_top g fd) ∧ (∃ (p g : Addr) (fd : FuncData), PropOf K C "bottom" p g ∧ Fun K "bottom" "Ratio.bottom" s_Ratio_bottom g fd) ∧ (∃ (p g : Addr) (fd : FuncData), PropOf K C "sign" p g ∧ Fun K "sign" "Ratio.sign" s_Ratio_sign g fd) ∧ (∃ (f : Addr) (fd : FuncData), BinF K C f .Add ∧ Fun K "__add__" "Ratio.__add__" s_Ratio___add__ f fd) ∧ (∃ (f : Addr) (fd : FuncData), BinF K C f .Sub ∧ Fun K "__sub__" "Ratio.__sub__" s_Ratio___sub__ f fd) ∧ (∃ (f : Addr) (fd : FuncData), BinF K C f .Mult ∧ Fun K "__mul__" "Ratio.__mul__" s_Ratio___mul__ f fd) ∧ (∃ (f : Addr) (fd : FuncData), RevF K C f .Add ∧ Fun K "__radd__" "Ratio.__radd__" s_Ratio___radd__ f fd) ∧ (∃ (f : Addr) (fd : FuncData), RevF K C f .Mult ∧ Fun K "__rmul__" "Ratio.__rmul__" s_Ratio___rmul__ f fd) ∧ (∃ (f : Addr) (fd : FuncData), Meth K C "over" f ∧ Fun K "over" "Ratio.over" s_Ratio_over f fd) ∧ (∃ (f : Addr) (fd : FuncData), PySem.W.findIn K (.ref C) "__eq__" = some (some (.ref f)) ∧ PySem.W.isFn K (.ref f) = true ∧ Fun K "__eq__" "Ratio.__eq__" s_Ratio___eq__ f fd) ∧ (∃ (mc : Value) (p g : Addr) (fd : FuncData), ClX.CRead K C mc ∧ ClX.CMet K C mc "total" p g ∧ Fun K "total" "Ratio.total" s_Ratio_total g fd)
  b12 : Bnd K mg "is_integer" sInteger
  b13 : Bnd K mg "is_count" s_is_count
  b14 : Bnd K mg "is_list" sList
  b15 : Bnd K mg "check_many" s_check_many
  b18 : Bnd K mg "is_number" s_is_number
  b19 : Bnd K mg "as_ratio" s_as_ratio
  b20 : Bnd K mg "over_one_bottom" s_over_one_bottom
  b23 : Bnd K mg "is_poly" s_is_poly
  b24 : Bnd K mg "told" s_told
  b25 : Bnd K mg "trimmed" s_trimmed
  b26 : Bnd K mg "quotient_and_rest" s_quotient_and_rest
  b28 : Bnd K mg "outer" s_outer
  b29 : Bnd K mg "root_part" s_root_part
  b30 : Bnd K mg "told_inner" s_told_inner
  b31 : Bnd K mg "digits_by" s_digits_by
  b32 : Bnd K mg "outer_by" s_outer_by
  b33 : Bnd K mg "root_like" s_root_like
  b35 : Bnd K mg "_law_pot" sPot
  b36 : Bnd K mg "_law_draw" sDraw
  b37 : Bnd K mg "_law_pick" sPick
  b38 : Bnd K mg "_law_plus" s_law_plus
  b39 : Bnd K mg "_law_times" s_law_times
  b40 : Bnd K mg "_law_told" s_law_told
  b41 : Bnd K mg "_law_put_in" s_law_put_in
  b42 : Bnd K mg "_law_poly" s_law_poly
  b43 : Bnd K mg "_law_bare" s_law_bare
  b44 : Bnd K mg "_law_share" s_law_share
  b45 : Bnd K mg "_law_low" s_law_low
  b46 : Bnd K mg "_law_whole" s_law_whole
  b47 : Bnd K mg "_law_power" s_law_power
  b48 : Bnd K mg "_law_root" s_law_root
  b49 : Bnd K mg "_law_is_of" s_law_is_of
  b50 : Bnd K mg "_law_due" s_law_due
  b51 : Bnd K mg "_law_poly_right" s_law_poly_right
  b52 : Bnd K mg "_law_right" s_law_right
  b53 : Bnd K mg "law" sLaw
theorem all_law {P : Program} {w : World} {K : PySem.W.Frag} {mg : Str → Option Value} {base : Heap} (A : All K mg) : DefG P w K mg base 34 "law" sLaw ["script"] (spLaw K) := by
  obtain ⟨C, fI, fR, fdI, fdR, R, FI, FR, J, ⟨pr0, gr0, fr0, Pr0, Fr0⟩, ⟨pr1, gr1, fr1, Pr1, Fr1⟩, ⟨pr2, gr2, fr2, Pr2, Fr2⟩, ⟨fo0, fdo0, BO0, FO0⟩, ⟨fo1, fdo1, BO1, FO1⟩, ⟨fo2, fdo2, BO2, FO2⟩, ⟨fv0, fdv0, RV0, FV0⟩, ⟨fv1, fdv1, RV1, FV1⟩, ⟨fm0, fdm0, MM0, FM0⟩, ⟨fe, fde, ae, ie, FE⟩, ⟨mcT, pT, gT, fdT, CR, CM, FT⟩⟩ := A.R
  have bI := FI.binds1 (ps := ["self", "top", "bottom"]) 2 0 (List.cons_ne_nil _ _) rfl fun T kV doc pm an cdv ct us its hu hi => match us, its, hu, hi with | [_, _], [_], _, _ => ⟨_, rfl, rfl⟩
  have bI2 : Binds K fdI ["self", "top", "bottom"] [] := by
    obtain ⟨ds, hv, hb⟩ := FI.binds1 (ps := ["self", "top", "bottom"]) 3 1 (List.cons_ne_nil _ _) rfl fun T kV doc pm an cdv ct us its hu hi => match us, its, hu, hi with | [_, _, _], [_], _, _ => ⟨_, rfl, rfl⟩
    cases hv
    exact hb
  have bR := FR.binds (ps := ["self"]) fun _ _ _ _ _ _ us hl => match us, hl with | [_], _ => rfl
  have br0 := Fr0.binds (ps := ["self"]) fun _ _ _ _ _ _ us hl => match us, hl with | [_], _ => rfl
  have br1 := Fr1.binds (ps := ["self"]) fun _ _ _ _ _ _ us hl => match us, hl with | [_], _ => rfl
  have br2 := Fr2.binds (ps := ["self"]) fun _ _ _ _ _ _ us hl => match us, hl with | [_], _ => rfl
  have bo0 := FO0.binds (ps := ["self", "other"]) fun _ _ _ _ _ _ us hl => match us, hl with | [_, _], _ => rfl
  have bo1 := FO1.binds (ps := ["self", "other"]) fun _ _ _ _ _ _ us hl => match us, hl with | [_, _], _ => rfl
  have bo2 := FO2.binds (ps := ["self", "other"]) fun _ _ _ _ _ _ us hl => match us, hl with | [_, _], _ => rfl
  have bv0 := FV0.binds (ps := ["self", "other"]) fun _ _ _ _ _ _ us hl => match us, hl with | [_, _], _ => rfl
  have bv1 := FV1.binds (ps := ["self", "other"]) fun _ _ _ _ _ _ us hl => match us, hl with | [_, _], _ => rfl
  have bm0 := FM0.binds (ps := ["self", "other"]) fun _ _ _ _ _ _ us hl => match us, hl with | [_, _], _ => rfl
  have be := FE.binds (ps := ["self", "other"]) fun _ _ _ _ _ _ us hl => match us, hl with | [_, _], _ => rfl
  have N_is_integer : Def P w K mg base 1 _ _ _ _ := d_integer (k := 0) A.b12 A.g.toMg
  have RI1 := d_rinit (k := 1) FI R A.g.toMg N_is_integer
  have RI2 := d_rinitQ (k := 1) FI R A.g.toMg N_is_integer
  have RD : RDef P w K mg base 2 C := ⟨fI, fR, fdI, fdR, R, RI1, bI, bI2, d_rrepr (k := 1) FR R, bR⟩
  have DQ : RDefQ P w K mg base 2 C := ⟨fI, fR, fdI, R, RI2, bI2⟩
  have PT : PropX P w K mg base 2 C "top" (spTopR C) := ⟨pr0, gr0, fr0, Pr0, d_rtop (k := 1) Fr0 R, br0⟩
  have PB : PropX P w K mg base 2 C "bottom" (spBotR C) := ⟨pr1, gr1, fr1, Pr1, d_rbot (k := 1) Fr1 R, br1⟩
  have PS : PropX P w K mg base 2 C "sign" (spSgnR C) := ⟨pr2, gr2, fr2, Pr2, d_rsgn (k := 1) Fr2 R, br2⟩
  have EX : EqX P w K mg base 2 C := ⟨fe, fde, ae, ie, d_req (k := 1) FE R J A.g.toMg, be⟩
  have X_as : Def P w K mg base 11 _ _ _ _ := d_as_ratio (k := 10) A.b19 A.g.toMg R J RD (by omega)
  have FA := d_radd (k := 11) FO0 R DQ PT PB (by omega) X_as
  have FM := d_rmul (k := 11) FO2 R DQ PT PB (by omega) X_as
  have AD : BinX P w K mg base 12 C .Add (spAddQ C) := ⟨fo0, fdo0, BO0, FA, bo0⟩
  have SU : BinX P w K mg base 12 C .Sub (spSubQ C) := ⟨fo1, fdo1, BO1, d_rsub (k := 11) FO1 R DQ PT PB (by omega) X_as, bo1⟩
  have MU : BinX P w K mg base 12 C .Mult (spMulQ C) := ⟨fo2, fdo2, BO2, FM, bo2⟩
  have OV : C8.Met P w K mg base 12 C "over" (spOverQ C) [] := ⟨fm0, fdm0, _, [], R.cl, MM0, d_rover (k := 11) FM0 R DQ PT PB PS (by omega) X_as, bm0, .nil⟩
  have RD12 : RDef P w K mg base 12 C := ⟨fI, fR, fdI, fdR, R, RI1.mono (by omega), bI, bI2, (d_rrepr (k := 1) FR R).mono (by omega), bR⟩
  have PT12 : PropX P w K mg base 12 C "top" (spTopR C) := ⟨pr0, gr0, fr0, Pr0, (d_rtop (k := 1) Fr0 R).mono (by omega), br0⟩
  have RA : RevX P w K mg base 21 C .Add (spAddQ C) := ⟨fv0, fdv0, RV0, d_rradd (k := 20) FV0 R AD (by omega) (X_as.mono (by omega)), bv0⟩
  have RM : RevX P w K mg base 21 C .Mult (spMulQ C) := ⟨fv1, fdv1, RV1, d_rrmul (k := 20) FV1 R MU (by omega) (X_as.mono (by omega)), bv1⟩
  have AD21 : BinX P w K mg base 21 C .Add (spAddQ C) := ⟨fo0, fdo0, BO0, FA.mono (by omega), bo0⟩
  have MU21 : BinX P w K mg base 21 C .Mult (spMulQ C) := ⟨fo2, fdo2, BO2, FM.mono (by omega), bo2⟩
  have DQ12 : RDefQ P w K mg base 12 C := ⟨fI, fR, fdI, R, RI2.mono (by omega), bI2⟩
  have EX12 : EqX P w K mg base 12 C := ⟨fe, fde, ae, ie, (d_req (k := 1) FE R J A.g.toMg).mono (by omega), be⟩
  have RD21 : RDef P w K mg base 21 C := ⟨fI, fR, fdI, fdR, R, RI1.mono (by omega), bI, bI2, (d_rrepr (k := 1) FR R).mono (by omega), bR⟩
  have DQ21 : RDefQ P w K mg base 21 C := ⟨fI, fR, fdI, R, RI2.mono (by omega), bI2⟩
  have FS := d_rsub (k := 11) FO1 R DQ PT PB (by omega) X_as
  have SU21 : BinX P w K mg base 21 C .Sub (spSubQ C) := ⟨fo1, fdo1, BO1, FS.mono (by omega), bo1⟩
  have FV := d_rover (k := 11) FM0 R DQ PT PB PS (by omega) X_as
  have OV21 : C8.Met P w K mg base 21 C "over" (spOverQ C) [] := ⟨fm0, fdm0, _, [], R.cl, MM0, FV.mono (by omega), bm0, .nil⟩
  have XL0 : Def P w K mg base 1 _ _ _ _ := d_list (k := 0) A.b14 A.g
  have XO0 : Def P w K mg base 12 _ _ _ _ := d_over_one_bottom (k := 11) A.b20 A.g R PT PB (by omega) X_as
  have bT := FT.binds (ps := ["cls", "numbers"]) fun _ _ _ _ _ _ us hl => match us, hl with | [_, _], _ => rfl
  have TO : CMt P w K mg base 21 C "total" ["cls", "numbers"] (sp_total C) := ⟨_, pT, gT, fdT, CR, CM, d_rtotal (k := 20) FT R A.g DQ (by omega) (XL0.mono (by omega)) (XO0.mono (by omega)), bT⟩
  have X_is_integer2 : Def P w K mg base 1 _ _ _ _ := d_is_integer (k := 0) A.b12 A.g R
  have X_is_count : Def P w K mg base 2 _ _ _ _ := d_is_count (k := 1) A.b13 A.g R X_is_integer2
  have X_check_many : Def P w K mg base 3 _ _ _ _ := d_check_many (k := 2) A.b15 A.g R X_is_count
  have X_as_ratio : Def P w K mg base 11 _ _ _ _ := d_as_ratio (k := 10) A.b19 A.g.toMg R J RD (by omega)
  have X_is_list : Def P w K mg base 1 _ _ _ _ := d_is_list (k := 0) A.b14 A.g R
  have X_is_number : Def P w K mg base 2 _ _ _ _ := d_is_number (k := 1) A.b18 A.g R J X_is_integer2
  have X_is_poly : Def P w K mg base 3 _ _ _ _ := d_is_poly (k := 2) A.b23 A.g R (X_is_list.mono (by omega)) X_is_number
  have X_trimmed : Def P w K mg base 11 _ _ _ _ := d_trimmed (k := 10) A.b25 A.g R J PS (by omega)
  have X_told : Def P w K mg base 12 _ _ _ _ := d_told (k := 11) A.b24 A.g R X_as_ratio (X_is_poly.mono (by omega)) X_trimmed
  have X_quotient_and_rest : Def P w K mg base 21 _ _ _ _ := d_quotient_and_rest (k := 20) A.b26 A.g R SU MU OV (by omega) (X_trimmed.mono (by omega))
  have X_digits_by : Def P w K mg base 22 _ _ _ _ := d_digits_by (k := 21) A.b31 A.g R X_quotient_and_rest
  have X_outer_by : Def P w K mg base 23 _ _ _ _ := d_outer_by (k := 22) A.b32 A.g R RD (by omega) (X_trimmed.mono (by omega)) X_digits_by
  have X_root_like : Def P w K mg base 30 _ _ _ _ := d_root_like (k := 29) A.b33 A.g R RD21 DQ21 TO MU21 SU21 OV21 (by omega)
  have X_root_part : Def P w K mg base 31 _ _ _ _ := d_root_part (k := 30) A.b29 A.g R (X_check_many.mono (by omega)) (X_told.mono (by omega)) (X_outer_by.mono (by omega)) X_root_like
  have L_draw : Def P w K mg base 1 _ _ _ _ := d_draw (k := 0) A.b36 A.g.toMg
  have L_pick : Def P w K mg base 2 _ _ _ _ := d_pick (k := 1) A.b37 A.g.toMg L_draw
  have L_plus : Def P w K mg base 30 _ _ _ _ := d_law_plus (k := 29) A.b38 A.g R AD21 RA MU21 RM (by omega)
  have L_told : Def P w K mg base 21 _ _ _ _ := d_law_told (k := 20) A.b40 A.g R RD12 AD PT12 (by omega)
  have L_times : Def P w K mg base 30 _ _ _ _ := d_law_times (k := 29) A.b39 A.g R AD21 RA MU21 RM (by omega)
  have L_put_in : Def P w K mg base 31 _ _ _ _ := d_law_put_in (k := 30) A.b41 A.g L_plus L_times
  have L_poly : Def P w K mg base 3 _ _ _ _ := d_law_poly (k := 2) A.b42 A.g (L_draw.mono (by omega)) L_pick
  have L_bare : Def P w K mg base 22 _ _ _ _ := d_law_bare (k := 21) A.b43 A.g R RD12 AD OV (by omega) L_told
  have X_told_inner : Def P w K mg base 13 _ _ _ _ := d_told_inner (k := 12) A.b30 A.g R (X_is_poly.mono (by omega)) X_told
  have X_outer : Def P w K mg base 24 _ _ _ _ := d_outer (k := 23) A.b28 A.g R (X_told.mono (by omega)) (X_told_inner.mono (by omega)) X_outer_by
  have L_share : Def P w K mg base 1 _ _ _ _ := d_law_share (k := 0) A.b44 A.g
  have L_low : Def P w K mg base 2 _ _ _ _ := d_law_low (k := 1) A.b45 A.g L_share
  have L_whole : Def P w K mg base 22 _ _ _ _ := d_law_whole (k := 21) A.b46 A.g R PT PB (by omega) L_told (L_low.mono (by omega))
  have L_times2 : Def P w K mg base 1 _ _ _ _ := IntT.d_law_times (k := 0) A.b39 A.g
  have L_power : Def P w K mg base 2 _ _ _ _ := d_law_power (k := 1) A.b47 A.g L_times2
  have L_root : Def P w K mg base 23 _ _ _ _ := d_law_root (k := 22) A.b48 A.g R (L_low.mono (by omega)) L_whole (L_power.mono (by omega))
  have L_is_of : Def P w K mg base 3 _ _ _ _ := d_law_is_of (k := 2) A.b49 A.g L_power
  have L_due : Def P w K mg base 24 _ _ _ _ := d_law_due (k := 23) A.b50 A.g R DQ (by omega) (L_told.mono (by omega)) (L_whole.mono (by omega)) L_root (L_is_of.mono (by omega))
  have L_poly_right : DefG P w K mg base 32 _ _ _ _ := d_law_poly_right (k := 31) A.b51 A.g R RD EX (by omega) (X_outer.mono (by omega)) X_root_part (L_told.mono (by omega)) (L_bare.mono (by omega)) (L_due.mono (by omega))
  have L_right : DefG P w K mg base 33 _ _ _ _ := d_law_right (k := 32) A.b52 A.g R RD DQ EX (by omega) (X_root_part.mono (by omega)) (L_draw.mono (by omega)) (L_pick.mono (by omega)) (L_plus.mono (by omega)) (L_told.mono (by omega)) (L_put_in.mono (by omega)) (L_poly.mono (by omega)) (L_bare.mono (by omega)) L_poly_right
  have L_pot : Def P w K mg base 1 _ _ _ _ := d_pot (k := 0) A.b35 A.g.toMg
  exact d_law (k := 33) A.b53 A.g (L_pot.mono (by omega)) L_right
theorem mg_int {K : PySem.W.Frag} {h : Heap} {mg : Str → Option Value} {x : Str} {z : Int} {t : Tok} (X : K.In h) (G : h.Ns mainGlobals mg) (a : PySem.W.nsIn K mainGlobals x = some (some (.int z t))) : ∃ t, mg x = some (.int z t) := ⟨t, PySem.W.mg_of X G a⟩
theorem fun_fd {K : PySem.W.Frag} {x : Str} {st : Stmt} {f : Addr} {fd fd' : FuncData} (a : Fun K x x st f fd) (b : Fun K x x st f fd') : fd = fd' := by
  obtain ⟨_, _, _, _, _, _, _, _, _, _, l1, _⟩ := a.ex
  obtain ⟨_, _, _, _, _, _, _, _, _, _, l2, _⟩ := b.ex
  rw [l1] at l2
  cases l2
  rfl
theorem fin {l : PySem.W.OpenLaw} {w : World} {K : PySem.W.Frag} {mg : Str → Option Value} {fa : Addr} (hfa : mg "law" = some (.ref fa)) (A : All K mg) :
    ∃ fd : FuncData, (∀ (s : Shared) (v : Value), BindsTo s fd ⟨[v], []⟩ [("script", v)]) ∧ ∀ base : Heap, K.In base → base.Ns mainGlobals mg → FnG l.prog w K mg base CX0 34 fa fd ["script"] (spLaw K) := by
  obtain ⟨f, fd, hm, F⟩ := A.b53.ex
  obtain rfl : f = fa := by
    rw [hfa] at hm
    cases hm
    rfl
  refine ⟨fd, fun s v => ?_, fun base _ _ => ?_⟩
  · obtain ⟨_, _, _, _, _, _, _, _, _, rfl, _⟩ := F.ex
    exact .of_eq rfl
  · obtain ⟨f', fd', hm', F', _, ok⟩ := (all_law (P := l.prog) (w := w) (base := base) A).ex
    obtain rfl : f = f' := by
      rw [hm] at hm'
      cases hm'
      rfl
    rw [fun_fd F F']
    exact ok
end K21
open PySem PySem.W PyProof.Rows
set_option maxRecDepth 100000 in
set_option maxHeartbeats 0 in
theorem PySem.Challenge.cw_fromplaces_k38_whole_root_parts_holds : PySem.Challenge.rw_fromplaces_k38_whole_root_parts.Holds := by
  w_on; o_law; k_head; (case hw => w_witness2)
  k_fill
  refine Fp.walk_ofG (l := PySem.Challenge.rw_fromplaces_k38_whole_root_parts) (n := 63) (k := 34) (x := "script") (sp := K21.spLaw) rfl (by decide) rfl ⟨rfl, by decide, by decide⟩ (fun w h Y => PySem.W.kIn_of Y) ?F (fun K H a ns hl _ hS => ⟨a, ns, rfl, hS, hl, fun _ => rfl⟩)
  case F =>
    intro w mg fa h KX G hmg
    refine' K21.fin hmg ?_
    refine' ⟨⟨⟨?_, ?_, ?_, ?_, ?_, ?_, ?_, ?_, ?_, ?_, ?_, ?_, ?_, ?_, ?_, ?_, ?_, ?_, ?_, ?_, ?_⟩, ?_⟩, ?R, ?_, ?_, ?_, ?_, ?_, ?_, ?_, ?_, ?_, ?_, ?_, ?_, ?_, ?_, ?_, ?_, ?_, ?_, ?_, ?_, ?_, ?_, ?_, ?_, ?_, ?_, ?_, ?_, ?_, ?_, ?_, ?_, ?_, ?_, ?_, ?_⟩
    (case R => (refine' K21.cls_mk KX G ?aC ?pg ?hd ?po ?sa ?nT ?nB ?mk ?kc ?a1 ?i1 ?a2 ?i2 ?isA ?isN ?isT ?isM ?kI ?kB ?kL ?kT ?l1 ?c1 ?k1 ?lT ?l2 ?c2 ?k2 ?ji ?jb ?jn ?js ?jl ?jt ?jd ?jc ?q3 ?g3 ?t3 ?r3 ?l3 ?c3 ?k3 ?q4 ?g4 ?t4 ?r4 ?l4 ?c4 ?k4 ?q5 ?g5 ?t5 ?r5 ?l5 ?c5 ?k5 ?sf ?a6 ?i6 ?ra6 ?h16 ?h26 ?hs ?l6 ?c6 ?k6 ?a7 ?i7 ?ra7 ?h17 ?h27 ?l7 ?c7 ?k7 ?a8 ?i8 ?ra8 ?h18 ?h28 ?l8 ?c8 ?k8 ?iu6 ?hs2 ?lv6 ?cv6 ?kv6 ?iu8 ?lv8 ?cv8 ?kv8 ?a9 ?i9 ?l9 ?c9 ?k9 ?a10 ?i10 ?l10 ?c10 ?k10 ?rdT ?gaT ?atT ?rcT ?fiT ?lTt ?cTt ?kTt); (case aC => k_is); (case pg => k_is); (case hd => k_is); (case po => k_is); (case sa => k_is); (case nT => k_is); (case nB => k_is); (case mk => k_is); (case kc => k_is); (case a1 => k_is); (case i1 => k_is); (case a2 => k_is); (case i2 => k_is); (case isA => k_is); (case isN => k_is); (case isT => k_is); (case isM => k_is); (case kI => kit_is); (case kB => kit_is); (case kL => kit_is); (case kT => kit_is); (case l1 => k_is); (case c1 => k_is); (case k1 => k_is); (case lT => k_is); (case l2 => k_is); (case c2 => k_is); (case k2 => k_is); (case ji => kit_is); (case jb => kit_is); (case jn => kit_is); (case js => kit_is); (case jl => kit_is); (case jt => kit_is); (case jd => kit_is); (case jc => kit_is); (case q3 => k_is); (case g3 => k_is); (case t3 => k_is); (case r3 => k_is); (case l3 => k_is); (case c3 => k_is); (case k3 => k_is); (case q4 => k_is); (case g4 => k_is); (case t4 => k_is); (case r4 => k_is); (case l4 => k_is); (case c4 => k_is); (case k4 => k_is); (case q5 => k_is); (case g5 => k_is); (case t5 => k_is); (case r5 => k_is); (case l5 => k_is); (case c5 => k_is); (case k5 => k_is); (case sf => k_is); (case a6 => k_is); (case i6 => k_is); (case ra6 => k_is); (case h16 => k_is); (case h26 => k_is); (case hs => k_is); (case l6 => k_is); (case c6 => k_is); (case k6 => k_is); (case a7 => k_is); (case i7 => k_is); (case ra7 => k_is); (case h17 => k_is); (case h27 => k_is); (case l7 => k_is); (case c7 => k_is); (case k7 => k_is); (case a8 => k_is); (case i8 => k_is); (case ra8 => k_is); (case h18 => k_is); (case h28 => k_is); (case l8 => k_is); (case c8 => k_is); (case k8 => k_is); (case iu6 => k_is); (case hs2 => k_is); (case lv6 => k_is); (case cv6 => k_is); (case kv6 => k_is); (case iu8 => k_is); (case lv8 => k_is); (case cv8 => k_is); (case kv8 => k_is); (case a9 => k_is); (case i9 => k_is); (case l9 => k_is); (case c9 => k_is); (case k9 => k_is); (case a10 => k_is); (case i10 => k_is); (case l10 => k_is); (case c10 => k_is); (case k10 => k_is); (case rdT => k_is); (case gaT => k_is); (case atT => k_is); (case rcT => k_is); (case fiT => k_is); (case lTt => k_is); (case cTt => k_is); (case kTt => k_is))
    (refine' PySem.W.mg_none_of KX G ?a; (case a => k_is))
    (refine' PySem.W.mg_none_of KX G ?a; (case a => k_is))
    (refine' PySem.W.mg_none_of KX G ?a; (case a => k_is))
    (refine' PySem.W.mg_none_of KX G ?a; (case a => k_is))
    (refine' PySem.W.mg_none_of KX G ?a; (case a => k_is))
    (refine' PySem.W.mg_none_of KX G ?a; (case a => k_is))
    (refine' PySem.W.mg_none_of KX G ?a; (case a => k_is))
    (refine' PySem.W.mg_none_of KX G ?a; (case a => k_is))
    (refine' PySem.W.mg_none_of KX G ?a; (case a => k_is))
    (refine' PySem.W.mg_none_of KX G ?a; (case a => k_is))
    (refine' PySem.W.mg_none_of KX G ?a; (case a => k_is))
    (refine' PySem.W.mg_none_of KX G ?a; (case a => k_is))
    (refine' PySem.W.mg_none_of KX G ?a; (case a => k_is))
    (refine' PySem.W.mg_none_of KX G ?a; (case a => k_is))
    (refine' PySem.W.mg_none_of KX G ?a; (case a => k_is))
    (refine' PySem.W.mg_none_of KX G ?a; (case a => k_is))
    (refine' PySem.W.mg_none_of KX G ?a; (case a => k_is))
    (refine' PySem.W.mg_none_of KX G ?a; (case a => k_is))
    (refine' PySem.W.mg_none_of KX G ?a; (case a => k_is))
    (refine' PySem.W.mg_of KX G ?a; (case a => k_is))
    (refine' PySem.W.mg_of KX G ?a; (case a => k_is))
    (refine' K21.mg_int KX G ?a; (case a => k_is))
    all_goals (refine' K21.bnd KX G ?a ?l ?c ?k; (case a => k_is); (case l => k_is); (case c => k_is); (case k => k_is))
